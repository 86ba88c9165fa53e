import PyProof.Rows.All
import Wide.All
import OpenK.AllK
import Wide.FinOn
import HandS.ForMost
import HandS.Strs
import HandS.SetFor
import HandS.SortInts
import HandS.Wide
import HandS.Property
import HandS.MakeKw
import HandS.More
import PyProof.Rows.SetFrom
import HandS.Zip
import PySem.Challenge.RW_marketdays_k14_diaries_stay
import HandS.Codes
import HandS.Style
import HandS.SetIn
import HandS.SetKeys
import HandS.Walk
import HandS.TryOnly
import KE.KEqDeep
set_option Elab.async false
set_option linter.all false
set_option maxRecDepth 100000
/-! Defs whose bodies show data by repr: a promise under the fact that no shown thing stands on the stack. -/
namespace Md
open PySem PySem.Spec PyProof.Rows L2

/-- nothing that repr guards is running -/
abbrev NoG (A : Around) : Prop := A.guards = some []

structure FnG (P : Program) (w : World) (K : PySem.W.Frag) (mg : Str → Option Value) (base : Heap) (CX : CXT) (k : Nat) (f : Addr) (fd : FuncData) (ps : List Str) (sp : Sp) : Prop where
  many : ∀ vs H Q E, sp vs H Q E → vs.length = ps.length
  goes : ∀ (A : Around) (around : List Env) (st : Shared) (H : Hp) (ag : Args) (us : List Value) (vs : List V) (Q : VK) (E : XK),
    NoG A → Room k A → Env0 P w K mg base A around st H → BindsTo st fd ag (ps.zip us) → Vals vs us → sp vs H Q E →
    codeAny (model P w) A (.call (.ref f) ag) (CR CX around P w H st Q E) st

section
variable {X : Cx} {CX : CXT} {k : Nat} {f : Addr} {fd : FuncData} {ps : List Str} {sp : Sp} {E : XK} {x : Str} {p pos : Pos} {e : Expr} {es : List Expr} {t : TA}

theorem goes_fn {pins : List (Addr × Obj)} {sl : L2.St} {H : Hp} {st : Shared} {Q : VK} {us : List Value} {vs : List V}
    (F : FnG X.prog X.w X.K X.mg X.base CX k f fd ps sp) (g : NoG X.A) (hr : Room k X.A) (hb : Binds X.K fd ps []) (hx : Passes CX X E)
    (I : Inv X pins sl H st) (rv : Vals vs us) (h : sp vs H Q E) :
    wpAny (model X.prog X.w) X.A (call (.ref f) us) (EP X pins sl Q) X.xe st := by
  have same : us ++ [] = us := List.append_nil us
  have fits : (us ++ []).length = ps.length := by
    rw [same, ← rv.length]
    exact F.many _ _ _ _ h
  have bound := hb st us I.kIn fits
  rw [same] at bound
  refine wpAny_call (codeAny_mono (F.goes X.A X.stack st H ⟨us, []⟩ us vs Q E g hr I.env0 bound rv h) ?_)
  intro res st2 done
  match res, done with
  | .error er, done => exact hx pins sl H st er st2 I done
  | .ok (.ret u), done => exact I.after done

theorem pe_callG (F : FnG X.prog X.w X.K X.mg X.base CX k f fd ps sp) (g : NoG X.A) (hr : Room k X.A) (hg : Gl X x) (hm : X.mg x = some (.ref f)) (hk : PySem.W.keepIn X.K (.ref f) = true)
    (hb : Binds X.K fd ps []) (hx : Passes CX X E) (ha : PA X (e :: es) t) (hdb : (x == ("__debug__" : Str)) = false := by decide)
    (first : starEach (e :: es) X.env = (false, eval e X.env) :: starEach es X.env := by rfl) (flat : (backTo pos (starEach es X.env)).any (·.1) = false := by rfl) :
    PE X (.Call (.Name x p) (e :: es) [] pos) (tCall sp [] E t) := by
  constructor
  intro pins st sl H Q I h
  refine wpAny_Call_Name_kw (ld_glob I hg hm ?_ hdb)
  have args := thn (ha.run pos pins st sl H _ I h) (fun us st1 (w : AP X pins sl _ us st1) => w)
  refine PySem.W.callWith_K (h₀ := X.base) I.ok.mod.kin hk (thn args fun us st1 got => ?_) first flat
  obtain ⟨vs, H1, I1, rv, q⟩ := got
  have q' : sp vs H1 Q E := by
    have z : sp (vs ++ []) H1 Q E := q
    rwa [List.append_nil] at z
  exact ⟨I1.kIn, goes_fn F g hr hb hx I1 rv q'⟩
end

/-- a def of the text, by its body -/
theorem fn_g {CX : CXT} {P : Program} {w : World} {K : PySem.W.Frag} {mg : Str → Option Value} {base : Heap} {k : Nat} {f : Addr} {name qual : Str} {params : Arguments} {body : List Stmt} {scope : Scope}
    {dV kV doc pm cdv ct oc : Value} {an od : Option Addr} {osl : Array (Option Value)} {N ps : List Str} {sp : Sp}
    (lk : K.lookup f = some ⟨oc, od, .func (PySem.W.fnOf name qual params body scope dV kV doc pm an cdv ct), osl⟩) (hcd : PySem.W.codeIn K cdv qual = true) (S : FnScope N ps scope)
    (many : ∀ vs H Q E, sp vs H Q E → vs.length = ps.length)
    (inside : ∀ (A : Around) (around : List Env) (st : Shared) (H : Hp) (vs : List V) (Q : VK) (E : XK), NoG (A.deeper (envOfC qual scope st.heap.objs.size f cdv)) →
      Room k (A.deeper (envOfC qual scope st.heap.objs.size f cdv)) → sp vs H Q E →
      ∃ t, PSs (cxOf CX P w K mg base N qual scope f cdv A around st H E) body t ∧ t { nx := fun _ H' => Q .non H', rt := Q } (start N vs) H) :
    FnG P w K mg base CX (k + 1) f (PySem.W.fnOf name qual params body scope dV kV doc pm an cdv ct) ps sp := by
  constructor
  · exact many
  intro A around st H ag us vs Q E g hr e0 bound rv asked
  have stays : ∀ b o, base.get? b = some o → st.heap.get? b = some o := fun b o z => (e0.bs b o z).1
  have KX : K.In st.heap := e0.mod.kin.keeps stays
  have lim : st.heap.NoLimit := e0.mod.nolimit.keeps stays
  have kinds : ∀ y ∈ ps.zip us, scope.names.lookup y.1 = some .local ∨ (scope.names.lookup y.1 = some .cell ∧ ((cellsFrom (st.heap.objs.size + 1) scope.names []).lookup y.1).isSome = true) := by
    intro y hy
    have hm : y.1 ∈ ps := (List.of_mem_zip (a := y.1) (b := y.2) hy).1
    cases S.par y.1 hm with
    | inl q => exact Or.inl q
    | inr q => exact Or.inr ⟨q, PySem.W.cellsFrom_some _ _ _ (Or.inl q)⟩
  refine codeAny_call_function hr.depth (KX _ _ lk) rfl S.co S.gen rfl (PySem.W.codeRec_of KX hcd) (bound _ _ _ _ ?_)
  refine wpAny_newFunctionEnv_cells S.kind kinds ?_
  intro env he st1 entered
  subst he
  refine ⟨lim.keeps entered.toInCall.keep, codeAny_func ?_⟩
  obtain ⟨t, runs, wanted⟩ := inside A around st H vs Q E g (hr.deeper _) asked
  have I0 : Inv (cxOf CX P w K mg base N qual scope f cdv A around st H E) [] (start N vs) H st1 := inv_start S hr.hd e0 (many _ _ _ _ asked) rv entered
  refine wpAny_mono (runs.run [] st1 (start N vs) H _ I0 wanted) ?_ (fun er st2 z => z)
  intro fl st2 z
  cases fl with
  | ret u =>
    obtain ⟨v, sl', H', J, r, q⟩ := z
    exact ⟨v, H', J.os, J.bare, J.base, J.hok, r, q⟩
  | next =>
    obtain ⟨sl', H', J, q⟩ := z
    exact ⟨V.non, H', J.os, J.bare, J.base, J.hok, rfl, q⟩
  | brk =>
    obtain ⟨_, _, _, q⟩ := z
    exact False.elim q
  | cont =>
    obtain ⟨_, _, _, q⟩ := z
    exact False.elim q

/-- the same by the text's place -/
theorem okG {P : Program} {w : World} {K : PySem.W.Frag} {mg : Str → Option Value} {base : Heap} {x qual : Str} {st : Stmt} {f : Addr} {fd : FuncData} {N ps : List Str} {k : Nat} {sp : Sp}
    (F : Fun K x qual st f fd) (S : FnScope N ps (defScope st)) (many : ∀ vs H Q E, sp vs H Q E → vs.length = ps.length)
    (inside : ∀ (cdv : Value) (A : Around) (around : List Env) (s : Shared) (H : Hp) (vs : List V) (Q : VK) (E : XK), NoG (A.deeper (envOfC qual (defScope st) s.heap.objs.size f cdv)) →
      Room k (A.deeper (envOfC qual (defScope st) s.heap.objs.size f cdv)) → sp vs H Q E →
      ∃ t, PSs (cxOf CX0 P w K mg base N qual (defScope st) f cdv A around s H E).nox (defBody st) t ∧ t { nx := fun _ H' => Q .non H', rt := Q } (start N vs) H) :
    FnG P w K mg base CX0 (k + 1) f fd ps sp := by
  obtain ⟨oc, od, kV, doc, pm, an, cdv, ct, osl, same, lk, hcd⟩ := F.ex
  subst same
  refine fn_g lk hcd S many ?_
  intro A around s H vs Q E g hr asked
  obtain ⟨t, body, wanted⟩ := inside cdv A around s H vs Q E g hr asked
  exact ⟨t, body.nox, wanted⟩

/-- what callers that never show data may still use -/
theorem FnG.of {P : Program} {w : World} {K : PySem.W.Frag} {mg : Str → Option Value} {base : Heap} {CX : CXT} {k : Nat} {f : Addr} {fd : FuncData} {ps : List Str} {sp : Sp}
    (F : FnOk P w K mg base CX k f fd ps sp) : FnG P w K mg base CX k f fd ps sp :=
  ⟨F.len, fun A around st H ag us vs Q E _ => F.run A around st H ag us vs Q E⟩
end Md

namespace Md
open PySem PySem.Spec PyProof.Rows L2

/-- the heap that knows of the script alone -/
def lone (a : Addr) (o : Obj) (xs : List V) : Hp := fun b => if b = a then some (.frz o (.lst xs)) else none
theorem lone_self {a : Addr} {o : Obj} {xs : List V} : lone a o xs a = some (.frz o (.lst xs)) := by simp [lone]
theorem lone_else {a b : Addr} {o : Obj} {xs : List V} (h : b ≠ a) : lone a o xs b = none := by simp [lone, h]

/-- the call of the law's def, from an abstract heap that holds the script at most -/
theorem call_law_with {P : Program} {w : World} {K : PySem.W.Frag} {mg mb : Str → Option Value} {k : Nat} {fa a : Addr} {fd : FuncData} {x : Str} {sp : Sp} {s1 : Shared} {vs : List Value} {H : Hp}
    (KX : K.In s1.heap) (hns : s1.heap.Ns mainGlobals mg) (hb : s1.heap.Ns builtinsNs mb) (hbb : ∀ x : Str, x ≠ "__name__" → mb x = bootBuiltins x) (hlim : s1.heap.NoLimit) (hg : s1.gens = #[])
    (ha : s1.heap.get? a = some { cls := .type "list", data := .seq vs.toArray }) (hr : Room k callerA)
    (F : ∀ base : Heap, K.In base → base.Ns mainGlobals mg → FnG P w K mg base CX0 k fa fd [x] sp) (hbind : ∀ (s : Shared) (u : Value), BindsTo s fd ⟨[u], []⟩ [(x, u)])
    (asked : sp [.ref a] H (fun v _ => v = .bl true) fun _ _ _ => False) (hok : HOk P w H s1.heap) (few : ∀ b, H b ≠ none → b = a) (own : H a ≠ none → K.lookup a = none)
    (fro : ∀ b u, H b = some u → ∃ o v, u = .frz o v) :
    codeAny (model P w) callerA (.call (.ref fa) ⟨[.ref a], []⟩) (fun r s' => r = .ok (.ret (.bool true)) ∧ OldK s1.heap s'.heap ∧ s'.os = s1.os ∧ AllBare s'.gens) s1 := by
  have free : ∀ {b : Addr} {o : Obj}, s1.heap.get? b = some o → (b = a → K.lookup b ≠ none ∨ ∃ es ep, o.data = .dict es ep) → H b = none := by
    intro b o hb' hno
    cases q : H b with
    | none => rfl
    | some u =>
      exfalso
      have e : b = a := few b (by rw [q]; exact fun z => nomatch z)
      rcases hno e with n | ⟨es, ep, d⟩
      · exact n (by rw [e]; exact own (by rw [← e, q]; exact fun z => nomatch z))
      · rw [e, ha] at hb'
        have e2 := Option.some.inj hb'
        rw [← e2] at d
        exact nomatch d
  have inside : ∀ {b : Addr} {m : Str → Option Value}, s1.heap.Ns b m → (hidT s1.heap H).Ns b m := by
    intro b m ⟨o, es, ep, h1, h2, r⟩
    exact ⟨o, es, ep, hidT_get h1 (free h1 fun _ => .inr ⟨es, ep, h2⟩), h2, r⟩
  have KB : K.In (hidT s1.heap H) := by
    intro b o hk
    exact hidT_get (KX b o hk) (free (KX b o hk) fun _ => .inl (by rw [hk]; exact fun z => nomatch z))
  obtain ⟨mc, l1, l2⟩ := hlim
  have M : Mod K mg (hidT s1.heap H) := ⟨KB, inside hns, ⟨mb, inside hb, hbb⟩, ⟨mc, inside l1, l2⟩⟩
  have start0 : Env0 P w K mg (hidT s1.heap H) callerA [] s1 H :=
    ⟨rfl, M, fun b o h => of_hidT h, Nat.le_of_eq (hidT_size s1.heap H), trivial, fun b h => (List.not_mem_nil h).elim, hok, AllBare.of_eq hg⟩
  have ran := (F _ KB (inside hns)).goes callerA [] s1 H ⟨[.ref a], []⟩ [.ref a] [.ref a] _ _ rfl hr start0 (hbind s1 (.ref a)) (.cons rfl .nil) asked
  refine codeAny_mono ran ?_
  intro r s2 z
  match r, z with
  | .ok (.ret u), z =>
    obtain ⟨v, H2, h1, h2, h3, h4, h5, h6⟩ := z
    have ev : v = .bl true := h6
    rw [ev] at h5
    have eu : u = Value.bool true := h5
    rw [eu]
    refine ⟨rfl, OldK.of_keep ?_, h1, h2⟩
    intro b o hb'
    cases q : H b with
    | none => exact h3.keep b o hb' q (List.not_mem_nil) (List.not_mem_nil)
    | some u2 =>
      obtain ⟨ob, v2, e2⟩ := fro b u2 q
      rw [e2] at q
      have q2 := h3.frzs b ob v2 q
      have a1 := (hok b _ q).1
      have a2 := (h4 b _ q2).1
      rw [hb'] at a1
      rw [a2, ← Option.some.inj a1]

/-- what k_head leaves, for a law whose def is proved under NoG -/
theorem walk_g {l : PySem.W.OpenLaw} {n k : Nat} {q : Program} {loose : List Str} {XP : (Str → Option Value) → Heap → Prop} {YP : World → Heap → Prop} {d : DefRec} {K : Params → PySem.W.Frag} {sp : PySem.W.Frag → Sp} {x : Str}
    (hn : l.most = some n) (hn2 : n ≤ sizeLine) (hdf : d.params.defaults = []) (hr : Room k callerA) (hY : ∀ (w : World) (h : Heap), YP w h → (K w.params).In h)
    (F : ∀ (w : World) (mg : Str → Option Value) (fa : Addr) (h : Heap), (K w.params).In h → h.Ns mainGlobals mg → mg d.name = some (.ref fa) →
      ∃ fd : FuncData, (∀ (s : Shared) (u : Value), BindsTo s fd ⟨[u], []⟩ [(x, u)]) ∧
        ∀ base : Heap, (K w.params).In base → base.Ns mainGlobals mg → FnG l.prog w (K w.params) mg base CX0 k fa fd [x] (sp (K w.params)))
    (hsp : ∀ (K : PySem.W.Frag) (H : Hp) (a : Addr) (ns : List Int), ns.length ≤ n → SqL K H a (ns.map V.int) → sp K [.ref a] H (fun v _ => v = .bl true) fun _ _ _ => False) :
    PySem.W.WalkO q loose XP YP l.row.toRowW d [] (fun f vs => PySem.call f vs) := by
  refine Att.attach_call hn hdf ?_
  intro w s0 s1 mg mb fa o pm cd doc a vs ns G Y ho hd hcd hmg hobj hints hlen hg
  have KX := hY w _ Y
  obtain ⟨fd, hb, hF⟩ := F w mg fa _ KX G.T.g hmg
  have rv := L2.vals_ints hints
  have lenV := hints.length
  cases hk : (K w.params).lookup a with
  | some ob =>
    have e := (KX a ob hk).symm.trans hobj
    have e := Option.some.inj e
    subst e
    refine call_law_with (H := fun _ => none) KX G.T.g G.T.b G.T.builtins G.T.nolimit hg hobj hr hF hb (hsp _ _ a ns hlen (.inr ?_)) (fun b u z => nomatch z) (fun b z => absurd rfl z) (fun z => absurd rfl z) (fun b u z => nomatch z)
    refine ⟨_, vs.toArray, _, hk, rfl, rfl, rfl, ?_, ?_⟩
    · rw [List.size_toArray, lenV]
      exact Nat.le_trans hlen hn2
    · simpa using rv
  | none =>
    refine call_law_with (H := lone a { cls := .type "list", data := .seq vs.toArray } (ns.map V.int)) KX G.T.g G.T.b G.T.builtins G.T.nolimit hg hobj hr hF hb (hsp _ _ a ns hlen (.inl (.inr ⟨_, lone_self⟩))) ?_ ?_ (fun _ => hk) ?_
    · intro b u z
      by_cases hba : b = a
      · rw [hba, lone_self] at z
        have z := Option.some.inj z
        rw [← z, hba]
        exact ⟨hobj, by rw [List.length_map]; exact Nat.le_trans hlen hn2, vs, _, rv, hobj⟩
      · rw [lone_else hba] at z
        exact nomatch z
    · intro b z
      by_cases hba : b = a
      · exact hba
      · exact absurd (lone_else hba) z
    · intro b u z
      by_cases hba : b = a
      · rw [hba, lone_self] at z
        exact ⟨_, _, (Option.some.inj z).symm⟩
      · rw [lone_else hba] at z
        exact nomatch z
end Md

namespace Md
open PySem PySem.Spec PyProof.Rows L2

section
variable {X : Cx}
/-- repr of a thing that stands at an address -/
def rRepr (K : PySem.W.Frag) : List V → Hp → VK → Prop := fun xs H Q => ∃ (a : Addr) (d : PyData), xs = [.ref a] ∧ Dp K H (.ref a) d ∧ d.showable = true ∧ d.hasDict = false ∧ d.depth ≤ 40 ∧ d.shown.length ≤ sizeLine ∧ Q (.str d.shown) H
theorem call_repr (g : NoG X.A) (hu : X.A.units + 64 < cLine) : CallR X (.builtin "repr") (rRepr X.K) := by
  intro pins st sl H xs us Q I r h
  obtain ⟨a, d, rfl, dp, show1, nod, deep, small, q⟩ := h
  obtain ⟨u, rfl, e⟩ := vals1 r
  have eu : u = Value.ref a := e
  subst eu
  obtain ⟨as, rd⟩ := Dp.reads I d (.ref a) (.ref a) dp rfl
  refine repr_of_reads' rd show1 (fun z => ?_) g (by omega) (fun b o z => z) (fun h' tk t2 keep => ?_) small
  · rw [nod] at z
    exact nomatch z
  · exact ⟨.str d.shown, H, I.kept (t' := t2) keep, ⟨tk, rfl⟩, q⟩
end
end Md

namespace Md
open PySem PySem.Spec PyProof.Rows L2
section
variable {X : Cx} {C f : Addr} {fd : FuncData} {k : Nat} {sp : Sp}
/-- len(o), o an instance of a class of one's own with __len__ -/
def rLenOwn (C : Addr) (sp : Sp) : List V → Hp → VK → Prop := fun xs H Q => ∃ a dx fs, xs = [.ref a] ∧ H a = some (.ins C dx fs) ∧
  sp [.ref a] H (fun v H' => ∃ n : Nat, v = .int n ∧ n < 2 ^ 62 ∧ Q (.int n) H') E0
theorem call_lenOwn (m : Meth X.K C "__len__" f) (F : FnOk X.prog X.w X.K X.mg X.base CX0 k f fd ["self"] sp) (hr : Room (k + 1) X.A) (hb : Binds X.K fd ["self"] []) :
    CallR X (.builtin "len") (rLenOwn C sp) := by
  intro pins st sl H xs us Q I r h
  obtain ⟨a, dx, fs, rfl, ea, q⟩ := h
  obtain ⟨u, rfl, e⟩ := vals1 r
  have eu : u = Value.ref a := e
  subst eu
  obtain ⟨mA, O, _, _, _, _⟩ := ins_get I.hok ea
  obtain ⟨od, J, _⟩ := O.look
  obtain ⟨m0, F0⟩ := I.fr
  refine PySem.W.len_K F0 I.ok.mod.kin J m.at_ m.fn ?_
  have bound := hb st [.ref a] I.kIn rfl
  refine wpAny_call (codeAny_mono (F.run X.A.in1 X.stack st H ⟨[.ref a], []⟩ ([Value.ref a] ++ []) [V.ref a] _ E0 hr.in1 I.env0.in1 bound (.cons rfl .nil) q) ?_)
  intro res st2 done
  match res, done with
  | .ok (.ret u), done =>
    obtain ⟨v, H', I2, rv, n, ev, small, q2⟩ := I.after (Q := fun v H' => ∃ n : Nat, v = .int n ∧ n < 2 ^ 62 ∧ Q (.int n) H') done
    subst ev
    obtain ⟨t, et⟩ := rv
    subst et
    exact ⟨⟨by omega, by omega⟩, .int n, H', I2.tok _, ⟨_, rfl⟩, q2⟩
end
end Md

namespace Md
open PySem PySem.Spec PyProof.Rows L2
section
variable {X : Cx} {o e : Expr} {apos cpos : Pos} {td ty : TE} {d : Addr} {es : Array DictEntry} {n : Nat}
/-- THINGS.get(word), a dict of the module with keys that are texts -/
def tKGet (K : PySem.W.Frag) (d : Addr) (td ty : TE) : TE := fun sl H Q => td sl H fun x H1 => x = .ref d ∧ ty sl H1 fun y H2 => ∃ (z : Str) (r : Option Value), y = .str z ∧ PySem.W.nsIn K d z = some r ∧
  (r = none → Q .non H2) ∧ (∀ u0, r = some u0 → ∃ v0, RelV v0 u0 ∧ Q v0 H2)
theorem pe_kget (D : KDict X.K X.w d es n) (ho : PE X o td) (he : PE X e ty) (m : M1 X o "get" apos e cpos) : PE X (.Call (.Attribute o "get" apos) [e] [] cpos) (tKGet X.K d td ty) := by
  constructor
  intro pins st sl H Q I h
  refine wpAny_Call_method m.base m.few m.line PySem.F.plainAttrs_dict PySem.F.slot_dict_get PySem.F.type_dict_get (thn (ho.run pins st sl H _ I h) ?_)
  intro u s1 z
  obtain ⟨x, H1, I1, rx, ex, q1⟩ := z
  subst ex
  have eu : u = Value.ref d := rx
  subst eu
  have mo := PySem.W.mapOf_K (prog := X.prog) (w := X.w) I1.kIn D.at_ D.lit
  refine ⟨mo.typeIs, ?_, ?_⟩
  · intro b eb
    have eb := Value.ref.inj eb
    subst eb
    exact ⟨_, I1.kIn _ _ D.at_, rfl⟩
  rw [m.trees]
  refine Calls.callWith_builtin rfl (Calls.evalArgs_plain (Calls.spliced_cons (thn (he.run pins s1 sl H1 _ I1 q1) ?_)))
  intro iv s2 z
  obtain ⟨y, H2, I2, ry, zt, r, ey, hin, qn, qs⟩ := z
  subst ey
  obtain ⟨tk, et⟩ := ry
  subst et
  refine Calls.spliced_nil ?_
  have mo2 := PySem.W.mapOf_K (prog := X.prog) (w := X.w) I2.kIn D.at_ D.lit
  refine call_meetsIn PySem.F.slot_dict_get mo2.typeIs PySem.F.entry_dict_get (PySem.F.args_dict_get_2 _ _) (meets_dict_get (strKind X.prog X.w) d (strKind_is X.prog X.w zt tk) D.low) ⟨_, mo2, ?_⟩
  have f := PySem.W.find_K D.at_ hin
  cases r with
  | none =>
    refine ⟨.non, H2, I2.tok _, ?_, qn rfl⟩
    simp only [f]
    rfl
  | some u0 =>
    obtain ⟨v0, rv, q⟩ := qs u0 rfl
    refine ⟨v0, H2, I2.tok _, ?_, q⟩
    simp only [f]
    exact rv
end
end Md

/-! set(xs) of a list of texts (any keys that are carried by value and may be scanned) -/
namespace Md
open PySem PySem.Spec PyProof.Rows L2

/-- how many unlike ones stand among the first i -/
def unlike {κ : Type} [DecidableEq κ] (ks : List κ) : Nat → Nat
  | 0 => 0
  | i + 1 => match ks[i]? with
    | none => unlike ks i
    | some k => if (ks.take i).any (fun j => decide (j = k)) = true then unlike ks i else unlike ks i + 1
theorem unlike_le {κ : Type} [DecidableEq κ] (ks : List κ) : ∀ i, unlike ks i ≤ i
  | 0 => Nat.le_refl 0
  | i + 1 => by
    have ih := unlike_le ks i
    unfold unlike
    split
    · omega
    · split <;> omega
theorem unlike_full {κ : Type} [DecidableEq κ] (ks : List κ) : ∀ i, i ≤ ks.length → unlike ks i = i → (ks.take i).Nodup
  | 0, _, _ => by simp
  | i + 1, h, e => by
    have hi : i < ks.length := h
    have g : ks[i]? = some ks[i] := List.getElem?_eq_getElem hi
    have le := unlike_le ks i
    unfold unlike at e
    rw [g] at e
    dsimp only at e
    by_cases c : (ks.take i).any (fun j => decide (j = ks[i])) = true
    · rw [if_pos c] at e
      omega
    · rw [if_neg c] at e
      have ih := unlike_full ks i (Nat.le_of_lt hi) (by omega)
      rw [List.take_add_one, g, List.nodup_append]
      refine ⟨ih, by simp, ?_⟩
      intro a ha b hb
      have eb : b = ks[i] := by simpa using hb
      rw [eb]
      intro z
      exact c (List.any_eq_true.mpr ⟨a, ha, by simp [z]⟩)

abbrev noSet (led : Bool) : Obj := { cls := .type "set", dict := none, data := .set #[] 0 (.fresh 0 0 led) }

section
variable {prog : Program} {w : World} {A : Around} {κ : Type} [DecidableEq κ] {knd : PySem.KeyKind prog w κ}
/-- what is in the set behind i items -/
abbrev inFirst (ks : List κ) (i : Nat) : κ → Bool := fun k => (ks.take i).any fun j => decide (j = k)

section
variable {R : Result → Shared → Prop} {I : Addr} {fp wr : List Addr} {G : Array GenState → Array GenState → Prop} {n : Nat} {P : Nat → Value → Prop} {St : Nat → Shared → Prop}
theorem set_fill (W : WalksS prog w A.in1 I fp wr G n P St) (S : Addr) (away : S ∉ fp) (ks : List κ) (size : ks.length = n) (room : n + 1 < scanBound)
    (item : ∀ i v, P i v → ∃ k, ks[i]? = some k ∧ knd.is k v = true ∧ v.scannable = true) :
    ∀ (left i : Nat) (st : Shared), left + i = n → St i st → st.heap.SetOf knd S (inFirst ks i) (unlike ks i) →
      (∀ st', Moved (S :: wr) G st st' → st'.heap.SetOf knd S (inFirst ks n) (unlike ks n) → R (.ok (.ret .none)) st') →
      codeAny (model prog w) A (.builtin "set.update.loop" ⟨[.ref S, .ref I], []⟩) R st := by
  have out : S ∉ wr := fun z => away (W.sub _ z)
  have wider : ∀ b ∈ wr, b ∈ S :: wr := fun b z => List.mem_cons_of_mem _ z
  intro left
  induction left with
  | zero =>
    intro i st e at_ held done
    have e : i = n := by omega
    subst e
    refine codeAny_builtin PyProof.Rows.F.entry_set_update_loop ?_
    rw [Around.under_plainId PyProof.Rows.F.plain_set_update_loop _]
    show wpAny _ A.in1 (pyNext (.ref I) >>= _) _ _ st
    refine wpAny_bind (W.done st _ _ at_ ?_)
    intro st' moved
    show wpAny _ A.in1 (ret Value.none) _ _ st'
    obtain ⟨o, es, ep, tab, ho, more⟩ := held
    exact wpAny_pure (done st' (moved.mono wider) ⟨o, es, ep, tab, moved.heap S _ out ho, more⟩)
  | succ left ih =>
    intro i st e at_ held done
    have hi : i < n := by omega
    refine codeAny_builtin PyProof.Rows.F.entry_set_update_loop ?_
    rw [Around.under_plainId PyProof.Rows.F.plain_set_update_loop _]
    show wpAny _ A.in1 (pyNext (.ref I) >>= _) _ _ st
    refine wpAny_bind (W.item i st _ _ hi at_ ?_)
    intro v st1 hP at1 moved
    obtain ⟨k, hk, isk, sc⟩ := item i v hP
    have held1 : st1.heap.SetOf knd S (inFirst ks i) (unlike ks i) := by
      obtain ⟨o, es, ep, tab, ho, more⟩ := held
      exact ⟨o, es, ep, tab, moved.heap S _ out ho, more⟩
    show wpAny _ A.in1 (holding [v] (setAdd S v) >>= _) _ _ st1
    refine wpAny_bind (wpAny_holding ?_)
    unfold setAdd
    refine wpAny_holding ?_
    refine wpAny_bind (knd.pyHash isk ?_)
    have few : unlike ks i + 1 < scanBound := by
      have := unlike_le ks i
      omega
    refine wpAny_setAddHashed_of (knd := knd) (s := { st1 with toks := st1.toks + 1 }) isk sc held1 few ?_
    intro h2 same held2
    have next : h2.SetOf knd S (inFirst ks (i + 1)) (unlike ks (i + 1)) := by
      refine SetOf_congr held2 (fun j => ?_) ?_
      · show ((ks.take i).any (fun y => decide (y = j)) || decide (j = k)) = (ks.take (i + 1)).any fun y => decide (y = j)
        rw [List.take_add_one, hk]
        simp [eq_comm]
      · show (if (ks.take i).any (fun y => decide (y = k)) = true then unlike ks i else unlike ks i + 1) = unlike ks (i + 1)
        conv => rhs; unfold unlike
        rw [hk]
    have kept : ∀ b o, b ≠ S → st1.heap.get? b = some o → h2.get? b = some o := fun b o nb z => (same.2 b nb).trans z
    refine wpAny_pure ⟨plainId_quiet PyProof.Rows.F.plain_set_update_loop _, ih (i + 1) _ (by omega) (W.frame _ st1 _ _ at1 (Nat.le_succ _) ?_) next ?_⟩
    · intro b hb o z
      exact kept b o (fun q => away (q ▸ hb)) z
    · intro st3 moved3 held3
      refine done st3 (Moved.trans W.gtrans ((moved.mono wider).then_heap (Nat.le_succ _) ?_) moved3) held3
      intro b o hb z
      exact kept b o (fun q => hb (by rw [q]; exact List.mem_cons_self)) z
end

section
variable {E : Value → Shared → Prop} {st : Shared}
set_option maxHeartbeats 4000000 in
theorem set_of_list {l : Addr} {items : Array Value} {ks : List κ} {Q : Value → Shared → Prop} (hh : A.handled = none) (hl : st.heap.IsList l items) (size : ks.length = items.size) (room : items.size + 1 < scanBound)
    (item : ∀ (i : Nat) (v : Value), items[i]? = some v → ∃ k, ks[i]? = some k ∧ knd.is k v = true ∧ v.scannable = true)
    (h : ∀ (h' : Heap) (tk : Nat), h'.SetOf knd st.heap.objs.size (inFirst ks items.size) (unlike ks items.size) →
      (∀ b o, b < st.heap.objs.size → st.heap.get? b = some o → h'.get? b = some o) → Q (.ref st.heap.objs.size) { st with heap := h', toks := tk }) :
    wpAny (model prog w) A (call (.type "set") [.ref l]) Q E st := by
  obtain ⟨c, tl, hmro⟩ := F.called_set.mro
  have made := F.called_set.made
  have subs := F.called_set.sub
  have nt := F.called_set.notType
  have cc := F.called_set.canCreate
  have tc := F.typeCall_set_1 (.ref l)
  refine wpAny_call (codeAny_of_tree ?_)
  show wpAny _ _ (callAny (.type "set") _) _ _ _
  refine wpAny_pure ⟨Code.quiet_builtin _ (by decide +kernel), codeAny_builtin F.entry_type_call ?_⟩
  rw [Around.under_plain (weight_type_call_type "set" [.ref l] []) rfl]
  repeat (any_goals (first | assumption | wp_step))
  generalize eS : st.heap.objs.size = S at h
  have born : ∀ led, (st.heap.push (noSet led)).get? S = some (noSet led) := fun led => by
    rw [← eS]
    exact Heap.get?_push_size _ rfl
  refine codeAny_mono (code_set_new_1 (.ref l) (E := E) (Q₁ := fun obj st1 => ∃ led : Bool, obj = .ref S ∧ st1 = { st with heap := st.heap.push (noSet led) }) fun led => ⟨led, by rw [eS], rfl⟩) ?_
  intro r st1 hr
  match r, hr with
  | .error e, hr => exact hr
  | .ok (.ret obj), hr =>
    obtain ⟨led, e1, e2⟩ := hr
    subst e1 e2
    have there0 : (st.heap.push { cls := .type "set", dict := none, data := .set #[] 0 (.fresh 0 0 led) }).get? S = some { cls := .type "set", dict := none, data := .set #[] 0 (.fresh 0 0 led) } := born led
    have hT : Shared.TypeIs { st with heap := st.heap.push (noSet led) } (.ref S) "set" := ⟨_, born led, rfl⟩
    have li := F.called_set.init.lookup
    have bi := F.called_set.init.bind (.ref S)
    repeat (any_goals (first | assumption | wp_step))
    refine codeAny_mono (codeAny_call_builtin (R := wants (fun r st2 => r = .none ∧ ∃ h' tk, st2 = { st with heap := h', toks := tk } ∧ h'.SetOf knd S (inFirst ks items.size) (unlike ks items.size) ∧
      (∀ b o, b < S → st.heap.get? b = some o → h'.get? b = some o)) E) F.called_set.init.plain PySem.F.entry_set_init (check_set_init_1 hT ?_)) ?_
    · obtain ⟨ol, hol, hcl, nl, hdl⟩ := hl
      obtain ⟨ocls, odict, odata, oslots⟩ := ol
      simp only at hcl hdl
      subst hcl hdl
      have there : (st.heap.push (noSet led)).get? l = some { cls := .type "list", dict := odict, data := .seq items nl, slots := oslots } := Heap.get?_push_of_some _ hol
      have ns := F.sub_list_set
      have nf := F.sub_list_frozenset
      have nd : (Value.type "list" == Value.type "dict") = false := by decide
      have isl : (st.heap.push (noSet led)).IsList l items := ⟨_, there, rfl, nl, rfl⟩
      have wide1 : (st.heap.push (noSet led)).objs.size = S + 1 := by rw [Heap.size_push, eS]
      unfold Builtin.«set.__init__» noKeywords Builtin.Frozenset.updateFrom
      generalize same : pyIter = PI
      wp_walk
      subst same
      refine wpAny_pyIter_list isl ?_
      refine wpAny_bind (wpAny_runValue ?_)
      have lS : l < S := by
        rw [← eS]
        exact Heap.lt_size hol
      have calm3 : A.in1.in1.in1.handled = none := by simp [hh]
      have lI : l ≠ (st.heap.push (noSet led)).objs.size := by
        rw [wide1]
        exact Nat.ne_of_lt (Nat.lt_succ_of_lt lS)
      have away : S ∉ [(st.heap.push (noSet led)).objs.size, l] := by
        simp only [List.mem_cons, List.not_mem_nil, or_false, not_or]
        rw [wide1]
        exact ⟨Nat.ne_of_lt (Nat.lt_succ_self S), Nat.ne_of_gt lS⟩
      refine set_fill (knd := knd) ((Walks.list calm3 _ l lI items).toS) S away ks size room item items.size 0 _ (by omega) ⟨⟨_, Heap.get?_push_size _ rfl, rfl, rfl⟩, (isl.push _)⟩ ?_ ?_
      · have here : ((st.heap.push (noSet led)).push { cls := .type "list_iterator", data := .fields #[.ref l, .int 0 0] }).get? S = some (noSet led) := Heap.get?_push_of_some _ (born led)
        exact SetOf_congr ((setObjOf_fresh (knd := knd) led).setOf here (by unfold scanBound; omega)) (fun _ => rfl) rfl
      · intro st3 moved held
        obtain ⟨h3, g3, d3, t3, os3⟩ := st3
        have eg : g3 = st.gens := moved.gens
        have ed : d3 = st.drawn := moved.drawn
        have eo : os3 = st.os := moved.os
        subst eg ed eo
        show wpAny _ _ _ _ _ _
        refine wpAny_pure ?_
        show wpAny _ _ (ret Value.none) _ _ _
        refine wpAny_pure ⟨rfl, h3, t3, rfl, held, ?_⟩
        intro b o hb z
        refine moved.heap b o ?_ (Heap.get?_push_of_some _ (Heap.get?_push_of_some _ z))
        simp only [List.mem_cons, List.not_mem_nil, or_false, not_or]
        rw [wide1]
        exact ⟨Nat.ne_of_lt hb, Nat.ne_of_lt (Nat.lt_succ_of_lt hb)⟩
    · intro r2 st2 hr2
      match r2, hr2 with
      | .error e, hr2 => exact hr2
      | .ok (.ret v), hr2 =>
        obtain ⟨e3, h', tk, e4, held, keep⟩ := hr2
        subst e3 e4
        repeat (any_goals (first | assumption | wp_step))
        exact h _ _ held keep
end
end
end Md

namespace Md
open PySem PySem.Spec PyProof.Rows L2
/-- len(set(xs)), texts -/
def tLenTexts (K : PySem.W.Frag) (ta : TE) : TE := fun sl H Q => ta sl H fun x H1 => ∃ (l : Addr) (zs : List Str), x = .ref l ∧ SqL K H1 l (zs.map V.str) ∧ zs.length ≤ 1000 ∧ Q (.int (unlike zs zs.length : Nat)) H1
theorem str_item {zs : List Str} {us : List Value} (r : Vals (zs.map V.str) us) {i : Nat} {v : Value} (h : us[i]? = some v) : ∃ z t, zs[i]? = some z ∧ v = Value.str z t := by
  have hl : i < zs.length := by
    have e := r.length
    rw [List.length_map] at e
    rw [e]
    exact (List.getElem?_eq_some_iff.mp h).1
  have g : (zs.map V.str)[i]? = some (V.str zs[i]) := by rw [List.getElem?_map, List.getElem?_eq_getElem hl]; rfl
  obtain ⟨u, hu, t, e⟩ := r.get g
  rw [h] at hu
  exact ⟨zs[i], t, List.getElem?_eq_getElem hl, by rw [← e]; exact Option.some.inj hu⟩
section
variable {X : Cx} {a : Expr} {ta : TE} {p p2 q pos : Pos}
theorem pe_lenTexts (hg : Gl X "len") (hm : X.mg "len" = none) (hg2 : Gl X "set") (hm2 : X.mg "set" = none) (ha : PE X a ta) (hc : X.calm = true := by rfl)
    (na : starEach [a] X.env = (false, eval a X.env) :: starEach [] X.env := by rfl) : PE X (.Call (.Name "len" p) [.Call (.Name "set" p2) [a] [] q] [] pos) (tLenTexts X.K ta) := by
  constructor
  intro pins st sl H Q I h
  refine Call_ (ld_blt I hg hm boot_len (PyProof.Rows.callWith_builtin1 (PyProof.Rows.args_cons ?_ rfl) rfl rfl))
  refine Call_ (ld_blt I hg2 hm2 boot_set (PyProof.Rows.callWith_type1 (PyProof.Rows.args_cons (thn (ha.run pins st sl H _ I h) ?_) na) na rfl))
  intro v s1 got
  refine PyProof.Rows.args_nil ?_
  obtain ⟨x, H1, I1, r1, l, zs, ex, hq, few, q1⟩ := got
  subst ex
  have ev : v = Value.ref l := r1
  subst ev
  obtain ⟨its, r, pl, hz⟩ := I1.list hq
  have size : its.toArray.size = zs.length := by rw [List.size_toArray, ← r.length, List.length_map]
  refine set_of_list (knd := strKind X.prog X.w) (ks := zs) (I1.ok.hd hc) pl.isList size.symm (by rw [size]; unfold scanBound; omega) ?_ ?_
  · intro i v hv
    obtain ⟨z, t, e1, e2⟩ := str_item r (i := i) (v := v) (by simpa using hv)
    exact ⟨z, e1, by rw [e2]; exact strKind_is X.prog X.w z t, by rw [e2]; rfl⟩
  · intro h' tk held keep
    refine PyProof.Rows.args_nil ?_
    rw [size] at held
    obtain ⟨o, es, ep, t, ho, hex, hd, _, _, _, hf, hn⟩ := held
    have I2 : Inv X pins sl H1 { s1 with heap := h', toks := tk } := I1.kept fun b o z => keep b o (Heap.lt_size z) z
    have small := unlike_le zs zs.length
    exact call_len_set ho hex hd hf (by rw [hn]; omega) ⟨.int (unlike zs zs.length : Nat), H1, I2.tok _, ⟨_, by rw [hn]⟩, q1⟩
end
end Md

namespace Md
open PySem PySem.Spec PyProof.Rows L2
section
variable {X : Cx}
/-- ** of great numbers by a small exponent -/
def CPowW (i j : Int) : Prop := 0 ≤ j ∧ j ≤ 10 ∧ i.natAbs < 2 ^ 200
theorem bitsW {i : Int} (h : i.natAbs < 2 ^ 200) : Builtin.Int.intBits i ≤ 200 := by
  have z := PySem.Flt.log2_lt_of (by decide) h
  unfold Builtin.Int.intBits
  split <;> omega
theorem op_powW : OpR X (binaryOp .Pow) (rI CPowW fun i j => .int (i ^ j.toNat)) := opI fun i j t u s Q E hc q => by
  have b := bitsW hc.2.2
  refine pow_int hc.1 ?_ q
  have h : ((Builtin.Int.intBits i : Nat) : Int) * j ≤ 200 * 10 := Int.mul_le_mul (by omega) hc.2.1 hc.1 (by decide)
  omega
end
end Md

namespace Md
open PySem PySem.Spec PyProof.Rows L2
/-- the heap behind so many turns of a comprehension that changes nothing else -/
abbrev grown (H1 : Hp) (D : Addr) (ys : List V) (i : Nat) : Hp := upd H1 D (.lst (ys.take i))
theorem grown_next {H1 : Hp} {D : Addr} {ys : List V} {i : Nat} {y : V} (h : ys[i]? = some y) : upd (grown H1 D ys i) D (.lst (ys.take i ++ [y])) = grown H1 D ys (i + 1) := by
  unfold grown
  rw [upd_upd, List.take_add_one, h]
  rfl
section
variable {K : PySem.W.Frag} {g : TG} {te : TE} {vs : List Nat} {sl : L2.St} {H1 : Hp} {D : Addr} {Qd : Hp → Prop}
/-- [f(x) for x in xs] over a list, nothing else changed -/
theorem lcp_list {a : Addr} {xs ys : List V} (hS : SqL K H1 a xs) (fresh : H1 D = none) (len : ys.length = xs.length) (few : xs.length < sizeLine)
    (step : ∀ i x y (R : VK), xs[i]? = some x → ys[i]? = some y → R y (grown H1 D ys i) → g x (wipe sl vs) (grown H1 D ys i) fun sl2 H2 => wipe sl2 vs = wipe sl vs ∧ te sl2 H2 R)
    (done : Qd (upd H1 D (.lst ys))) :
    ∃ W : Nat → Nat → Hp → Prop, (∃ m, W 0 m (upd H1 D (.lst []))) ∧ ∀ i m H, W i m H →
      ((Itl K a).stop i H ∧ Qd H) ∨ ((Itl K a).go i H ∧ ∃ Nx : Hp → Prop, (∀ H', Nx H' → ∃ m', m' < m ∧ W (i + 1) m' H') ∧ ∀ x H', (Itl K a).yld i H x H' → g x (wipe sl vs) H' fun sl2 H2 => wipe sl2 vs = wipe sl vs ∧ tYes sl2 H2 fun b H3 =>
        if b = true then te sl2 H3 fun y H4 => ∃ acc, H4 D = some (.lst acc) ∧ acc.length < sizeLine ∧ Nx (upd H4 D (.lst (acc ++ [y]))) else Nx H3) := by
  have same : ∀ i, Same H1 (grown H1 D ys i) := fun i b o z => by
    unfold grown
    rw [upd_ne (ne_of_none z fresh)]
    exact z
  refine lc_list (K := K) (a := a) (xs := xs) (fun i H => H = grown H1 D ys i) rfl (fun i H _ e => by rw [e]; exact (same i).seq hS) (fun i x H hx e => ?_) (fun H e => ?_)
  · subst e
    have hi : i < ys.length := by rw [len]; exact (List.getElem?_eq_some_iff.mp hx).1
    have hy : ys[i]? = some ys[i] := List.getElem?_eq_getElem hi
    refine step i x ys[i] _ hx hy ⟨ys.take i, upd_same, ?_, grown_next hy⟩
    rw [List.length_take]
    omega
  · rw [e, ← len]
    show Qd (upd H1 D (.lst (ys.take ys.length)))
    rw [List.take_length]
    exact done
/-- over a range -/
theorem lcp_range {lo : Int} {n : Nat} {ys : List V} (len : ys.length = n) (few : n < sizeLine)
    (step : ∀ i y (R : VK), i < n → ys[i]? = some y → R y (grown H1 D ys i) → g (.int (lo + i)) (wipe sl vs) (grown H1 D ys i) fun sl2 H2 => wipe sl2 vs = wipe sl vs ∧ te sl2 H2 R)
    (done : Qd (upd H1 D (.lst ys))) :
    ∃ W : Nat → Nat → Hp → Prop, (∃ m, W 0 m (upd H1 D (.lst []))) ∧ ∀ i m H, W i m H →
      ((Itr lo n).stop i H ∧ Qd H) ∨ ((Itr lo n).go i H ∧ ∃ Nx : Hp → Prop, (∀ H', Nx H' → ∃ m', m' < m ∧ W (i + 1) m' H') ∧ ∀ x H', (Itr lo n).yld i H x H' → g x (wipe sl vs) H' fun sl2 H2 => wipe sl2 vs = wipe sl vs ∧ tYes sl2 H2 fun b H3 =>
        if b = true then te sl2 H3 fun y H4 => ∃ acc, H4 D = some (.lst acc) ∧ acc.length < sizeLine ∧ Nx (upd H4 D (.lst (acc ++ [y]))) else Nx H3) := by
  refine lc_range (lo := lo) (n := n) (fun i H => H = grown H1 D ys i) rfl (fun i H hi e => ?_) (fun H e => ?_)
  · subst e
    have hl : i < ys.length := by omega
    have hy : ys[i]? = some ys[i] := List.getElem?_eq_getElem hl
    refine step i ys[i] _ hi hy ⟨ys.take i, upd_same, ?_, grown_next hy⟩
    rw [List.length_take]
    omega
  · rw [e, ← len]
    show Qd (upd H1 D (.lst (ys.take ys.length)))
    rw [List.take_length]
    exact done
/-- over a text's signs -/
theorem lcp_str {x : Str} {ys : List V} (len : ys.length = x.cps.size) (few : x.cps.size < sizeLine)
    (step : ∀ i c y (R : VK), x.cps[i]? = some c → ys[i]? = some y → R y (grown H1 D ys i) → g (.str ⟨#[c]⟩) (wipe sl vs) (grown H1 D ys i) fun sl2 H2 => wipe sl2 vs = wipe sl vs ∧ te sl2 H2 R)
    (done : Qd (upd H1 D (.lst ys))) :
    ∃ W : Nat → Nat → Hp → Prop, (∃ m, W 0 m (upd H1 D (.lst []))) ∧ ∀ i m H, W i m H →
      ((Its x).stop i H ∧ Qd H) ∨ ((Its x).go i H ∧ ∃ Nx : Hp → Prop, (∀ H', Nx H' → ∃ m', m' < m ∧ W (i + 1) m' H') ∧ ∀ v H', (Its x).yld i H v H' → g v (wipe sl vs) H' fun sl2 H2 => wipe sl2 vs = wipe sl vs ∧ tYes sl2 H2 fun b H3 =>
        if b = true then te sl2 H3 fun y H4 => ∃ acc, H4 D = some (.lst acc) ∧ acc.length < sizeLine ∧ Nx (upd H4 D (.lst (acc ++ [y]))) else Nx H3) := by
  refine ⟨fun i m H => i + m = x.cps.size ∧ H = grown H1 D ys i, ⟨x.cps.size, Nat.zero_add _, rfl⟩, ?_⟩
  intro i m H z
  obtain ⟨hm, e⟩ := z
  subst e
  by_cases hi : i < x.cps.size
  · refine .inr ⟨hi, fun H' => H' = grown H1 D ys (i + 1), fun H' e => ⟨m - 1, by omega, by omega, e⟩, fun v H' yl => ?_⟩
    obtain ⟨e1, c, hc, e2⟩ := yl
    subst e1 e2
    have hl : i < ys.length := by omega
    have hy : ys[i]? = some ys[i] := List.getElem?_eq_getElem hl
    refine step i c ys[i] _ hc hy ⟨ys.take i, upd_same, ?_, grown_next hy⟩
    rw [List.length_take]
    omega
  · have e : i = ys.length := by omega
    refine .inl ⟨by show x.cps.size ≤ i; omega, ?_⟩
    rw [e]
    show Qd (upd H1 D (.lst (ys.take ys.length)))
    rw [List.take_length]
    exact done
end
end Md

namespace Md
open PySem PySem.Spec PyProof.Rows L2
def top (i : Nat) : Stmt := PySem.Challenge.pw_marketdays_k14_diaries_stay.main.body.getD i (.Pass ⟨0, 0, 0, 0⟩)
abbrev sPurse : Stmt := top 33
abbrev sCoin : Stmt := top 34
/-- the built-in names that stay so -/
structure Blt (mg : Str → Option Value) : Prop where
  len : mg "len" = none
  max : mg "max" = none
  min : mg "min" = none
  abs : mg "abs" = none
  int : mg "int" = none
  list : mg "list" = none
  tuple : mg "tuple" = none
  set : mg "set" = none
  sorted : mg "sorted" = none
  range : mg "range" = none
  repr : mg "repr" = none
  isi : mg "isinstance" = none
  all : mg "all" = none
/-- where draws come from: so many draws at most so far -/
def PurseAt (H : Hp) (p : Addr) (c : Nat) : Prop := ∃ p0 p1 p2 : Int, H p = some (.lst [.int p0, .int p1, .int p2]) ∧ 0 ≤ p0 ∧ 0 ≤ p1 ∧ p1 < 10 ^ 24 + 7 ∧ 0 ≤ p2 ∧ p2 ≤ c
/-- all but the object at p is as it was -/
def Keep (p : Addr) (H H' : Hp) : Prop := ∀ b o, H b = some o → b ≠ p → H' b = some o
theorem Keep.refl (p : Addr) (H : Hp) : Keep p H H := fun _ _ h _ => h
theorem Keep.trans {p : Addr} {H H1 H2 : Hp} (a : Keep p H H1) (b : Keep p H1 H2) : Keep p H H2 := fun c o h n => b c o (a c o h n) n
theorem Keep.of {p : Addr} {H H' : Hp} (h : Same H H') : Keep p H H' := fun b o e _ => h b o e
theorem Keep.new {p q : Addr} {H H1 : Hp} {o : HO} (a : Keep p H H1) (n : H1 q = none) : Keep p H (upd H1 q o) := fun b u h ne => by
  have e := a b u h ne
  rw [upd_ne (ne_of_none e n)]
  exact e
theorem PurseAt.more {H : Hp} {p : Addr} {c d : Nat} (h : PurseAt H p c) (e : c ≤ d) : PurseAt H p d := by
  obtain ⟨p0, p1, p2, a, b, c1, c2, c3, c4⟩ := h
  exact ⟨p0, p1, p2, a, b, c1, c2, c3, by omega⟩
theorem PurseAt.new {H : Hp} {p q : Addr} {c : Nat} {o : HO} (h : PurseAt H p c) (n : H q = none) : PurseAt (upd H q o) p c := by
  obtain ⟨p0, p1, p2, a, b⟩ := h
  exact ⟨p0, p1, p2, by rw [upd_ne (ne_of_none a n)]; exact a, b⟩
section
variable {P : Program} {w : World} {K : PySem.W.Frag} {mg : Str → Option Value} {base : Heap}
def spPurse (K : PySem.W.Frag) : Sp := fun vs H Q _ => ∃ (a : Addr) (ns : List Int) (i : Nat), vs = [.ref a, .int i] ∧ SqL K H a (ns.map V.int) ∧ ∀ p H', H p = none → PurseAt H' p 0 → Same H H' → Q (.ref p) H'
theorem scPurse : FnScope ["script", "place", "cell"] ["script", "place"] (defScope sPurse) := ⟨rfl, rfl, rfl, by decide +kernel, rfl, by decide +kernel, by decide +kernel⟩
theorem ok_purse {f : Addr} {fd : FuncData} {k : Nat} (F : Fun K "_law_purse" "_law_purse" sPurse f fd) (B : Blt mg) : FnOk P w K mg base CX0 (k + 1) f fd ["script", "place"] (spPurse K) := by
  refine F.ok scPurse (fun vs H Q E h => ?_) (fun cdv A outer s H vs Q E hr h => ?_)
  · obtain ⟨a, ns, i, rfl, _⟩ := h
    rfl
  · obtain ⟨a, ns, i, rfl, hS, q⟩ := h
    refine ⟨_, pss_cons (ps_set (i := 2) scPurse.nd rfl (.inl rfl) (pe_ifExp (pt_cmpR op_lt (pv 1) (pe_callB call_len_seq (by rfl) B.len PySem.boot_len (pa_cons (pv 0) pa_nil)) (nomark _)) (pe_ix ix_list (pv 0) (pv 1) (fun _ _ => rfl)) pe_int))
      (pss_one (ps_ret (pe_lst (pa_cons (pe_callB (call_max2 rfl) (by rfl) B.max (by decide +kernel) (pa_cons pe_int (pa_cons (pe_op op_sub (pe_callB call_abs (by rfl) B.abs (by decide +kernel) (pa_cons (pv 2) pa_nil)) (pe_op op_pow pe_int pe_int)) pa_nil)))
        (pa_cons (pe_op op_mod (pe_callTy call_int1 (by rfl) B.int (by decide +kernel) (pa_cons (pe_op op_add (pe_op op_add (pe_op op_mul (pv 2) pe_int) (pe_op op_mul (pv 1) pe_int)) pe_int) pa_nil)) (pe_op op_add (pe_op op_pow pe_int pe_int) pe_int)) (pa_cons pe_int pa_nil)))))), ?_⟩
    -- cell
    refine ⟨_, rfl, .ref a, rfl, a, _, rfl, .inl hS, _, _, rfl, rfl, _, rfl, ?_⟩
    refine ite2 (fun e => ?_) (fun e => ?_)
    · have e1 : (i : Int) < ((ns.map V.int).length : Nat) := of_decide_eq_true e
      rw [List.length_map] at e1
      have e2 : i < ns.length := by omega
      refine ⟨_, rfl, _, rfl, a, _, _, .int ns[i], rfl, rfl, hS, atI_nat (by rw [List.getElem?_map, List.getElem?_eq_getElem e2]; rfl), ?_⟩
      generalize ns[i] = cell
      refine ⟨_, rfl, _, rfl, _, _, rfl, rfl, ⟨by decide, by decide, by decide⟩, _, _, rfl, rfl, _, _, rfl, ?_⟩
      refine ⟨_, rfl, _, _, rfl, rfl, .inr ⟨by decide, by decide⟩, _, rfl, _, _, rfl, rfl, .inr ⟨by decide, by decide⟩, _, _, rfl, rfl, _, _, rfl, rfl, .inl ⟨_, rfl, ?_⟩⟩
      refine ⟨_, _, rfl, rfl, ⟨by decide, by decide, by decide⟩, _, _, rfl, rfl, _, _, rfl, rfl, (by show (0 : Int) < 10 ^ 24 + 7; decide), by show 3 ≤ sizeLine; decide, fun p np => ?_⟩
      refine q p _ np ⟨_, _, 0, upd_same, ?_, ?_, ?_, by decide, by decide⟩ fun b o z => by rw [upd_ne (ne_of_none z np)]; exact z
      · split <;> omega
      · exact Int.emod_nonneg _ (by decide)
      · exact Int.emod_lt_of_pos _ (by decide)
    · refine ⟨_, rfl, _, rfl, _, _, rfl, rfl, ⟨by decide, by decide, by decide⟩, _, _, rfl, rfl, _, _, rfl, ?_⟩
      refine ⟨_, rfl, _, _, rfl, rfl, .inr ⟨by decide, by decide⟩, _, rfl, _, _, rfl, rfl, .inr ⟨by decide, by decide⟩, _, _, rfl, rfl, _, _, rfl, rfl, .inl ⟨_, rfl, ?_⟩⟩
      refine ⟨_, _, rfl, rfl, ⟨by decide, by decide, by decide⟩, _, _, rfl, rfl, _, _, rfl, rfl, (by show (0 : Int) < 10 ^ 24 + 7; decide), by show 3 ≤ sizeLine; decide, fun p np => ?_⟩
      refine q p _ np ⟨_, _, 0, upd_same, ?_, ?_, ?_, by decide, by decide⟩ fun b o z => by rw [upd_ne (ne_of_none z np)]; exact z
      · split <;> omega
      · exact Int.emod_nonneg _ (by decide)
      · exact Int.emod_lt_of_pos _ (by decide)

/-- a draw: the next number from 0 to many - 1 -/
def spCoin : Sp := fun vs H Q _ => ∃ (p : Addr) (c : Nat) (m : Int), vs = [.ref p, .int m] ∧ PurseAt H p c ∧ c ≤ 1000000 ∧ 1 ≤ m ∧ m ≤ 10 ^ 31 ∧
  ∀ (d : Int) H', 0 ≤ d → d < m → PurseAt H' p (c + 1) → Keep p H H' → Q (.int d) H'
theorem scCoin : FnScope ["purse", "many", "drawn", "stirred"] ["purse", "many"] (defScope sCoin) := ⟨rfl, rfl, rfl, by decide +kernel, rfl, by decide +kernel, by decide +kernel⟩
theorem bound31 {m : Int} (h : 1 ≤ m) (h2 : m ≤ 10 ^ 31) : CDivW 0 m := by
  have e : (10 : Int) ^ 31 < 2 ^ 200 := by decide
  have z : m.natAbs < 2 ^ 200 := by omega
  exact wide_div (by omega) z (by decide) (by decide)
theorem put_keep {p : Addr} {H : Hp} {o : HO} : Keep p H (upd H p o) := fun b u h ne => by rw [upd_ne ne]; exact h
theorem put_free {p : Addr} {H : Hp} {o u : HO} (hp : H p = some u) : ∀ b, H b = none → upd H p o b = none := fun b h => by
  rw [upd_ne (fun e => by rw [e, hp] at h; cases h)]
  exact h
theorem big1 {a b : Int} (h : 0 ≤ a) (h2 : 0 ≤ b) (h3 : a < 10 ^ 24 + 7 := by assumption) (h4 : b ≤ 1000000 := by omega) : (a + 2038074743 * (b + 1)).natAbs < 2 ^ 200 := by
  have e : (10 : Nat) ^ 40 < 2 ^ 200 := by decide
  omega
theorem big2 {a b : Int} (h : 0 ≤ a) (h3 : a < 10 ^ 25 + 13) (h2 : 0 ≤ b) (h4 : b ≤ 1000001) : (a + 982451653 * b).natAbs < 2 ^ 200 := by
  have e : (10 : Nat) ^ 40 < 2 ^ 200 := by decide
  omega
theorem ok_coin {f : Addr} {fd : FuncData} {k : Nat} (F : Fun K "_law_coin" "_law_coin" sCoin f fd) (B : Blt mg) : FnOk P w K mg base CX0 (k + 1) f fd ["purse", "many"] spCoin := by
  refine F.ok scCoin (fun vs H Q E h => ?_) (fun cdv A outer s H vs Q E hr h => ?_)
  · obtain ⟨p, c, m, rfl, _⟩ := h
    rfl
  · obtain ⟨p, c, m, rfl, ⟨p0, p1, p2, hp, h0, h1, h2, h3, h4⟩, hc, hm, hm2, q⟩ := h
    refine ⟨_, pss_cons (ps_if (pt_cmpR op_gt (pe_ix ix_list (pv 0) pe_int (fun _ _ => rfl)) pe_int (nomark _))
        (pss_cons (ps_set (i := 2) scCoin.nd rfl (.inl rfl) (pe_op op_mod (pe_callTy call_int1 (by rfl) B.int (by decide +kernel) (pa_cons (pe_ix ix_list (pv 0) pe_int (fun _ _ => rfl)) pa_nil)) (pv 1)))
        (pss_cons (ps_asg (pe_op op_fdivW (pe_ix ix_list (pv 0) pe_int (fun _ _ => rfl)) (pv 1)) (pg_sub (pv 0) pe_int set_list))
        (pss_one (ps_ret (pv 2))))) pss_nil)
      (pss_cons (ps_asg (pe_op op_add (pe_ix ix_list (pv 0) pe_int (fun _ _ => rfl)) pe_int) (pg_sub (pv 0) pe_int set_list))
      (pss_cons (ps_set (i := 3) scCoin.nd rfl (.inl rfl) (pe_op op_mod (pe_op op_powW (pe_callTy call_int1 (by rfl) B.int (by decide +kernel) (pa_cons (pe_op op_add (pe_ix ix_list (pv 0) pe_int (fun _ _ => rfl)) (pe_op op_mul pe_int (pe_ix ix_list (pv 0) pe_int (fun _ _ => rfl)))) pa_nil)) pe_int) (pe_op op_add (pe_op op_pow pe_int pe_int) pe_int)))
      (pss_cons (ps_set (i := 3) scCoin.nd rfl (.inl rfl) (pe_op op_mod (pe_op op_powW (pe_callTy call_int1 (by rfl) B.int (by decide +kernel) (pa_cons (pe_op op_add (pv 3) (pe_op op_mul pe_int (pe_ix ix_list (pv 0) pe_int (fun _ _ => rfl)))) pa_nil)) pe_int) (pe_op op_add (pe_op op_pow pe_int pe_int) pe_int)))
      (pss_one (ps_ret (pe_op op_mod (pe_callTy call_int1 (by rfl) B.int (by decide +kernel) (pa_cons (pe_op op_fdiv (pv 3) pe_int) pa_nil)) (pv 1))))))), ?_⟩
    have hS : SqL K H p [.int p0, .int p1, .int p2] := .inl (.inl hp)
    refine ⟨.ref p, rfl, p, _, 0, .int p0, rfl, rfl, hS, atI_nat (j := 0) rfl, _, _, rfl, rfl, _, rfl, ite2 (fun e => ?_) (fun e => ?_)⟩
    · -- the next figure
      have e1 : 0 < p0 := of_decide_eq_true e
      refine ⟨.ref p, rfl, p, _, 0, .int p0, rfl, rfl, hS, atI_nat (j := 0) rfl, .inl ⟨_, rfl, _, rfl, _, _, rfl, rfl, (by show 0 < m; omega), ?_⟩⟩
      refine ⟨.ref p, rfl, p, _, 0, .int p0, rfl, rfl, hS, atI_nat (j := 0) rfl, _, rfl, _, _, rfl, rfl, bound31 hm hm2, .ref p, rfl, p, _, 0, 0, rfl, rfl, hp, rfl, ?_⟩
      refine ⟨_, rfl, q _ _ (Int.emod_nonneg _ (by omega)) (Int.emod_lt_of_pos _ (by omega)) ⟨p0 / m, p1, p2, upd_same, Int.ediv_nonneg h0 (by omega), h1, h2, h3, by omega⟩ put_keep⟩
    · -- a stirred one
      have hT : SqL K (upd H p (.lst [.int p0, .int p1, .int (p2 + 1)])) p [.int p0, .int p1, .int (p2 + 1)] := .inl (.inl upd_same)
      refine ⟨.ref p, rfl, p, _, 2, .int p2, rfl, rfl, hS, atI_nat (j := 2) rfl, _, _, rfl, rfl, .ref p, rfl, p, _, 2, 2, rfl, rfl, hp, rfl, ?_⟩
      refine ⟨.ref p, rfl, p, _, 1, .int p1, rfl, rfl, hT, atI_nat (j := 1) rfl, .ref p, rfl, p, _, 2, .int (p2 + 1), rfl, rfl, hT, atI_nat (j := 2) rfl, _, _, rfl, rfl, .inl ⟨by decide, by decide⟩, _, _, rfl, rfl, .inl ⟨_, rfl, ?_⟩⟩
      refine ⟨_, _, rfl, rfl, ⟨by decide, by decide, big1 (by omega) (by omega)⟩, _, _, rfl, rfl, ⟨by decide, by decide, by decide⟩, _, _, rfl, rfl, _, _, rfl, rfl, (by show (0 : Int) < 10 ^ 25 + 13; decide), ?_⟩
      have s1 : ∀ x : Int, 0 ≤ x % (10 ^ 25 + 13) ∧ x % (10 ^ 25 + 13) < 10 ^ 25 + 13 := fun x => ⟨Int.emod_nonneg _ (by decide), Int.emod_lt_of_pos _ (by decide)⟩
      have s2 := s1 ((p1 + 2038074743 * (p2 + 1)) ^ 3)
      refine ⟨_, rfl, .ref p, rfl, p, _, 2, .int (p2 + 1), rfl, rfl, hT, atI_nat (j := 2) rfl, _, _, rfl, rfl, .inl ⟨by decide, by decide⟩, _, _, rfl, rfl, .inl ⟨_, rfl, ?_⟩⟩
      refine ⟨_, _, rfl, rfl, ⟨by decide, by decide, big2 s2.1 s2.2 (by omega) (by omega)⟩, _, _, rfl, rfl, ⟨by decide, by decide, by decide⟩, _, _, rfl, rfl, _, _, rfl, rfl, (by show (0 : Int) < 10 ^ 24 + 7; decide), ?_⟩
      refine ⟨_, rfl, _, _, rfl, rfl, ⟨by decide, by decide⟩, .inl ⟨_, rfl, _, rfl, _, _, rfl, rfl, (by show 0 < m; omega), ?_⟩⟩
      exact q _ _ (Int.emod_nonneg _ (by omega)) (Int.emod_lt_of_pos _ (by omega)) ⟨p0, p1, p2 + 1, upd_same, h0, h1, h2, by omega, by omega⟩ put_keep
end
end Md

namespace Md
open PySem PySem.Spec PyProof.Rows L2
abbrev sDiary : Stmt := top 13
abbrev sCheckTowns : Stmt := top 14
abbrev sIsName : Stmt := top 15
abbrev sCheckNote : Stmt := top 16
/-- the sign is a letter from a to z -/
def letB (c : Nat) : Bool := decide (c ∈ (("abcdefghijklmnopqrstuvwxyz" : Str)).cps.toList)
/-- whether a text is a town's name -/
def nameB (z : Str) : Bool := (decide ((1 : Int) ≤ z.length) && decide ((z.length : Int) ≤ 8)) && (z.cps.toList.map letB).all id
/-- the names of the program's top -/
structure Tops (mg : Str → Option Value) : Prop where
  letters : ∃ t, mg "LETTERS" = some (.str "abcdefghijklmnopqrstuvwxyz" t)
  most : ∃ t, mg "MOST_LETTERS" = some (.int 8 t)
section
variable {P : Program} {w : World} {K : PySem.W.Frag} {mg : Str → Option Value} {base : Heap}
def spIsName : Sp := fun vs H Q _ => ∃ z : Str, vs = [.str z] ∧ z.length ≤ 1000 ∧ ∀ H', Same H H' → Q (.bl (nameB z)) H'
theorem scIsName : FnScope ["name", "letter"] ["name"] (defScope sIsName) := ⟨rfl, rfl, rfl, by decide +kernel, rfl, by decide +kernel, by decide +kernel⟩
theorem ok_isName {f : Addr} {fd : FuncData} {k : Nat} (F : Fun K "is_name" "is_name" sIsName f fd) (B : Blt mg) (T : Tops mg) : FnOk P w K mg base CX0 (k + 1) f fd ["name"] spIsName := by
  refine F.ok scIsName (fun vs H Q E h => ?_) (fun cdv A outer s H vs Q E hr h => ?_)
  · obtain ⟨z, rfl, _⟩ := h
    rfl
  · obtain ⟨z, rfl, hz, q⟩ := h
    obtain ⟨t1, m1⟩ := T.letters
    obtain ⟨t2, m2⟩ := T.most
    refine ⟨_, pss_one (ps_ret (pe_and (pe_chain op_le op_le pe_int (pe_callB call_len_str (by rfl) B.len PySem.boot_len (pa_cons (pv 0) pa_nil)) (pe_glob (v := .int 8) rfl m2 ⟨_, rfl⟩))
      (pe_one (pe_callB (cr_all rfl) (by rfl) B.all (by decide +kernel) (pa_cons (pe_lc (own := [("letter", 1)]) (g := gName 1) (tt := tYes) rfl scIsName.nd (pi_str (pv 0)) (blkOk_by (N := ["name", "letter"]) (sc := defScope sIsName) (by decide +kernel))
        (fun _ _ _ _ _ => pg_name (i := 1) scIsName.nd rfl (.inl rfl)) (fun _ _ _ _ _ => pts_nil) (fun _ _ _ _ _ => pe_cmpR op_in_sign (pv 1) (pe_glob (v := .str "abcdefghijklmnopqrstuvwxyz") rfl m1 ⟨_, rfl⟩) (by rfl))) pa_nil))))), ?_⟩
    have hz2 : z.length ≤ sizeLine := Nat.le_of_lt (small1000 hz)
    refine ⟨_, rfl, _, rfl, hz2, _, _, rfl, rfl, _, rfl, ite2 (fun e1 => ?_) (fun e1 => ?_)⟩
    · refine ⟨_, _, rfl, rfl, _, rfl, ite2 (fun e2 => ?_) (fun e2 => ?_)⟩
      · -- all letters are of the alphabet
        refine ⟨_, rfl, _, rfl, fun D nD => ?_⟩
        have hl : (z.cps.toList.map letB).length = z.cps.size := by rw [List.length_map, Array.length_toList]
        refine lcp_str (x := z) (ys := (z.cps.toList.map letB).map V.bl) (by rw [List.length_map, hl]) (small1000 hz) (fun i c y R hc hy r => ?_) ?_
        · refine ⟨rfl, _, rfl, c, _, rfl, rfl, ?_⟩
          have e : y = V.bl (letB c) := by
            rw [List.getElem?_map, List.getElem?_map, Array.getElem?_toList, hc] at hy
            exact (Option.some.inj hy).symm
          rw [e] at r
          exact r
        · refine ⟨D, z.cps.toList.map letB, rfl, .inl (.inl upd_same), ?_⟩
          have en : nameB z = (z.cps.toList.map letB).all id := by
            unfold nameB
            rw [e1, e2]
            rfl
          rw [← en]
          exact q _ fun b o h => by rw [upd_ne (ne_of_none h nD)]; exact h
      · have en : nameB z = false := by
          unfold nameB
          rw [Bool.eq_false_iff.mpr e2]
          simp
        rw [← en]
        exact q _ (Same.refl H)
    · refine ⟨_, rfl, iteF ?_⟩
      have en : nameB z = false := by
        unfold nameB
        rw [Bool.eq_false_iff.mpr e1]
        rfl
      rw [← en]
      exact q _ (Same.refl H)
end
end Md

namespace Md
open PySem PySem.Spec PyProof.Rows L2
/-- a list of tuples whose things are flat -/
def Rows (H : Hp) (a : Addr) (rs : List (List V)) : Prop := ∃ as : List Addr, H a = some (.lst (as.map V.ref)) ∧ Paired (fun b r => H b = some (.tup r)) as rs
/-- the same, to be read -/
def RowsK (K : PySem.W.Frag) (H : Hp) (a : Addr) (rs : List (List V)) : Prop := ∃ as : List Addr, SqL K H a (as.map V.ref) ∧ Paired (fun b r => H b = some (.tup r)) as rs
theorem paired_imp {α β : Type} {F G : α → β → Prop} : ∀ {l : List α} {m : List β}, Paired F l m → (∀ a b, F a b → G a b) → Paired G l m
  | _, _, .nil, _ => .nil
  | _, _, .cons h t, f => .cons (f _ _ h) (paired_imp t f)
theorem paired_get {α β : Type} {F : α → β → Prop} : ∀ {l : List α} {m : List β}, Paired F l m → ∀ (i : Nat) (b : β), m[i]? = some b → ∃ a, l[i]? = some a ∧ F a b
  | _, _, .nil, i, b, h => by simp at h
  | _, _, .cons h t, 0, b, e => ⟨_, rfl, by
    have e2 := Option.some.inj e
    subst e2
    exact h⟩
  | _, _, .cons h t, i + 1, b, e => paired_get t i b e
theorem paired_len {α β : Type} {F : α → β → Prop} {l : List α} {m : List β} (h : Paired F l m) : l.length = m.length := Paired.length h
theorem Rows.k {K : PySem.W.Frag} {H : Hp} {a : Addr} {rs : List (List V)} (h : Rows H a rs) : RowsK K H a rs := by
  obtain ⟨as, h1, h2⟩ := h
  exact ⟨as, .inl (.inl h1), h2⟩
theorem Rows.same {H H' : Hp} {a : Addr} {rs : List (List V)} (h : Rows H a rs) (s : Same H H') : Rows H' a rs := by
  obtain ⟨as, h1, h2⟩ := h
  exact ⟨as, s _ _ h1, paired_imp h2 fun b r z => s _ _ z⟩
/-- a purse is no list of tuples: it may change -/
theorem Rows.keep {H H' : Hp} {a p : Addr} {rs : List (List V)} {c : Nat} (h : Rows H a rs) (hp : PurseAt H p c) (s : Keep p H H') : Rows H' a rs := by
  obtain ⟨as, h1, h2⟩ := h
  obtain ⟨p0, p1, p2, e, _⟩ := hp
  refine ⟨as, s _ _ h1 fun z => ?_, paired_imp h2 fun b r z => s _ _ z fun y => ?_⟩
  · rw [z, e] at h1
    have e2 := Option.some.inj h1
    cases as with
    | nil => cases e2
    | cons b bs => cases e2
  · rw [y, e] at z
    cases z
theorem Rows.length {H : Hp} {a : Addr} {rs : List (List V)} (h : Rows H a rs) : ∃ as : List Addr, as.length = rs.length ∧ H a = some (.lst (as.map V.ref)) := by
  obtain ⟨as, h1, h2⟩ := h
  exact ⟨as, paired_len h2, h1⟩
/-- a town's row, right -/
def TownR (r : List V) : Prop := ∃ (z : Str) (lo hi : Int), r = [.str z, .int lo, .int hi] ∧ nameB z = true ∧ z.length ≤ 8 ∧ 1 ≤ lo ∧ lo ≤ hi
/-- the name in a row of a town -/
def nameOf : List V → Str
  | .str z :: _ => z
  | _ => Str.empty
theorem inV_str (x : Str) : ∀ zs : List Str, inV (V.str x) (zs.map V.str) = decide (x ∈ zs)
  | [] => by simp [inV]
  | z :: zs => by
    have ih := inV_str x zs
    unfold inV at ih ⊢
    rw [List.map_cons, List.any_cons, ih]
    by_cases h : z = x
    · subst h
      simp [eqV]
    · have h2 : ¬ x = z := fun e => h e.symm
      simp [eqV, h, h2]
theorem flat_strs : ∀ zs : List Str, (zs.map V.str).all flatV = true
  | [] => rfl
  | z :: zs => by
    rw [List.map_cons, List.all_cons, flat_strs zs]
    rfl
theorem fresh_name {rs : List (List V)} (h : (rs.map nameOf).Nodup) {i : Nat} (hi : i < rs.length) : nameOf rs[i] ∉ (rs.take i).map nameOf := by
  intro m
  obtain ⟨r, hr, e⟩ := List.mem_map.mp m
  obtain ⟨j, hj, ej⟩ := List.getElem_of_mem hr
  have hj2 : j < i := by
    rw [List.length_take] at hj
    omega
  rw [List.getElem_take] at ej
  have z := (List.pairwise_iff_getElem.mp h) j i (by rw [List.length_map]; omega) (by rw [List.length_map]; exact hi) hj2
  rw [List.getElem_map, List.getElem_map, ej, e] at z
  exact z rfl
section
variable {P : Program} {w : World} {K : PySem.W.Frag} {mg : Str → Option Value} {base : Heap}
def spCheckTowns (K : PySem.W.Frag) : Sp := fun vs H Q _ => ∃ (a : Addr) (rs : List (List V)), vs = [.ref a] ∧ RowsK K H a rs ∧ (∀ r ∈ rs, TownR r) ∧ (rs.map nameOf).Nodup ∧ rs.length ≤ 100 ∧ ∀ H', Same H H' → Q .non H'
theorem scCheckTowns : FnScope ["towns", "names", "town", "name", "low", "high"] ["towns"] (defScope sCheckTowns) := ⟨rfl, rfl, rfl, by decide +kernel, rfl, by decide +kernel, by decide +kernel⟩
theorem ok_checkTowns {f fN : Addr} {fd fdN : FuncData} {k : Nat} (F : Fun K "check_towns" "check_towns" sCheckTowns f fd) (FN : Fun K "is_name" "is_name" sIsName fN fdN) (gN : mg "is_name" = some (.ref fN))
    (bN : Binds K fdN ["name"] []) (B : Blt mg) (T : Tops mg) : FnOk P w K mg base CX0 (k + 2) f fd ["towns"] (spCheckTowns K) := by
  have GN : FnOk P w K mg base CX0 (k + 1) fN fdN ["name"] spIsName := ok_isName FN B T
  refine F.ok scCheckTowns (fun vs H Q E h => ?_) (fun cdv A outer s H vs Q E hr h => ?_)
  · obtain ⟨a, rs, rfl, _⟩ := h
    rfl
  · obtain ⟨a, rs, rfl, ⟨as, hS, hR⟩, good, nodup, few, q⟩ := h
    have nd := scCheckTowns.nd
    refine ⟨_, pss_cons (ps_set (i := 1) nd rfl (.inl rfl) (pe_lst pa_nil))
      (pss_one (ps_for PassesOwn.never rfl (pi_list (pv 0)) (pg_name (i := 2) nd rfl (.inl rfl))
        (pss_cons (ps_asg (pv 2) (pg_tup (by rfl) (pgs_cons (pg_name (i := 3) nd rfl (.inl rfl)) (pgs_cons (pg_name (i := 4) nd rfl (.inl rfl)) (pgs_cons (pg_name (i := 5) nd rfl (.inl rfl)) pgs_nil)))))
        (pss_cons (ps_if (pt_not (pt_val (pe_call GN hr (by rfl) gN FN.kp bN .nil pass0 (pa_cons (pv 3) pa_nil)))) (pss_one ps_never) pss_nil)
        (pss_cons (ps_if (pt_cmpR op_in_seq (pv 3) (pv 1) (by rfl)) (pss_one ps_never) pss_nil)
        (pss_cons (ps_if (PW.pt (pw_or (pt_cmpR op_lt (pv 4) pe_int (nomark _)) (pw_or1 (pt_cmpR op_lt (pv 5) (pv 4) (nomark _))))) (pss_one ps_never) pss_nil)
        (pss_one (ps_expr (pe_bm PySem.F.plainAttrs_list PySem.F.slot_list_append PySem.F.type_list_append mt_append (pv 1) (pa_cons (pv 3) pa_nil)))))))))), ?_⟩
    refine ⟨Nat.zero_le _, fun l nl => ?_⟩
    have s0 : ∀ (H2 : Hp) (o : HO), Same H H2 → Same H (upd H2 l o) := fun H2 o sm b u z => by
      rw [upd_ne (ne_of_none z nl)]
      exact sm b u z
    have ln : as.length = rs.length := paired_len hR
    refine ⟨_, rfl, a, rfl, ⟨_, (s0 H _ (Same.refl H)).seq hS⟩, for_list (K := K) (a := a) (xs := as.map V.ref) (fun i sl H2 => ∃ v2 v3 v4 v5, sl = [some (.ref a), some (.ref l), v2, v3, v4, v5] ∧ Same H H2 ∧ H2 l = some (.lst (((rs.take i).map nameOf).map V.str)))
      ⟨none, none, none, none, rfl, s0 H _ (Same.refl H), upd_same⟩ (fun i sl H2 _ ⟨_, _, _, _, _, sm, _⟩ => sm.seq hS) ?_ ?_⟩
    · rintro i x sl H2 hx ⟨v2, v3, v4, v5, rfl, sm, hl⟩
      have hi : i < rs.length := by
        have z := (List.getElem?_eq_some_iff.mp hx).1
        rw [List.length_map] at z
        omega
      have hr0 : rs[i]? = some rs[i] := List.getElem?_eq_getElem hi
      obtain ⟨b, hb, hbr⟩ := paired_get hR i rs[i] hr0
      have ex : x = V.ref b := by
        rw [List.getElem?_map, hb] at hx
        exact (Option.some.inj hx).symm
      subst ex
      obtain ⟨z, lo, hi2, er, gz, z8, l1, l2⟩ := good rs[i] (List.getElem_mem hi)
      rw [er] at hbr
      have ez : nameOf rs[i] = z := by rw [er]; rfl
      -- name, low, high = town
      refine ⟨_, rfl, b, _, rfl, .inl (.inl (sm _ _ hbr)), rfl, _, _, rfl, _, _, rfl, _, _, rfl, rfl, ?_⟩
      -- the name is good
      refine ⟨_, rfl, z, rfl, by omega, fun H3 s3 => ⟨_, rfl, ?_⟩⟩
      rw [gz]
      refine iteF ?_
      -- it stood not before
      have hl3 : H3 l = some (.lst (((rs.take i).map nameOf).map V.str)) := s3 _ _ hl
      refine ⟨_, rfl, _, rfl, l, _, rfl, .inl (.inl (.inl hl3)), rfl, flat_strs _, _, rfl, ?_⟩
      have nin : inV (V.str z) (((rs.take i).map nameOf).map V.str) = false := by
        rw [inV_str]
        refine decide_eq_false fun m => ?_
        rw [← ez] at m
        exact fresh_name nodup hi m
      rw [nin]
      refine iteF ?_
      refine ⟨_, rfl, _, _, rfl, rfl, _, rfl, ?_⟩
      rw [decide_eq_false (show ¬ lo < 1 by omega)]
      refine iteF ⟨_, rfl, _, rfl, _, _, rfl, rfl, _, rfl, ?_⟩
      rw [decide_eq_false (show ¬ hi2 < lo by omega)]
      refine iteF ?_
      refine ⟨_, rfl, .inl ⟨rfl, _, .inl (.inl hl3)⟩, _, rfl, l, _, _, rfl, rfl, hl3, ?_, ?_⟩
      · rw [List.length_map, List.length_map, List.length_take]
        exact small1000 (by omega)
      · refine ⟨_, _, _, _, rfl, s0 H3 _ (sm.trans s3), ?_⟩
        rw [upd_same, List.take_add_one, hr0, Option.toList_some, List.map_append, List.map_append]
        show some (HO.lst (_ ++ [V.str z])) = some (HO.lst (_ ++ [V.str (nameOf rs[i])]))
        rw [ez]
    · rintro sl H2 ⟨v2, v3, v4, v5, rfl, sm, hl⟩
      exact q H2 sm
end
end Md

namespace Md
open PySem PySem.Spec PyProof.Rows L2
/-- a note's row, right where the towns have these names -/
def NoteR (ns : List Str) (r : List V) : Prop :=
  (∃ (kind z : Str) (day : Int), r = [.str kind, .str z, .int day] ∧ (kind = "market" ∨ kind = "none") ∧ z ∈ ns ∧ 0 ≤ day ∧ day ≤ 10 ^ 30) ∨
  (∃ (kind y z : Str) (day : Int), r = [.str kind, .str y, .str z, .int day] ∧ (kind = "one" ∨ kind = "same") ∧ y ∈ ns ∧ z ∈ ns ∧ y ≠ z ∧ 0 ≤ day ∧ day ≤ 10 ^ 30)
/-- the module's table of the numbers of things -/
structure Things (K : PySem.W.Frag) (w : World) (mg : Str → Option Value) : Prop where
  at_ : ∃ d es n, mg "THINGS" = some (.ref d) ∧ KDict K w d es n ∧ (∃ t, PySem.W.nsIn K d "market" = some (some (.int 3 t))) ∧ (∃ t, PySem.W.nsIn K d "none" = some (some (.int 3 t))) ∧
    (∃ t, PySem.W.nsIn K d "one" = some (some (.int 4 t))) ∧ ∃ t, PySem.W.nsIn K d "same" = some (some (.int 4 t))
section
variable {P : Program} {w : World} {K : PySem.W.Frag} {mg : Str → Option Value} {base : Heap}
abbrev sCheckAsked : Stmt := top 17
def spAsked0 (K : PySem.W.Frag) : Sp := fun vs H Q _ => ∃ (a c : Addr) (zs ys : List Str), vs = [.ref a, .ref c] ∧ SqL K H a (zs.map V.str) ∧ SqT K H c (ys.map V.str) ∧ (∀ y ∈ ys, y ∈ zs) ∧ ∀ H', Same H H' → Q .non H'
theorem scAsked : FnScope ["names", "asked", "name"] ["names", "asked"] (defScope sCheckAsked) := ⟨rfl, rfl, rfl, by decide +kernel, rfl, by decide +kernel, by decide +kernel⟩
theorem strs_at {ys : List Str} {i : Nat} {x : V} (hx : (ys.map V.str)[i]? = some x) : ∃ z, ys[i]? = some z ∧ x = V.str z := by
  rw [List.getElem?_map] at hx
  cases e : ys[i]? with
  | none => rw [e] at hx; cases hx
  | some z => rw [e] at hx; exact ⟨z, rfl, (Option.some.inj hx).symm⟩
theorem ok_asked0 {f : Addr} {fd : FuncData} {k : Nat} (F : Fun K "check_asked" "check_asked" sCheckAsked f fd) : FnOk P w K mg base CX0 (k + 1) f fd ["names", "asked"] (spAsked0 K) := by
  refine F.ok scAsked (fun vs H Q E h => ?_) (fun cdv A outer s H vs Q E hr h => ?_)
  · obtain ⟨a, c, zs, ys, rfl, _⟩ := h
    rfl
  · obtain ⟨a, c, zs, ys, rfl, hS, hc, good, q⟩ := h
    refine ⟨_, pss_one (ps_for PassesOwn.never rfl (pi_tup (pv 1)) (pg_name (i := 2) scAsked.nd rfl (.inl rfl)) (pss_one (ps_if (pt_cmpR op_notIn_seq (pv 2) (pv 0) (by rfl)) (pss_one ps_never) pss_nil))), ?_⟩
    refine ⟨_, rfl, c, rfl, ⟨_, hc⟩, for_tup (K := K) (a := c) (xs := ys.map V.str) (fun i sl H2 => ∃ v2, sl = [some (.ref a), some (.ref c), v2] ∧ H2 = H)
      ⟨none, rfl, rfl⟩ (fun i sl H2 _ ⟨_, _, e⟩ => by rw [e]; exact hc) ?_ ?_⟩
    · rintro i x sl H2 hx ⟨v3, rfl, rfl⟩
      obtain ⟨z, hz, rfl⟩ := strs_at hx
      refine ⟨_, rfl, _, rfl, a, _, rfl, .inl hS, rfl, flat_strs _, _, rfl, ?_⟩
      rw [inV_str, decide_eq_true (good z (List.mem_of_getElem? hz))]
      exact iteF ⟨_, rfl, rfl⟩
    · rintro sl H2 ⟨v3, rfl, rfl⟩
      exact q _ (Same.refl _)
def spCheckNote (K : PySem.W.Frag) : Sp := fun vs H Q _ => ∃ (a t : Addr) (zs : List Str) (r : List V), vs = [.ref a, .ref t] ∧ SqL K H a (zs.map V.str) ∧ H t = some (.tup r) ∧ NoteR zs r ∧ ∀ H', Same H H' → Q .non H'
theorem scCheckNote : FnScope ["names", "note", "asked"] ["names", "note"] (defScope sCheckNote) := ⟨rfl, rfl, rfl, by decide +kernel, rfl, by decide +kernel, by decide +kernel⟩
theorem ok_checkNote {f fA : Addr} {fd fdA : FuncData} {k : Nat} (F : Fun K "check_note" "check_note" sCheckNote f fd) (FA : Fun K "check_asked" "check_asked" sCheckAsked fA fdA) (gA : mg "check_asked" = some (.ref fA)) (bA : Binds K fdA ["names", "asked"] []) (B : Blt mg) (TH : Things K w mg) : FnOk P w K mg base CX0 (k + 2) f fd ["names", "note"] (spCheckNote K) := by
  have GA : FnOk P w K mg base CX0 (k + 1) fA fdA ["names", "asked"] (spAsked0 K) := ok_asked0 FA
  refine F.ok scCheckNote (fun vs H Q E h => ?_) (fun cdv A outer s H vs Q E hr h => ?_)
  · obtain ⟨a, t, zs, r, rfl, _⟩ := h
    rfl
  · obtain ⟨a, t, zs, r, rfl, hS, hT, good, q⟩ := h
    obtain ⟨d, es, n, mT, D, ⟨t1, k1⟩, ⟨t2, k2⟩, ⟨t3, k3⟩, t4, k4⟩ := TH.at_
    have nd := scCheckNote.nd
    refine ⟨_, pss_cons (ps_if (PW.pt (pw_or (pt_not (pt_truth (pv 1) (by intro _; rfl))) (pw_or1 (pt_cmpR op_ne (pe_callB call_len_seq (by rfl) B.len PySem.boot_len (pa_cons (pv 1) pa_nil))
        (pe_kget D (pe_glob (v := .ref d) rfl mT rfl) (pe_ix ix_tup (pv 1) pe_int (fun _ _ => rfl)) ⟨by rfl, by rfl, by rfl, by rfl⟩) (nomark _))))) (pss_one ps_never) pss_nil)
      (pss_cons (ps_set (i := 2) nd rfl (.inl rfl) (pe_slice sl_tup (pv 1) (po_some pe_int) (po_some (pe_un un_neg pe_int))))
      (pss_cons (ps_expr (pe_call GA hr (by rfl) gA FA.kp bA .nil pass0 (pa_cons (pv 0) (pa_cons (pv 2) pa_nil))))
      (pss_cons (ps_if (PW.pt (pw_and (pt_cmpR op_eq (pe_callB call_len_seq (by rfl) B.len PySem.boot_len (pa_cons (pv 2) pa_nil)) pe_int (nomark _))
        (pw_and1 (pt_cmpR op_eq (pe_ix ix_tup (pv 2) pe_int (fun _ _ => rfl)) (pe_ix ix_tup (pv 2) pe_int (fun _ _ => rfl)) (nomark _))))) (pss_one ps_never) pss_nil)
      (pss_one (ps_if (pt_cmpR op_lt (pe_ix ix_tup (pv 1) (pe_un un_neg pe_int) (fun _ _ => rfl)) pe_int (nomark _)) (pss_one ps_never) pss_nil))))), ?_⟩
    have hq : SqT K H t r := .inl (.inl hT)
    have same : ∀ (c : Addr) (o : HO), H c = none → Same H (upd H c o) := fun c o nc b u z => by
      rw [upd_ne (ne_of_none z nc)]
      exact z
    rcases good with ⟨kind, z, day, er, hk, hz, d0, d1⟩ | ⟨kind, y, z, day, er, hk, hy, hz, hyz, d0, d1⟩
    · -- a note of one town
      subst er
      have hget : ∃ tk, PySem.W.nsIn K d kind = some (some (.int 3 tk)) := by
        rcases hk with e | e
        · exact ⟨t1, by rw [e]; exact k1⟩
        · exact ⟨t2, by rw [e]; exact k2⟩
      obtain ⟨tk, hget⟩ := hget
      refine ⟨_, rfl, true, .inr (.inl ⟨_, hq, rfl⟩), iteF ?_⟩
      refine ⟨_, rfl, t, _, rfl, .inr hq, rfl, _, rfl, t, _, 0, .str kind, rfl, rfl, hq, atI_nat (j := 0) rfl, kind, _, rfl, hget, (fun e => nomatch e), fun u0 e => ⟨.int 3, ⟨tk, (Option.some.inj e).symm⟩, rfl, _, rfl, iteNS rfl ?_⟩⟩
      refine ⟨_, rfl, 1, rfl, _, rfl, -1, rfl, t, _, rfl, hq, (by simp only [List.length_cons, List.length_nil]; decide), fun c nc => ?_⟩
      have s1 := same c (.tup (cutV [.str kind, .str z, .int day] (some 1) (some (-1)))) nc
      have hcT : (upd H c (.tup (cutV [.str kind, .str z, .int day] (some 1) (some (-1))))) c = some (.tup [.str z]) := by rw [upd_same]; rfl
      have hc : SqT K (upd H c (.tup (cutV [.str kind, .str z, .int day] (some 1) (some (-1))))) c [.str z] := .inl (.inl hcT)
      refine ⟨_, rfl, _, rfl, a, c, zs, [z], rfl, s1.seq hS, hc, fun y hy => by rw [List.mem_singleton.mp hy]; exact hz, fun H2 s2 => ?_⟩
      have hc : SqT K H2 c [.str z] := .inl (.inl (s2 _ _ hcT))
      have s1 := s1.trans s2
      · refine ⟨_, rfl, c, _, rfl, .inr hc, rfl, _, rfl, ?_⟩
        refine iteF ?_
        refine ⟨_, rfl, _, rfl, t, _, -1, .int day, rfl, rfl, .inl (.inl (s1 _ _ hT)), rfl, _, _, rfl, rfl, _, rfl, ?_⟩
        rw [decide_eq_false (show ¬ day < 0 by omega)]
        exact iteF (q _ s1)
    · -- a note of two
      subst er
      have hget : ∃ tk, PySem.W.nsIn K d kind = some (some (.int 4 tk)) := by
        rcases hk with e | e
        · exact ⟨t3, by rw [e]; exact k3⟩
        · exact ⟨t4, by rw [e]; exact k4⟩
      obtain ⟨tk, hget⟩ := hget
      refine ⟨_, rfl, true, .inr (.inl ⟨_, hq, rfl⟩), iteF ?_⟩
      refine ⟨_, rfl, t, _, rfl, .inr hq, rfl, _, rfl, t, _, 0, .str kind, rfl, rfl, hq, atI_nat (j := 0) rfl, kind, _, rfl, hget, (fun e => nomatch e), fun u0 e => ⟨.int 4, ⟨tk, (Option.some.inj e).symm⟩, rfl, _, rfl, iteNS rfl ?_⟩⟩
      refine ⟨_, rfl, 1, rfl, _, rfl, -1, rfl, t, _, rfl, hq, (by simp only [List.length_cons, List.length_nil]; decide), fun c nc => ?_⟩
      have s1 := same c (.tup (cutV [.str kind, .str y, .str z, .int day] (some 1) (some (-1)))) nc
      have hcT : (upd H c (.tup (cutV [.str kind, .str y, .str z, .int day] (some 1) (some (-1))))) c = some (.tup [.str y, .str z]) := by rw [upd_same]; rfl
      have hc : SqT K (upd H c (.tup (cutV [.str kind, .str y, .str z, .int day] (some 1) (some (-1))))) c [.str y, .str z] := .inl (.inl hcT)
      refine ⟨_, rfl, _, rfl, a, c, zs, [y, z], rfl, s1.seq hS, hc, fun x hx => ?_, fun H2 s2 => ?_⟩
      · rcases List.mem_cons.mp hx with e | e
        · rw [e]; exact hy
        · rw [List.mem_singleton.mp e]; exact hz
      have hc : SqT K H2 c [.str y, .str z] := .inl (.inl (s2 _ _ hcT))
      have s1 := s1.trans s2
      · refine ⟨_, rfl, c, _, rfl, .inr hc, rfl, _, rfl, ?_⟩
        refine iteT ?_
        refine ⟨_, rfl, c, _, 0, .str y, rfl, rfl, hc, atI_nat (j := 0) rfl, _, rfl, c, _, 1, .str z, rfl, rfl, hc, atI_nat (j := 1) rfl, rfl, _, rfl, ?_⟩
        rw [decide_eq_false (show ¬ V.str y = V.str z from fun e => hyz (V.str.inj e))]
        refine iteF ?_
        refine ⟨_, rfl, _, rfl, t, _, -1, .int day, rfl, rfl, .inl (.inl (s1 _ _ hT)), rfl, _, _, rfl, rfl, _, rfl, ?_⟩
        rw [decide_eq_false (show ¬ day < 0 by omega)]
        exact iteF (q _ s1)
end
end Md

namespace Md
open PySem PySem.Spec PyProof.Rows L2
abbrev sInit : Stmt := inClass sDiary 0
abbrev sGetTowns : Stmt := inClass sDiary 1
abbrev sGetNotes : Stmt := inClass sDiary 2
abbrev sNames : Stmt := inClass sDiary 3
abbrev sLen : Stmt := inClass sDiary 6
/-- a diary's attributes -/
def flds (a b : Addr) : List (Str × V) := [("_towns", .ref a), ("_notes", .ref b)]
/-- a diary stands at m, its own lists at a and b -/
structure DiaryAt (C : Addr) (H : Hp) (m dx a b : Addr) (ts ns : List (List V)) : Prop where
  ob : H m = some (.ins C dx (flds a b))
  towns : Rows H a ts
  notes : Rows H b ns
theorem DiaryAt.same {C : Addr} {H H' : Hp} {m dx a b : Addr} {ts ns : List (List V)} (D : DiaryAt C H m dx a b ts ns) (s : Same H H') : DiaryAt C H' m dx a b ts ns :=
  ⟨s _ _ D.ob, D.towns.same s, D.notes.same s⟩
theorem DiaryAt.keep {C : Addr} {H H' : Hp} {m dx a b p : Addr} {ts ns : List (List V)} {c : Nat} (D : DiaryAt C H m dx a b ts ns) (hp : PurseAt H p c) (s : Keep p H H') : DiaryAt C H' m dx a b ts ns :=
  ⟨s _ _ D.ob (fun e => by
    obtain ⟨p0, p1, p2, e1, _⟩ := hp
    have z := D.ob
    rw [e, e1] at z
    cases z), D.towns.keep hp s, D.notes.keep hp s⟩
/-- what is asked of the class -/
structure Cl (K : PySem.W.Frag) (C : Addr) : Prop where
  cl : Cls K C
  nT : NoAttr K C "_towns"
  nN : NoAttr K C "_notes"
theorem rows_copy {H : Hp} {as : List Addr} {rs : List (List V)} {q : Addr} (h : Paired (fun b r => H b = some (.tup r)) as rs) (n : H q = none) : Rows (upd H q (.lst (as.map V.ref))) q rs :=
  ⟨as, upd_same, paired_imp h fun b r z => by rw [upd_ne (ne_of_none z n)]; exact z⟩
theorem rows_ref {as : List Addr} {rs : List (List V)} {H : Hp} (h : Paired (fun b r => H b = some (.tup r)) as rs) {i : Nat} {x : V} (hx : (as.map V.ref)[i]? = some x) : ∃ b r, x = .ref b ∧ rs[i]? = some r ∧ H b = some (.tup r) := by
  have hi : i < rs.length := by
    have z := (List.getElem?_eq_some_iff.mp hx).1
    rw [List.length_map, paired_len h] at z
    exact z
  have hr : rs[i]? = some rs[i] := List.getElem?_eq_getElem hi
  obtain ⟨b, hb, hbr⟩ := paired_get h i rs[i] hr
  refine ⟨b, rs[i], ?_, hr, hbr⟩
  rw [List.getElem?_map, hb] at hx
  exact (Option.some.inj hx).symm
theorem flds_put {a b : Addr} : putF "_notes" (.ref b) (putF "_towns" (.ref a) []) = flds a b := by
  show (if ("_towns" : Str) = "_notes" then _ else (("_towns" : Str), V.ref a) :: putF "_notes" (.ref b) []) = _
  rw [if_neg (by decide +kernel)]
  rfl
section
variable {P : Program} {w : World} {K : PySem.W.Frag} {mg : Str → Option Value} {base : Heap}
def spInit (C : Addr) : Sp := fun vs H Q _ => ∃ (p dx t n : Addr) (ts ns : List (List V)), vs = [.ref p, .ref t, .ref n] ∧ H p = some (.ins C dx []) ∧ Rows H t ts ∧ Rows H n ns ∧
  (∀ r ∈ ts, TownR r) ∧ (ts.map nameOf).Nodup ∧ (∀ r ∈ ns, NoteR (ts.map nameOf) r) ∧ ts.length ≤ 100 ∧ ns.length ≤ 100 ∧
  ∀ a b H', H a = none → H b = none → DiaryAt C H' p dx a b ts ns → Keep p H H' → Q .non H'
theorem scInit : FnScope ["self", "towns", "notes", "names", "note", "town"] ["self", "towns", "notes"] (defScope sInit) := ⟨rfl, rfl, rfl, by decide +kernel, rfl, by decide +kernel, by decide +kernel⟩
theorem ok_init {f C fT fN : Addr} {fd fdT fdN : FuncData} {k : Nat} (F : Fun K "__init__" "Diary.__init__" sInit f fd) (cl : Cl K C) (B : Blt mg)
    (GT : FnOk P w K mg base CX0 (k + 2) fT fdT ["towns"] (spCheckTowns K)) (gT : mg "check_towns" = some (.ref fT)) (kT : PySem.W.keepIn K (.ref fT) = true) (bT : Binds K fdT ["towns"] [])
    (GN : FnOk P w K mg base CX0 (k + 2) fN fdN ["names", "note"] (spCheckNote K)) (gN : mg "check_note" = some (.ref fN)) (kN : PySem.W.keepIn K (.ref fN) = true) (bN : Binds K fdN ["names", "note"] []) :
    FnOk P w K mg base CX0 (k + 3) f fd ["self", "towns", "notes"] (spInit C) := by
  refine F.ok scInit (fun vs H Q E h => ?_) (fun cdv A outer s H vs Q E hr h => ?_)
  · obtain ⟨p, dx, t, n, ts, ns, rfl, _⟩ := h
    rfl
  · obtain ⟨p, dx, t, n, ts, ns, rfl, hp, ⟨tas, ht, hts⟩, ⟨nas, hn, hns⟩, goodT, nodup, goodN, fewT, fewN, q⟩ := h
    have nd := scInit.nd
    refine ⟨_, pss_cons (ps_expr (pe_call GT hr (by rfl) gT kT bT .nil pass0 (pa_cons (pv 1) pa_nil)))
      (pss_cons (ps_setLc (i := 3) (own := [("town", 5)]) (g := gName 5) (tt := tYes) rfl nd rfl rfl (sw_true rfl rfl rfl (by decide +kernel)) (pi_list (pv 1)) (blkOk_by (N := ["self", "towns", "notes", "names", "note", "town"]) (sc := defScope sInit) (by decide +kernel))
        (fun _ _ _ _ _ => pg_name (i := 5) nd rfl (.inl rfl)) (fun _ _ _ _ _ => pts_nil) (fun _ _ _ _ _ => pe_ix (r := rIxT K) ix_tup (pv 5) pe_int (fun _ _ => rfl)))
      (pss_cons (ps_for PassesOwn.never rfl (pi_list (pv 2)) (pg_name (i := 4) nd rfl (.inl rfl)) (pss_one (ps_expr (pe_call GN hr (by rfl) gN kN bN .nil pass0 (pa_cons (pv 3) (pa_cons (pv 4) pa_nil))))))
      (pss_cons (ps_fld (pv 0) (pe_callTy call_list_of (by rfl) B.list (by decide +kernel) (pa_cons (pv 1) pa_nil)) rfl)
      (pss_one (ps_fld (pv 0) (pe_callTy call_list_of (by rfl) B.list (by decide +kernel) (pa_cons (pv 2) pa_nil)) rfl))))), ?_⟩
    -- check_towns(towns)
    refine ⟨_, rfl, t, ts, rfl, ⟨tas, .inl (.inl ht), hts⟩, goodT, nodup, fewT, fun H1 s1 => ?_⟩
    -- names
    have ln : tas.length = ts.length := paired_len hts
    refine ⟨_, rfl, t, rfl, ⟨_, .inl (.inl (s1 _ _ ht))⟩, fun D nD => ?_⟩
    refine lcp_list (K := K) (a := t) (xs := tas.map V.ref) (ys := (ts.map nameOf).map V.str) (.inl (.inl (s1 _ _ ht))) nD (by rw [List.length_map, List.length_map, List.length_map, ln]) (by rw [List.length_map, ln]; exact small1000 (by omega)) (fun i x y R hx hy r => ?_) ?_
    · obtain ⟨b, rw_, ex, hr1, hb⟩ := rows_ref hts hx
      subst ex
      obtain ⟨z, lo, hi, er, _⟩ := goodT rw_ (List.mem_of_getElem? hr1)
      have ey : y = V.str z := by
        rw [List.getElem?_map, List.getElem?_map, hr1, er] at hy
        exact (Option.some.inj hy).symm
      subst ey
      subst er
      refine ⟨rfl, _, rfl, b, [.str z, .int lo, .int hi], 0, .str z, rfl, rfl, .inl (.inl ?_), atI_nat (j := 0) rfl, r⟩
      unfold grown
      rw [upd_ne (ne_of_none (s1 _ _ hb) nD)]
      exact s1 _ _ hb
    · -- each note
      have s2 : Same H (upd H1 D (.lst ((ts.map nameOf).map V.str))) := fun b o z => by
        rw [upd_ne (ne_of_none (s1 _ _ z) nD)]
        exact s1 _ _ z
      have ln2 : nas.length = ns.length := paired_len hns
      refine ⟨_, rfl, n, rfl, ⟨_, .inl (.inl (s2 _ _ hn))⟩, for_list (K := K) (a := n) (xs := nas.map V.ref) (fun i sl H2 => ∃ v4 v5, sl = [some (.ref p), some (.ref t), some (.ref n), some (.ref D), v4, v5] ∧ Same H H2 ∧ H2 D = some (.lst ((ts.map nameOf).map V.str)))
        ⟨none, none, rfl, s2, upd_same⟩ (fun i sl H2 _ ⟨_, _, _, sm, _⟩ => .inl (.inl (sm _ _ hn))) ?_ ?_⟩
      · rintro i x sl H2 hx ⟨v4, v5, rfl, sm, hD⟩
        obtain ⟨b, rw_, ex, hr1, hb⟩ := rows_ref hns hx
        subst ex
        exact ⟨_, rfl, _, rfl, D, b, _, rw_, rfl, .inl (.inl hD), sm _ _ hb, goodN rw_ (List.mem_of_getElem? hr1), fun H3 s3 => ⟨_, _, rfl, sm.trans s3, s3 _ _ hD⟩⟩
      · rintro sl H2 ⟨v4, v5, rfl, sm, hD⟩
        -- the two lists
        have hp2 := sm _ _ hp
        refine ⟨_, rfl, t, _, rfl, .inl (.inl (.inl (sm _ _ ht))), fun a na => ?_⟩
        have npa : p ≠ a := ne_of_none hp2 na
        refine ⟨_, rfl, p, C, dx, [], rfl, (by rw [upd_ne npa]; exact hp2), cl.cl, cl.nT, (by show 0 < 1000; decide), ?_⟩
        have hn2 := sm _ _ hn
        have h3 : ∀ (c : Addr) (o : HO), H2 c = some o → c ≠ p → upd (upd H2 a (.lst (tas.map V.ref))) p (.ins C dx (putF "_towns" (.ref a) [])) c = some o := fun c o z ne => by
          rw [upd_ne ne, upd_ne (ne_of_none z na)]
          exact z
        have nnp : n ≠ p := ne_of hn2 hp2 (by intro z; cases z)
        have nap : a ≠ p := fun e => npa e.symm
        refine ⟨_, rfl, n, _, rfl, .inl (.inl (.inl (h3 _ _ hn2 nnp))), fun b nb => ?_⟩
        have nbp : b ≠ p := fun e => by rw [e, upd_same] at nb; cases nb
        have nba : b ≠ a := fun e => by rw [e, upd_ne nap, upd_same] at nb; cases nb
        have nb2 : H2 b = none := by rw [upd_ne nbp, upd_ne nba] at nb; exact nb
        refine ⟨_, rfl, p, C, dx, putF "_towns" (.ref a) [], rfl, (by rw [upd_ne (fun e => nbp e.symm), upd_same]), cl.cl, cl.nN, (by show 1 < 1000; decide), ?_⟩
        rw [flds_put]
        refine q a b _ (sm.free na) (sm.free nb2) ⟨upd_same, ?_, ?_⟩ ?_
        · refine ⟨tas, ?_, paired_imp hts fun c r z => ?_⟩
          · rw [upd_ne nap, upd_ne (fun e => nba e.symm), upd_ne nap, upd_same]
          · have zp : c ≠ p := ne_of z hp (by intro z; cases z)
            rw [upd_ne zp, upd_ne (ne_of_none (h3 c _ (sm _ _ z) zp) nb)]
            exact h3 c _ (sm _ _ z) zp
        · refine ⟨nas, ?_, paired_imp hns fun c r z => ?_⟩
          · rw [upd_ne nbp, upd_same]
          · have zp : c ≠ p := ne_of z hp (by intro z; cases z)
            rw [upd_ne zp, upd_ne (ne_of_none (h3 c _ (sm _ _ z) zp) nb)]
            exact h3 c _ (sm _ _ z) zp
        · intro c o z ne
          rw [upd_ne ne, upd_ne (ne_of_none (h3 c _ (sm _ _ z) ne) nb)]
          exact h3 c _ (sm _ _ z) ne
end
end Md

namespace Md
open PySem PySem.Spec PyProof.Rows L2
theorem look_t {a b : Addr} : (flds a b).lookup ("_towns" : Str) = some (.ref a) := by rfl
theorem look_n {a b : Addr} : (flds a b).lookup ("_notes" : Str) = some (.ref b) := by rfl
section
variable {P : Program} {w : World} {K : PySem.W.Frag} {mg : Str → Option Value} {base : Heap}
def spTowns (C : Addr) : Sp := fun vs H Q _ => ∃ (m dx a b : Addr) (ts ns : List (List V)), vs = [.ref m] ∧ DiaryAt C H m dx a b ts ns ∧ ∀ q H', H q = none → Rows H' q ts → Same H H' → Q (.ref q) H'
def spNotes (C : Addr) : Sp := fun vs H Q _ => ∃ (m dx a b : Addr) (ts ns : List (List V)), vs = [.ref m] ∧ DiaryAt C H m dx a b ts ns ∧ ∀ q H', H q = none → Rows H' q ns → Same H H' → Q (.ref q) H'
def spNames (C : Addr) : Sp := fun vs H Q _ => ∃ (m dx a b : Addr) (ts ns : List (List V)), vs = [.ref m] ∧ DiaryAt C H m dx a b ts ns ∧ (∀ r ∈ ts, TownR r) ∧ ts.length ≤ 100 ∧
  ∀ q H', H q = none → H' q = some (.lst ((ts.map nameOf).map V.str)) → Same H H' → Q (.ref q) H'
def spLen (C : Addr) : Sp := fun vs H Q _ => ∃ (m dx a b : Addr) (ts ns : List (List V)), vs = [.ref m] ∧ DiaryAt C H m dx a b ts ns ∧ Q (.int ns.length) H
theorem sc1 {st : Stmt} (h : FnScope ["self"] ["self"] (defScope st)) : FnScope ["self"] ["self"] (defScope st) := h
theorem scGT : FnScope ["self"] ["self"] (defScope sGetTowns) := ⟨rfl, rfl, rfl, by decide +kernel, rfl, by decide +kernel, by decide +kernel⟩
theorem scGN : FnScope ["self"] ["self"] (defScope sGetNotes) := ⟨rfl, rfl, rfl, by decide +kernel, rfl, by decide +kernel, by decide +kernel⟩
theorem scNames : FnScope ["self", "town"] ["self"] (defScope sNames) := ⟨rfl, rfl, rfl, by decide +kernel, rfl, by decide +kernel, by decide +kernel⟩
theorem scLen : FnScope ["self"] ["self"] (defScope sLen) := ⟨rfl, rfl, rfl, by decide +kernel, rfl, by decide +kernel, by decide +kernel⟩
theorem ok_towns {f C : Addr} {fd : FuncData} {k : Nat} (F : Fun K "towns" "Diary.towns" sGetTowns f fd) (cl : Cl K C) (B : Blt mg) : FnOk P w K mg base CX0 (k + 1) f fd ["self"] (spTowns C) := by
  refine F.ok scGT (fun vs H Q E h => ?_) (fun cdv A outer s H vs Q E hr h => ?_)
  · obtain ⟨m, dx, a, b, ts, ns, rfl, _⟩ := h
    rfl
  · obtain ⟨m, dx, a, b, ts, ns, rfl, D, q⟩ := h
    obtain ⟨as, h1, h2⟩ := D.towns
    refine ⟨_, pss_one (ps_ret (pe_callTy call_list_of (by rfl) B.list (by decide +kernel) (pa_cons (pe_fld (pv 0) rfl) pa_nil))), ?_⟩
    refine ⟨_, rfl, m, C, dx, _, _, rfl, D.ob, cl.cl, cl.nT, look_t, a, _, rfl, .inl (.inl (.inl h1)), fun c nc => ?_⟩
    exact q c _ nc (rows_copy h2 nc) fun x o z => by rw [upd_ne (ne_of_none z nc)]; exact z
theorem ok_notes {f C : Addr} {fd : FuncData} {k : Nat} (F : Fun K "notes" "Diary.notes" sGetNotes f fd) (cl : Cl K C) (B : Blt mg) : FnOk P w K mg base CX0 (k + 1) f fd ["self"] (spNotes C) := by
  refine F.ok scGN (fun vs H Q E h => ?_) (fun cdv A outer s H vs Q E hr h => ?_)
  · obtain ⟨m, dx, a, b, ts, ns, rfl, _⟩ := h
    rfl
  · obtain ⟨m, dx, a, b, ts, ns, rfl, D, q⟩ := h
    obtain ⟨as, h1, h2⟩ := D.notes
    refine ⟨_, pss_one (ps_ret (pe_callTy call_list_of (by rfl) B.list (by decide +kernel) (pa_cons (pe_fld (pv 0) rfl) pa_nil))), ?_⟩
    refine ⟨_, rfl, m, C, dx, _, _, rfl, D.ob, cl.cl, cl.nN, look_n, b, _, rfl, .inl (.inl (.inl h1)), fun c nc => ?_⟩
    exact q c _ nc (rows_copy h2 nc) fun x o z => by rw [upd_ne (ne_of_none z nc)]; exact z
theorem ok_names {f C : Addr} {fd : FuncData} {k : Nat} (F : Fun K "names" "Diary.names" sNames f fd) (cl : Cl K C) (B : Blt mg) : FnOk P w K mg base CX0 (k + 1) f fd ["self"] (spNames C) := by
  refine F.ok scNames (fun vs H Q E h => ?_) (fun cdv A outer s H vs Q E hr h => ?_)
  · obtain ⟨m, dx, a, b, ts, ns, rfl, _⟩ := h
    rfl
  · obtain ⟨m, dx, a, b, ts, ns, rfl, D, good, few, q⟩ := h
    obtain ⟨as, h1, h2⟩ := D.towns
    have ln : as.length = ts.length := paired_len h2
    refine ⟨_, pss_one (ps_ret (pe_lc (own := [("town", 1)]) (g := gName 1) (tt := tYes) rfl scNames.nd (pi_list (pe_fld (pv 0) rfl)) (blkOk_by (N := ["self", "town"]) (sc := defScope sNames) (by decide +kernel))
        (fun _ _ _ _ _ => pg_name (i := 1) scNames.nd rfl (.inl rfl)) (fun _ _ _ _ _ => pts_nil) (fun _ _ _ _ _ => pe_ix (r := rIxT K) ix_tup (pv 1) pe_int (fun _ _ => rfl)))), ?_⟩
    refine ⟨_, rfl, m, C, dx, _, _, rfl, D.ob, cl.cl, cl.nT, look_t, a, rfl, ⟨_, .inl (.inl h1)⟩, fun c nc => ?_⟩
    refine lcp_list (K := K) (a := a) (xs := as.map V.ref) (ys := (ts.map nameOf).map V.str) (.inl (.inl h1)) nc (by rw [List.length_map, List.length_map, List.length_map, ln]) (by rw [List.length_map, ln]; exact small1000 (by omega)) (fun i x y R hx hy r => ?_) ?_
    · obtain ⟨b2, row, ex, hr1, hb⟩ := rows_ref h2 hx
      subst ex
      obtain ⟨z, lo, hi, er, _⟩ := good row (List.mem_of_getElem? hr1)
      have ey : y = V.str z := by
        rw [List.getElem?_map, List.getElem?_map, hr1, er] at hy
        exact (Option.some.inj hy).symm
      subst ey
      subst er
      refine ⟨rfl, _, rfl, b2, [.str z, .int lo, .int hi], 0, .str z, rfl, rfl, .inl (.inl ?_), atI_nat (j := 0) rfl, r⟩
      unfold grown
      rw [upd_ne (ne_of_none hb nc)]
      exact hb
    · exact q c _ nc upd_same fun x o z => by rw [upd_ne (ne_of_none z nc)]; exact z
theorem ok_len {f C : Addr} {fd : FuncData} {k : Nat} (F : Fun K "__len__" "Diary.__len__" sLen f fd) (cl : Cl K C) (B : Blt mg) : FnOk P w K mg base CX0 (k + 1) f fd ["self"] (spLen C) := by
  refine F.ok scLen (fun vs H Q E h => ?_) (fun cdv A outer s H vs Q E hr h => ?_)
  · obtain ⟨m, dx, a, b, ts, ns, rfl, _⟩ := h
    rfl
  · obtain ⟨m, dx, a, b, ts, ns, rfl, D, q⟩ := h
    obtain ⟨as, h1, h2⟩ := D.notes
    refine ⟨_, pss_one (ps_ret (pe_callB call_len_seq (by rfl) B.len PySem.boot_len (pa_cons (pe_fld (pv 0) rfl) pa_nil))), ?_⟩
    refine ⟨_, rfl, m, C, dx, _, _, rfl, D.ob, cl.cl, cl.nN, look_n, b, _, rfl, .inl (.inl (.inl h1)), ?_⟩
    rw [List.length_map, paired_len h2]
    exact q
end
end Md

namespace Md
open PySem PySem.Spec PyProof.Rows L2
abbrev sg (z : Str) : List Nat := z.cps.toList
theorem sg_len (z : Str) : (sg z).length = z.length := by
  show z.cps.toList.length = z.cps.size
  exact Array.length_toList
theorem str_ext {x y : Str} (h : sg x = sg y) : x = y := Str.ext' (Array.toList_inj.mp h)
theorem sg_app (x y : Str) : sg (x ++ y) = sg x ++ sg y := by
  show (x.cps ++ y.cps).toList = _
  simp
/-- nothing but letters -/
def LetS (z : Str) : Prop := ∀ c ∈ sg z, letB c = true
theorem LetS.name {z : Str} (h : LetS z) (h1 : 1 ≤ z.length) (h2 : z.length ≤ 8) : nameB z = true := by
  unfold nameB
  rw [decide_eq_true (show (1 : Int) ≤ z.length by omega), decide_eq_true (show (z.length : Int) ≤ 8 by omega)]
  have e : (z.cps.toList.map letB).all id = true := by
    rw [List.all_eq_true]
    intro b hb
    obtain ⟨c, hc, e⟩ := List.mem_map.mp hb
    rw [← e]
    exact h c hc
  rw [e]
  rfl
theorem LetS.app {x y : Str} (h : LetS x) (k : LetS y) : LetS (x ++ y) := by
  intro c hc
  rw [sg_app, List.mem_append] at hc
  exact hc.elim (h c) (k c)
theorem app_len (x y : Str) : (x ++ y).length = x.length + y.length := by
  rw [← sg_len, sg_app, List.length_append, sg_len, sg_len]
theorem LetS.cut {z : Str} (h : LetS z) (lo hi : Option Int) : LetS (cutS z lo hi) := by
  intro c hc
  have m : c ∈ (z.cps.toList.drop (HT.sIx z.length 0 lo)).take (HT.sIx z.length z.length hi - HT.sIx z.length 0 lo) := by
    unfold cutS at hc
    simpa using hc
  exact h c (List.mem_of_mem_drop (List.mem_of_mem_take m))
theorem sg_cut_to (z : Str) (n : Nat) (h : n ≤ z.length) : sg (cutS z none (some (n : Int))) = (sg z).take n := by
  show ((z.cps.toList.drop (HT.sIx z.length 0 none)).take (HT.sIx z.length z.length (some (n : Int)) - HT.sIx z.length 0 none)).toArray.toList = _
  rw [HT.sIx_none, HT.sIx_nat]
  simp [Nat.min_eq_left h]
theorem sg_cut_from (z : Str) (n : Nat) (h : n ≤ z.length) : sg (cutS z (some (n : Int)) none) = (sg z).drop n := by
  show ((z.cps.toList.drop (HT.sIx z.length 0 (some (n : Int)))).take (HT.sIx z.length z.length none - HT.sIx z.length 0 (some (n : Int)))).toArray.toList = _
  rw [HT.sIx_none, HT.sIx_nat, Nat.min_eq_left h]
  have e : (z.cps.toList.drop n).length = z.length - n := by rw [List.length_drop, ← sg_len]
  show (z.cps.toList.drop n).take (z.length - n) = z.cps.toList.drop n
  rw [← e, List.take_length]
theorem join_sg : ∀ ys : List Str, sg (Str.join Str.empty ys) = (ys.map sg).flatten
  | [] => rfl
  | [y] => by
    show sg y = [sg y].flatten
    simp
  | x :: y :: r => by
    have ih := join_sg (y :: r)
    have e : Str.join Str.empty (x :: y :: r) = x ++ Str.empty ++ Str.join Str.empty (y :: r) := rfl
    rw [e, sg_app, sg_app, ih]
    simp [Str.empty]
/-- one sign -/
abbrev one (c : Nat) : Str := ⟨#[c]⟩
theorem join_ones (cs : List Nat) : sg (Str.join Str.empty (cs.map one)) = cs := by
  rw [join_sg, List.map_map]
  induction cs with
  | nil => rfl
  | cons c r ih =>
    rw [List.map_cons, List.flatten_cons, ih]
    rfl
abbrev alphabet : Str := "abcdefghijklmnopqrstuvwxyz"
theorem alpha_len : (sg alphabet).length = 26 := by decide +kernel
theorem alpha_let {i c : Nat} (h : (sg alphabet)[i]? = some c) : letB c = true := decide_eq_true (List.mem_of_getElem? h)
theorem alpha_nodup : (sg alphabet).Nodup := by decide +kernel
end Md

namespace Md
open PySem PySem.Spec PyProof.Rows L2
/-- right names -/
def NamesR (zs : List Str) (m : Nat) : Prop := zs.length = m ∧ zs.Nodup ∧ ∀ z ∈ zs, nameB z = true ∧ z.length ≤ 8
abbrev menuS : List Str := ["market", "none", "one", "same", "by", "ulm", "wien", "bonn", "a", "b", "turn", "first", "town", "day"]
theorem ones_sum : ∀ cs : List Nat, (List.map (fun x => x.length) (List.map one cs)).sum = cs.length
  | [] => rfl
  | c :: r => by
    have ih := ones_sum r
    rw [List.map_cons, List.map_cons, List.sum_cons, ih, List.length_cons]
    show 1 + r.length = r.length + 1
    omega
theorem nodup_by {α β : Type} (f : α → β) {xs : List α} (h : (xs.map f).Nodup) : xs.Nodup := by
  unfold List.Nodup at h ⊢
  rw [List.pairwise_map] at h
  exact h.imp fun ne e => ne (by rw [e])
theorem range_nodup {β : Type} (f : Nat → β) (n : Nat) (h : ∀ i j, i < n → j < n → f i = f j → i = j) : ((List.range n).map f).Nodup := by
  unfold List.Nodup
  rw [List.pairwise_map, List.pairwise_iff_getElem]
  intro i j hi hj hij e
  rw [List.length_range] at hi hj
  rw [List.getElem_range, List.getElem_range] at e
  have z := h i j hi hj e
  omega
/-- the menu in steps of three -/
abbrev menuAt (s i : Nat) : Str := menuS.getD ((s + 3 * i) % 14) Str.empty
theorem menu_all : ∀ s, s < 14 → (∀ i, i < 14 → ∀ j, j < 14 → menuAt s i = menuAt s j → i = j) ∧ ∀ i, i < 14 → nameB (menuAt s i) = true ∧ (menuAt s i).length ≤ 8 := by decide +kernel
theorem names_menu {s m : Nat} (hs : s < 14) (hm : m ≤ 14) : NamesR ((List.range m).map (menuAt s)) m := by
  obtain ⟨h1, h2⟩ := menu_all s hs
  refine ⟨by rw [List.length_map, List.length_range], range_nodup _ _ fun i j hi hj e => h1 i (by omega) j (by omega) e, fun z hz => ?_⟩
  obtain ⟨i, hi, e⟩ := List.mem_map.mp hz
  rw [List.mem_range] at hi
  rw [← e]
  exact h2 i (by omega)
theorem menu_get {s i : Nat} : (menuS.map V.str)[(s + 3 * i) % 14]? = some (V.str (menuAt s i)) := by
  have h : (s + 3 * i) % 14 < menuS.length := Nat.mod_lt _ (by decide)
  rw [List.getElem?_map, List.getElem?_eq_getElem h]
  show _ = some (V.str (menuS.getD _ _))
  rw [List.getD_eq_getElem?_getD, List.getElem?_eq_getElem h]
  rfl
theorem menu_let : ∀ z ∈ menuS, LetS z := by
  have h : ∀ z ∈ menuS, ∀ c ∈ z.cps.toList, letB c = true := by decide +kernel
  exact h
theorem cut_to_len {z : Str} {n : Nat} (h : n ≤ z.length) : (cutS z none (some (n : Int))).length = n := by
  rw [← sg_len, sg_cut_to z n h, List.length_take, sg_len]
  omega
theorem cut_to_le (z : Str) (n : Nat) : (cutS z none (some (n : Int))).length ≤ n := by
  show ((z.cps.toList.drop (HT.sIx z.length 0 none)).take (HT.sIx z.length z.length (some (n : Int)) - HT.sIx z.length 0 none)).toArray.size ≤ n
  rw [HT.sIx_none, HT.sIx_nat]
  simp
  omega
/-- beginnings of one text -/
theorem names_stem {stem : Str} (h : LetS stem) (l8 : stem.length = 8) {s m : Nat} (hm : s + m ≤ 8) : NamesR ((List.range m).map fun i : Nat => cutS stem none (some ((s : Int) + (i : Nat) + 1))) m := by
  have e : ∀ i : Nat, ((s : Int) + i + 1) = ((s + i + 1 : Nat) : Int) := fun i => by omega
  refine ⟨by rw [List.length_map, List.length_range], nodup_by (fun z : Str => z.length) ?_, fun z hz => ?_⟩
  · rw [List.map_map]
    refine range_nodup _ _ fun i j hi hj q => ?_
    dsimp only [Function.comp] at q
    rw [e, e, cut_to_len (by omega), cut_to_len (by omega)] at q
    omega
  · obtain ⟨i, hi, q⟩ := List.mem_map.mp hz
    rw [List.mem_range] at hi
    subst q
    have l := @cut_to_len stem (s + i + 1) (by omega)
    rw [← e] at l
    exact ⟨(h.cut _ _).name (by omega) (by omega), by omega⟩
/-- the sign of the alphabet -/
abbrev alphaAt (i : Nat) : Nat := (sg alphabet).getD (i % 26) 0
theorem alphaAt_get (i : Nat) : (sg alphabet)[i % 26]? = some (alphaAt i) := by
  have h : i % 26 < (sg alphabet).length := by rw [alpha_len]; exact Nat.mod_lt _ (by decide)
  show _ = some ((sg alphabet).getD (i % 26) 0)
  rw [List.getD_eq_getElem?_getD, List.getElem?_eq_getElem h]
  rfl
theorem alphaAt_inj {i j : Nat} (h : alphaAt i = alphaAt j) : i % 26 = j % 26 := by
  have a := alphaAt_get i
  have b := alphaAt_get j
  rw [h] at a
  exact (List.getElem?_inj (by rw [alpha_len]; exact Nat.mod_lt _ (by decide)) alpha_nodup).mp (a.trans b.symm)
theorem LetS.one {i : Nat} : LetS (one (alphaAt i)) := fun c hc => by
  have e : c = alphaAt i := List.mem_singleton.mp hc
  rw [e]
  exact alpha_let (alphaAt_get i)
/-- one text, another letter in one place each time -/
abbrev spotted (tail : Str) (spot : Nat) (i : Nat) : Str := cutS tail none (some (spot : Int)) ++ one (alphaAt i) ++ cutS tail (some (spot : Int)) none
theorem spotted_sg {tail : Str} {spot i : Nat} (h : spot ≤ tail.length) : sg (spotted tail spot i) = (sg tail).take spot ++ [alphaAt i] ++ (sg tail).drop spot := by
  show sg (cutS tail none (some (spot : Int)) ++ one (alphaAt i) ++ cutS tail (some (spot : Int)) none) = _
  rw [sg_app, sg_app, sg_cut_to _ _ h, sg_cut_from _ _ h]
theorem names_spot {tail : Str} (ht : LetS tail) (l : tail.length ≤ 7) {spot s m : Nat} (h : spot ≤ tail.length) (hm : m ≤ 26) : NamesR ((List.range m).map fun i => spotted tail spot (s + i)) m := by
  refine ⟨by rw [List.length_map, List.length_range], nodup_by (fun z : Str => (sg z)[spot]?) ?_, fun z hz => ?_⟩
  · rw [List.map_map]
    refine range_nodup _ _ fun i j hi hj q => ?_
    dsimp only [Function.comp] at q
    rw [spotted_sg h, spotted_sg h] at q
    have lt : ((sg tail).take spot).length = spot := by rw [List.length_take, sg_len]; omega
    have g : ∀ c : Nat, ((sg tail).take spot ++ [c] ++ (sg tail).drop spot)[spot]? = some c := by
      intro c
      rw [List.append_assoc, List.getElem?_append_right (by omega), lt, Nat.sub_self]
      rfl
    rw [g, g] at q
    have z := alphaAt_inj (Option.some.inj q)
    omega
  · obtain ⟨i, hi, q⟩ := List.mem_map.mp hz
    subst q
    have e : (spotted tail spot (s + i)).length = tail.length + 1 := by
      rw [← sg_len, spotted_sg h, List.length_append, List.length_append, List.length_take, List.length_drop, sg_len]
      simp
      omega
    have ls : LetS (spotted tail spot (s + i)) := ((ht.cut _ _).app .one).app (ht.cut _ _)
    exact ⟨ls.name (by omega) (by omega), by show (spotted tail spot (s + i)).length ≤ 8; omega⟩
theorem names_met {zs : List Str} {m : Nat} (good : ∀ z ∈ zs, LetS z ∧ 1 ≤ z.length ∧ z.length ≤ 8) (le : zs.length ≤ m) (e : unlike zs zs.length = m) : NamesR zs m := by
  have l := unlike_le zs zs.length
  have nd := unlike_full zs zs.length (Nat.le_refl _) (by omega)
  rw [List.take_length] at nd
  exact ⟨by omega, nd, fun z hz => ⟨(good z hz).1.name (good z hz).2.1 (good z hz).2.2, (good z hz).2.2⟩⟩
end Md

namespace Md
open PySem PySem.Spec PyProof.Rows L2
abbrev sWords : Stmt := top 35
section
variable {P : Program} {w : World} {K : PySem.W.Frag} {mg : Str → Option Value} {base : Heap}
/-- what callers need of the draws' def -/
structure CoinAt (P : Program) (w : World) (K : PySem.W.Frag) (mg : Str → Option Value) (base : Heap) (f : Addr) (fd : FuncData) : Prop where
  ok : ∀ k, FnOk P w K mg base CX0 (k + 1) f fd ["purse", "many"] spCoin
  mg : mg "_law_coin" = some (.ref f)
  kp : PySem.W.keepIn K (.ref f) = true
  b : Binds K fd ["purse", "many"] []
def spWords : Sp := fun vs H Q _ => ∃ (p : Addr) (c m : Nat), vs = [.ref p, .int m] ∧ PurseAt H p c ∧ c ≤ 900000 ∧ m ≤ 20 ∧
  ∀ (zs : List Str) q H', NamesR zs m → H q = none → H' q = some (.lst (zs.map V.str)) → PurseAt H' p (c + 400) → Keep p H H' → Q (.ref q) H'
abbrev nWords : List Str := ["purse", "many", "letters", "sort_here", "menu", "stem", "start", "found", "size", "base", "word", "tail", "spot_here", "letter_here", "rank", "turn"]
theorem scWords : FnScope nWords ["purse", "many"] (defScope sWords) := ⟨rfl, rfl, rfl, by decide +kernel, rfl, by decide +kernel, by decide +kernel⟩
abbrev ws (p : Addr) (m : Nat) (d : Int) (N : Addr) (stem : Str) (v6 v7 v8 v9 v10 v11 v12 v13 v14 v15 : Option V) : L2.St :=
  [some (.ref p), some (.int m), some (.str alphabet), some (.int d), some (.ref N), some (.str stem), v6, v7, v8, v9, v10, v11, v12, v13, v14, v15]
theorem le1000 {n : Nat} (h : n ≤ 1000) : n ≤ sizeLine := Nat.le_trans h (by decide)
theorem Keep.fresh {p x : Addr} {H G : Hp} {c : Nat} (k : Keep p H G) (hp : PurseAt G p c) (n : G x = none) : H x = none := by
  cases e : H x with
  | none => rfl
  | some o =>
    exfalso
    by_cases hx : x = p
    · obtain ⟨p0, p1, p2, e1, _⟩ := hp
      rw [hx, e1] at n
      cases n
    · rw [k x o e hx] at n
      cases n
/-- what holds while words are drawn: the menu stands at N -/
structure Wd (H G : Hp) (p N : Addr) (n : Nat) : Prop where
  keep : Keep p H G
  purse : PurseAt G p n
  menu : G N = some (.lst (menuS.map V.str))
section
variable {H G G2 : Hp} {p N q : Addr} {n n2 : Nat} {o : HO}
theorem PurseAt.apart (hp : PurseAt G p n) {xs : List V} {q : Addr} (h : G q = some (.lst xs)) (ne : ∀ a b c : Int, xs ≠ [.int a, .int b, .int c]) : q ≠ p := by
  intro e
  obtain ⟨a, b, c, e1, _⟩ := hp
  rw [e, e1] at h
  exact ne a b c (HO.lst.inj (Option.some.inj h)).symm
theorem strs_ne (zs : List Str) : ∀ a b c : Int, zs.map V.str ≠ [.int a, .int b, .int c] := by
  intro a b c e
  cases zs with
  | nil => cases e
  | cons z r => cases e
theorem Wd.new (w : Wd H G p N n) (nq : G q = none) : Wd H (upd G q o) p N n := ⟨w.keep.new nq, w.purse.new nq, by rw [upd_ne (ne_of_none w.menu nq)]; exact w.menu⟩
theorem Wd.ne (w : Wd H G p N n) {zs : List Str} (h : G q = some (.lst (zs.map V.str))) : q ≠ p := w.purse.apart h (strs_ne zs)
theorem Wd.step (w : Wd H G p N n) (hp : PurseAt G2 p n2) (k : Keep p G G2) : Wd H G2 p N n2 := ⟨w.keep.trans k, hp, k _ _ w.menu (w.ne w.menu)⟩
theorem Wd.more (w : Wd H G p N n) (e : n ≤ n2) : Wd H G p N n2 := ⟨w.keep, w.purse.more e, w.menu⟩
/-- an address that is not the menu's and not the purse's -/
theorem Wd.other (w : Wd H G p N n) (nq : G q = none) : q ≠ N ∧ q ≠ p := by
  refine ⟨fun e => ?_, fun e => ?_⟩
  · rw [e, w.menu] at nq
    cases nq
  · obtain ⟨a, b, c, e1, _⟩ := w.purse
    rw [e, e1] at nq
    cases nq
theorem Wd.put (w : Wd H G p N n) (f : H q = none) (ne : q ≠ N ∧ q ≠ p) : Wd H (upd G q o) p N n := by
  refine ⟨fun b u h nb => ?_, ?_, ?_⟩
  · rw [upd_ne (ne_of_none h f)]
    exact w.keep b u h nb
  · obtain ⟨a, b, c, e1, r⟩ := w.purse
    exact ⟨a, b, c, by rw [upd_ne (fun e => ne.2 e.symm)]; exact e1, r⟩
  · rw [upd_ne (fun e => ne.1 e.symm)]
    exact w.menu
end
theorem ok_words {f fC : Addr} {fd fdC : FuncData} {k : Nat} (F : Fun K "_law_words" "_law_words" sWords f fd) (C : CoinAt P w K mg base fC fdC) (B : Blt mg) : FnOk P w K mg base CX0 (k + 2) f fd ["purse", "many"] spWords := by
  have GC := C.ok k
  refine F.ok scWords (fun vs H Q E h => ?_) (fun cdv A outer s H vs Q E hr h => ?_)
  · obtain ⟨p, c, m, rfl, _⟩ := h
    rfl
  · obtain ⟨p, c, m, rfl, hp, hc, hm, q⟩ := h
    have nd := scWords.nd
    refine ⟨_, pss_cons (ps_asg (pe_tup (pa_cons pe_str (pa_cons (pe_call GC hr (by rfl) C.mg C.kp C.b .nil pass0 (pa_cons (pv 0) (pa_cons pe_int pa_nil))) pa_nil))) (pg_tup (by rfl) (pgs_cons (pg_name (i := 2) nd rfl (.inr rfl)) (pgs_cons (pg_name (i := 3) nd rfl (.inl rfl)) pgs_nil))))
      (pss_cons (ps_set (i := 4) nd rfl (.inr rfl) (pe_lst (pa_cons pe_str (pa_cons pe_str (pa_cons pe_str (pa_cons pe_str (pa_cons pe_str (pa_cons pe_str (pa_cons pe_str pa_nil)))))))))
      (pss_cons (ps_set (i := 4) nd rfl (.inr rfl) (pe_op op_cat (pv 4) (pe_lst (pa_cons pe_str (pa_cons pe_str (pa_cons pe_str (pa_cons pe_str (pa_cons pe_str (pa_cons pe_str (pa_cons pe_str pa_nil))))))))))
      (pss_cons (ps_set (i := 5) nd rfl (.inr rfl) (pe_join pe_str (pe_lc (own := [("turn", 15)]) (g := gName 15) (tt := tYes) rfl nd (pi_range1 rfl B.range (pa_cons pe_int pa_nil)) (blkOk_by (N := nWords) (sc := defScope sWords) (by decide +kernel))
        (fun _ _ _ _ _ => pg_name (i := 15) nd rfl (.inl rfl)) (fun _ _ _ _ _ => pts_nil) (fun _ _ _ _ _ => pe_ix (r := rIxS) ix_str (pv 2) (pe_call GC hr (by rfl) C.mg C.kp C.b .nil pass0 (pa_cons (pv 0) (pa_cons pe_int pa_nil))) (fun _ _ => rfl)))))
      (C8.pss_cut (ps_if (PW.pt (pw_and (pt_cmpR op_eq (pv 3) pe_int (nomark _)) (pw_and1 (pt_cmpR op_lt (pv 1) pe_int (nomark _)))))
        (pss_cons (ps_set (i := 6) nd rfl (.inr rfl) (pe_call GC hr (by rfl) C.mg C.kp C.b .nil pass0 (pa_cons (pv 0) (pa_cons pe_int pa_nil))))
        (pss_one (ps_ret (pe_lc (own := [("rank", 14)]) (g := gName 14) (tt := tYes) rfl nd (pi_range1 rfl B.range (pa_cons (pv 1) pa_nil)) (blkOk_by (N := nWords) (sc := defScope sWords) (by decide +kernel))
          (fun _ _ _ _ _ => pg_name (i := 14) nd rfl (.inl rfl)) (fun _ _ _ _ _ => pts_nil) (fun _ _ _ _ _ => pe_ix (r := rIxL K) ix_list (pv 4) (pe_op op_mod (pe_callTy call_int1 (by rfl) B.int (by decide +kernel) (pa_cons (pe_op op_add (pv 6) (pe_op op_mul pe_int (pv 14))) pa_nil)) pe_int) (fun _ _ => rfl)))))) pss_nil)
      (C8.pss_cut (ps_if (PW.pt (pw_and (pt_cmpR op_eq (pv 3) pe_int (nomark _)) (pw_and1 (pt_cmpR op_lt (pv 1) pe_int (nomark _)))))
        (pss_cons (ps_set (i := 6) nd rfl (.inr rfl) (pe_call GC hr (by rfl) C.mg C.kp C.b .nil pass0 (pa_cons (pv 0) (pa_cons (pe_op op_sub pe_int (pv 1)) pa_nil))))
        (pss_one (ps_ret (pe_lc (own := [("rank", 14)]) (g := gName 14) (tt := tYes) rfl nd (pi_range1 rfl B.range (pa_cons (pv 1) pa_nil)) (blkOk_by (N := nWords) (sc := defScope sWords) (by decide +kernel))
          (fun _ _ _ _ _ => pg_name (i := 14) nd rfl (.inl rfl)) (fun _ _ _ _ _ => pts_nil) (fun _ _ _ _ _ => pe_slice (r := rSlS) sl_str (pv 5) po_none (po_some (pe_op op_add (pe_op op_add (pv 6) (pv 14)) pe_int))))))) pss_nil)
      (pss_cons (ps_set (i := 7) nd rfl (.inl rfl) (pe_lst pa_nil))
      (C8.pss_cut (ps_if (pt_cmpR op_eq (pv 3) pe_int (nomark _))
        (pss_one (ps_for PassesOwn.never rfl (pi_range1 rfl B.range (pa_cons (pv 1) pa_nil)) (pg_name (i := 14) nd rfl (.inl rfl))
          (pss_cons (ps_set (i := 8) nd rfl (.inl rfl) (pe_op op_add pe_int (pe_call GC hr (by rfl) C.mg C.kp C.b .nil pass0 (pa_cons (pv 0) (pa_cons pe_int pa_nil)))))
          (pss_one (ps_expr (pe_bm PySem.F.plainAttrs_list PySem.F.slot_list_append PySem.F.type_list_append mt_append (pv 7) (pa_cons (pe_join pe_str (pe_lc (own := [("turn", 15)]) (g := gName 15) (tt := tYes) rfl nd (pi_range1 rfl B.range (pa_cons (pv 8) pa_nil)) (blkOk_by (N := nWords) (sc := defScope sWords) (by decide +kernel))
            (fun _ _ _ _ _ => pg_name (i := 15) nd rfl (.inl rfl)) (fun _ _ _ _ _ => pts_nil) (fun _ _ _ _ _ => pe_ix (r := rIxS) ix_str (pv 2) (pe_call GC hr (by rfl) C.mg C.kp C.b .nil pass0 (pa_cons (pv 0) (pa_cons pe_int pa_nil))) (fun _ _ => rfl)))) pa_nil))))))) pss_nil)
      (C8.pss_cut (ps_if (pt_cmpR op_eq (pv 3) pe_int (nomark _))
        (pss_cons (ps_set (i := 9) nd rfl (.inl rfl) (pe_slice sl_str (pv 5) po_none (po_some (pe_op op_add pe_int (pe_call GC hr (by rfl) C.mg C.kp C.b .nil pass0 (pa_cons (pv 0) (pa_cons pe_int pa_nil)))))))
        (pss_cons (ps_set (i := 7) nd rfl (.inl rfl) (pe_lst (pa_cons (pv 9) pa_nil)))
        (pss_cons (ps_for PassesOwn.never rfl (pi_list (pv 4)) (pg_name (i := 10) nd rfl (.inl rfl))
          (pss_one (ps_expr (pe_bm PySem.F.plainAttrs_list PySem.F.slot_list_append PySem.F.type_list_append mt_append (pv 7) (pa_cons (pe_ix ix_list (pe_lst (pa_cons (pe_op op_add_str (pe_slice sl_str (pv 10) po_none (po_some pe_int)) (pv 9)) (pa_cons (pe_op op_add_str (pv 9) (pe_slice sl_str (pv 10) po_none (po_some pe_int))) pa_nil)))
            (pe_call GC hr (by rfl) C.mg C.kp C.b .nil pass0 (pa_cons (pv 0) (pa_cons pe_int pa_nil))) (fun _ _ => rfl)) pa_nil)))))
        (pss_one (ps_set (i := 7) nd rfl (.inl rfl) (pe_slice sl_list (pv 7) po_none (po_some (pv 1)))))))) pss_nil)
      (pss_cons (ps_if (pt_cmpR op_eq (pe_lenTexts (by rfl) B.len (by rfl) B.set (pv 7)) (pv 1) (nomark _)) (pss_one (ps_ret (pv 7))) pss_nil)
      (pss_cons (ps_asg (pe_tup (pa_cons (pe_call GC hr (by rfl) C.mg C.kp C.b .nil pass0 (pa_cons (pv 0) (pa_cons pe_int pa_nil))) (pa_cons (pe_slice sl_str (pv 5) po_none (po_some (pe_call GC hr (by rfl) C.mg C.kp C.b .nil pass0 (pa_cons (pv 0) (pa_cons pe_int pa_nil))))) pa_nil)))
        (pg_tup (by rfl) (pgs_cons (pg_name (i := 6) nd rfl (.inr rfl)) (pgs_cons (pg_name (i := 11) nd rfl (.inl rfl)) pgs_nil))))
      (pss_cons (ps_par (i := 12) (j := 7) rfl nd rfl rfl (by decide) rfl rfl (pa_cons (pe_call GC hr (by rfl) C.mg C.kp C.b .nil pass0 (pa_cons (pv 0) (pa_cons (pe_op op_add (pe_callB call_len_str (by rfl) B.len PySem.boot_len (pa_cons (pv 11) pa_nil)) pe_int) pa_nil))) (pa_cons (pe_lst pa_nil) pa_nil)) (by rfl))
      (pss_cons (ps_for PassesOwn.never rfl (pi_range1 rfl B.range (pa_cons (pv 1) pa_nil)) (pg_name (i := 14) nd rfl (.inl rfl))
        (pss_cons (ps_set (i := 13) nd rfl (.inl rfl) (pe_ix ix_str (pv 2) (pe_op op_mod (pe_callTy call_int1 (by rfl) B.int (by decide +kernel) (pa_cons (pe_op op_add (pv 6) (pv 14)) pa_nil)) pe_int) (fun _ _ => rfl)))
        (pss_one (ps_expr (pe_bm PySem.F.plainAttrs_list PySem.F.slot_list_append PySem.F.type_list_append mt_append (pv 7) (pa_cons (pe_op op_add_str (pe_op op_add_str (pe_slice sl_str (pv 11) po_none (po_some (pv 12))) (pv 13)) (pe_slice sl_str (pv 11) (po_some (pv 12)) po_none)) pa_nil))))))
      (pss_one (ps_ret (pv 7))))))))))))))), ?_⟩
    -- letters, sort_here
    refine ⟨_, rfl, p, c, 5, rfl, hp, by omega, by decide, by decide, fun d H1 d0 d1 hp1 k1 => ⟨by show 2 ≤ sizeLine; decide, fun T nT => ?_⟩⟩
    refine ⟨T, _, rfl, .inl (.inl upd_same), rfl, _, _, rfl, _, _, rfl, rfl, ?_⟩
    -- menu
    refine ⟨by show 7 ≤ sizeLine; decide, fun M nM => ?_⟩
    refine ⟨_, rfl, by show 7 ≤ sizeLine; decide, fun M2 nM2 => ?_⟩
    refine ⟨M, M2, _, _, rfl, rfl, (by rw [upd_ne (fun e => by rw [e, upd_same] at nM2; cases nM2), upd_same]), upd_same, by show 14 ≤ sizeLine; decide, fun N nN => ?_⟩
    -- stem
    refine ⟨⟨_, rfl⟩, 8, rfl, by decide, by decide, fun D nD => ?_⟩
    have w0 : Wd H _ p N (c + 1) := ⟨(((k1.new nT).new nM).new nM2).new nN, (((hp1.new nT).new nM).new nM2).new nN, upd_same⟩
    have fD := w0.keep.fresh w0.purse nD
    refine lc_range (lo := 0) (n := 8) (fun i G => ∃ cs : List Nat, cs.length = i ∧ (∀ x ∈ cs, letB x = true) ∧ G D = some (.lst ((cs.map one).map V.str)) ∧ Wd H G p N (c + 1 + i))
      ⟨[], rfl, (fun x hx => by cases hx), upd_same, w0.new nD⟩ ?_ ?_
    · rintro i G hi ⟨cs, lcs, acs, hD, wd⟩
      refine ⟨rfl, _, rfl, _, rfl, p, c + 1 + i, 26, rfl, wd.purse, by omega, by decide, by decide, fun x G2 x0 x1 hp2 k2 => ?_⟩
      have w2 := wd.step hp2 k2
      have hx : x.toNat < (sg alphabet).length := by rw [alpha_len]; omega
      have ex : x = ((x.toNat : Nat) : Int) := by omega
      obtain ⟨n, rfl⟩ : ∃ n : Nat, x = n := ⟨x.toNat, by omega⟩
      have hn : (n : Nat) % 26 = n := Nat.mod_eq_of_lt (by omega)
      have gn := alphaAt_get n
      rw [hn] at gn
      refine ⟨alphabet, n, alphaAt n, rfl, rfl, by decide, atI_nat gn, _, k2 _ _ hD (wd.ne hD), ?_, cs ++ [alphaAt n], ?_, ?_, ?_, ?_⟩
      · rw [List.length_map, List.length_map]
        exact small1000 (by omega)
      · rw [List.length_append, lcs]
        rfl
      · intro y hy
        rcases List.mem_append.mp hy with z | z
        · exact acs y z
        · rw [List.mem_singleton.mp z]
          exact alpha_let gn
      · rw [upd_same, List.map_append, List.map_append]
        rfl
      · exact (w2.put fD (w0.other nD)).more (by omega)
    · rintro G ⟨cs, lcs, acs, hD, wd⟩
      have ls : ∃ z : Str, Txt.join (Str.ofString "") (cs.map one) = z ∧ LetS z ∧ z.length = 8 := by
        refine ⟨_, rfl, ?_⟩
        rw [TL.join_eq]
        refine ⟨fun x hx => ?_, ?_⟩
        · have z : sg (Str.join Str.empty (cs.map one)) = cs := join_ones cs
          have z2 : x ∈ sg (Str.join Str.empty (cs.map one)) := hx
          rw [z] at z2
          exact acs x z2
        · show (Str.join Str.empty (cs.map one)).length = 8
          rw [← sg_len, join_ones, lcs]
      refine ⟨_, D, cs.map one, rfl, rfl, .inl (.inl (.inl hD)), ?_, ?_⟩
      · rw [ones_sum, lcs, List.length_map, lcs]
        decide
      obtain ⟨stem, est, hl, h8⟩ := ls
      rw [est]
      obtain ⟨d, rfl⟩ : ∃ n : Nat, d = n := ⟨d.toNat, by omega⟩
      have s8 : stem.length ≤ sizeLine := Nat.le_trans (show stem.length ≤ 1000 by omega) (by decide)
      -- a menu
      refine ⟨fun sl H' => sl = ws p m d N stem none none none none none none none none none none ∧ H' = G, ?_, ?_⟩
      · refine ⟨_, rfl, rfl, _, rfl, ite2 (fun e => ?_) (fun e => iteF ⟨rfl, rfl⟩)⟩
        refine ⟨_, rfl, _, _, rfl, rfl, _, rfl, ite2 (fun e2 => ?_) (fun e2 => ⟨rfl, rfl⟩)⟩
        have m15 : (m : Int) < 15 := of_decide_eq_true e2
        refine ⟨_, rfl, p, c + 1 + 8, 14, rfl, wd.purse, by omega, by decide, by decide, fun s G2 s0 s1 hp2 k2 => ?_⟩
        have w2 := wd.step hp2 k2
        obtain ⟨s, rfl⟩ : ∃ n : Nat, s = n := ⟨s.toNat, by omega⟩
        refine ⟨_, rfl, (m : Int), rfl, by omega, by omega, fun D2 nD2 => ?_⟩
        refine lcp_range (lo := 0) (n := m) (ys := ((List.range m).map (menuAt s)).map V.str) (by rw [List.length_map, List.length_map, List.length_range]) (small1000 (by omega)) (fun i y R hi hy r => ?_) ?_
        · have ey : y = V.str (menuAt s i) := by
            rw [List.getElem?_map, List.getElem?_map, List.getElem?_range hi] at hy
            exact (Option.some.inj hy).symm
          subst ey
          refine ⟨rfl, _, rfl, _, rfl, _, rfl, _, _, rfl, rfl, .inl ⟨by decide, by decide⟩, _, _, rfl, rfl, .inl ⟨_, rfl, _, _, rfl, rfl, (by show (0 : Int) < 14; decide), N, menuS.map V.str, _, _, rfl, rfl, .inl (.inl ?_), ?_, r⟩⟩
          · unfold grown
            rw [upd_ne (ne_of_none w2.menu nD2)]
            exact w2.menu
          · have e3 : ((s : Int) + 3 * (0 + (i : Int))) % 14 = (((s + 3 * i) % 14 : Nat) : Int) := by omega
            rw [e3]
            exact atI_nat menu_get
        · exact q _ D2 _ (names_menu (by omega) (by omega)) (w2.keep.fresh w2.purse nD2) upd_same ((w2.new nD2).more (by omega)).purse (w2.new nD2).keep
      rintro sl H' ⟨rfl, rfl⟩
      -- beginnings of the stem
      refine ⟨fun sl H2 => sl = ws p m d N stem none none none none none none none none none none ∧ H2 = H', ?_, ?_⟩
      · refine ⟨_, rfl, rfl, _, rfl, ite2 (fun e => ?_) (fun e => iteF ⟨rfl, rfl⟩)⟩
        refine ⟨_, rfl, _, _, rfl, rfl, _, rfl, ite2 (fun e2 => ?_) (fun e2 => ⟨rfl, rfl⟩)⟩
        have m9 : (m : Int) < 9 := of_decide_eq_true e2
        refine ⟨_, rfl, _, rfl, _, _, rfl, rfl, p, c + 1 + 8, 9 - m, rfl, wd.purse, by omega, by omega, by omega, fun s G2 s0 s1 hp2 k2 => ?_⟩
        have w2 := wd.step hp2 k2
        obtain ⟨s, rfl⟩ : ∃ n : Nat, s = n := ⟨s.toNat, by omega⟩
        refine ⟨_, rfl, (m : Int), rfl, by omega, by omega, fun D2 nD2 => ?_⟩
        refine lcp_range (lo := 0) (n := m) (ys := ((List.range m).map fun i : Nat => cutS stem none (some ((s : Int) + (i : Nat) + 1))).map V.str) (by rw [List.length_map, List.length_map, List.length_range]) (small1000 (by omega)) (fun i y R hi hy r => ?_) ?_
        · have ey : y = V.str (cutS stem none (some ((s : Int) + (0 + (i : Int)) + 1))) := by
            rw [List.getElem?_map, List.getElem?_map, List.getElem?_range hi] at hy
            rw [Int.zero_add]
            exact (Option.some.inj hy).symm
          subst ey
          exact ⟨rfl, _, rfl, _, rfl, _, rfl, _, _, rfl, rfl, _, _, rfl, rfl, _, rfl, stem, rfl, s8, r⟩
        · exact q _ D2 _ (names_stem hl h8 (by omega)) (w2.keep.fresh w2.purse nD2) upd_same ((w2.new nD2).more (by omega)).purse (w2.new nD2).keep
      rintro sl G ⟨rfl, rfl⟩
      refine ⟨Nat.zero_le _, fun F0 nF0 => ?_⟩
      have gd0 : ∀ z ∈ ([] : List Str), LetS z ∧ 1 ≤ z.length ∧ z.length ≤ 8 := fun z hz => by cases hz
      -- letters drawn freely
      refine ⟨fun sl G2 => ∃ (F : Addr) (zs : List Str) (v8 v14 : Option V), sl = ws p m d N stem none (some (.ref F)) v8 none none none none none v14 none ∧ H F = none ∧ (F ≠ N ∧ F ≠ p) ∧
        G2 F = some (.lst (zs.map V.str)) ∧ (∀ z ∈ zs, LetS z ∧ 1 ≤ z.length ∧ z.length ≤ 8) ∧ zs.length ≤ m ∧ Wd H G2 p N (c + 9 + 9 * m), ?_, ?_⟩
      · have wF := wd.new nF0 (o := .lst [])
        have fF := wd.keep.fresh wd.purse nF0
        refine ⟨_, rfl, rfl, _, rfl, ite2 (fun e => ?_) (fun e => ⟨F0, [], none, none, rfl, fF, wd.other nF0, upd_same, gd0, Nat.zero_le _, wF.more (by omega)⟩)⟩
        refine ⟨_, rfl, (m : Int), rfl, by omega, by omega, ?_⟩
        refine for_range (lo := 0) (n := m) (fun i sl G2 => ∃ (zs : List Str) (v8 v14 : Option V), sl = ws p m d N stem none (some (.ref F0)) v8 none none none none none v14 none ∧
          G2 F0 = some (.lst (zs.map V.str)) ∧ (∀ z ∈ zs, LetS z ∧ 1 ≤ z.length ∧ z.length ≤ 8) ∧ zs.length = i ∧ Wd H G2 p N (c + 9 + 9 * i)) ⟨[], none, none, rfl, upd_same, gd0, rfl, wF.more (by omega)⟩ ?_ ?_
        · rintro i sl G2 hi ⟨zs, v8, v14, rfl, hF, gd, lz, w2⟩
          refine ⟨_, rfl, p, c + 9 + 9 * i, 8, rfl, w2.purse, by omega, by decide, by decide, fun x G3 x0 x1 hp3 k3 => ⟨_, _, rfl, rfl, ?_⟩⟩
          have w3 := w2.step hp3 k3
          have hF3 := k3 _ _ hF (w2.ne hF)
          obtain ⟨x, rfl⟩ : ∃ n : Nat, x = n := ⟨x.toNat, by omega⟩
          refine ⟨_, rfl, .inl ⟨rfl, _, .inl (.inl hF3)⟩, ⟨_, rfl⟩, _, rfl, 1 + (x : Int), rfl, by omega, by omega, fun D2 nD2 => ?_⟩
          have fD2 := w3.keep.fresh w3.purse nD2
          refine lc_range (lo := 0) (n := (1 + (x : Int)).toNat) (fun k G4 => ∃ cs : List Nat, cs.length = k ∧ (∀ x ∈ cs, letB x = true) ∧ G4 D2 = some (.lst ((cs.map one).map V.str)) ∧ G4 F0 = some (.lst (zs.map V.str)) ∧ Wd H G4 p N (c + 9 + 9 * i + 1 + k))
            ⟨[], rfl, (fun x hx => by cases hx), upd_same, by rw [upd_ne (ne_of_none hF3 nD2)]; exact hF3, w3.new nD2⟩ ?_ ?_
          · rintro k G4 hk ⟨cs, lcs, acs, hD2, hF4, w4⟩
            refine ⟨rfl, _, rfl, _, rfl, p, _, 26, rfl, w4.purse, by omega, by decide, by decide, fun y G5 y0 y1 hp5 k5 => ?_⟩
            have w5 := w4.step hp5 k5
            obtain ⟨n, rfl⟩ : ∃ n : Nat, y = n := ⟨y.toNat, by omega⟩
            have hn : (n : Nat) % 26 = n := Nat.mod_eq_of_lt (by omega)
            have gn := alphaAt_get n
            rw [hn] at gn
            refine ⟨alphabet, n, alphaAt n, rfl, rfl, by decide, atI_nat gn, _, k5 _ _ hD2 (w4.ne hD2), ?_, cs ++ [alphaAt n], ?_, ?_, ?_, ?_, ?_⟩
            · rw [List.length_map, List.length_map]
              exact small1000 (by omega)
            · rw [List.length_append, lcs]
              rfl
            · intro y hy
              rcases List.mem_append.mp hy with z | z
              · exact acs y z
              · rw [List.mem_singleton.mp z]
                exact alpha_let gn
            · rw [upd_same, List.map_append, List.map_append]
              rfl
            · rw [upd_ne (ne_of_none hF3 nD2)]
              exact k5 _ _ hF4 (w4.ne hF4)
            · exact (w5.put fD2 (w3.other nD2)).more (by omega)
          · rintro G4 ⟨cs, lcs, acs, hD2, hF4, w4⟩
            have ls2 : ∃ z : Str, Txt.join (Str.ofString "") (cs.map one) = z ∧ LetS z ∧ z.length = x + 1 := by
              refine ⟨_, rfl, ?_⟩
              rw [TL.join_eq]
              refine ⟨fun x hx => ?_, ?_⟩
              · have z : sg (Str.join Str.empty (cs.map one)) = cs := join_ones cs
                have z2 : x ∈ sg (Str.join Str.empty (cs.map one)) := hx
                rw [z] at z2
                exact acs x z2
              · show (Str.join Str.empty (cs.map one)).length = x + 1
                rw [← sg_len, join_ones, lcs]
                omega
            refine ⟨_, D2, cs.map one, rfl, rfl, .inl (.inl (.inl hD2)), ?_, ?_⟩
            · rw [ones_sum, lcs, List.length_map, lcs]
              show (1 + (x : Int)).toNat + (1 + (x : Int)).toNat * 0 ≤ 16777216
              omega
            obtain ⟨z, ez, lz2, l2⟩ := ls2
            rw [ez]
            refine ⟨F0, _, _, rfl, rfl, hF4, ?_, zs ++ [z], _, _, rfl, ?_, ?_, ?_, ?_⟩
            · rw [List.length_map]
              exact small1000 (by omega)
            · rw [upd_same, List.map_append]
              rfl
            · intro y hy
              rcases List.mem_append.mp hy with h | h
              · exact gd y h
              · rw [List.mem_singleton.mp h]
                exact ⟨lz2, by omega, by omega⟩
            · rw [List.length_append, lz]
              rfl
            · exact (w4.put fF (wd.other nF0)).more (by omega)
        · rintro sl G2 ⟨zs, v8, v14, rfl, hF, gd, lz, w2⟩
          exact ⟨F0, zs, v8, v14, rfl, fF, wd.other nF0, hF, gd, by omega, w2⟩
      rintro sl G2 ⟨F1, zs1, v8, v14, rfl, fF1, oF1, hF1, gd1, le1, w1⟩
      -- one word, and the same with others beside it
      refine ⟨fun sl G3 => ∃ (F : Addr) (zs : List Str) (v8 v9 v10 v14 : Option V), sl = ws p m d N stem none (some (.ref F)) v8 v9 v10 none none none v14 none ∧ H F = none ∧
        G3 F = some (.lst (zs.map V.str)) ∧ (∀ z ∈ zs, LetS z ∧ 1 ≤ z.length ∧ z.length ≤ 8) ∧ zs.length ≤ m ∧ Wd H G3 p N (c + 9 + 9 * m + 20), ?_, ?_⟩
      · refine ⟨_, rfl, rfl, _, rfl, ite2 (fun e => ?_) (fun e => ⟨F1, zs1, v8, none, none, v14, rfl, fF1, hF1, gd1, le1, w1.more (by omega)⟩)⟩
        refine ⟨_, rfl, _, rfl, p, _, 5, rfl, w1.purse, by omega, by decide, by decide, fun x G3 x0 x1 hp3 k3 => ⟨_, _, rfl, rfl, _, rfl, stem, rfl, s8, ?_⟩⟩
        have w3 := w1.step hp3 k3
        obtain ⟨x, rfl⟩ : ∃ n : Nat, x = n := ⟨x.toNat, by omega⟩
        have eb : (1 + (x : Int)) = ((x + 1 : Nat) : Int) := by omega
        have lb := @cut_to_len stem (x + 1) (by omega)
        rw [← eb] at lb
        have hb := hl.cut none (some (1 + (x : Int)))
        generalize cutS stem none (some (1 + (x : Int))) = base at lb hb
        refine ⟨_, rfl, by show 1 ≤ sizeLine; decide, fun F2 nF2 => ?_⟩
        have fF2 := w3.keep.fresh w3.purse nF2
        have oF2 := w3.other nF2
        have wF2 := w3.new nF2 (o := .lst [.str base])
        refine ⟨_, rfl, N, rfl, ⟨_, .inl (.inl wF2.menu)⟩, for_list (K := K) (a := N) (xs := menuS.map V.str) (fun i sl G4 => ∃ (zs : List Str) (v10 : Option V), sl = ws p m d N stem none (some (.ref F2)) v8 (some (.str base)) v10 none none none v14 none ∧
          G4 F2 = some (.lst (zs.map V.str)) ∧ (∀ z ∈ zs, LetS z ∧ 1 ≤ z.length ∧ z.length ≤ 8) ∧ zs.length = i + 1 ∧ Wd H G4 p N (c + 9 + 9 * m + 1 + i))
          ⟨[base], none, rfl, upd_same, (fun z hz => by rw [List.mem_singleton.mp hz]; exact ⟨hb, by omega, by omega⟩), rfl, wF2⟩ (fun i sl G4 _ ⟨_, _, _, _, _, _, w4⟩ => .inl (.inl w4.menu)) ?_ ?_⟩
        · rintro i xw sl G4 hx ⟨zs, v10, rfl, hF2, gd2, lz2, w4⟩
          have hi : i < 14 := by
            have z := (List.getElem?_eq_some_iff.mp hx).1
            exact z
          obtain ⟨word, hw, ew⟩ : ∃ word, word ∈ menuS ∧ xw = V.str word := by
            rw [List.getElem?_map] at hx
            cases e : menuS[i]? with
            | none => rw [e] at hx; cases hx
            | some z => rw [e] at hx; exact ⟨z, List.mem_of_getElem? e, (Option.some.inj hx).symm⟩
          subst ew
          have lw : word.length ≤ 6 := by
            have z : ∀ z ∈ menuS, z.length ≤ 6 := by decide +kernel
            exact z word hw
          have sw : word.length ≤ sizeLine := le1000 (by omega)
          have hw3 := (menu_let word hw).cut none (some (3 : Int))
          have lw3 : (cutS word none (some (3 : Int))).length ≤ 3 := cut_to_le word 3
          refine ⟨_, rfl, .inl ⟨rfl, _, .inl (.inl hF2)⟩, _, rfl, _, rfl, word, rfl, sw, _, rfl, _, _, rfl, rfl, le1000 (by omega), _, rfl, _, rfl, _, rfl, word, rfl, sw, _, _, rfl, rfl, le1000 (by omega), by show 2 ≤ sizeLine; decide, fun L nL => ?_⟩
          have w5 := w4.new nL (o := .lst [.str (cutS word none (some (3 : Int)) ++ base), .str (base ++ cutS word none (some (3 : Int)))])
          refine ⟨_, rfl, p, _, 2, rfl, w5.purse, by omega, by decide, by decide, fun y G5 y0 y1 hp5 k5 => ?_⟩
          have w6 := w5.step hp5 k5
          have hL : G5 L = some (.lst ([cutS word none (some (3 : Int)) ++ base, base ++ cutS word none (some (3 : Int))].map V.str)) := k5 _ _ upd_same (w5.ne (zs := [_, _]) upd_same)
          have hF5 : G5 F2 = some (.lst (zs.map V.str)) := by
            refine k5 _ _ ?_ oF2.2
            rw [upd_ne (ne_of_none hF2 nL)]
            exact hF2
          obtain ⟨z, hz, gz⟩ : ∃ z : Str, atI ([cutS word none (some (3 : Int)) ++ base, base ++ cutS word none (some (3 : Int))].map V.str) y = some (V.str z) ∧ LetS z ∧ 1 ≤ z.length ∧ z.length ≤ 8 := by
            have y01 : y = 0 ∨ y = 1 := by omega
            rcases y01 with rfl | rfl
            · exact ⟨_, atI_nat (j := 0) rfl, hw3.app hb, by rw [app_len]; omega, by rw [app_len]; omega⟩
            · exact ⟨_, atI_nat (j := 1) rfl, hb.app hw3, by rw [app_len]; omega, by rw [app_len]; omega⟩
          refine ⟨L, _, y, _, rfl, rfl, .inl (.inl hL), hz, F2, _, _, rfl, rfl, hF5, ?_, zs ++ [z], _, rfl, ?_, ?_, ?_, ?_⟩
          · rw [List.length_map]
            exact small1000 (by omega)
          · rw [upd_same, List.map_append]
            rfl
          · intro y hy
            rcases List.mem_append.mp hy with h | h
            · exact gd2 y h
            · rw [List.mem_singleton.mp h]
              exact gz
          · rw [List.length_append, lz2]
            rfl
          · exact (w6.put fF2 oF2).more (by omega)
        · rintro sl G4 ⟨zs, v10, rfl, hF2, gd2, lz2, w4⟩
          refine ⟨_, rfl, _, rfl, _, rfl, F2, _, rfl, .inl (.inl hF2), fun F3 nF3 => ?_⟩
          have ec : cutV (zs.map V.str) none (some (m : Int)) = (zs.take m).map V.str := by
            unfold cutV
            rw [HT.sIx_none, HT.sIx_nat, List.drop_zero, Nat.sub_zero, List.length_map, ← List.map_take]
            rcases Nat.le_total m zs.length with h | h
            · rw [Nat.min_eq_left h]
            · rw [Nat.min_eq_right h, List.take_of_length_le (Nat.le_refl _), List.take_of_length_le h]
          refine ⟨F3, zs.take m, v8, _, v10, v14, rfl, w4.keep.fresh w4.purse nF3, by rw [upd_same, ec], fun z hz => gd2 z (List.mem_of_mem_take hz), by rw [List.length_take]; omega, (w4.new nF3).more ?_⟩
          have e14 : (menuS.map V.str).length = 14 := rfl
          omega
      rintro sl G3 ⟨F, zs, u8, u9, u10, u14, rfl, fF, hF, gd, le, w3⟩
      -- unlike enough
      refine ⟨_, rfl, F, zs, rfl, .inl (.inl hF), by omega, _, rfl, rfl, _, rfl, ite2 (fun e => ?_) (fun e => ?_)⟩
      · have e2 : unlike zs zs.length = m := by
          have z := V.int.inj (of_decide_eq_true e)
          omega
        exact ⟨_, rfl, q zs F G3 (names_met gd le e2) fF hF (w3.more (by omega)).purse w3.keep⟩
      -- one letter each time
      refine ⟨_, rfl, p, _, 26, rfl, w3.purse, by omega, by decide, by decide, fun s G4 s0 s1 hp4 k4 => ?_⟩
      have w4 := w3.step hp4 k4
      refine ⟨_, rfl, _, rfl, p, _, 8, rfl, w4.purse, by omega, by decide, by decide, fun t G5 t0 t1 hp5 k5 => ?_⟩
      have w5 := w4.step hp5 k5
      obtain ⟨s, rfl⟩ : ∃ n : Nat, s = n := ⟨s.toNat, by omega⟩
      obtain ⟨t, rfl⟩ : ∃ n : Nat, t = n := ⟨t.toNat, by omega⟩
      refine ⟨_, rfl, stem, rfl, s8, by show 2 ≤ sizeLine; decide, fun T2 nT2 => ?_⟩
      have ht := hl.cut none (some (t : Int))
      have lt := cut_to_le stem t
      generalize cutS stem none (some (t : Int)) = tail at ht lt
      have s7 : tail.length ≤ sizeLine := le1000 (by omega)
      have w6 := w5.new nT2 (o := .tup [.int s, .str tail])
      refine ⟨T2, _, rfl, .inl (.inl upd_same), rfl, _, _, rfl, _, _, rfl, rfl, ?_⟩
      refine ⟨_, rfl, _, rfl, tail, rfl, s7, _, _, rfl, rfl, p, _, _, rfl, w6.purse, by omega, by omega, by omega, fun spot G7 p0 p1 hp7 k7 => ⟨Nat.zero_le _, fun F4 nF4 => ⟨_, _, rfl, ?_⟩⟩⟩
      have w7 := w6.step hp7 k7
      have fF4 := w7.keep.fresh w7.purse nF4
      have oF4 := w7.other nF4
      obtain ⟨spot, rfl⟩ : ∃ n : Nat, spot = n := ⟨spot.toNat, by omega⟩
      refine ⟨_, rfl, (m : Int), rfl, by omega, by omega, ?_⟩
      refine for_range (lo := 0) (n := m) (fun i sl G8 => ∃ v13 v14 : Option V, sl = ws p m d N stem (some (.int s)) (some (.ref F4)) u8 u9 u10 (some (.str tail)) (some (.int spot)) v13 v14 none ∧
        G8 F4 = some (.lst (((List.range i).map fun i => spotted tail spot (s + i)).map V.str)) ∧ Wd H G8 p N (c + 9 + 9 * m + 20 + 1 + 1 + 1)) ⟨none, _, rfl, upd_same, w7.new nF4⟩ ?_ ?_
      · rintro i sl G8 hi ⟨v13, v14, rfl, hF8, w8⟩
        refine ⟨_, rfl, _, rfl, _, rfl, _, _, rfl, rfl, .inl ⟨_, rfl, _, _, rfl, rfl, (by show (0 : Int) < 26; decide), alphabet, _, alphaAt (s + i), rfl, rfl, by decide, ?_, ?_⟩⟩
        · have e3 : ((s : Int) + (0 + (i : Int))) % 26 = (((s + i) % 26 : Nat) : Int) := by omega
          rw [e3]
          exact atI_nat (alphaAt_get (s + i))
        · refine ⟨_, rfl, .inl ⟨rfl, _, .inl (.inl hF8)⟩, _, rfl, _, rfl, _, rfl, tail, rfl, s7, _, rfl, _, _, rfl, rfl, ?_, _, rfl, _, rfl, _, rfl, tail, rfl, s7, _, _, rfl, rfl, ?_, F4, _, _, rfl, rfl, hF8, ?_, _, _, rfl, ?_, w8.put fF4 oF4⟩
          · have a1 := cut_to_le tail spot
            exact le1000 (show (cutS tail none (some (spot : Int))).length + 1 ≤ 1000 by omega)
          · have a1 := cut_to_le tail spot
            have a3 : (cutS tail (some (spot : Int)) none).length ≤ tail.length := by
              rw [← sg_len, sg_cut_from _ _ (by omega), List.length_drop, sg_len]
              omega
            exact le1000 (by rw [app_len]; show (cutS tail none (some (spot : Int))).length + 1 + _ ≤ 1000; omega)
          · rw [List.length_map, List.length_map, List.length_range]
            exact small1000 (by omega)
          · rw [upd_same, List.range_succ, List.map_append, List.map_append]
            rfl
      · rintro sl G8 ⟨v13, v14, rfl, hF8, w8⟩
        exact ⟨_, rfl, q _ F4 G8 (names_spot ht (by omega) (by omega) (by omega)) fF4 hF8 (w8.more (by omega)).purse w8.keep⟩
end
end Md

namespace Md
open PySem PySem.Spec PyProof.Rows L2
abbrev sMoment : Stmt := top 36
abbrev sPlaces : Stmt := top 37
abbrev sPicks : Stmt := top 38
/-- a town's row, of drawn size -/
def TownB (r : List V) : Prop := ∃ (z : Str) (lo hi : Int), r = [.str z, .int lo, .int hi] ∧ nameB z = true ∧ z.length ≤ 8 ∧ 1 ≤ lo ∧ lo ≤ hi ∧ hi ≤ 10 ^ 6
theorem TownB.r {r : List V} (h : TownB r) : TownR r := by
  obtain ⟨z, lo, hi, a, b, c, d, e, f⟩ := h
  exact ⟨z, lo, hi, a, b, c, d, e⟩
def TownsB (rs : List (List V)) (m : Nat) : Prop := rs.length = m ∧ (rs.map nameOf).Nodup ∧ ∀ r ∈ rs, TownB r
/-- a choice -/
def PickR (r : List V) : Prop := ∃ t x : Int, r = [.int t, .int x] ∧ 1 ≤ t
theorem paired_snoc {α β : Type} {F : α → β → Prop} : ∀ {l : List α} {m : List β} {a : α} {b : β}, Paired F l m → F a b → Paired F (l ++ [a]) (m ++ [b])
  | _, _, _, _, .nil, h => .cons h .nil
  | _, _, _, _, .cons h t, g => .cons h (paired_snoc t g)
/-- a list of rows grows at F -/
structure Work (H G : Hp) (p F : Addr) (n : Nat) (rs : List (List V)) : Prop where
  keep : Keep p H G
  purse : PurseAt G p n
  rows : Rows G F rs
  fresh : H F = none
  ne : F ≠ p
section
variable {H G G2 : Hp} {p F q : Addr} {n n2 : Nat} {o : HO} {rs : List (List V)} {r : List V}
theorem Rows.new (h : Rows G F rs) (nq : G q = none) : Rows (upd G q o) F rs := h.same fun b u z => by rw [upd_ne (ne_of_none z nq)]; exact z
theorem Work.new (w : Work H G p F n rs) (nq : G q = none) : Work H (upd G q o) p F n rs := ⟨w.keep.new nq, w.purse.new nq, w.rows.new nq, w.fresh, w.ne⟩
theorem Work.step (w : Work H G p F n rs) (hp : PurseAt G2 p n2) (k : Keep p G G2) : Work H G2 p F n2 rs := ⟨w.keep.trans k, hp, w.rows.keep w.purse k, w.fresh, w.ne⟩
theorem Work.more (w : Work H G p F n rs) (e : n ≤ n2) : Work H G p F n2 rs := ⟨w.keep, w.purse.more e, w.rows, w.fresh, w.ne⟩
theorem PurseAt.ne_new (hp : PurseAt G p n) (nq : G q = none) : q ≠ p := by
  intro e
  obtain ⟨a, b, c, e1, _⟩ := hp
  rw [e, e1] at nq
  cases nq
/-- a list that was just made -/
theorem Work.start (hp : PurseAt G p n) (k : Keep p H G) (nq : G F = none) : Work H (upd G F (.lst [])) p F n [] :=
  ⟨k.new nq, hp.new nq, ⟨[], upd_same, .nil⟩, k.fresh hp nq, hp.ne_new nq⟩
theorem Work.push (w : Work H G p F n rs) {t : Addr} (ht : G t = some (.tup r)) : ∃ as : List Addr, G F = some (.lst (as.map V.ref)) ∧ as.length = rs.length ∧ Work H (upd G F (.lst (as.map V.ref ++ [.ref t]))) p F n (rs ++ [r]) := by
  obtain ⟨as, h1, h2⟩ := w.rows
  have ne : ∀ b u, G b = some (.tup u) → b ≠ F := fun b u z e => by
    rw [e, h1] at z
    cases z
  refine ⟨as, h1, paired_len h2, ⟨fun b u h nb => ?_, ?_, ⟨as ++ [t], ?_, ?_⟩, w.fresh, w.ne⟩⟩
  · rw [upd_ne (ne_of_none h w.fresh)]
    exact w.keep b u h nb
  · obtain ⟨a, b, c, e1, r⟩ := w.purse
    exact ⟨a, b, c, by rw [upd_ne (fun e => w.ne e.symm)]; exact e1, r⟩
  · rw [upd_same, List.map_append]
    rfl
  · exact paired_snoc (paired_imp h2 fun b u z => by rw [upd_ne (ne b u z)]; exact z) (by rw [upd_ne (ne t r ht)]; exact ht)
theorem Work.none_new (w : Work H G p F n rs) (nq : G q = none) : H q = none := w.keep.fresh w.purse nq
end
section
variable {P : Program} {w : World} {K : PySem.W.Frag} {mg : Str → Option Value} {base : Heap}
/-- a def of the law's text, as its callers see it -/
structure DefAt (P : Program) (w : World) (K : PySem.W.Frag) (mg : Str → Option Value) (base : Heap) (x : Str) (f : Addr) (fd : FuncData) (ps : List Str) (n : Nat) (sp : Sp) : Prop where
  ok : ∀ k, FnOk P w K mg base CX0 (k + n) f fd ps sp
  mg : mg x = some (.ref f)
  kp : PySem.W.keepIn K (.ref f) = true
  b : Binds K fd ps []
def spMoment : Sp := fun vs H Q _ => ∃ (p : Addr) (c : Nat), vs = [.ref p] ∧ PurseAt H p c ∧ c ≤ 990000 ∧ ∀ (d : Int) H', 0 ≤ d → d ≤ 10 ^ 30 → PurseAt H' p (c + 2) → Keep p H H' → Q (.int d) H'
theorem scMoment : FnScope ["purse", "way"] ["purse"] (defScope sMoment) := ⟨rfl, rfl, rfl, by decide +kernel, rfl, by decide +kernel, by decide +kernel⟩
theorem ok_moment {f fC : Addr} {fd fdC : FuncData} {k : Nat} (F : Fun K "_law_mk_moment" "_law_mk_moment" sMoment f fd) (C : CoinAt P w K mg base fC fdC) (B : Blt mg) : FnOk P w K mg base CX0 (k + 2) f fd ["purse"] spMoment := by
  have GC := C.ok k
  refine F.ok scMoment (fun vs H Q E h => ?_) (fun cdv A outer s H vs Q E hr h => ?_)
  · obtain ⟨p, c, rfl, _⟩ := h
    rfl
  · obtain ⟨p, c, rfl, hp, hc, q⟩ := h
    have nd := scMoment.nd
    refine ⟨_, pss_cons (ps_set (i := 1) nd rfl (.inl rfl) (pe_call GC hr (by rfl) C.mg C.kp C.b .nil pass0 (pa_cons (pv 0) (pa_cons pe_int pa_nil))))
      (pss_cons (ps_if (pt_cmpR op_eq (pv 1) pe_int (nomark _)) (pss_one (ps_ret (pe_op op_sub (pe_op op_pow pe_int pe_int) (pe_call GC hr (by rfl) C.mg C.kp C.b .nil pass0 (pa_cons (pv 0) (pa_cons pe_int pa_nil)))))) pss_nil)
      (pss_one (ps_ret (pe_call GC hr (by rfl) C.mg C.kp C.b .nil pass0 (pa_cons (pv 0) (pa_cons (pe_ix ix_list (pe_lst (pa_cons pe_int (pa_cons pe_int (pa_cons pe_int (pa_cons (pe_op op_add (pe_op op_pow pe_int pe_int) pe_int) pa_nil))))) (pv 1) (fun _ _ => rfl)) pa_nil)))))), ?_⟩
    refine ⟨_, rfl, p, c, 5, rfl, hp, by omega, by decide, by decide, fun way H1 a0 a1 hp1 k1 => ?_⟩
    refine ⟨_, rfl, rfl, _, rfl, ite2 (fun e => ?_) (fun e => ?_)⟩
    · refine ⟨_, _, rfl, rfl, ⟨by decide, by decide, by decide⟩, _, rfl, p, c + 1, 900, rfl, hp1, by omega, by decide, by decide, fun d H2 d0 d1 hp2 k2 => ⟨_, _, rfl, rfl, ?_⟩⟩
      refine q _ _ ?_ ?_ hp2 (k1.trans k2)
      · show (0 : Int) ≤ 10 ^ 30 - d
        omega
      · show (10 : Int) ^ 30 - d ≤ 10 ^ 30
        omega
    · have e4 : way ≠ 4 := fun z => e (by rw [z]; rfl)
      refine ⟨_, rfl, _, _, rfl, rfl, ⟨by decide, by decide, by decide⟩, _, _, rfl, rfl, by show 4 ≤ sizeLine; decide, fun L nL => ?_⟩
      obtain ⟨v, hv, v1, v2⟩ : ∃ v : Int, atI [V.int 9, V.int 40, V.int 1700, V.int (10 ^ 30 + 1)] way = some (V.int v) ∧ 1 ≤ v ∧ v ≤ 10 ^ 30 + 1 := by
        have h : way = 0 ∨ way = 1 ∨ way = 2 ∨ way = 3 := by omega
        rcases h with rfl | rfl | rfl | rfl
        · exact ⟨_, atI_nat (j := 0) rfl, by decide, by decide⟩
        · exact ⟨_, atI_nat (j := 1) rfl, by decide, by decide⟩
        · exact ⟨_, atI_nat (j := 2) rfl, by decide, by decide⟩
        · exact ⟨_, atI_nat (j := 3) rfl, by decide, by decide⟩
      refine ⟨_, rfl, L, _, way, _, rfl, rfl, .inl (.inl upd_same), hv, p, c + 1, v, rfl, hp1.new nL, by omega, v1, by omega, fun d H2 d0 d1 hp2 k2 => ?_⟩
      exact q _ _ d0 (by omega) hp2 ((k1.new nL).trans k2)

def HiLe (t : Int) (r : List V) : Prop := ∃ (z : Str) (lo hi : Int), r = [.str z, .int lo, .int hi] ∧ hi ≤ t
def spPlaces : Sp := fun vs H Q _ => ∃ (p : Addr) (c m : Nat) (t : Int), vs = [.ref p, .int m, .int t] ∧ PurseAt H p c ∧ c ≤ 890000 ∧ m ≤ 20 ∧ 1 ≤ t ∧ t ≤ 10 ^ 6 ∧
  ∀ rs q H', TownsB rs m → H q = none → Rows H' q rs → PurseAt H' p (c + 500) → Keep p H H' → (∀ r ∈ rs, HiLe t r) → Q (.ref q) H'
abbrev nPlaces : List Str := ["purse", "count", "top", "found", "label", "ends"]
theorem scPlaces : FnScope nPlaces ["purse", "count", "top"] (defScope sPlaces) := ⟨rfl, rfl, rfl, by decide +kernel, rfl, by decide +kernel, by decide +kernel⟩
theorem two_sorted {ns : List Int} {a b : Int} (h1 : ns.Perm [a, b]) (h2 : ns.Pairwise (· ≤ ·)) : ∃ x y : Int, ns = [x, y] ∧ x ≤ y ∧ (x = a ∨ x = b) ∧ (y = a ∨ y = b) := by
  have l := h1.length_eq
  match ns, l with
  | [x, y], _ =>
    refine ⟨x, y, rfl, ?_, ?_, ?_⟩
    · have z := List.pairwise_cons.mp h2
      exact z.1 y (List.mem_singleton.mpr rfl)
    · have z := h1.mem_iff.mp (show x ∈ [x, y] by simp)
      simpa using z
    · have z := h1.mem_iff.mp (show y ∈ [x, y] by simp)
      simpa using z
theorem ok_places {f fC fW : Addr} {fd fdC fdW : FuncData} {k : Nat} (F : Fun K "_law_mk_places" "_law_mk_places" sPlaces f fd) (C : CoinAt P w K mg base fC fdC) (W : DefAt P w K mg base "_law_words" fW fdW ["purse", "many"] 2 spWords) (B : Blt mg) :
    FnOk P w K mg base CX0 (k + 3) f fd ["purse", "count", "top"] spPlaces := by
  have GC := C.ok (k + 1)
  have GW := W.ok k
  refine F.ok scPlaces (fun vs H Q E h => ?_) (fun cdv A outer s H vs Q E hr h => ?_)
  · obtain ⟨p, c, m, t, rfl, _⟩ := h
    rfl
  · obtain ⟨p, c, m, t, rfl, hp, hc, hm, t1, t2, q⟩ := h
    have nd := scPlaces.nd
    refine ⟨_, pss_cons (ps_set (i := 3) nd rfl (.inl rfl) (pe_lst pa_nil))
      (pss_cons (ps_for PassesOwn.never rfl (pi_list (pe_call GW hr (by rfl) W.mg W.kp W.b .nil pass0 (pa_cons (pv 0) (pa_cons (pv 1) pa_nil)))) (pg_name (i := 4) nd rfl (.inl rfl))
        (pss_cons (ps_set (i := 5) nd rfl (.inl rfl) (pe_callB cr_sortedI (by rfl) B.sorted (by decide +kernel) (pa_cons (pe_lst (pa_cons (pe_op op_add pe_int (pe_call GC hr (by rfl) C.mg C.kp C.b .nil pass0 (pa_cons (pv 0) (pa_cons (pv 2) pa_nil)))) (pa_cons (pe_op op_add pe_int (pe_call GC hr (by rfl) C.mg C.kp C.b .nil pass0 (pa_cons (pv 0) (pa_cons (pv 2) pa_nil)))) pa_nil))) pa_nil)))
        (pss_one (ps_expr (pe_bm PySem.F.plainAttrs_list PySem.F.slot_list_append PySem.F.type_list_append mt_append (pv 3) (pa_cons (pe_tup (pa_cons (pv 4) (pa_cons (pe_ix ix_list (pv 5) pe_int (fun _ _ => rfl))
          (pa_cons (pe_ix ix_list (pv 5) (pe_callB (call_min2 rfl) (by rfl) B.min (by decide +kernel) (pa_cons pe_int (pa_cons (pe_call GC hr (by rfl) C.mg C.kp C.b .nil pass0 (pa_cons (pv 0) (pa_cons pe_int pa_nil))) pa_nil))) (fun _ _ => rfl)) pa_nil)))) pa_nil))))))
      (pss_one (ps_ret (pv 3)))), ?_⟩
    refine ⟨Nat.zero_le _, fun F0 nF0 => ?_⟩
    have w0 := Work.start hp (Keep.refl p H) nF0
    refine ⟨_, rfl, _, rfl, p, c, m, rfl, w0.purse, by omega, hm, fun zs W0 G nz nW hW hp1 k1 => ⟨W0, rfl, ⟨_, .inl (.inl hW)⟩, ?_⟩⟩
    have w1 := w0.step hp1 k1
    have neW : W0 ≠ F0 := fun e => by
      rw [e, upd_same] at nW
      cases nW
    refine for_list (K := K) (a := W0) (xs := zs.map V.str) (fun i sl G => ∃ (rs : List (List V)) (v4 v5 : Option V), sl = [some (.ref p), some (.int m), some (.int t), some (.ref F0), v4, v5] ∧
      G W0 = some (.lst (zs.map V.str)) ∧ rs.map nameOf = zs.take i ∧ (∀ r ∈ rs, TownB r ∧ HiLe t r) ∧ rs.length = i ∧ Work H G p F0 (c + 400 + 3 * i) rs) ⟨[], none, none, rfl, hW, rfl, (fun r hr => by cases hr), rfl, w1⟩
      (fun i sl G _ ⟨_, _, _, _, h, _⟩ => .inl (.inl h)) ?_ ?_
    · rintro i x sl G hx ⟨rs, v4, v5, rfl, hW2, names, good, lr, w2⟩
      have hi : i < zs.length := by
        have z := (List.getElem?_eq_some_iff.mp hx).1
        rw [List.length_map] at z
        exact z
      have hi20 : i < 20 := by
        have z := nz.1
        omega
      have ez : zs[i]? = some zs[i] := List.getElem?_eq_getElem hi
      have ex : x = V.str zs[i] := by
        rw [List.getElem?_map, ez] at hx
        exact (Option.some.inj hx).symm
      subst ex
      have gz := nz.2.2 zs[i] (List.getElem_mem hi)
      refine ⟨_, rfl, _, rfl, p, _, t, rfl, w2.purse, by omega, t1, by omega, fun a G3 a0 a1 hp3 k3 => ⟨_, _, rfl, rfl, ?_⟩⟩
      have w3 := w2.step hp3 k3
      refine ⟨_, rfl, _, rfl, p, _, t, rfl, w3.purse, by omega, t1, by omega, fun b G4 b0 b1 hp4 k4 => ⟨_, _, rfl, rfl, by show 2 ≤ sizeLine; decide, fun L nL => ?_⟩⟩
      have w4 := w3.step hp4 k4
      have w5 := w4.new nL (o := .lst [.int (1 + a), .int (1 + b)])
      refine ⟨L, [1 + a, 1 + b], rfl, .inl (.inl upd_same), fun ns S0 pm pw nS => ?_⟩
      obtain ⟨x, y, rfl, xy, hx1, hy1⟩ := two_sorted pm pw
      have w6 := w5.new nS (o := .lst ([x, y].map V.int))
      -- the row
      obtain ⟨as6, h6, _⟩ := w6.rows
      refine ⟨_, rfl, .inl ⟨rfl, _, .inl (.inl h6)⟩, _, rfl, _, rfl, S0, _, 0, .int x, rfl, rfl, .inl (.inl upd_same), atI_nat (j := 0) rfl, _, rfl, _, rfl, p, _, 5, rfl, w6.purse, by omega, by decide, by decide, fun d G7 d0 d1 hp7 k7 => ?_⟩
      have w7 := w6.step hp7 k7
      have hS : G7 S0 = some (.lst ([x, y].map V.int)) := k7 _ _ upd_same (w5.purse.ne_new nS)
      obtain ⟨v, j, ej, hv, v1, v2⟩ : ∃ (v : Int) (j : Nat), (if d < 1 then d else 1) = (j : Int) ∧ ([x, y].map V.int)[j]? = some (V.int v) ∧ x ≤ v ∧ v ≤ t := by
        by_cases hd : d < 1
        · exact ⟨x, 0, by rw [if_pos hd]; omega, rfl, by omega, by omega⟩
        · exact ⟨y, 1, by rw [if_neg hd]; rfl, rfl, by omega, by omega⟩
      refine ⟨_, _, rfl, S0, _, _, _, rfl, rfl, .inl (.inl hS), by rw [ej]; exact atI_nat hv, by show 3 ≤ sizeLine; decide, fun T nT => ?_⟩
      have w8 := w7.new nT (o := .tup [.str zs[i], .int x, .int v])
      obtain ⟨as, h8, l8, w9⟩ := w8.push upd_same
      refine ⟨F0, _, _, rfl, rfl, h8, ?_, rs ++ [[.str zs[i], .int x, .int v]], _, _, rfl, ?_, ?_, ?_, ?_, w9.more (by omega)⟩
      · rw [List.length_map]
        exact small1000 (by omega)
      · have r1 := k3 _ _ hW2 (w2.purse.apart hW2 (strs_ne zs))
        have r2 := k4 _ _ r1 (w3.purse.apart r1 (strs_ne zs))
        rw [upd_ne neW, upd_ne (ne_of_none (k7 _ _ (by rw [upd_ne (ne_of_none (by rw [upd_ne (ne_of_none r2 nL)]; exact r2) nS), upd_ne (ne_of_none r2 nL)]; exact r2) (fun e => w3.purse.apart r1 (strs_ne zs) e)) nT)]
        exact k7 _ _ (by rw [upd_ne (ne_of_none (by rw [upd_ne (ne_of_none r2 nL)]; exact r2) nS), upd_ne (ne_of_none r2 nL)]; exact r2) (fun e => w3.purse.apart r1 (strs_ne zs) e)
      · rw [List.map_append, names, List.take_add_one, ez]
        rfl
      · intro r hr
        rcases List.mem_append.mp hr with z | z
        · exact good r z
        · rw [List.mem_singleton.mp z]
          exact ⟨⟨zs[i], x, v, rfl, gz.1, gz.2, by omega, v1, by omega⟩, zs[i], x, v, rfl, v2⟩
      · rw [List.length_append, lr]
        rfl
    · rintro sl G ⟨rs, v4, v5, rfl, hW2, names, good, lr, w2⟩
      rw [List.length_map] at names lr
      rw [List.take_length] at names
      have l20 := nz.1
      exact ⟨_, rfl, q rs F0 G ⟨by omega, by rw [names]; exact nz.2.1, fun r hr => (good r hr).1⟩ w2.fresh w2.rows (w2.more (by rw [List.length_map]; omega)).purse w2.keep fun r hr => (good r hr).2⟩
end
end Md

namespace Md
open PySem PySem.Spec PyProof.Rows L2
abbrev sPair : Stmt := top 39
abbrev sMarket : Stmt := top 40
section
variable {P : Program} {w : World} {K : PySem.W.Frag} {mg : Str → Option Value} {base : Heap}
def spPicks : Sp := fun vs H Q _ => ∃ (p a : Addr) (c m : Nat) (rs : List (List V)), vs = [.ref p, .ref a] ∧ PurseAt H p c ∧ c ≤ 990000 ∧ m ≤ 20 ∧ Rows H a rs ∧ TownsB rs m ∧
  ∀ ps q H', ps.length = m → (∀ r ∈ ps, PickR r) → H q = none → Rows H' q ps → PurseAt H' p (c + 40) → Keep p H H' → Q (.ref q) H'
abbrev nPicks : List Str := ["purse", "places", "found", "place", "turn"]
theorem scPicks : FnScope nPicks ["purse", "places"] (defScope sPicks) := ⟨rfl, rfl, rfl, by decide +kernel, rfl, by decide +kernel, by decide +kernel⟩
theorem ok_picks {f fC : Addr} {fd fdC : FuncData} {k : Nat} (F : Fun K "_law_mk_picks" "_law_mk_picks" sPicks f fd) (C : CoinAt P w K mg base fC fdC) : FnOk P w K mg base CX0 (k + 2) f fd ["purse", "places"] spPicks := by
  have GC := C.ok k
  refine F.ok scPicks (fun vs H Q E h => ?_) (fun cdv A outer s H vs Q E hr h => ?_)
  · obtain ⟨p, a, c, m, rs, rfl, _⟩ := h
    rfl
  · obtain ⟨p, a, c, m, rs, rfl, hp, hc, hm, hR, hT, q⟩ := h
    have nd := scPicks.nd
    refine ⟨_, pss_cons (ps_set (i := 2) nd rfl (.inl rfl) (pe_lst pa_nil))
      (pss_cons (ps_for PassesOwn.never rfl (pi_list (pv 1)) (pg_name (i := 3) nd rfl (.inl rfl))
        (pss_cons (ps_set (i := 4) nd rfl (.inl rfl) (pe_op op_add (pe_ix (r := rIxT K) ix_tup (pv 3) pe_int (fun _ _ => rfl)) (pe_call GC hr (by rfl) C.mg C.kp C.b .nil pass0 (pa_cons (pv 0) (pa_cons (pe_op op_add (pe_op op_sub (pe_ix (r := rIxT K) ix_tup (pv 3) pe_int (fun _ _ => rfl)) (pe_ix (r := rIxT K) ix_tup (pv 3) pe_int (fun _ _ => rfl))) pe_int) pa_nil)))))
        (pss_one (ps_expr (pe_bm PySem.F.plainAttrs_list PySem.F.slot_list_append PySem.F.type_list_append mt_append (pv 2) (pa_cons (pe_tup (pa_cons (pv 4) (pa_cons (pe_call GC hr (by rfl) C.mg C.kp C.b .nil pass0 (pa_cons (pv 0) (pa_cons (pv 4) pa_nil))) pa_nil))) pa_nil))))))
      (pss_one (ps_ret (pv 2)))), ?_⟩
    refine ⟨Nat.zero_le _, fun F0 nF0 => ?_⟩
    have w0 := Work.start hp (Keep.refl p H) nF0
    obtain ⟨as, hA, hP⟩ := hR
    have ln : as.length = m := by
      have z := paired_len hP
      have z2 := hT.1
      omega
    have pA : a ≠ p := by
      intro e
      obtain ⟨a1, a2, a3, e1, _⟩ := hp
      rw [e, e1] at hA
      cases as with
      | nil => cases hA
      | cons z r => cases hA
    refine ⟨_, rfl, a, rfl, ⟨_, .inl (.inl (w0.keep _ _ hA pA))⟩, ?_⟩
    refine for_list (K := K) (a := a) (xs := as.map V.ref) (fun i sl G => ∃ (ps : List (List V)) (v3 v4 : Option V), sl = [some (.ref p), some (.ref a), some (.ref F0), v3, v4] ∧
      (∀ r ∈ ps, PickR r) ∧ ps.length = i ∧ Work H G p F0 (c + 2 * i) ps) ⟨[], none, none, rfl, (fun r hr => by cases hr), rfl, w0⟩
      (fun i sl G _ ⟨_, _, _, _, _, _, w1⟩ => .inl (.inl (w1.keep _ _ hA pA))) ?_ ?_
    · rintro i x sl G hx ⟨ps, v3, v4, rfl, good, lp, w1⟩
      have hi : i < as.length := by
        have z := (List.getElem?_eq_some_iff.mp hx).1
        rw [List.length_map] at z
        exact z
      obtain ⟨b, row, ex, hr1, hb⟩ := rows_ref hP hx
      subst ex
      obtain ⟨z, lo, hi2, er, _, _, l1, l2, l3⟩ := hT.2.2 row (List.mem_of_getElem? hr1)
      subst er
      have hb2 : SqT K G b [.str z, .int lo, .int hi2] := .inl (.inl (w1.keep _ _ hb fun e => by
        obtain ⟨a1, a2, a3, e1, _⟩ := hp
        rw [e, e1] at hb
        cases hb))
      refine ⟨_, rfl, b, _, 1, .int lo, rfl, rfl, hb2, atI_nat (j := 1) rfl, _, rfl, _, rfl, b, _, 2, .int hi2, rfl, rfl, hb2, atI_nat (j := 2) rfl, _, rfl, b, _, 1, .int lo, rfl, rfl, hb2, atI_nat (j := 1) rfl, _, _, rfl, rfl, _, _, rfl, rfl,
        p, _, _, rfl, w1.purse, by omega, by omega, by omega, fun d G3 d0 d1 hp3 k3 => ⟨_, _, rfl, rfl, ?_⟩⟩
      have w3 := w1.step hp3 k3
      obtain ⟨as3, h3, _⟩ := w3.rows
      refine ⟨_, rfl, .inl ⟨rfl, _, .inl (.inl h3)⟩, _, rfl, _, rfl, _, rfl, p, _, _, rfl, w3.purse, by omega, by omega, by omega, fun e G4 e0 e1 hp4 k4 => ⟨by show 2 ≤ sizeLine; decide, fun T nT => ?_⟩⟩
      have w5 := (w3.step hp4 k4).new nT (o := .tup [.int (lo + d), .int e])
      obtain ⟨as5, h5, l5, w6⟩ := w5.push upd_same
      refine ⟨F0, _, _, rfl, rfl, h5, ?_, ps ++ [[.int (lo + d), .int e]], _, _, rfl, ?_, ?_, w6.more (by omega)⟩
      · rw [List.length_map]
        exact small1000 (by omega)
      · intro r hr
        rcases List.mem_append.mp hr with z | z
        · exact good r z
        · rw [List.mem_singleton.mp z]
          exact ⟨_, _, rfl, by omega⟩
      · rw [List.length_append, lp]
        rfl
    · rintro sl G ⟨ps, v3, v4, rfl, good, lp, w1⟩
      rw [List.length_map] at lp
      exact ⟨_, rfl, q ps F0 G (by omega) good w1.fresh w1.rows (w1.more (by rw [List.length_map]; omega)).purse w1.keep⟩

/-- two unlike indexes, or none -/
def PairI (is : List Int) (m : Nat) : Prop := is = [] ∨ ∃ x y : Nat, is = [(x : Int), (y : Int)] ∧ x < m ∧ y < m ∧ x ≠ y
def spPair : Sp := fun vs H Q _ => ∃ (p a : Addr) (c m : Nat) (as : List Addr), vs = [.ref p, .ref a] ∧ PurseAt H p c ∧ c ≤ 990000 ∧ 1 ≤ m ∧ m ≤ 20 ∧ H a = some (.lst (as.map V.ref)) ∧ as.length = m ∧
  ∀ is q H', PairI is m → H q = none → H' q = some (.lst (is.map V.int)) → PurseAt H' p (c + 3) → Keep p H H' → Q (.ref q) H'
abbrev nPair : List Str := ["purse", "places", "start", "gap"]
theorem scPair : FnScope nPair ["purse", "places"] (defScope sPair) := ⟨rfl, rfl, rfl, by decide +kernel, rfl, by decide +kernel, by decide +kernel⟩
theorem refs_ne {H : Hp} {a p : Addr} {c : Nat} {as : List Addr} (hp : PurseAt H p c) (hA : H a = some (.lst (as.map V.ref))) : a ≠ p := by
  intro e
  obtain ⟨a1, a2, a3, e1, _⟩ := hp
  rw [e, e1] at hA
  cases as with
  | nil => cases hA
  | cons z r => cases hA
theorem gap_ne {x g m : Nat} (h1 : x < m) (h2 : 1 ≤ g) (h3 : g < m) : ∃ y : Nat, ((x : Int) + g) % m = y ∧ y < m ∧ x ≠ y := by
  by_cases h : x + g < m
  · exact ⟨x + g, by rw [← Int.natCast_add, ← Int.natCast_emod, Nat.mod_eq_of_lt h], h, by omega⟩
  · refine ⟨x + g - m, ?_, by omega, by omega⟩
    rw [← Int.natCast_add, ← Int.natCast_emod, Nat.mod_eq_sub_mod (by omega), Nat.mod_eq_of_lt (by omega)]
theorem ok_pair {f fC : Addr} {fd fdC : FuncData} {k : Nat} (F : Fun K "_law_mk_pair" "_law_mk_pair" sPair f fd) (C : CoinAt P w K mg base fC fdC) (B : Blt mg) : FnOk P w K mg base CX0 (k + 2) f fd ["purse", "places"] spPair := by
  have GC := C.ok k
  refine F.ok scPair (fun vs H Q E h => ?_) (fun cdv A outer s H vs Q E hr h => ?_)
  · obtain ⟨p, a, c, m, as, rfl, _⟩ := h
    rfl
  · obtain ⟨p, a, c, m, as, rfl, hp, hc, hm1, hm, hA, la, q⟩ := h
    have nd := scPair.nd
    have lm : (as.map V.ref).length = m := by rw [List.length_map, la]
    refine ⟨_, C8.pss_cut (ps_if (PW.pt (pw_or (pt_cmpR op_lt (pe_callB call_len_seq (by rfl) B.len PySem.boot_len (pa_cons (pv 1) pa_nil)) pe_int (nomark _)) (pw_or1 (pt_cmpR op_eq (pe_call GC hr (by rfl) C.mg C.kp C.b .nil pass0 (pa_cons (pv 0) (pa_cons pe_int pa_nil))) pe_int (nomark _)))))
        (pss_one (ps_ret (pe_lst pa_nil))) pss_nil)
      (pss_cons (ps_par (i := 2) (j := 3) rfl nd rfl rfl (by decide) rfl rfl (pa_cons (pe_call GC hr (by rfl) C.mg C.kp C.b .nil pass0 (pa_cons (pv 0) (pa_cons (pe_callB call_len_seq (by rfl) B.len PySem.boot_len (pa_cons (pv 1) pa_nil)) pa_nil)))
        (pa_cons (pe_op op_add pe_int (pe_call GC hr (by rfl) C.mg C.kp C.b .nil pass0 (pa_cons (pv 0) (pa_cons (pe_op op_sub (pe_callB call_len_seq (by rfl) B.len PySem.boot_len (pa_cons (pv 1) pa_nil)) pe_int) pa_nil)))) pa_nil)) (by rfl))
      (pss_one (ps_ret (pe_lst (pa_cons (pv 2) (pa_cons (pe_op op_mod (pe_callTy call_int1 (by rfl) B.int (by decide +kernel) (pa_cons (pe_op op_add (pv 2) (pv 3)) pa_nil)) (pe_callB call_len_seq (by rfl) B.len PySem.boot_len (pa_cons (pv 1) pa_nil))) pa_nil)))))), ?_⟩
    have pA := refs_ne hp hA
    have none_ : ∀ (G : Hp) (n : Nat), PurseAt G p n → n ≤ c + 3 → Keep p H G → Nat.zero_le sizeLine = Nat.zero_le sizeLine ∧ ∀ l, G l = none → Q (.ref l) (upd G l (.lst [])) := fun G n hpG hn kG => ⟨rfl, fun l nl => q [] l _ (.inl rfl) (kG.fresh hpG nl) upd_same ((hpG.new nl).more hn) (kG.new nl)⟩
    refine ⟨fun sl G => sl = [some (.ref p), some (.ref a), none, none] ∧ 2 ≤ m ∧ PurseAt G p (c + 1) ∧ Keep p H G, ?_, ?_⟩
    · refine ⟨_, rfl, a, _, rfl, .inl (.inl (.inl hA)), _, _, rfl, rfl, _, rfl, ite2 (fun e => ?_) (fun e => ?_)⟩
      · refine iteT ⟨Nat.zero_le _, (none_ H c hp (by omega) (Keep.refl p H)).2⟩
      · have e2 : ¬ ((as.map V.ref).length : Int) < 2 := fun z => e (decide_eq_true z)
        refine ⟨_, rfl, p, c, 4, rfl, hp, by omega, by decide, by decide, fun d G d0 d1 hp1 k1 => ⟨rfl, _, rfl, ite2 (fun e3 => ⟨Nat.zero_le _, (none_ G _ hp1 (by omega) k1).2⟩) (fun e3 => ⟨rfl, by omega, hp1, k1⟩)⟩⟩
    · rintro sl G ⟨rfl, m2, hp1, k1⟩
      have hA1 := k1 _ _ hA pA
      refine ⟨_, rfl, _, rfl, a, _, rfl, .inl (.inl (.inl hA1)), p, _, _, rfl, hp1, by omega, by omega, by omega, fun x G2 x0 x1 hp2 k2 => ?_⟩
      have hA2 := k2 _ _ hA1 pA
      refine ⟨_, rfl, _, rfl, a, _, rfl, .inl (.inl (.inl hA2)), _, _, rfl, rfl, p, _, _, rfl, hp2, by omega, by omega, by omega, fun g G3 g0 g1 hp3 k3 => ⟨_, _, rfl, rfl, _, _, rfl, ?_⟩⟩
      have hA3 := k3 _ _ hA2 pA
      obtain ⟨x, rfl⟩ : ∃ n : Nat, x = n := ⟨x.toNat, by omega⟩
      obtain ⟨g, rfl⟩ : ∃ n : Nat, g = n := ⟨g.toNat, by omega⟩
      obtain ⟨y, ey, hy, xy⟩ := @gap_ne x (1 + g) m (by omega) (by omega) (by omega)
      refine ⟨_, rfl, _, rfl, _, rfl, _, _, rfl, rfl, .inl ⟨_, rfl, _, rfl, a, _, rfl, .inl (.inl (.inl hA3)), _, _, rfl, rfl, (by show (0 : Int) < ((as.map V.ref).length : Nat); omega), by show 2 ≤ sizeLine; decide, fun L nL => ?_⟩⟩
      have k123 := (k1.trans k2).trans k3
      refine q [x, y] L _ (.inr ⟨x, y, rfl, by omega, hy, xy⟩) (k123.fresh hp3 nL) ?_ (hp3.new nL) (k123.new nL)
      rw [upd_same]
      have e3 : ((x : Int) + (1 + (g : Int))) % ((as.map V.ref).length : Nat) = (y : Int) := by
        rw [lm, ← ey]
        congr 1
      rw [← e3]
      rfl
def spMarket : Sp := fun vs H Q _ => ∃ (b : Addr) (r : List V) (d : Int), vs = [.ref b, .int d] ∧ H b = some (.tup r) ∧ PickR r ∧ ∀ y : Bool, Q (.bl y) H
theorem scMarket : FnScope ["pick", "moment"] ["pick", "moment"] (defScope sMarket) := ⟨rfl, rfl, rfl, by decide +kernel, rfl, by decide +kernel, by decide +kernel⟩
theorem ok_market {f : Addr} {fd : FuncData} {k : Nat} (F : Fun K "_law_mk_market" "_law_mk_market" sMarket f fd) (B : Blt mg) : FnOk P w K mg base CX0 (k + 1) f fd ["pick", "moment"] spMarket := by
  refine F.ok scMarket (fun vs H Q E h => ?_) (fun cdv A outer s H vs Q E hr h => ?_)
  · obtain ⟨b, r, d, rfl, _⟩ := h
    rfl
  · obtain ⟨b, r, d, rfl, hb, ⟨t, x, rfl, t1⟩, q⟩ := h
    refine ⟨_, pss_one (ps_ret (pe_cmpR op_eq (pe_op op_mod (pe_callTy call_int1 (by rfl) B.int (by decide +kernel) (pa_cons (pv 1) pa_nil)) (pe_ix (r := rIxT K) ix_tup (pv 0) pe_int (fun _ _ => rfl))) (pe_ix (r := rIxT K) ix_tup (pv 0) pe_int (fun _ _ => rfl)) (nomark _))), ?_⟩
    exact ⟨_, rfl, .inl ⟨_, rfl, _, rfl, b, _, 0, .int t, rfl, rfl, .inl (.inl hb), atI_nat (j := 0) rfl, _, _, rfl, rfl, (by show 0 < t; omega), _, rfl, b, _, 1, .int x, rfl, rfl, .inl (.inl hb), atI_nat (j := 1) rfl, rfl, q _⟩⟩
end
end Md

namespace Md
open PySem PySem.Spec PyProof.Rows L2
/-- data that is laid, shown and small -/
structure Nice (d : PyData) (dep b : Nat) : Prop where
  lay : d.canLay0 = true
  show_ : d.showable = true
  nod : d.hasDict = false
  deep : d.depth ≤ dep
  leaf : d.leavesShort 32 = true
  bulk : d.bulk ≤ b
theorem Nice.more {d : PyData} {dep b dep2 b2 : Nat} (h : Nice d dep b) (e : dep ≤ dep2) (e2 : b ≤ b2) : Nice d dep2 b2 := ⟨h.lay, h.show_, h.nod, Nat.le_trans h.deep e, h.leaf, Nat.le_trans h.bulk e2⟩
structure NiceAll (ds : List PyData) (dep b : Nat) : Prop where
  lay : PyData.canLayAll0 ds = true
  show_ : PyData.showableAll ds = true
  nod : PyData.hasDictAll ds = false
  deep : PyData.depthAll ds ≤ dep
  leaf : PyData.leavesShortAll 32 ds = true
  bulk : PyData.bulkAll ds ≤ (b + 1) * ds.length
theorem nice_all {dep b : Nat} : ∀ {ds : List PyData}, (∀ d ∈ ds, Nice d dep b) → NiceAll ds dep b
  | [], _ => ⟨by simp [PyData.canLayAll0], by simp [PyData.showableAll], by simp [PyData.hasDictAll], by simp [PyData.depthAll], by simp [PyData.leavesShortAll], by simp [PyData.bulkAll]⟩
  | d :: ds, h => by
    have h1 := h d (List.mem_cons_self ..)
    have h2 := nice_all (ds := ds) fun x hx => h x (List.mem_cons_of_mem _ hx)
    refine ⟨by simp [PyData.canLayAll0, h1.lay, h2.lay], by simp [PyData.showableAll, h1.show_, h2.show_], by simp [PyData.hasDictAll, h1.nod, h2.nod], ?_, by simp [PyData.leavesShortAll, h1.leaf, h2.leaf], ?_⟩
    · unfold PyData.depthAll
      exact Nat.max_le.mpr ⟨h1.deep, h2.deep⟩
    · unfold PyData.bulkAll
      rw [List.length_cons, Nat.mul_succ]
      have a := h1.bulk
      have b := h2.bulk
      omega
theorem Nice.list {dep b : Nat} {ds : List PyData} (h : ∀ d ∈ ds, Nice d dep b) : Nice (.list ds) (dep + 1) ((b + 1) * ds.length) := by
  have a := nice_all h
  refine ⟨by simp [PyData.canLay0, a.lay], by simp [PyData.showable, a.show_], by simp [PyData.hasDict, a.nod], ?_, by simp [PyData.leavesShort, a.leaf], ?_⟩
  · unfold PyData.depth
    exact Nat.succ_le_succ a.deep
  · unfold PyData.bulk
    exact a.bulk
theorem Nice.tuple {dep b : Nat} {ds : List PyData} (h : ∀ d ∈ ds, Nice d dep b) : Nice (.tuple ds) (dep + 1) ((b + 1) * ds.length) := by
  have a := nice_all h
  refine ⟨by simp [PyData.canLay0, a.lay], by simp [PyData.showable, a.show_], by simp [PyData.hasDict, a.nod], ?_, by simp [PyData.leavesShort, a.leaf], ?_⟩
  · unfold PyData.depth
    exact Nat.succ_le_succ a.deep
  · unfold PyData.bulk
    exact a.bulk
theorem Nice.shaped {d : PyData} {dep b : Nat} (h : Nice d dep b) (e : dep ≤ 40) : SeqAt.shaped d = true := by
  unfold SeqAt.shaped
  rw [h.lay, decide_eq_true (show d.depth ≤ 64 from Nat.le_trans h.deep (by omega))]
  rfl
theorem Nice.short {d : PyData} {dep b : Nat} (h : Nice d dep b) (e : b ≤ 100000) : d.shown.length ≤ sizeLine := by
  have z := PyData.shown_le_bulk 32 (by decide) d h.leaf
  have z2 := h.bulk
  have z3 : 4000000 ≤ sizeLine := by decide
  omega
theorem nice_int {i : Int} (h0 : 0 ≤ i) (h1 : i ≤ 10 ^ 30) : Nice (.int i) 0 0 := by
  have z : i < 10 ^ 31 := by omega
  have e : (PyData.shown (.int i)).length ≤ 31 := PyProof.Rows.toString_length_le h0 (by decide) z
  refine ⟨by simp [PyData.canLay0], ?_, by simp [PyData.hasDict], by simp [PyData.depth], ?_, by simp [PyData.bulk]⟩
  · simp only [PyData.showable, decide_eq_true_eq]
    have w : i.natAbs < 2 ^ 200 := by
      have b : (10 : Nat) ^ 31 < 2 ^ 200 := by decide
      omega
    rcases Nat.eq_zero_or_pos i.natAbs with q | q
    · rw [q]
      decide
    · have l := (Nat.log2_lt (by omega)).mpr w
      omega
  · simp only [PyData.leavesShort, decide_eq_true_eq]
    omega
theorem nice_str {z : Str} (h : ∀ c ∈ z.cps.toList, c < 0x110000) (l : z.length ≤ 8) : Nice (.str z) 0 8 := by
  refine ⟨?_, by simp [PyData.showable], by simp [PyData.hasDict], by simp [PyData.depth], ?_, ?_⟩
  · simp only [PyData.canLay0]
    show z.cps.all (fun c => decide (c < 0x110000)) = true
    rw [← Array.all_toList, List.all_eq_true]
    intro c hc
    exact decide_eq_true (h c hc)
  · simp only [PyData.leavesShort, List.all_eq_true, decide_eq_true_eq]
    intro c hc
    have := h c hc
    omega
  · simp only [PyData.bulk]
    exact l
/-- a text of some letters -/
theorem name_letters {z : Str} (h : nameB z = true) : ∀ c ∈ z.cps.toList, letB c = true := by
  unfold nameB at h
  have e : (z.cps.toList.map letB).all id = true := by
    rw [Bool.and_eq_true] at h
    exact h.2
  rw [List.all_eq_true] at e
  intro c hc
  exact e _ (List.mem_map.mpr ⟨c, hc, rfl⟩)
theorem let_small {c : Nat} (h : letB c = true) : c < 0x110000 := by
  have z : c ∈ sg alphabet := of_decide_eq_true h
  have w : ∀ x ∈ sg alphabet, x < 0x110000 := by decide +kernel
  exact w c z
/-- plain things -/
def FlatV (v : V) : Prop := (∃ z : Str, v = .str z ∧ z.length ≤ 8 ∧ ∀ c ∈ z.cps.toList, c < 0x110000) ∨ ∃ i : Int, v = .int i ∧ 0 ≤ i ∧ i ≤ 10 ^ 30
def vD : V → PyData
  | .str z => .str z
  | .int i => .int i
  | _ => .none
theorem FlatV.nice {v : V} (h : FlatV v) : Nice (vD v) 0 8 := by
  rcases h with ⟨z, rfl, l, a⟩ | ⟨i, rfl, h0, h1⟩
  · exact nice_str a l
  · exact (nice_int h0 h1).more (Nat.le_refl _) (by omega)
theorem FlatV.dp {K : PySem.W.Frag} {H : Hp} {v : V} (h : FlatV v) : Dp K H v (vD v) := by
  rcases h with ⟨z, rfl, _⟩ | ⟨i, rfl, _⟩
  · exact .str z
  · exact .int i
theorem flats_dp {K : PySem.W.Frag} {H : Hp} : ∀ {r : List V}, (∀ v ∈ r, FlatV v) → DpAll K H r (r.map vD)
  | [], _ => .nil
  | v :: r, h => .cons (h v (List.mem_cons_self ..)).dp (flats_dp fun x hx => h x (List.mem_cons_of_mem _ hx))
def RowF (r : List V) : Prop := r.length ≤ 4 ∧ ∀ v ∈ r, FlatV v
def rowD (r : List V) : PyData := .tuple (r.map vD)
theorem RowF.nice {r : List V} (h : RowF r) : Nice (rowD r) 1 36 := by
  have z := Nice.tuple (ds := r.map vD) (dep := 0) (b := 8) fun d hd => by
    obtain ⟨v, hv, e⟩ := List.mem_map.mp hd
    rw [← e]
    exact (h.2 v hv).nice
  refine z.more (Nat.le_refl _) ?_
  rw [List.length_map]
  have := h.1
  omega
theorem rows_nice {rs : List (List V)} (h : ∀ r ∈ rs, RowF r) : Nice (.list (rs.map rowD)) 2 (37 * rs.length) := by
  have z := Nice.list (ds := rs.map rowD) (dep := 1) (b := 36) fun d hd => by
    obtain ⟨r, hr, e⟩ := List.mem_map.mp hd
    rw [← e]
    exact (h r hr).nice
  rw [List.length_map] at z
  exact z
theorem rows_dpAll {K : PySem.W.Frag} {H : Hp} : ∀ {as : List Addr} {rs : List (List V)}, Paired (fun b r => H b = some (.tup r)) as rs → (∀ r ∈ rs, RowF r) → DpAll K H (as.map V.ref) (rs.map rowD)
  | _, _, .nil, _ => .nil
  | _, _, .cons h t, f => .cons (.tup (.inl (.inl h)) (flats_dp (f _ (List.mem_cons_self ..)).2)) (rows_dpAll t fun x hx => f x (List.mem_cons_of_mem _ hx))
theorem rows_dp {K : PySem.W.Frag} {H : Hp} {a : Addr} {rs : List (List V)} (h : Rows H a rs) (f : ∀ r ∈ rs, RowF r) : Dp K H (.ref a) (.list (rs.map rowD)) := by
  obtain ⟨as, h1, h2⟩ := h
  exact .lst (.inl (.inl h1)) (rows_dpAll h2 f)
theorem name_flat {z : Str} (h : nameB z = true) (l : z.length ≤ 8) : FlatV (.str z) := .inl ⟨z, rfl, l, fun c hc => let_small (name_letters h c hc)⟩
theorem strs_dp {K : PySem.W.Frag} {H : Hp} : ∀ zs : List Str, DpAll K H (zs.map V.str) (zs.map PyData.str)
  | [] => .nil
  | z :: zs => .cons (.str z) (strs_dp zs)
theorem names_nice {zs : List Str} (h : ∀ z ∈ zs, nameB z = true ∧ z.length ≤ 8) : Nice (.list (zs.map PyData.str)) 1 (9 * zs.length) := by
  have z := Nice.list (ds := zs.map PyData.str) (dep := 0) (b := 8) fun d hd => by
    obtain ⟨z, hz, e⟩ := List.mem_map.mp hd
    rw [← e]
    exact (name_flat (h z hz).1 (h z hz).2).nice
  rw [List.length_map] at z
  exact z
theorem TownB.flat {r : List V} (h : TownB r) : RowF r := by
  obtain ⟨z, lo, hi, rfl, a, b, c, d, e⟩ := h
  refine ⟨by simp, fun v hv => ?_⟩
  have q : v = .str z ∨ v = .int lo ∨ v = .int hi := by simpa using hv
  rcases q with rfl | rfl | rfl
  · exact name_flat a b
  · exact .inr ⟨lo, rfl, by omega, by omega⟩
  · exact .inr ⟨hi, rfl, by omega, by omega⟩
theorem kind_flat {kind : Str} (h : (kind = "market" ∨ kind = "none") ∨ kind = "one" ∨ kind = "same") : FlatV (.str kind) := by
  have w : ∀ s : Str, s.length ≤ 8 → (∀ c ∈ s.cps.toList, c < 0x110000) → FlatV (.str s) := fun s a b => .inl ⟨s, rfl, a, b⟩
  rcases h with (rfl | rfl) | rfl | rfl
  · exact w _ (by decide +kernel) (by decide +kernel)
  · exact w _ (by decide +kernel) (by decide +kernel)
  · exact w _ (by decide +kernel) (by decide +kernel)
  · exact w _ (by decide +kernel) (by decide +kernel)
theorem NoteR.flat {ns : List Str} {r : List V} (g : ∀ z ∈ ns, nameB z = true ∧ z.length ≤ 8) (h : NoteR ns r) : RowF r := by
  rcases h with ⟨kind, z, day, rfl, hk, hz, d0, d1⟩ | ⟨kind, y, z, day, rfl, hk, hy, hz, hyz, d0, d1⟩
  · refine ⟨by simp, fun v hv => ?_⟩
    have q : v = .str kind ∨ v = .str z ∨ v = .int day := by simpa using hv
    rcases q with rfl | rfl | rfl
    · exact kind_flat (.inl hk)
    · exact name_flat (g z hz).1 (g z hz).2
    · exact .inr ⟨day, rfl, d0, d1⟩
  · refine ⟨by simp, fun v hv => ?_⟩
    have q : v = .str kind ∨ v = .str y ∨ v = .str z ∨ v = .int day := by simpa using hv
    rcases q with rfl | rfl | rfl | rfl
    · exact kind_flat (.inr hk)
    · exact name_flat (g y hy).1 (g y hy).2
    · exact name_flat (g z hz).1 (g z hz).2
    · exact .inr ⟨day, rfl, d0, d1⟩
theorem towns_names {rs : List (List V)} (h : ∀ r ∈ rs, TownB r) : ∀ z ∈ rs.map nameOf, nameB z = true ∧ z.length ≤ 8 := by
  intro z hz
  obtain ⟨r, hr, e⟩ := List.mem_map.mp hz
  obtain ⟨y, lo, hi, er, a, b, _⟩ := h r hr
  subst er
  subst e
  exact ⟨a, b⟩
end Md

namespace Md
open PySem PySem.Spec PyProof.Rows L2
abbrev sEntry : Stmt := top 41
/-- what a note is drawn from -/
structure Ent (H : Hp) (a b e : Addr) (rs : List (List V)) (is : List Int) (ps : List (List V)) (m : Nat) : Prop where
  rows : Rows H a rs
  towns : TownsB rs m
  ends : H b = some (.lst (is.map V.int))
  pair : PairI is m
  picks : Rows H e ps
  lp : ps.length = m
  good : ∀ r ∈ ps, PickR r
section
variable {H H' : Hp} {a b e p : Addr} {rs ps : List (List V)} {is : List Int} {m c i : Nat}
theorem Ent.keep (E : Ent H a b e rs is ps m) (hp : PurseAt H p c) (k : Keep p H H') : Ent H' a b e rs is ps m := by
  refine ⟨E.rows.keep hp k, E.towns, k _ _ E.ends fun z => ?_, E.pair, E.picks.keep hp k, E.lp, E.good⟩
  obtain ⟨x, y, w, e1, _⟩ := hp
  have q := E.ends
  rw [z, e1] at q
  rcases E.pair with rfl | ⟨u, v, rfl, _⟩
  · cases q
  · cases q
theorem Ent.new {q : Addr} {o : HO} (E : Ent H a b e rs is ps m) (n : H q = none) : Ent (upd H q o) a b e rs is ps m :=
  ⟨E.rows.new n, E.towns, by rw [upd_ne (ne_of_none E.ends n)]; exact E.ends, E.pair, E.picks.new n, E.lp, E.good⟩
theorem Ent.town (E : Ent H a b e rs is ps m) (hi : i < m) : ∃ (as : List Addr) (t : Addr) (z : Str) (lo hi : Int), H a = some (.lst (as.map V.ref)) ∧ as.length = m ∧ (as.map V.ref)[i]? = some (.ref t) ∧ H t = some (.tup [.str z, .int lo, .int hi]) ∧ (rs.map nameOf)[i]? = some z := by
  obtain ⟨as, h1, h2⟩ := E.rows
  have l := E.towns.1
  have hl : i < rs.length := by omega
  obtain ⟨t, ht, hb⟩ := paired_get h2 i rs[i] (List.getElem?_eq_getElem hl)
  obtain ⟨z, lo, hi, er, _⟩ := E.towns.2.2 rs[i] (List.getElem_mem hl)
  refine ⟨as, t, z, lo, hi, h1, by rw [paired_len h2, l], by rw [List.getElem?_map, ht]; rfl, by rw [← er]; exact hb, ?_⟩
  rw [List.getElem?_map, List.getElem?_eq_getElem hl, er]
  rfl
theorem Ent.pick (E : Ent H a b e rs is ps m) (hi : i < m) : ∃ (es : List Addr) (u : Addr) (r : List V), H e = some (.lst (es.map V.ref)) ∧ (es.map V.ref)[i]? = some (.ref u) ∧ H u = some (.tup r) ∧ PickR r := by
  obtain ⟨es, h1, h2⟩ := E.picks
  have l := E.lp
  have hl : i < ps.length := by omega
  obtain ⟨t, ht, hb⟩ := paired_get h2 i ps[i] (List.getElem?_eq_getElem hl)
  exact ⟨es, t, ps[i], h1, by rw [List.getElem?_map, ht]; rfl, hb, E.good _ (List.getElem_mem hl)⟩
end
section
variable {P : Program} {w : World} {K : PySem.W.Frag} {mg : Str → Option Value} {base : Heap}
/-- a note of two towns is one of the drawn pair -/
def PairIn (zs : List Str) (is : List Int) (r : List V) : Prop := ∀ (kind y z : Str) (d : Int), r = [.str kind, .str y, .str z, .int d] → ∃ u v : Nat, (is = [(u : Int), (v : Int)] ∨ is = [(v : Int), (u : Int)]) ∧ zs[u]? = some y ∧ zs[v]? = some z
def spEntry2 : Sp := fun vs H Q _ => ∃ (p a b e : Addr) (c m : Nat) (rs : List (List V)) (is : List Int) (ps : List (List V)) (tr : Bool), vs = [.ref p, .ref a, .ref b, .ref e, .bl tr] ∧ PurseAt H p c ∧ c ≤ 980000 ∧ 1 ≤ m ∧ m ≤ 20 ∧ Ent H a b e rs is ps m ∧
  ∀ r q H', NoteR (rs.map nameOf) r → PairIn (rs.map nameOf) is r → H q = none → H' q = some (.tup r) → PurseAt H' p (c + 10) → Keep p H H' → Q (.ref q) H'
def spEntry : Sp := fun vs H Q _ => ∃ (p a b e : Addr) (c m : Nat) (rs : List (List V)) (is : List Int) (ps : List (List V)), vs = [.ref p, .ref a, .ref b, .ref e, .bl false] ∧ PurseAt H p c ∧ c ≤ 980000 ∧ 1 ≤ m ∧ m ≤ 20 ∧ Ent H a b e rs is ps m ∧
  ∀ r q H', NoteR (rs.map nameOf) r → H q = none → H' q = some (.tup r) → PurseAt H' p (c + 10) → Keep p H H' → Q (.ref q) H'
abbrev nEntry : List Str := ["purse", "places", "pair", "picks", "is_true", "moment", "rank", "here", "turned", "ends"]
theorem scEntry : FnScope nEntry ["purse", "places", "pair", "picks", "is_true"] (defScope sEntry) := ⟨rfl, rfl, rfl, by decide +kernel, rfl, by decide +kernel, by decide +kernel⟩
abbrev es (p a b e : Addr) (tr : Bool) (mo : Int) (rk : Nat) (he tu : Bool) (v9 : Option V) : L2.St := [some (.ref p), some (.ref a), some (.ref b), some (.ref e), some (.bl tr), some (.int mo), some (.int rk), some (.bl he), some (.bl tu), v9]
theorem ok_entry2 {f fC fM fK : Addr} {fd fdC fdM fdK : FuncData} {k : Nat} (F : Fun K "_law_mk_entry" "_law_mk_entry" sEntry f fd) (C : CoinAt P w K mg base fC fdC) (M : DefAt P w K mg base "_law_mk_moment" fM fdM ["purse"] 2 spMoment)
    (Mk : DefAt P w K mg base "_law_mk_market" fK fdK ["pick", "moment"] 1 spMarket) (B : Blt mg) : FnOk P w K mg base CX0 (k + 3) f fd ["purse", "places", "pair", "picks", "is_true"] spEntry2 := by
  have GC := C.ok (k + 1)
  have GM := M.ok k
  have GK := Mk.ok (k + 1)
  refine F.ok scEntry (fun vs H Q E h => ?_) (fun cdv A outer s H vs Q E hr h => ?_)
  · obtain ⟨p, a, b, e, c, m, rs, is, ps, tr, rfl, _⟩ := h
    rfl
  · obtain ⟨p, a, b, e, c, m, rs, is, ps, tr, rfl, hp, hc, hm1, hm, EN, q⟩ := h
    have nd := scEntry.nd
    refine ⟨_, pss_cons (ps_par (i := 5) (j := 6) rfl nd rfl rfl (by decide) rfl rfl (pa_cons (pe_call GM hr (by rfl) M.mg M.kp M.b .nil pass0 (pa_cons (pv 0) pa_nil))
        (pa_cons (pe_call GC hr (by rfl) C.mg C.kp C.b .nil pass0 (pa_cons (pv 0) (pa_cons (pe_callB call_len_seq (by rfl) B.len PySem.boot_len (pa_cons (pv 1) pa_nil)) pa_nil))) pa_nil)) (by rfl))
      (pss_cons (ps_set (i := 7) nd rfl (.inl rfl) (pe_call GK hr (by rfl) Mk.mg Mk.kp Mk.b .nil pass0 (pa_cons (pe_ix ix_list (pv 3) (pv 6) (fun _ _ => rfl)) (pa_cons (pv 5) pa_nil))))
      (C8.pss_cut (ps_set (i := 8) nd rfl (.inl rfl) (pe_and (pe_not (pv 4)) (pe_one (pe_cmpR op_eq (pe_call GC hr (by rfl) C.mg C.kp C.b .nil pass0 (pa_cons (pv 0) (pa_cons pe_int pa_nil))) pe_int (nomark _)))))
      (C8.pss_cut (ps_if (PW.pt (pw_and (pt_cmpR (op_neD hr.units) (pv 2) (pe_lst pa_nil) (nomark _)) (pw_and1 (pt_cmpR op_eq (pe_call GC hr (by rfl) C.mg C.kp C.b .nil pass0 (pa_cons (pv 0) (pa_cons pe_int pa_nil))) pe_int (nomark _)))))
        (C8.pss_cut (ps_set (i := 9) nd rfl (.inl rfl) (pe_ifExp (pt_cmpR op_eq (pe_call GC hr (by rfl) C.mg C.kp C.b .nil pass0 (pa_cons (pv 0) (pa_cons pe_int pa_nil))) pe_int (nomark _)) (pe_revL (pv 2)) (pv 2)))
        (pss_cons (ps_set (i := 7) nd rfl (.inl rfl) (pe_cmpR op_eq
            (pe_call GK hr (by rfl) Mk.mg Mk.kp Mk.b .nil pass0 (pa_cons (pe_ix ix_list (pv 3) (pe_ix ix_list (pv 9) pe_int (fun _ _ => rfl)) (fun _ _ => rfl)) (pa_cons (pv 5) pa_nil)))
            (pe_call GK hr (by rfl) Mk.mg Mk.kp Mk.b .nil pass0 (pa_cons (pe_ix ix_list (pv 3) (pe_ix ix_list (pv 9) pe_int (fun _ _ => rfl)) (fun _ _ => rfl)) (pa_cons (pv 5) pa_nil))) (nomark _)))
        (pss_one (ps_ret (pe_tup (pa_cons (pe_ix ix_list (pe_lst (pa_cons pe_str (pa_cons pe_str pa_nil))) (pe_callTy call_int1 (by rfl) B.int (by decide +kernel) (pa_cons (pe_cmpR op_ne (pv 7) (pv 8) (nomark _)) pa_nil)) (fun _ _ => rfl))
          (pa_cons (pe_ix (r := rIxT K) ix_tup (pe_ix ix_list (pv 1) (pe_ix ix_list (pv 9) pe_int (fun _ _ => rfl)) (fun _ _ => rfl)) pe_int (fun _ _ => rfl))
          (pa_cons (pe_ix (r := rIxT K) ix_tup (pe_ix ix_list (pv 1) (pe_ix ix_list (pv 9) pe_int (fun _ _ => rfl)) (fun _ _ => rfl)) pe_int (fun _ _ => rfl))
          (pa_cons (pv 5) pa_nil))))))))) pss_nil)
      (pss_one (ps_ret (pe_tup (pa_cons (pe_ix ix_list (pe_lst (pa_cons pe_str (pa_cons pe_str pa_nil))) (pe_callTy call_int1 (by rfl) B.int (by decide +kernel) (pa_cons (pe_cmpR op_ne (pv 7) (pv 8) (nomark _)) pa_nil)) (fun _ _ => rfl))
          (pa_cons (pe_ix (r := rIxT K) ix_tup (pe_ix ix_list (pv 1) (pv 6) (fun _ _ => rfl)) pe_int (fun _ _ => rfl))
          (pa_cons (pv 5) pa_nil))))))))), ?_⟩
    -- moment, rank
    refine ⟨_, rfl, p, c, rfl, hp, by omega, fun mo G1 m0 m1 hp1 k1 => ?_⟩
    have E1 := EN.keep hp k1
    obtain ⟨as1, t1, z1, lo1, hi1, hA1, la1, _⟩ := E1.town (i := 0) (by omega)
    have lm1 : (as1.map V.ref).length = m := by rw [List.length_map, la1]
    refine ⟨_, rfl, _, rfl, a, _, rfl, .inl (.inl (.inl hA1)), p, _, _, rfl, hp1, by omega, by omega, by omega, fun rank G2 r0 r1 hp2 k2 => ⟨_, _, rfl, ?_⟩⟩
    have E2 := E1.keep hp1 k2
    have k12 := k1.trans k2
    obtain ⟨rk, rfl⟩ : ∃ n : Nat, rank = n := ⟨rank.toNat, by omega⟩
    have hrk : rk < m := by omega
    -- here
    obtain ⟨es2, u2, r2, hE2, gu2, hu2, pr2⟩ := E2.pick hrk
    refine ⟨_, rfl, _, rfl, e, _, _, _, rfl, rfl, .inl (.inl hE2), atI_nat gu2, _, rfl, u2, r2, mo, rfl, hu2, pr2, fun he => ?_⟩
    -- turned
    refine ⟨fun sl G => ∃ tu : Bool, sl = es p a b e tr mo rk he tu none ∧ Ent G a b e rs is ps m ∧ PurseAt G p (c + 4) ∧ Keep p H G, ?_, ?_⟩
    · cases tr with
      | false =>
        refine ⟨_, rfl, _, rfl, _, rfl, iteT ⟨_, rfl, p, _, 2, rfl, hp2, by omega, by decide, by decide, fun d G3 d0 d1 hp3 k3 => ⟨rfl, ?_⟩⟩⟩
        exact ⟨_, rfl, E2.keep hp2 k3, hp3, k12.trans k3⟩
      | true =>
        refine ⟨_, rfl, _, rfl, _, rfl, iteF ?_⟩
        exact ⟨_, rfl, E2, hp2.more (by omega), k12⟩
    rintro sl G3 ⟨tu, rfl, E3, hp3, k123⟩
    refine ⟨fun sl G => sl = es p a b e tr mo rk he tu none ∧ Ent G a b e rs is ps m ∧ PurseAt G p (c + 6) ∧ Keep p H G, ?_, ?_⟩
    · refine ⟨_, rfl, Nat.zero_le _, fun L nL => ?_⟩
      have E4 := E3.new nL (o := .lst [])
      have hp4 := hp3.new nL (o := .lst [])
      have k4 := k123.new nL (o := .lst [])
      rcases EN.pair with rfl | ⟨x, y, rfl, hx, hy, xy⟩
      · refine ⟨.list [], .list [], .lst (.inl (.inl E4.ends)) .nil, .lst (.inl (.inl upd_same)) .nil, by rfl, by rfl, _, rfl, iteF (iteF ⟨rfl, E4, hp4.more (by omega), k4⟩)⟩
      · refine ⟨.list [.int x, .int y], .list [], .lst (.inl (.inl E4.ends)) (.cons (.int _) (.cons (.int _) .nil)), .lst (.inl (.inl upd_same)) .nil, by rfl, by rfl, _, rfl, iteT ?_⟩
        refine ⟨_, rfl, p, _, 3, rfl, hp4, by omega, by decide, by decide, fun d2 G5 d0 d1 hp5 k5 => ⟨rfl, _, rfl, ite2 (fun _ => ?_) (fun _ => ⟨rfl, E4.keep hp4 k5, hp5.more (by omega), k4.trans k5⟩)⟩⟩
        have E5 := E4.keep hp4 k5
        have k45 := k4.trans k5
        refine ⟨fun sl G => ∃ (E9 : Addr) (u v : Nat), sl = es p a b e tr mo rk he tu (some (.ref E9)) ∧ G E9 = some (.lst [.int u, .int v]) ∧ u < m ∧ v < m ∧ u ≠ v ∧ ((u = x ∧ v = y) ∨ (u = y ∧ v = x)) ∧ Ent G a b e rs [x, y] ps m ∧ PurseAt G p (c + 6) ∧ Keep p H G, ?_, ?_⟩
        · refine ⟨_, rfl, p, _, 2, rfl, hp5, by omega, by decide, by decide, fun d3 G6 d0 d1 hp6 k6 => ⟨rfl, _, rfl, ite2 (fun _ => ?_) (fun _ => ?_)⟩⟩
          · have E6 := E5.keep hp5 k6
            exact ⟨_, rfl, b, _, rfl, .inl (.inl E6.ends), fun R nR => ⟨R, y, x, rfl, upd_same, hy, hx, fun z => xy z.symm, .inr ⟨rfl, rfl⟩, E6.new nR, (hp6.new nR).more (by omega), (k45.trans k6).new nR⟩⟩
          · have E6 := E5.keep hp5 k6
            exact ⟨_, rfl, b, x, y, rfl, E6.ends, hx, hy, xy, .inl ⟨rfl, rfl⟩, E6, hp6.more (by omega), k45.trans k6⟩
        · rintro sl G ⟨E9, u, v, rfl, h9, hu, hv, uv, xyuv, E6, hp6, k6⟩
          obtain ⟨es6, b6, r6, hE6, g6, hb6, pr6⟩ := E6.pick hu
          obtain ⟨es7, b7, r7, hE7, g7, hb7, pr7⟩ := E6.pick hv
          refine ⟨_, rfl, _, rfl, E9, _, 0, .int u, rfl, rfl, .inl (.inl h9), atI_nat (j := 0) rfl, e, _, _, _, rfl, rfl, .inl (.inl hE6), atI_nat g6, _, rfl, b6, r6, mo, rfl, hb6, pr6, fun y1 => ?_⟩
          refine ⟨_, rfl, _, rfl, E9, _, 1, .int v, rfl, rfl, .inl (.inl h9), atI_nat (j := 1) rfl, e, _, _, _, rfl, rfl, .inl (.inl hE7), atI_nat g7, _, rfl, b7, r7, mo, rfl, hb7, pr7, fun y2 => ⟨rfl, ?_⟩⟩
          generalize decide (V.bl y1 = V.bl y2) = h2
          refine ⟨by show 2 ≤ sizeLine; decide, fun L2 nL2 => ⟨_, rfl, _, rfl, rfl, .inr ⟨_, rfl, ?_⟩⟩⟩
          generalize (!decide (V.bl h2 = V.bl tu)) = bb
          obtain ⟨kind, hk, ek⟩ : ∃ kind : Str, atI [V.str "one", V.str "same"] (if bb = true then 1 else 0) = some (.str kind) ∧ (kind = "one" ∨ kind = "same") := by
            cases bb
            · exact ⟨_, atI_nat (j := 0) rfl, .inl rfl⟩
            · exact ⟨_, atI_nat (j := 1) rfl, .inr rfl⟩
          have E8 := E6.new nL2 (o := .lst [.str "one", .str "same"])
          have hp8 := hp6.new nL2 (o := .lst [.str "one", .str "same"])
          have k8 := k6.new nL2 (o := .lst [.str "one", .str "same"])
          have h98 : upd G L2 (.lst [.str "one", .str "same"]) E9 = some (.lst [.int u, .int v]) := by
            rw [upd_ne (ne_of_none h9 nL2)]
            exact h9
          obtain ⟨as8, t8, z8, lo8, hi8, hA8, la8, gt8, ht8, gz8⟩ := E8.town hu
          obtain ⟨as9, t9, z9, lo9, hi9, hA9, la9, gt9, ht9, gz9⟩ := E8.town hv
          refine ⟨L2, _, _, _, rfl, rfl, .inl (.inl upd_same), hk, ?_⟩
          refine ⟨_, rfl, _, rfl, E9, _, 0, .int u, rfl, rfl, .inl (.inl h98), atI_nat (j := 0) rfl, a, _, _, _, rfl, rfl, .inl (.inl hA8), atI_nat gt8, t8, _, 0, .str z8, rfl, rfl, .inl (.inl ht8), atI_nat (j := 0) rfl, ?_⟩
          refine ⟨_, rfl, _, rfl, E9, _, 1, .int v, rfl, rfl, .inl (.inl h98), atI_nat (j := 1) rfl, a, _, _, _, rfl, rfl, .inl (.inl hA9), atI_nat gt9, t9, _, 0, .str z9, rfl, rfl, .inl (.inl ht9), atI_nat (j := 0) rfl, ?_⟩
          refine ⟨_, rfl, by show 4 ≤ sizeLine; decide, fun T nT => ?_⟩
          refine q [.str kind, .str z8, .str z9, .int mo] T _ (.inr ⟨kind, z8, z9, mo, rfl, ek, List.mem_of_getElem? gz8, List.mem_of_getElem? gz9, ?_, m0, m1⟩) (fun kind2 y2 z2 d2 er => by
            injection er with _ er
            injection er with e1 er
            injection er with e2 _
            cases e1
            cases e2
            refine ⟨u, v, ?_, gz8, gz9⟩
            rcases xyuv with ⟨rfl, rfl⟩ | ⟨rfl, rfl⟩
            · exact .inl rfl
            · exact .inr rfl) (k8.fresh hp8 nT) upd_same ((hp8.new nT).more (by omega)) (k8.new nT)
          intro ez
          rw [ez] at gz8
          have l := EN.towns.1
          exact uv ((List.getElem?_inj (by rw [List.length_map]; omega) EN.towns.2.1).mp (gz8.trans gz9.symm))
    · rintro sl G ⟨rfl, E6, hp6, k6⟩
      refine ⟨by show 2 ≤ sizeLine; decide, fun L2 nL2 => ⟨_, rfl, _, rfl, rfl, .inr ⟨_, rfl, ?_⟩⟩⟩
      generalize (!decide (V.bl he = V.bl tu)) = bb
      obtain ⟨kind, hk, ek⟩ : ∃ kind : Str, atI [V.str "none", V.str "market"] (if bb = true then 1 else 0) = some (.str kind) ∧ (kind = "market" ∨ kind = "none") := by
        cases bb
        · exact ⟨_, atI_nat (j := 0) rfl, .inr rfl⟩
        · exact ⟨_, atI_nat (j := 1) rfl, .inl rfl⟩
      have E8 := E6.new nL2 (o := .lst [.str "none", .str "market"])
      have hp8 := hp6.new nL2 (o := .lst [.str "none", .str "market"])
      have k8 := k6.new nL2 (o := .lst [.str "none", .str "market"])
      obtain ⟨as8, t8, z8, lo8, hi8, hA8, la8, gt8, ht8, gz8⟩ := E8.town hrk
      refine ⟨L2, _, _, _, rfl, rfl, .inl (.inl upd_same), hk, ?_⟩
      refine ⟨_, rfl, _, rfl, a, _, _, _, rfl, rfl, .inl (.inl hA8), atI_nat gt8, t8, _, 0, .str z8, rfl, rfl, .inl (.inl ht8), atI_nat (j := 0) rfl, ?_⟩
      refine ⟨_, rfl, by show 3 ≤ sizeLine; decide, fun T nT => ?_⟩
      exact q [.str kind, .str z8, .int mo] T _ (.inl ⟨kind, z8, mo, rfl, ek, List.mem_of_getElem? gz8, m0, m1⟩) (fun kind2 y2 z2 d2 er => by simp at er) (k8.fresh hp8 nT) upd_same ((hp8.new nT).more (by omega)) (k8.new nT)
theorem ok_entry {f fC fM fK : Addr} {fd fdC fdM fdK : FuncData} {k : Nat} (F : Fun K "_law_mk_entry" "_law_mk_entry" sEntry f fd) (C : CoinAt P w K mg base fC fdC) (M : DefAt P w K mg base "_law_mk_moment" fM fdM ["purse"] 2 spMoment)
    (Mk : DefAt P w K mg base "_law_mk_market" fK fdK ["pick", "moment"] 1 spMarket) (B : Blt mg) : FnOk P w K mg base CX0 (k + 3) f fd ["purse", "places", "pair", "picks", "is_true"] spEntry :=
  (ok_entry2 F C M Mk B).imp fun vs H Q E ⟨p, a, b, e, c, m, rs, is, ps, e1, h1, h2, h3, h4, h5, q⟩ => ⟨p, a, b, e, c, m, rs, is, ps, false, e1, h1, h2, h3, h4, h5, fun r q0 H' nr _ => q r q0 H' nr⟩
end
end Md

namespace Md
open PySem PySem.Spec PyProof.Rows L2
abbrev sWide : Stmt := top 49
theorem Rows.put {G : Hp} {a F : Addr} {rs : List (List V)} {xs : List V} {o : HO} (h : Rows G a rs) (hF : G F = some (.lst xs)) (ne : a ≠ F) : Rows (upd G F o) a rs := by
  obtain ⟨as, h1, h2⟩ := h
  refine ⟨as, by rw [upd_ne ne]; exact h1, paired_imp h2 fun b r z => ?_⟩
  rw [upd_ne fun e => by rw [e, hF] at z; cases z]
  exact z
/-- a drawn sheet -/
structure Sheet (ts ns : List (List V)) : Prop where
  towns : ∀ r ∈ ts, TownB r
  nodup : (ts.map nameOf).Nodup
  notes : ∀ r ∈ ns, NoteR (ts.map nameOf) r
  few : ts.length ≤ 20
  few2 : ns.length ≤ 60
section
variable {P : Program} {w : World} {K : PySem.W.Frag} {mg : Str → Option Value} {base : Heap}
def spWide : Sp := fun vs H Q _ => ∃ (p : Addr) (c : Nat), vs = [.ref p] ∧ PurseAt H p c ∧ c ≤ 800000 ∧
  ∀ (ts ns : List (List V)) q a b H', Sheet ts ns → H q = none → H' q = some (.tup [.ref a, .ref b]) → Rows H' a ts → Rows H' b ns → PurseAt H' p (c + 3000) → Keep p H H' → Q (.ref q) H'
abbrev nWide : List Str := ["purse", "places", "picks", "entries", "turn", "pair"]
theorem scWide : FnScope nWide ["purse"] (defScope sWide) := ⟨rfl, rfl, rfl, by decide +kernel, rfl, by decide +kernel, by decide +kernel⟩
theorem ok_wide {f fC fL fP fI fE : Addr} {fd fdC fdL fdP fdI fdE : FuncData} {k : Nat} (F : Fun K "_law_mk_wide" "_law_mk_wide" sWide f fd) (C : CoinAt P w K mg base fC fdC) (PL : DefAt P w K mg base "_law_mk_places" fL fdL ["purse", "count", "top"] 3 spPlaces)
    (PK : DefAt P w K mg base "_law_mk_picks" fP fdP ["purse", "places"] 2 spPicks) (PR : DefAt P w K mg base "_law_mk_pair" fI fdI ["purse", "places"] 2 spPair) (EN : DefAt P w K mg base "_law_mk_entry" fE fdE ["purse", "places", "pair", "picks", "is_true"] 3 spEntry) (B : Blt mg) :
    FnOk P w K mg base CX0 (k + 4) f fd ["purse"] spWide := by
  have GC := C.ok (k + 2)
  have GL := PL.ok k
  have GP := PK.ok (k + 1)
  have GI := PR.ok (k + 1)
  have GE := EN.ok k
  refine F.ok scWide (fun vs H Q E h => ?_) (fun cdv A outer s H vs Q E hr h => ?_)
  · obtain ⟨p, c, rfl, _⟩ := h
    rfl
  · obtain ⟨p, c, rfl, hp, hc, q⟩ := h
    have nd := scWide.nd
    refine ⟨_, pss_cons (ps_set (i := 1) nd rfl (.inl rfl) (pe_call GL hr (by rfl) PL.mg PL.kp PL.b .nil pass0 (pa_cons (pv 0) (pa_cons (pe_call GC hr (by rfl) C.mg C.kp C.b .nil pass0 (pa_cons (pv 0) (pa_cons pe_int pa_nil)))
        (pa_cons (pe_ix ix_list (pe_lst (pa_cons pe_int (pa_cons (pe_op op_pow pe_int pe_int) pa_nil))) (pe_call GC hr (by rfl) C.mg C.kp C.b .nil pass0 (pa_cons (pv 0) (pa_cons pe_int pa_nil))) (fun _ _ => rfl)) pa_nil)))))
      (pss_cons (ps_if (pt_cmpR (op_eqD hr.units) (pv 1) (pe_lst pa_nil) (nomark _)) (pss_one (ps_ret (pe_tup (pa_cons (pe_lst pa_nil) (pa_cons (pe_lst pa_nil) pa_nil))))) pss_nil)
      (pss_cons (ps_par (i := 2) (j := 3) rfl nd rfl rfl (by decide) rfl rfl (pa_cons (pe_call GP hr (by rfl) PK.mg PK.kp PK.b .nil pass0 (pa_cons (pv 0) (pa_cons (pv 1) pa_nil))) (pa_cons (pe_lst pa_nil) pa_nil)) (by rfl))
      (pss_cons (ps_for PassesOwn.never rfl (pi_range1 rfl B.range (pa_cons (pe_call GC hr (by rfl) C.mg C.kp C.b .nil pass0 (pa_cons (pv 0) (pa_cons (pe_ix ix_list (pe_lst (pa_cons pe_int (pa_cons pe_int pa_nil))) (pe_call GC hr (by rfl) C.mg C.kp C.b .nil pass0 (pa_cons (pv 0) (pa_cons pe_int pa_nil))) (fun _ _ => rfl)) pa_nil))) pa_nil)) (pg_name (i := 4) nd rfl (.inl rfl))
        (pss_cons (ps_set (i := 5) nd rfl (.inl rfl) (pe_call GI hr (by rfl) PR.mg PR.kp PR.b .nil pass0 (pa_cons (pv 0) (pa_cons (pv 1) pa_nil))))
        (pss_one (ps_expr (pe_bm PySem.F.plainAttrs_list PySem.F.slot_list_append PySem.F.type_list_append mt_append (pv 3) (pa_cons (pe_call GE hr (by rfl) EN.mg EN.kp EN.b .nil pass0 (pa_cons (pv 0) (pa_cons (pv 1) (pa_cons (pv 5) (pa_cons (pv 2) (pa_cons pe_bl pa_nil)))))) pa_nil))))))
      (pss_one (ps_ret (pe_tup (pa_cons (pv 1) (pa_cons (pv 3) pa_nil)))))))), ?_⟩
    refine ⟨_, rfl, _, rfl, p, c, 21, rfl, hp, by omega, by decide, by decide, fun m G1 m0 m1 hp1 k1 => ?_⟩
    obtain ⟨m, rfl⟩ : ∃ n : Nat, m = n := ⟨m.toNat, by omega⟩
    refine ⟨_, _, rfl, rfl, ⟨by decide, by decide, by decide⟩, by show 2 ≤ sizeLine; decide, fun L nL => ⟨_, rfl, p, _, 2, rfl, hp1.new nL, by omega, by decide, by decide, fun d G2 d0 d1 hp2 k2 => ?_⟩⟩
    obtain ⟨t, ht, t1, t2⟩ : ∃ t : Int, atI [V.int 8, V.int (10 ^ 6)] d = some (.int t) ∧ 1 ≤ t ∧ t ≤ 10 ^ 6 := by
      have d01 : d = 0 ∨ d = 1 := by omega
      rcases d01 with rfl | rfl
      · exact ⟨_, atI_nat (j := 0) rfl, by decide, by decide⟩
      · exact ⟨_, atI_nat (j := 1) rfl, by decide, by decide⟩
    have kk := (k1.new nL).trans k2
    refine ⟨L, _, d, _, rfl, rfl, .inl (.inl (k2 _ _ upd_same (hp1.ne_new nL))), ht, p, _, m, t, rfl, hp2, by omega, by omega, t1, t2, fun ts a G3 tT na3 hA hp3 k3 _ => ?_⟩
    have fa := kk.fresh hp2 na3
    have k4 := kk.trans k3
    have flat : ∀ r ∈ ts, RowF r := fun r hr => (tT.2.2 r hr).flat
    have few := tT.1
    -- none
    refine ⟨_, rfl, Nat.zero_le _, fun N nN => ⟨.list (ts.map rowD), .list [], rows_dp (hA.new nN) flat, .lst (.inl (.inl upd_same)) .nil, (rows_nice flat).shaped (by decide), by rfl, _, rfl, ite2 (fun e => ?_) (fun e => ?_)⟩⟩
    · have hp5 := hp3.new nN (o := .lst [])
      have k5 := k4.new nN (o := .lst [])
      refine ⟨Nat.zero_le _, fun a1 n1 => ⟨Nat.zero_le _, fun a2 n2 => ⟨by show 2 ≤ sizeLine; decide, fun T nT => ?_⟩⟩⟩
      have k8 := ((k5.new n1).new n2).new nT (o := .tup [.ref a1, .ref a2])
      have hp8 := ((hp5.new n1).new n2).new nT (o := .tup [.ref a1, .ref a2])
      refine q [] [] T a1 a2 _ ⟨(fun r hr => by cases hr), .nil, (fun r hr => by cases hr), by decide, by decide⟩ (((k5.new n1).new n2).fresh ((hp5.new n1).new n2) nT) upd_same ?_ ?_ (hp8.more (by omega)) k8
      · exact (Rows.new (Rows.new ⟨[], upd_same, .nil⟩ n2) nT)
      · exact Rows.new ⟨[], upd_same, .nil⟩ nT
    · have m1' : 1 ≤ m := by
        cases ts with
        | nil => exact absurd rfl e
        | cons r rs =>
          rw [List.length_cons] at few
          omega
      have hp5 := hp3.new nN (o := .lst [])
      have k5 := k4.new nN (o := .lst [])
      have hA5 := hA.new nN (o := .lst [])
      refine ⟨_, rfl, _, rfl, p, a, _, m, ts, rfl, hp5, by omega, by omega, hA5, tT, fun ps e G6 lp good ne hE hp6 k6 => ⟨Nat.zero_le _, fun F0 nF0 => ⟨_, _, rfl, ?_⟩⟩⟩
      have hA6 := hA5.keep hp5 k6
      have k56 := k5.trans k6
      have w0 := Work.start hp6 k56 nF0
      have hA7 := hA6.new nF0 (o := .lst [])
      have hE7 := hE.new nF0 (o := .lst [])
      have aF : a ≠ F0 := by
        obtain ⟨as, h, _⟩ := hA6
        exact ne_of_none h nF0
      have eF : e ≠ F0 := by
        obtain ⟨as, h, _⟩ := hE
        exact ne_of_none h nF0
      -- how many
      refine ⟨_, rfl, by show 2 ≤ sizeLine; decide, fun L2 nL2 => ⟨_, rfl, p, _, 2, rfl, w0.purse.new nL2, by omega, by decide, by decide, fun d2 G8 d0 d1 hp8 k8 => ?_⟩⟩
      obtain ⟨t2, ht2, t21, t22⟩ : ∃ t : Int, atI [V.int 7, V.int 61] d2 = some (.int t) ∧ 1 ≤ t ∧ t ≤ 61 := by
        have d01 : d2 = 0 ∨ d2 = 1 := by omega
        rcases d01 with rfl | rfl
        · exact ⟨_, atI_nat (j := 0) rfl, by decide, by decide⟩
        · exact ⟨_, atI_nat (j := 1) rfl, by decide, by decide⟩
      have w8 := (w0.new nL2 (o := .lst [.int 7, .int 61])).step hp8 k8
      have hA8 := (hA7.new nL2 (o := .lst [.int 7, .int 61])).keep (w0.purse.new nL2) k8
      have hE8 := (hE7.new nL2 (o := .lst [.int 7, .int 61])).keep (w0.purse.new nL2) k8
      refine ⟨L2, _, d2, _, rfl, rfl, .inl (.inl (k8 _ _ upd_same (w0.purse.ne_new nL2))), ht2, p, _, t2, rfl, hp8, by omega, t21, by omega, fun j G9 j0 j1 hp9 k9 => ?_⟩
      have w9 := w8.step hp9 k9
      have hA9 := hA8.keep hp8 k9
      have hE9 := hE8.keep hp8 k9
      obtain ⟨j, rfl⟩ : ∃ n : Nat, j = n := ⟨j.toNat, by omega⟩
      refine ⟨(j : Int), rfl, by omega, by omega, ?_⟩
      refine for_range (lo := 0) (n := j) (fun i sl G => ∃ (ns : List (List V)) (v4 v5 : Option V), sl = [some (.ref p), some (.ref a), some (.ref e), some (.ref F0), v4, v5] ∧
        (∀ r ∈ ns, NoteR (ts.map nameOf) r) ∧ ns.length = i ∧ Rows G a ts ∧ Rows G e ps ∧ Work H G p F0 (c + 600 + 13 * i) ns) ⟨[], none, none, rfl, (fun r hr => by cases hr), rfl, hA9, hE9, w9.more (by omega)⟩ ?_ ?_
      · rintro i sl G hi ⟨ns, v4, v5, rfl, gn, ln, hA10, hE10, w10⟩
        have hA10' := hA10
        obtain ⟨as, hAs, hPs⟩ := hA10'
        refine ⟨_, rfl, _, rfl, p, a, _, m, as, rfl, w10.purse, by omega, m1', by omega, hAs, by rw [paired_len hPs, few], fun is b G11 pi nb hB hp11 k11 => ?_⟩
        have w11 := w10.step hp11 k11
        have hA11 := hA10.keep w10.purse k11
        have hE11 := hE10.keep w10.purse k11
        obtain ⟨as11, h11, _⟩ := w11.rows
        refine ⟨_, rfl, .inl ⟨rfl, _, .inl (.inl h11)⟩, _, rfl, _, rfl, _, rfl, _, rfl, p, a, b, e, _, m, ts, is, ps, rfl, hp11, by omega, m1', by omega, ⟨hA11, tT, hB, pi, hE11, lp, good⟩, fun r T G12 nr nT hT hp12 k12 => ?_⟩
        have w12 := w11.step hp12 k12
        obtain ⟨as12, h12, l12, w13⟩ := w12.push hT
        refine ⟨F0, _, _, rfl, rfl, h12, ?_, ns ++ [r], _, _, rfl, ?_, ?_, (hA11.keep hp11 k12).put h12 aF, (hE11.keep hp11 k12).put h12 eF, w13.more (by omega)⟩
        · rw [List.length_map]
          exact small1000 (by omega)
        · intro x hx
          rcases List.mem_append.mp hx with z | z
          · exact gn x z
          · rw [List.mem_singleton.mp z]
            exact nr
        · rw [List.length_append, ln]
          rfl
      · rintro sl G ⟨ns, v4, v5, rfl, gn, ln, hA10, hE10, w10⟩
        refine ⟨_, rfl, _, rfl, by show 2 ≤ sizeLine; decide, fun T nT => ?_⟩
        exact q ts ns T a F0 _ ⟨tT.2.2, tT.2.1, gn, by omega, by omega⟩ (w10.none_new nT) upd_same (hA10.new nT) (w10.rows.new nT) ((w10.new nT).more (by omega)).purse (w10.new nT).keep
end
end Md

set_option maxHeartbeats 1000000
/-! a written set of one thing -/
namespace Md
open PySem PySem.Spec PyProof.Rows L2
section
variable {P : Program} {w : World} {A : Around} {E : Value → Shared → Prop} {s : Shared} {D : Addr}
theorem unledK {S : Key → Bool} {n : Nat} {Q : Unit → Shared → Prop} (hS : s.heap.SetOf (mixKind P w) D S n) (h : ∀ h', h'.SetOf (mixKind P w) D S n → (∀ b o, b ≠ D → s.heap.get? b = some o → h'.get? b = some o) → Q () { s with heap := h' }) :
    wpAny (model P w) A (setUnled D) Q E s := by
  obtain ⟨o, es, ep, t, ho, hex, hd, hel, hmem, hb, hf, hn⟩ := hS
  have hf' : ({ t with led := false } : SetTable).fits es.size = true := by cases t; exact hf
  unfold setUnled
  refine wpAny_bind (wpAny_setState_of ho hd hf ?_)
  dsimp only
  refine wpAny_storeSet_of ho hd ?_ (fits_of_scanBound hb)
  obtain ⟨_, hS⟩ := SetOf_store (knd := mixKind P w) ho hex hd hel hmem hb hf'
  rw [hn] at hS
  have sb := Heap.SameBut.update s.heap D (Obj.putSet es { t with led := false })
  exact h _ hS fun b o hb e => (sb.2 b hb).trans e
end
/-- {e} -/
def tSet1 (P : Program) (w : World) (te : TE) : TE := fun σ H Q => ∀ p, H p = none → te σ (upd H p (SetK P w p (fun _ => false) 0)) fun x H1 => ∃ k : Key, x = kV k ∧ H1 p = some (SetK P w p (fun _ => false) 0) ∧ Q (.ref p) (upd H1 p (SetK P w p (fun j => decide (j = k)) 1))
section
variable {X : Cx} {e : Expr} {te : TE} {pos : Pos}
theorem pe_set1 (he : PE X e te) (hcd : PySem.W.kdsCode X.K X.env.code = true) (hp : PySem.W.kdsPlain e = true := by rfl) (hr : (displayRoad 0 [e] == .constants) = false := by rfl) : PE X (.Set [e] 0 pos) (tSet1 X.prog X.w te) := by
  refine ⟨fun pins s σ H Q I h => ?_⟩
  rw [arm_eval_Set]
  refine wpAny_bind (wpAny_standAt ?_)
  refine wpAny_bind (PySem.W.kds_main I.kIn hcd fun b => ?_)
  rw [PySem.W.kds_star [e] (by rw [List.all_cons, hp]; rfl), List.map_map]
  refine PySem.W.kds_core (ts := (evalEach [e] X.env).map fun t => do let v ← t; standAt pos; pure v) hr ?_ ?_ ?_ fun led => ?_
  · refine List.findIdx?_eq_none_iff.mpr fun x hx => ?_
    obtain ⟨t, _, rfl⟩ := List.mem_map.mp hx
    rfl
  · rw [List.length_map, PySem.W.kds_len]
    show 1 ≤ 30
    decide
  · rw [List.map_map]
    try rfl
  · refine PySem.W.kds_all pos [e] _ _ ?_
    have new : (s.heap.push { cls := .type "set", dict := none, data := .set #[] 0 (.fresh 0 0 led) }).SetOf (mixKind X.prog X.w) s.heap.objs.size (fun _ => false) 0 := ⟨_, #[], 0, _, Heap.get?_push_size _ rfl, ⟨rfl, rfl, rfl⟩, rfl, (fun e he => by simp at he), (fun k => by simp), (by decide), (by rfl), rfl⟩
    have I1 := I.laid (t' := s.toks) (fun b u e => Heap.get?_push_of_some _ e) (Nat.le_refl _) (setK_new new)
    refine thn (he.run pins _ σ _ _ I1 (h _ (I.hok.fresh (Nat.le_refl _)))) fun v s2 ⟨x, H1, I2, rx, k, ex, hk, q⟩ => ?_
    subst ex
    refine PySem.W.kds_fill_cons ?_
    unfold setAdd
    refine wpAny_holding (wpAny_bind ((mixKind X.prog X.w).pyHash (kV_is rx) ?_))
    refine wpAny_setAddHashed_of (knd := mixKind X.prog X.w) (s := { s2 with toks := s2.toks + 1 }) (kV_is rx) (key_scan rx) (show s2.heap.SetOf (mixKind X.prog X.w) s.heap.objs.size (fun _ => false) 0 from setK_get I2 hk) (by decide) fun h' sb hS' => ?_
    have hS2 : h'.SetOf (mixKind X.prog X.w) s.heap.objs.size (fun j => decide (j = k)) 1 := hS'
    have fin : ∀ h2 : Heap, h2.SetOf (mixKind X.prog X.w) s.heap.objs.size (fun j => decide (j = k)) 1 → (∀ b o, b ≠ s.heap.objs.size → s2.heap.get? b = some o → h2.get? b = some o) → ∃ x H2, Inv X pins σ H2 { s2 with heap := h2, toks := s2.toks + 1 } ∧ RelV x (Value.ref s.heap.objs.size) ∧ Q x H2 := fun h2 hS3 kk => by
      have he : ∃ u, h2.get? s.heap.objs.size = some u := by
        have ⟨o, _, _, _, ho, _⟩ := hS3
        exact ⟨o, ho⟩
      exact ⟨.ref _, upd H1 s.heap.objs.size (SetK X.prog X.w s.heap.objs.size (fun j => decide (j = k)) 1), I2.write (e := s.heap.objs.size) (t' := s2.toks + 1) (by rw [hk]; trivial) (.inl rfl) (fun b u hb hu => kk b u hb hu) he (setK_new hS3), rfl, q⟩
    cases hu : (displayRoad 0 [e] == DisplayRoad.unsure) with
    | false => exact PySem.W.kds_fill_nil rfl (fin h' hS2 fun b o hb z => (sb.2 b hb).trans z)
    | true => exact PySem.W.kds_fill_unled rfl (unledK (s := { s2 with heap := h', toks := s2.toks + 1 }) hS2 fun h2 hS3 k2 => fin h2 hS3 fun b o hb z => k2 b o hb ((sb.2 b hb).trans z))
end
/-! ### comprehensions of two clauses -/
section
variable {J J1 : It} {n n1 : Nat} {G G1 : Hp → Prop} {Y Y1 : Nat → Hp → V → Hp → Prop}
theorem lc2_in (w : Walk J1 n1 G1 Y1) {g1 : TG} {tt1 : TT} {te : TE} {vs1 : List Nat} {s2 : L2.St} {H4 : Hp} {D : Addr} {Nx : Hp → Prop} (Pv : Nat → Hp → Prop) (h0 : Pv 0 H4) (hG : ∀ i H, i ≤ n1 → Pv i H → G1 H)
    (hs : ∀ i x H H', i < n1 → Pv i H → Y1 i H x H' → g1 x (wipe s2 vs1) H' fun s3 H5 => wipe s3 vs1 = wipe s2 vs1 ∧ tt1 s3 H5 fun b H6 =>
      if b = true then te s3 H6 fun y H7 => ∃ acc, H7 D = some (.lst acc) ∧ acc.length < sizeLine ∧ Pv (i + 1) (upd H7 D (.lst (acc ++ [y]))) else Pv (i + 1) H6) (hd : ∀ H, Pv n1 H → Nx H) :
    ∃ W1 : Nat → Nat → Hp → Prop, (∃ m, W1 0 m H4) ∧ ∀ j k H, W1 j k H →
      (J1.stop j H ∧ Nx H) ∨ (J1.go j H ∧ ∃ Nx1 : Hp → Prop, (∀ H', Nx1 H' → ∃ k', k' < k ∧ W1 (j + 1) k' H') ∧ ∀ x H', J1.yld j H x H' → g1 x (wipe s2 vs1) H' fun s3 H5 => wipe s3 vs1 = wipe s2 vs1 ∧ tt1 s3 H5 fun b H6 =>
        if b = true then te s3 H6 fun y H7 => ∃ acc, H7 D = some (.lst acc) ∧ acc.length < sizeLine ∧ Nx1 (upd H7 D (.lst (acc ++ [y]))) else Nx1 H6) := by
  refine ⟨fun i m H => m = n1 - i ∧ i ≤ n1 ∧ Pv i H, ⟨n1, by simp, Nat.zero_le _, h0⟩, ?_⟩
  rintro i m H ⟨rfl, hi, p⟩
  have q := hG i H hi p
  by_cases hlt : i < n1
  · exact .inr ⟨w.goes i H hlt q, Pv (i + 1), fun H' p' => ⟨n1 - (i + 1), by omega, rfl, hlt, p'⟩, fun x H' y => hs i x H H' hlt p (w.yields i H x H' hlt q y)⟩
  · have e : i = n1 := by omega
    subst e
    exact .inl ⟨w.stops H q, hd H p⟩
theorem lc2_it (w : Walk J n G Y) {g g1 : TG} {tt tt1 : TT} {wi1 : TI} {te : TE} {vs vs1 : List Nat} {sl : L2.St} {H1 : Hp} {D : Addr} {Qd : Hp → Prop} (Pv : Nat → Hp → Prop) (h0 : Pv 0 (upd H1 D (.lst []))) (hG : ∀ i H, i ≤ n → Pv i H → G H)
    (hs : ∀ i x H H', i < n → Pv i H → Y i H x H' → g x (wipe sl vs) H' fun s2 H2 => wipe s2 vs = wipe sl vs ∧ tt s2 H2 fun b H3 =>
      if b = true then wi1 s2 H3 fun J1 H4 => ∃ W1 : Nat → Nat → Hp → Prop, (∃ m, W1 0 m H4) ∧ ∀ j k H, W1 j k H →
        (J1.stop j H ∧ Pv (i + 1) H) ∨ (J1.go j H ∧ ∃ Nx1 : Hp → Prop, (∀ H', Nx1 H' → ∃ k', k' < k ∧ W1 (j + 1) k' H') ∧ ∀ x H', J1.yld j H x H' → g1 x (wipe s2 vs1) H' fun s3 H5 => wipe s3 vs1 = wipe s2 vs1 ∧ tt1 s3 H5 fun b H6 =>
          if b = true then te s3 H6 fun y H7 => ∃ acc, H7 D = some (.lst acc) ∧ acc.length < sizeLine ∧ Nx1 (upd H7 D (.lst (acc ++ [y]))) else Nx1 H6)
      else Pv (i + 1) H3) (hd : ∀ H, Pv n H → Qd H) :
    ∃ W : Nat → Nat → Hp → Prop, (∃ m, W 0 m (upd H1 D (.lst []))) ∧ ∀ i m H, W i m H →
      (J.stop i H ∧ Qd H) ∨ (J.go i H ∧ ∃ Nx : Hp → Prop, (∀ H', Nx H' → ∃ m', m' < m ∧ W (i + 1) m' H') ∧ ∀ x H', J.yld i H x H' → g x (wipe sl vs) H' fun s2 H2 => wipe s2 vs = wipe sl vs ∧ tt s2 H2 fun b H3 =>
        if b = true then wi1 s2 H3 fun J1 H4 => ∃ W1 : Nat → Nat → Hp → Prop, (∃ m, W1 0 m H4) ∧ ∀ j k H, W1 j k H →
          (J1.stop j H ∧ Nx H) ∨ (J1.go j H ∧ ∃ Nx1 : Hp → Prop, (∀ H', Nx1 H' → ∃ k', k' < k ∧ W1 (j + 1) k' H') ∧ ∀ x H', J1.yld j H x H' → g1 x (wipe s2 vs1) H' fun s3 H5 => wipe s3 vs1 = wipe s2 vs1 ∧ tt1 s3 H5 fun b H6 =>
            if b = true then te s3 H6 fun y H7 => ∃ acc, H7 D = some (.lst acc) ∧ acc.length < sizeLine ∧ Nx1 (upd H7 D (.lst (acc ++ [y]))) else Nx1 H6)
        else Nx H3) := by
  refine ⟨fun i m H => m = n - i ∧ i ≤ n ∧ Pv i H, ⟨n, by simp, Nat.zero_le _, h0⟩, ?_⟩
  rintro i m H ⟨rfl, hi, p⟩
  have q := hG i H hi p
  by_cases hlt : i < n
  · exact .inr ⟨w.goes i H hlt q, Pv (i + 1), fun H' p' => ⟨n - (i + 1), by omega, rfl, hlt, p'⟩, fun x H' y => hs i x H H' hlt p (w.yields i H x H' hlt q y)⟩
  · have e : i = n := by omega
    subst e
    exact .inl ⟨w.stops H q, hd H p⟩
end
end Md

namespace Md
open PySem PySem.Spec PyProof.Rows L2
abbrev sKeptBy : Stmt := top 19
abbrev sChoicesOf : Stmt := top 20
abbrev sHasMarket : Stmt := top 21
abbrev sNumberWith : Stmt := top 22
abbrev sIsKept : Stmt := top 23
/-! ### notes, towns, choices as data -/
inductive Nt where
  | one (mk : Bool) (z : Str) (d : Int)
  | two (sm : Bool) (y z : Str) (d : Int)
def kind1 (mk : Bool) : Str := if mk = true then "market" else "none"
def kind2 (sm : Bool) : Str := if sm = true then "same" else "one"
def Nt.kind : Nt → Str
  | .one mk _ _ => kind1 mk
  | .two sm _ _ _ => kind2 sm
def Nt.mids : Nt → List Str
  | .one _ z _ => [z]
  | .two _ y z _ => [y, z]
def Nt.day : Nt → Int
  | .one _ _ d => d
  | .two _ _ _ d => d
def Nt.row (n : Nt) : List V := .str n.kind :: (n.mids.map V.str ++ [.int n.day])
abbrev Ch := Int × Int
def chV (c : Ch) : List V := [.int c.1, .int c.2]
def hasM (c : Ch) (d : Int) : Bool := decide (d % c.1 = c.2)
def cnt (cs : List Ch) (d : Int) : Nat := (cs.filter fun c => hasM c d).length
def fitsN : Nt → Nat → Bool
  | .one true _ _, n => decide (n = 1)
  | .one false _ _, n => decide (n = 0)
  | .two false _ _ _, n => decide (n = 1)
  | .two true _ _ _, n => decide (n = 0) || decide (n = 2)
def keptB (nt : Nt) (cs : List Ch) : Bool := fitsN nt (cnt cs nt.day)
def waysFrom (lo : Int) (i : Nat) : List Ch := (List.range (lo + (i : Int)).toNat).map fun (j : Nat) => (lo + (i : Int), (j : Int))
def ways (lo hi : Int) : List Ch := (List.range (hi + 1 - lo).toNat).flatMap (waysFrom lo)
theorem ways_pos {lo hi : Int} (h : 1 ≤ lo) {c : Ch} (m : c ∈ ways lo hi) : 1 ≤ c.1 := by
  unfold ways at m
  obtain ⟨i, _, hc⟩ := List.mem_flatMap.mp m
  unfold waysFrom at hc
  obtain ⟨j, _, e⟩ := List.mem_map.mp hc
  subst e
  show 1 ≤ lo + (i : Int)
  omega
theorem new_same {G : Hp} {q : Addr} {o : HO} (n : G q = none) : Same G (upd G q o) := fun b u z => by
  rw [upd_ne (ne_of_none z n)]
  exact z
theorem waysFrom_len {lo : Int} {i : Nat} : (waysFrom lo i).length = (lo + (i : Int)).toNat := by
  unfold waysFrom
  rw [List.length_map, List.length_range]
theorem ways_few {lo : Int} {h : Nat} : ∀ {n : Nat}, lo + (n : Int) ≤ (h : Int) + 1 → ((List.range n).flatMap (waysFrom lo)).length ≤ h * n
  | 0, _ => by simp
  | n + 1, e => by
    rw [List.range_succ, List.flatMap_append, List.length_append]
    have a := ways_few (lo := lo) (h := h) (n := n) (by omega)
    have b : ([n].flatMap (waysFrom lo)).length ≤ h := by
      simp only [List.flatMap_cons, List.flatMap_nil, List.append_nil]
      rw [waysFrom_len]
      omega
    rw [Nat.mul_succ]
    omega
theorem ways_len {lo hi : Int} (h1 : 1 ≤ lo) (h2 : hi ≤ 12) : (ways lo hi).length ≤ 144 := by
  unfold ways
  have a := ways_few (lo := lo) (n := (hi + 1 - lo).toNat) (h := 12)
  by_cases c : lo ≤ hi
  · have b := a (by omega)
    have d : 12 * (hi + 1 - lo).toNat ≤ 144 := by omega
    omega
  · rw [show (hi + 1 - lo).toNat = 0 by omega]
    simp
/-! ### lists of things in the heap -/
def F1 (H : Hp) (b : Addr) (r : List V) : Prop := H b = some (.tup r)
structure MonoF {α : Type} (F : Hp → Addr → α → Prop) : Prop where
  keep : ∀ {G G' : Hp} {D b : Addr} {r : α} {as : List Addr}, G D = some (.lst (as.map V.ref)) → Keep D G G' → b ≠ D → F G b r → F G' b r
  same : ∀ {G G' : Hp} {b : Addr} {r : α}, Same G G' → F G b r → F G' b r
theorem mono1 : MonoF F1 := ⟨fun h k ne f => k _ _ f ne, fun s f => s _ _ f⟩
/-- a list at a of references to such things -/
def LF {α : Type} (F : Hp → Addr → α → Prop) (G : Hp) (a : Addr) (rs : List α) : Prop := ∃ as : List Addr, G a = some (.lst (as.map V.ref)) ∧ Paired (F G) as rs
theorem LF.same {α : Type} {F : Hp → Addr → α → Prop} (m : MonoF F) {G G' : Hp} {a : Addr} {rs : List α} (s : Same G G') (h : LF F G a rs) : LF F G' a rs := by
  obtain ⟨as, h1, h2⟩ := h
  exact ⟨as, s _ _ h1, paired_imp h2 fun b r z => m.same s z⟩
/-- a new list at D grows -/
structure Grow {α : Type} (F : Hp → Addr → α → Prop) (H G : Hp) (D : Addr) (rs : List α) : Prop where
  same : Same H G
  fresh : H D = none
  items : ∃ as : List Addr, G D = some (.lst (as.map V.ref)) ∧ Paired (fun b r => b ≠ D ∧ F G b r) as rs
section
variable {α : Type} {F : Hp → Addr → α → Prop} {H G G2 : Hp} {D t q : Addr} {rs : List α} {r : α} {o : HO}
theorem Grow.start (n : H D = none) : Grow F H (upd H D (.lst [])) D [] := ⟨new_same n, n, [], upd_same, .nil⟩
theorem Grow.lf (g : Grow F H G D rs) : LF F G D rs := by
  obtain ⟨as, h1, h2⟩ := g.items
  exact ⟨as, h1, paired_imp h2 fun b r z => z.2⟩
theorem Grow.len (g : Grow F H G D rs) : ∃ as : List Addr, as.length = rs.length ∧ G D = some (.lst (as.map V.ref)) := by
  obtain ⟨as, h1, h2⟩ := g.items
  exact ⟨as, paired_len h2, h1⟩
theorem Grow.step (m : MonoF F) (g : Grow F H G D rs) (s : Same G G2) : Grow F H G2 D rs := by
  obtain ⟨as, h1, h2⟩ := g.items
  exact ⟨g.same.trans s, g.fresh, as, s _ _ h1, paired_imp h2 fun b r z => ⟨z.1, m.same s z.2⟩⟩
theorem Grow.new (m : MonoF F) (g : Grow F H G D rs) (n : G q = none) : Grow F H (upd G q o) D rs := g.step m (new_same n)
theorem Grow.push (m : MonoF F) (g : Grow F H G D rs) (ne : t ≠ D) (ht : F G t r) : ∃ as : List Addr, G D = some (.lst (as.map V.ref)) ∧ as.length = rs.length ∧ Grow F H (upd G D (.lst (as.map V.ref ++ [.ref t]))) D (rs ++ [r]) := by
  obtain ⟨as, h1, h2⟩ := g.items
  have k : Keep D G (upd G D (.lst (as.map V.ref ++ [.ref t]))) := fun b u z ne => by rw [upd_ne ne]; exact z
  refine ⟨as, h1, paired_len h2, fun b u h => ?_, g.fresh, as ++ [t], ?_, ?_⟩
  · rw [upd_ne (ne_of_none h g.fresh)]
    exact g.same b u h
  · rw [upd_same, List.map_append]
    rfl
  · exact paired_snoc (paired_imp h2 fun b u z => ⟨z.1, m.keep h1 k z.1 z.2⟩) ⟨ne, m.keep h1 k ne ht⟩
theorem Grow.away (g : Grow F H G D rs) {xs : List V} (ht : G t = some (.tup xs)) : t ≠ D := by
  obtain ⟨as, h1, _⟩ := g.items
  intro e
  rw [e, h1] at ht
  cases ht
theorem Grow.ne (g : Grow F H G D rs) (n : G q = none) : D ≠ q := by
  obtain ⟨as, h1, _⟩ := g.items
  exact ne_of_none h1 n
end
theorem lf1_rows {G : Hp} {a : Addr} {rs : List (List V)} (h : LF F1 G a rs) : Rows G a rs := h
section
variable {P : Program} {w : World} {K : PySem.W.Frag} {mg : Str → Option Value} {base : Heap}
/-! ### choices of a town -/
def spWays : Sp := fun vs H Q _ => ∃ (t : Addr) (z : Str) (lo hi : Int), vs = [.ref t] ∧ H t = some (.tup [.str z, .int lo, .int hi]) ∧ 1 ≤ lo ∧ lo ≤ hi ∧ hi ≤ 12 ∧
  ∀ q H', H q = none → LF F1 H' q ((ways lo hi).map chV) → Same H H' → Q (.ref q) H'
abbrev nWays : List Str := ["town", "turn", "first"]
theorem scWays : FnScope nWays ["town"] (defScope sChoicesOf) := ⟨rfl, rfl, rfl, by decide +kernel, rfl, by decide +kernel, by decide +kernel⟩
theorem ok_ways {f : Addr} {fd : FuncData} {k : Nat} (F : Fun K "choices_of" "choices_of" sChoicesOf f fd) (B : Blt mg) : FnOk P w K mg base CX0 (k + 1) f fd ["town"] spWays := by
  refine F.ok scWays (fun vs H Q E h => ?_) (fun cdv A outer s H vs Q E hr h => ?_)
  · obtain ⟨t, z, lo, hi, rfl, _⟩ := h
    rfl
  · obtain ⟨t, z, lo, hi, rfl, hT, l1, l12, l2, q⟩ := h
    have nd := scWays.nd
    refine ⟨_, pss_one (ps_ret (pe_lc2 (own := [("turn", 1), ("first", 2)]) (vs1 := [2]) (g := gName 1) (g1 := gName 2) (tt := tYes) (tt1 := tYes) rfl nd
      (pi_range2 (by rfl) B.range (pa_cons (pe_ix (r := rIxT K) ix_tup (pv 0) pe_int (fun _ _ => rfl)) (pa_cons (pe_op op_add (pe_ix (r := rIxT K) ix_tup (pv 0) pe_int (fun _ _ => rfl)) pe_int) pa_nil)))
      (blkOk_by (N := nWays) (sc := defScope sChoicesOf) (by decide +kernel)) (by decide)
      (fun _ _ _ _ _ => pg_name (i := 1) nd rfl (.inl rfl)) (fun _ _ _ _ _ => pts_nil) (fun _ _ _ _ _ => pi_range1 (by rfl) B.range (pa_cons (pv 1) pa_nil)) (fun _ _ _ _ _ => pg_name (i := 2) nd rfl (.inl rfl)) (fun _ _ _ _ _ => pts_nil)
      (fun _ _ _ _ _ => pe_tup (pa_cons (pv 1) (pa_cons (pv 2) pa_nil))))), ?_⟩
    have hq : SqT K H t [.str z, .int lo, .int hi] := .inl (.inl hT)
    refine ⟨_, rfl, t, _, 1, .int lo, rfl, rfl, hq, atI_nat (j := 1) rfl, _, rfl, t, _, 2, .int hi, rfl, rfl, hq, atI_nat (j := 2) rfl, _, _, rfl, rfl, lo, hi + 1, rfl, ⟨by omega, by omega, by omega, by omega⟩, fun D nD => ?_⟩
    refine lc2_it walk_range (fun i G => Grow F1 H G D (((List.range i).flatMap (waysFrom lo)).map chV)) (Grow.start nD) (fun _ _ _ _ => trivial) ?_ ?_
    · rintro i x G G' hi2 g ⟨rfl, rfl⟩
      refine ⟨rfl, ?_⟩
      refine ⟨_, rfl, lo + (i : Int), rfl, by omega, by omega, ?_⟩
      refine lc2_in walk_range (fun j G2 => Grow F1 H G2 D (((List.range i).flatMap (waysFrom lo) ++ (waysFrom lo i).take j).map chV)) (by simpa using g) (fun _ _ _ _ => trivial) ?_ ?_
      · rintro j x G3 G4 hj g3 ⟨rfl, rfl⟩
        have hj2 : (waysFrom lo i)[j]? = some (lo + (i : Int), (j : Int)) := by
          unfold waysFrom
          rw [List.getElem?_map, List.getElem?_range hj]
          rfl
        refine ⟨rfl, _, rfl, _, rfl, by show 2 ≤ sizeLine; decide, fun T nT => ?_⟩
        have g4 := g3.new mono1 nT (o := .tup [.int (lo + (i : Int)), .int (0 + (j : Int))])
        obtain ⟨as, h1, l1, g5⟩ := g4.push mono1 (g4.away upd_same) (show F1 _ T (chV (lo + (i : Int), (j : Int))) by show upd _ _ _ _ = _; rw [upd_same]; simp [chV])
        refine ⟨_, h1, ?_, ?_⟩
        · rw [List.length_map, l1, List.length_map, List.length_append]
          refine small1000 ?_
          have b1 : ((waysFrom lo i).take j).length ≤ 12 := by
            rw [List.length_take]
            unfold waysFrom
            rw [List.length_map, List.length_range]
            omega
          have b2 := ways_few (lo := lo) (n := i) (h := 12) (by omega)
          have b3 : 12 * i ≤ 144 := by omega
          omega
        · rw [List.take_add_one, hj2]
          rw [← List.append_assoc, List.map_append]
          exact g5
      · intro G3 g3
        have e : (waysFrom lo i).take (lo + (i : Int)).toNat = waysFrom lo i := by
          refine List.take_of_length_le ?_
          unfold waysFrom
          rw [List.length_map, List.length_range]
          exact Nat.le_refl _
        rw [e] at g3
        rw [List.range_succ, List.flatMap_append]
        simpa using g3
    · intro G g
      exact q D G nD g.lf g.same
/-! ### market on a day -/
def spHas : Sp := fun vs H Q _ => ∃ (b : Addr) (c : Ch) (d : Int), vs = [.ref b, .int d] ∧ H b = some (.tup (chV c)) ∧ 1 ≤ c.1 ∧ Q (.bl (hasM c d)) H
theorem scHas : FnScope ["choice", "day"] ["choice", "day"] (defScope sHasMarket) := ⟨rfl, rfl, rfl, by decide +kernel, rfl, by decide +kernel, by decide +kernel⟩
theorem ok_has {f : Addr} {fd : FuncData} {k : Nat} (F : Fun K "has_market" "has_market" sHasMarket f fd) : FnOk P w K mg base CX0 (k + 1) f fd ["choice", "day"] spHas := by
  refine F.ok scHas (fun vs H Q E h => ?_) (fun cdv A outer s H vs Q E hr h => ?_)
  · obtain ⟨b, c, d, rfl, _⟩ := h
    rfl
  · obtain ⟨b, ⟨t, x⟩, d, rfl, hb, t1, q⟩ := h
    refine ⟨_, pss_one (ps_ret (pe_cmpR op_eq (pe_op op_mod (pv 1) (pe_ix (r := rIxT K) ix_tup (pv 0) pe_int (fun _ _ => rfl))) (pe_ix (r := rIxT K) ix_tup (pv 0) pe_int (fun _ _ => rfl)) (nomark _))), ?_⟩
    have t1 : 1 ≤ t := t1
    refine ⟨_, rfl, _, rfl, b, _, 0, .int t, rfl, rfl, .inl (.inl hb), atI_nat (j := 0) rfl, _, _, rfl, rfl, (by show 0 < t; omega), _, rfl, b, _, 1, .int x, rfl, rfl, .inl (.inl hb), atI_nat (j := 1) rfl, rfl, ?_⟩
    have e : decide (V.int (d % t) = V.int x) = hasM (t, x) d := by
      unfold hasM
      exact decide_eq_decide.mpr ⟨fun z => V.int.inj z, fun z => by rw [show d % t = x from z]⟩
    rw [e]
    exact q
end
end Md

namespace Md
open PySem PySem.Spec PyProof.Rows L2
/-- the table of how many of a note's towns have market -/
structure KeptBy (K : PySem.W.Frag) (w : World) (mg : Str → Option Value) : Prop where
  at_ : ∃ d, mg "KEPT_BY" = some (.ref d) ∧ (∃ a, KDct K w d "market" (.ref a) ∧ ∀ H, SqT K H a [.int 1]) ∧ (∃ a, KDct K w d "none" (.ref a) ∧ ∀ H, SqT K H a [.int 0]) ∧ (∃ a, KDct K w d "one" (.ref a) ∧ ∀ H, SqT K H a [.int 1]) ∧ ∃ a, KDct K w d "same" (.ref a) ∧ ∀ H, SqT K H a [.int 0, .int 2]
def fitInts : Nt → List V
  | .one true _ _ => [.int 1]
  | .one false _ _ => [.int 0]
  | .two false _ _ _ => [.int 1]
  | .two true _ _ _ => [.int 0, .int 2]
theorem KeptBy.get {K : PySem.W.Frag} {w : World} {mg : Str → Option Value} (T : KeptBy K w mg) : ∃ d, mg "KEPT_BY" = some (.ref d) ∧ ∀ nt : Nt, ∃ a, KDct K w d nt.kind (.ref a) ∧ ∀ H, SqT K H a (fitInts nt) := by
  obtain ⟨d, m, a1, a2, a3, a4⟩ := T.at_
  refine ⟨d, m, fun nt => ?_⟩
  match nt with
  | .one true _ _ => exact a1
  | .one false _ _ => exact a2
  | .two false _ _ _ => exact a3
  | .two true _ _ _ => exact a4
theorem fits_in (nt : Nt) (n : Nat) : inV (V.int (n : Int)) (fitInts nt) = fitsN nt n := by
  have e : ∀ (i : Int), eqV (V.int i) (V.int (n : Int)) = decide (i = (n : Int)) := fun i => by
    show (i == (n : Int)) = _
    rfl
  match nt with
  | .one true _ _ =>
    show (eqV (.int 1) (.int (n : Int)) || false) = decide (n = 1)
    rw [e, Bool.or_false]
    exact decide_eq_decide.mpr (by omega)
  | .one false _ _ =>
    show (eqV (.int 0) (.int (n : Int)) || false) = decide (n = 0)
    rw [e, Bool.or_false]
    exact decide_eq_decide.mpr (by omega)
  | .two false _ _ _ =>
    show (eqV (.int 1) (.int (n : Int)) || false) = decide (n = 1)
    rw [e, Bool.or_false]
    exact decide_eq_decide.mpr (by omega)
  | .two true _ _ _ =>
    show (eqV (.int 0) (.int (n : Int)) || (eqV (.int 2) (.int (n : Int)) || false)) = (decide (n = 0) || decide (n = 2))
    rw [e, e, Bool.or_false]
    congr 1
    · exact decide_eq_decide.mpr (by omega)
    · exact decide_eq_decide.mpr (by omega)
theorem fit_flat (nt : Nt) : (fitInts nt).all flatV = true := by
  match nt with
  | .one true _ _ => rfl
  | .one false _ _ => rfl
  | .two false _ _ _ => rfl
  | .two true _ _ _ => rfl
section
variable {P : Program} {w : World} {K : PySem.W.Frag} {mg : Str → Option Value} {base : Heap}
/-- a list of choices, to be read -/
def ChsK (K : PySem.W.Frag) (H : Hp) (a : Addr) (cs : List Ch) : Prop := ∃ as : List Addr, SqL K H a (as.map V.ref) ∧ Paired (fun b c => H b = some (.tup (chV c))) as cs
theorem chs_ref {as : List Addr} {cs : List Ch} {H : Hp} (h : Paired (fun b c => H b = some (.tup (chV c))) as cs) {i : Nat} {x : V} (hx : (as.map V.ref)[i]? = some x) : ∃ b c, x = .ref b ∧ cs[i]? = some c ∧ H b = some (.tup (chV c)) := by
  have hi : i < cs.length := by
    have z := (List.getElem?_eq_some_iff.mp hx).1
    rw [List.length_map, paired_len h] at z
    exact z
  have hr : cs[i]? = some cs[i] := List.getElem?_eq_getElem hi
  obtain ⟨b, hb, hbr⟩ := paired_get h i cs[i] hr
  refine ⟨b, cs[i], ?_, hr, hbr⟩
  rw [List.getElem?_map, hb] at hx
  exact (Option.some.inj hx).symm
def spNumW (K : PySem.W.Frag) : Sp := fun vs H Q _ => ∃ (a : Addr) (cs : List Ch) (d : Int), vs = [.ref a, .int d] ∧ ChsK K H a cs ∧ (∀ c ∈ cs, 1 ≤ c.1) ∧ cs.length ≤ 1000 ∧ ∀ H', Same H H' → Q (.int (cnt cs d : Nat)) H'
abbrev nNumW : List Str := ["chosen", "day", "choice"]
theorem scNumW : FnScope nNumW ["chosen", "day"] (defScope sNumberWith) := ⟨rfl, rfl, rfl, by decide +kernel, rfl, by decide +kernel, by decide +kernel⟩
theorem cnt_next {cs : List Ch} {d : Int} {i : Nat} {c : Ch} (h : cs[i]? = some c) : (cs.take (i + 1)).filter (fun c => hasM c d) = (cs.take i).filter (fun c => hasM c d) ++ (if hasM c d = true then [c] else []) := by
  rw [List.take_add_one, h, List.filter_append]
  congr 1
  simp only [Option.toList_some, List.filter_cons, List.filter_nil]
theorem ok_numW {f fH : Addr} {fd fdH : FuncData} {k : Nat} (F : Fun K "number_with" "number_with" sNumberWith f fd) (HM : DefAt P w K mg base "has_market" fH fdH ["choice", "day"] 1 spHas) (B : Blt mg) : FnOk P w K mg base CX0 (k + 2) f fd ["chosen", "day"] (spNumW K) := by
  have GH := HM.ok k
  refine F.ok scNumW (fun vs H Q E h => ?_) (fun cdv A outer s H vs Q E hr h => ?_)
  · obtain ⟨a, cs, d, rfl, _⟩ := h
    rfl
  · obtain ⟨a, cs, d, rfl, ⟨as, hS, hP⟩, pos, few, q⟩ := h
    have nd := scNumW.nd
    refine ⟨_, pss_one (ps_ret (pe_callB call_len_seq (by rfl) B.len PySem.boot_len (pa_cons (pe_lc (own := [("choice", 2)]) (g := gName 2) rfl nd (pi_list (pv 0)) (blkOk_by (N := nNumW) (sc := defScope sNumberWith) (by decide +kernel))
      (fun _ _ _ _ _ => pg_name (i := 2) nd rfl (.inl rfl)) (fun _ _ _ _ _ => pts_one (pt_val (pe_call GH hr (by rfl) HM.mg HM.kp HM.b .nil pass0 (pa_cons (pv 2) (pa_cons (pv 1) pa_nil))))) (fun _ _ _ _ _ => pv 2)) pa_nil))), ?_⟩
    refine ⟨_, rfl, a, rfl, ⟨_, hS⟩, fun D nD => ?_⟩
    have ln : as.length = cs.length := paired_len hP
    refine lc_it (walk_list (K := K) (a := a) (xs := as.map V.ref)) (fun i G => Same H G ∧ ∃ vs : List V, vs.length = ((cs.take i).filter fun c => hasM c d).length ∧ G D = some (.lst vs)) ⟨new_same nD, [], by simp, upd_same⟩ (fun i G _ z => z.1.seq hS) ?_ ?_
    · rintro i x G G' hi ⟨s1, vs, lv, hD⟩ ⟨rfl, hx⟩
      obtain ⟨b, c, rfl, hc, hb⟩ := chs_ref hP hx
      have nx := cnt_next (d := d) hc
      refine ⟨rfl, _, rfl, _, rfl, b, c, d, rfl, s1 _ _ hb, pos c (List.mem_of_getElem? hc), _, rfl, ?_⟩
      by_cases e : hasM c d = true
      · rw [if_pos e] at nx
        rw [e]
        refine iteT ⟨_, rfl, vs, hD, ?_, fun b2 o z => ?_, vs ++ [.ref b], ?_, upd_same⟩
        · rw [lv]
          refine small1000 (Nat.le_trans (List.length_filter_le _ _) ?_)
          rw [List.length_take]
          omega
        · rw [upd_ne (ne_of_none z nD)]
          exact s1 _ _ z
        · rw [nx, List.length_append, List.length_append, lv]
          rfl
      · rw [if_neg e] at nx
        rw [Bool.eq_false_iff.mpr e]
        refine iteF ⟨s1, vs, ?_, hD⟩
        rw [nx, lv]
        simp
    · rintro G ⟨s1, vs, lv, hD⟩
      rw [List.length_map, ln, List.take_length] at lv
      refine ⟨D, vs, rfl, .inl (.inl (.inl hD)), ?_⟩
      rw [lv]
      exact q _ s1
/-! ### whether a note is kept -/
def spKeptP (K : PySem.W.Frag) : Sp := fun vs H Q _ => ∃ (t a : Addr) (nt : Nt) (cs : List Ch), vs = [.ref t, .ref a] ∧ H t = some (.tup nt.row) ∧ ChsK K H a cs ∧ (∀ c ∈ cs, 1 ≤ c.1) ∧ cs.length ≤ 1000 ∧ ∀ H', Same H H' → Q (.bl (keptB nt cs)) H'
theorem scKeptP : FnScope ["note", "chosen"] ["note", "chosen"] (defScope sIsKept) := ⟨rfl, rfl, rfl, by decide +kernel, rfl, by decide +kernel, by decide +kernel⟩
theorem row_last (nt : Nt) : atI nt.row (-1) = some (.int nt.day) := atI_last (V.str nt.kind :: nt.mids.map V.str) (V.int nt.day)
theorem ok_keptP {f fN : Addr} {fd fdN : FuncData} {k : Nat} (F : Fun K "is_kept" "is_kept" sIsKept f fd) (NW : DefAt P w K mg base "number_with" fN fdN ["chosen", "day"] 2 (spNumW K)) (T : KeptBy K w mg) : FnOk P w K mg base CX0 (k + 3) f fd ["note", "chosen"] (spKeptP K) := by
  have GN := NW.ok k
  refine F.ok scKeptP (fun vs H Q E h => ?_) (fun cdv A outer s H vs Q E hr h => ?_)
  · obtain ⟨t, a, nt, cs, rfl, _⟩ := h
    rfl
  · obtain ⟨t, a, nt, cs, rfl, hT, hC, pos, few, q⟩ := h
    obtain ⟨d, md, tab⟩ := T.get
    refine ⟨_, pss_one (ps_ret (pe_cmpR op_in_seq (pe_call GN hr (by rfl) NW.mg NW.kp NW.b .nil pass0 (pa_cons (pv 1) (pa_cons (pe_ix (r := rIxT K) ix_tup (pv 0) (pe_un un_neg pe_int) (fun _ _ => rfl)) pa_nil)))
      (pe_ix (r := rIxD K w) ix_kdict (pe_glob (v := .ref d) rfl md rfl) (pe_ix (r := rIxT K) ix_tup (pv 0) pe_int (fun _ _ => rfl)) (fun _ _ => rfl)) (by rfl))), ?_⟩
    obtain ⟨b, hk, hb⟩ := tab nt
    refine ⟨_, rfl, _, rfl, _, rfl, t, _, -1, .int nt.day, rfl, rfl, .inl (.inl hT), row_last nt, a, cs, nt.day, rfl, hC, pos, few, fun H1 s1 => ?_⟩
    refine ⟨_, rfl, t, _, 0, .str nt.kind, rfl, rfl, .inl (.inl (s1 _ _ hT)), atI_nat (j := 0) rfl, _, _, _, rfl, rfl, hk, ?_⟩
    refine ⟨b, _, rfl, .inr (hb _), rfl, fit_flat nt, ?_⟩
    rw [fits_in]
    exact q _ s1
end
end Md

namespace Md
open PySem PySem.Spec PyProof.Rows L2
abbrev sGroupOf : Stmt := top 25
/-- the class, as it is asked -/
structure Tell (P : Program) (w : World) (K : PySem.W.Frag) (mg : Str → Option Value) (base : Heap) (C pT gT pN gN fA fL : Addr) (dT dN dA dL : FuncData) : Prop where
  cl : Cl K C
  pT : PropOf K C "towns" pT gT
  oT : ∀ k, FnOk P w K mg base CX0 (k + 1) gT dT ["self"] (spTowns C)
  bT : Binds K dT ["self"] []
  pN : PropOf K C "notes" pN gN
  oN : ∀ k, FnOk P w K mg base CX0 (k + 1) gN dN ["self"] (spNotes C)
  bN : Binds K dN ["self"] []
  mA : Meth K C "names" fA
  oA : ∀ k, FnOk P w K mg base CX0 (k + 1) fA dA ["self"] (spNames C)
  bA : Binds K dA ["self"] []
  mL : Meth K C "__len__" fL
  oL : ∀ k, FnOk P w K mg base CX0 (k + 1) fL dL ["self"] (spLen C)
  bL : Binds K dL ["self"] []
abbrev rLenS (K : PySem.W.Frag) : List V → Hp → VK → Prop := fun xs H Q => ∃ p ys, xs = [V.ref p] ∧ (SqL K H p ys ∨ SqT K H p ys) ∧ Q (V.int ys.length) H
/-! ### notes of two towns -/
def Nt.pairs : Nt → List (List V)
  | .one _ _ _ => []
  | .two _ y z _ => [[.str y, .str z]]
def prs (nts : List Nt) : List (List V) := nts.flatMap Nt.pairs
/-- all notes of two towns are of these two -/
structure PairOf (nts : List Nt) (x y : Str) : Prop where
  ne : x ≠ y
  all : ∀ sm a b d, Nt.two sm a b d ∈ nts → (a = x ∧ b = y) ∨ (a = y ∧ b = x)
def has2 (nts : List Nt) : Bool := !(prs nts).isEmpty
theorem prs_all {nts : List Nt} {x y : Str} (h : PairOf nts x y) {r : List V} (m : r ∈ prs nts) : r = [.str x, .str y] ∨ r = [.str y, .str x] := by
  obtain ⟨n, hn, hr⟩ := List.mem_flatMap.mp m
  cases n with
  | one mk z d => cases hr
  | two sm a b d =>
    have e : r = [.str a, .str b] := List.mem_singleton.mp hr
    rcases h.all sm a b d hn with ⟨rfl, rfl⟩ | ⟨rfl, rfl⟩
    · exact .inl e
    · exact .inr e
/-- a town is one of the two that hang together -/
def hangs (nts : List Nt) (x y z : Str) : Bool := has2 nts && (decide (z = x) || decide (z = y))
/-- the names of the towns that hang together with a town -/
def grpB (nts : List Nt) (x y z u : Str) : Bool := if hangs nts x y z = true then decide (u = x) || decide (u = y) else decide (u = z)
/-- what the set holds: the town alone, or the two -/
def reachF (x y z : Str) (st : Bool) : Key → Bool := if st = true then fun j => decide (j = Sum.inr x) || decide (j = Sum.inr y) else fun j => decide (j = Sum.inr z)
def SetIs (P : Program) (w : World) (G : Hp) (r : Addr) (S : Key → Bool) (st : Bool) : Prop := ∃ n, n ≤ 6 ∧ G r = some (SetK P w r S n) ∧ (st = false → n ≤ 1)
theorem reach_str (x y z u : Str) (st : Bool) : reachF x y z st (.inr u) = if st = true then decide (u = x) || decide (u = y) else decide (u = z) := by
  unfold reachF
  cases st with
  | true => simp
  | false => simp
theorem nt_at {nts : List Nt} {i : Nat} {row : List V} (h : (nts.map Nt.row)[i]? = some row) : ∃ nt, nts[i]? = some nt ∧ row = nt.row := by
  rw [List.getElem?_map] at h
  cases e : nts[i]? with
  | none => rw [e] at h; cases h
  | some nt => rw [e] at h; exact ⟨nt, rfl, (Option.some.inj h).symm⟩
theorem prs_next {nts : List Nt} {i : Nat} {nt : Nt} (h : nts[i]? = some nt) : prs (nts.take (i + 1)) = prs (nts.take i) ++ nt.pairs := by
  unfold prs
  rw [List.take_add_one, h, List.flatMap_append]
  simp
theorem prs_len : ∀ nts : List Nt, (prs nts).length ≤ nts.length
  | [] => by simp [prs]
  | n :: nts => by
    have ih := prs_len nts
    unfold prs at ih ⊢
    rw [List.flatMap_cons, List.length_append, List.length_cons]
    cases n with
    | one mk z d => simp only [Nt.pairs, List.length_nil]; omega
    | two sm a b d => simp only [Nt.pairs, List.length_cons, List.length_nil]; omega
section
variable {P : Program} {w : World} {K : PySem.W.Frag} {mg : Str → Option Value} {base : Heap}
theorem kds_of {cd : Value} {q : Str} (e : PySem.W.codeIn K cd q = true) : PySem.W.kdsCode K cd = true := by
  unfold PySem.W.codeIn at e
  unfold PySem.W.kdsCode
  cases cd with
  | ref c =>
    dsimp only at e ⊢
    split at e
    · rename_i h
      rw [h]
    · cases e
  | _ => cases e
theorem okC {x qual : Str} {st : Stmt} {f : Addr} {fd : FuncData} {N ps : List Str} {k : Nat} {sp : Sp} (F : Fun K x qual st f fd) (S : FnScope N ps (defScope st)) (len : ∀ vs H Q E, sp vs H Q E → vs.length = ps.length)
    (hbody : ∀ (cdv : Value) (A : Around) (outer : List Env) (s : Shared) (H : Hp) (vs : List V) (Q : VK) (E : XK), PySem.W.kdsCode K cdv = true → Room k (A.deeper (envOfC qual (defScope st) s.heap.objs.size f cdv)) → sp vs H Q E →
      ∃ t, PSs (cxOf CX0 P w K mg base N qual (defScope st) f cdv A outer s H E).nox (defBody st) t ∧ t { nx := fun _ H' => Q .non H', rt := Q } (start N vs) H) : FnOk P w K mg base CX0 (k + 1) f fd ps sp := by
  obtain ⟨oc, od, kV, doc, pm, an, cdv, ct, osl, rfl, lk, hcd⟩ := F.ex
  refine fn_of lk hcd S len fun A outer s H vs Q E hr hsp => ?_
  obtain ⟨t, h, q⟩ := hbody cdv A outer s H vs Q E (kds_of hcd) hr hsp
  exact ⟨t, h.nox, q⟩
def spGroupOf (C : Addr) : Sp := fun vs H Q _ => ∃ (m dx a b : Addr) (ts : List (List V)) (nts : List Nt) (x y z : Str), vs = [.ref m, .str z] ∧ DiaryAt C H m dx a b ts (nts.map Nt.row) ∧ (∀ r ∈ ts, TownR r) ∧ ts.length ≤ 100 ∧ nts.length ≤ 100 ∧ PairOf nts x y ∧
  ∀ q H', H q = none → H' q = some (.lst (((ts.map nameOf).filter (grpB nts x y z)).map V.str)) → Same H H' → Q (.ref q) H'
abbrev nGroupOf : List Str := ["diary", "town", "pairs", "reached", "grown", "one", "other", "note", "name"]
theorem scGroupOf : FnScope nGroupOf ["diary", "town"] (defScope sGroupOf) := ⟨rfl, rfl, rfl, by decide +kernel, rfl, by decide +kernel, by decide +kernel⟩
theorem ok_groupOf {f C pT gT pN gN fA fL : Addr} {fd dT dN dA dL : FuncData} {k : Nat} (F : Fun K "group_of" "group_of" sGroupOf f fd) (D : Tell P w K mg base C pT gT pN gN fA fL dT dN dA dL) (B : Blt mg) :
    FnOk P w K mg base CX0 (k + 3) f fd ["diary", "town"] (spGroupOf C) := by
  refine okC F scGroupOf (fun vs H Q E h => ?_) (fun cdv A outer s H vs Q E hcd hr h => ?_)
  · obtain ⟨m, dx, a, b, ts, nts, x, y, z, rfl, _⟩ := h
    rfl
  · obtain ⟨m, dx, a, b, ts, nts, x, y, z, rfl, DA, good, few, few2, PO, q⟩ := h
    have nd := scGroupOf.nd
    refine ⟨_, pss_cons (ps_setLc (i := 2) (own := [("note", 7)]) (g := gName 7) rfl nd rfl rfl (sw_true rfl rfl rfl (by decide +kernel)) (pi_list (pe_prop (pv 0) D.cl.cl D.pN (D.oN k) hr D.bN .nil pass0 (by rfl))) (blkOk_by (N := nGroupOf) (sc := defScope sGroupOf) (by decide +kernel))
        (fun _ _ _ _ _ => pg_name (i := 7) nd rfl (.inl rfl)) (fun _ _ _ _ _ => pts_one (pt_cmpR op_eq (pe_callB (r := rLenS K) call_len_seq (by rfl) B.len PySem.boot_len (pa_cons (pv 7) pa_nil)) pe_int (nomark _))) (fun _ _ _ _ _ => pe_slice (r := rSlT K) sl_tup (pv 7) (po_some pe_int) (po_some pe_int)))
      (pss_cons (ps_set (i := 3) nd rfl (.inr rfl) (pe_set1 (pv 1) hcd))
      (pss_cons (ps_set (i := 4) nd rfl (.inl rfl) pe_bl)
      (pss_cons (ps_while PassesOwn.never (pt_val (pv 4))
        (pss_cons (ps_set (i := 4) nd rfl (.inl rfl) pe_bl)
        (pss_one (ps_for PassesOwn.never rfl (pi_list (pv 2)) (pg_tup (by rfl) (pgs_cons (pg_name (i := 5) nd rfl (.inl rfl)) (pgs_cons (pg_name (i := 6) nd rfl (.inl rfl)) pgs_nil)))
          (pss_one (ps_if (pt_cmpR op_ne (pe_cmpR or_sinK (pv 5) (pv 3) (by rfl)) (pe_cmpR or_sinK (pv 6) (pv 3) (by rfl)) (nomark _))
            (pss_cons (ps_expr (pe_saddK (pv 3) (pa_cons (pv 5) pa_nil)))
            (pss_cons (ps_expr (pe_saddK (pv 3) (pa_cons (pv 6) pa_nil)))
            (pss_one (ps_set (i := 4) nd rfl (.inl rfl) pe_bl)))) pss_nil))))))
      (pss_one (ps_ret (pe_lc (own := [("name", 8)]) (g := gName 8) rfl nd (pi_list (pe_meth0 (pv 0) D.cl.cl D.mA (D.oA (k + 1)) hr D.bA .nil pass0)) (blkOk_by (N := nGroupOf) (sc := defScope sGroupOf) (by decide +kernel))
        (fun _ _ _ _ _ => pg_name (i := 8) nd rfl (.inl rfl)) (fun _ _ _ _ _ => pts_one (pt_cmpR (r := rSInK P w false) or_sinK (pv 8) (pv 3) (by rfl))) (fun _ _ _ _ _ => pv 8))))))), ?_⟩
    refine ⟨_, rfl, m, dx, _, rfl, DA.ob, m, dx, a, b, ts, nts.map Nt.row, rfl, DA, fun N0 H1 n0 r0 s1 => ?_⟩
    obtain ⟨nas, h1, h2⟩ := r0
    have ln : nas.length = nts.length := by rw [paired_len h2, List.length_map]
    refine ⟨N0, rfl, ⟨_, .inl (.inl h1)⟩, fun D0 nD0 => ?_⟩
    refine lc_it (walk_list (K := K) (a := N0) (xs := nas.map V.ref)) (fun i G => Grow F1 H1 G D0 (prs (nts.take i))) (Grow.start nD0) (fun i G _ g => .inl (.inl (g.same _ _ h1))) ?_ ?_
    · rintro i x G G' hi g ⟨rfl, hx⟩
      obtain ⟨b2, row, rfl, hr1, hb⟩ := rows_ref h2 hx
      obtain ⟨nt, hnt, rfl⟩ := nt_at hr1
      have hb1 : SqT K G' b2 nt.row := .inl (.inl (g.same _ _ hb))
      cases nt with
      | one mk z1 d1 =>
        refine ⟨rfl, _, rfl, b2, _, rfl, .inr hb1, rfl, _, rfl, iteF ?_⟩
        rw [prs_next hnt]
        simpa [Nt.pairs] using g
      | two sm a1 b1 d1 =>
        refine ⟨rfl, _, rfl, b2, _, rfl, .inr hb1, rfl, _, rfl, iteT ?_⟩
        refine ⟨_, rfl, 1, rfl, 3, rfl, b2, _, rfl, hb1, by rw [show (Nt.two sm a1 b1 d1).row.length = 4 from rfl]; decide, fun c nc => ?_⟩
        have g2 := g.new mono1 nc (o := .tup (cutV (Nt.two sm a1 b1 d1).row (some 1) (some 3)))
        obtain ⟨as, h3, l3, g3⟩ := g2.push mono1 (g2.away upd_same) (show F1 _ c [.str a1, .str b1] by show upd _ _ _ _ = _; rw [upd_same]; rfl)
        refine ⟨_, h3, ?_, ?_⟩
        · rw [List.length_map, l3]
          have := prs_len (nts.take i)
          rw [List.length_take] at this
          exact small1000 (by omega)
        · rw [prs_next hnt]
          exact g3
    · intro G g
      rw [List.length_map, ln, List.take_length] at g
      obtain ⟨pas, hp1, hp2⟩ := g.lf
      have lp := paired_len hp2
      have sG : Same H G := s1.trans g.same
      refine fun r nr => ⟨_, rfl, .inr z, rfl, upd_same, ?_⟩
      have sb : ∀ (G2 : Hp) (o : HO), Same G G2 → Same G (upd G2 r o) := fun G2 o s b2 u e => by
        rw [upd_ne (ne_of_none e nr)]
        exact s _ _ e
      let zin : Bool := decide (z = x) || decide (z = y)
      have hz : hangs nts x y z = (decide (0 < (prs nts).length) && zin) := by
        unfold hangs has2
        cases prs nts with
        | nil => rfl
        | cons a l => rfl
      refine ⟨fun mu sl G2 => ∃ (gr st : Bool) (v5 v6 : Option V), sl = [some (.ref m), some (.str z), some (.ref D0), some (.ref r), some (.bl gr), v5, v6, none, none] ∧ Same G G2 ∧ SetIs P w G2 r (reachF x y z st) st ∧ (st = true → hangs nts x y z = true) ∧ (gr = false → st = hangs nts x y z) ∧
        mu = if gr = true then (if st = true then 1 else 2) else 0, ⟨2, true, false, none, none, rfl, ?_, ?_, (fun e => nomatch e), (fun e => nomatch e), rfl⟩, ?_⟩
      · exact sb _ _ (sb _ _ (Same.refl G))
      · exact ⟨1, by decide, by rw [upd_same]; rfl, fun _ => Nat.le_refl 1⟩
      · rintro mu sl G2 ⟨gr, st0, v5, v6, rfl, s2, S2, imp, fin, rfl⟩
        refine ⟨_, rfl, gr, rfl, ?_⟩
        cases gr with
        | false =>
          refine iteF ?_
          -- the names
          have hst := fin rfl
          refine ⟨_, rfl, m, dx, _, rfl, (sG.trans s2) _ _ DA.ob, by rfl, m, dx, a, b, ts, nts.map Nt.row, rfl, DA.same (sG.trans s2), good, few, fun N1 H3 n1 h31 s3 => ?_⟩
          refine ⟨N1, rfl, ⟨_, .inl (.inl h31)⟩, fun D1 nD1 => ?_⟩
          obtain ⟨n, hn, hS, hn1⟩ := S2
          refine lc_it (walk_list (K := K) (a := N1) (xs := (ts.map nameOf).map V.str)) (fun i G3 => Same H3 G3 ∧ G3 D1 = some (.lst ((((ts.map nameOf).take i).filter (grpB nts x y z)).map V.str))) ⟨new_same nD1, by rw [upd_same]; rfl⟩ (fun i G3 _ g => .inl (.inl (g.1 _ _ h31))) ?_ ?_
          · rintro i xv G3 G4 hi ⟨s4, h4⟩ ⟨rfl, hx⟩
            obtain ⟨u, hu, rfl⟩ := strs_at hx
            refine ⟨rfl, _, rfl, _, rfl, .inr u, r, _, n, rfl, rfl, s4 _ _ (s3 _ _ hS), ?_⟩
            have nx : ((ts.map nameOf).take (i + 1)).filter (grpB nts x y z) = ((ts.map nameOf).take i).filter (grpB nts x y z) ++ (if grpB nts x y z u = true then [u] else []) := by
              rw [List.take_add_one, hu, List.filter_append]
              congr 1
              simp only [Option.toList_some, List.filter_cons, List.filter_nil]
            have hb : reachF x y z st0 (.inr u) = grpB nts x y z u := by
              rw [reach_str, hst]
              rfl
            refine ⟨_, rfl, ?_⟩
            show (if (reachF x y z st0 (.inr u)) = true then _ else _)
            rw [hb]
            by_cases e : grpB nts x y z u = true
            · rw [if_pos e] at nx
              rw [e]
              refine iteT ⟨_, rfl, _, h4, ?_, ?_, ?_⟩
              · rw [List.length_map]
                refine small1000 (Nat.le_trans (List.length_filter_le _ _) ?_)
                rw [List.length_take, List.length_map]
                omega
              · exact fun b2 o z2 => by
                  rw [upd_ne (ne_of_none z2 nD1)]
                  exact s4 _ _ z2
              · rw [upd_same, nx, List.map_append]
                rfl
            · rw [if_neg e, List.append_nil] at nx
              rw [Bool.eq_false_iff.mpr e]
              exact iteF ⟨s4, by rw [nx]; exact h4⟩
          · rintro G3 ⟨s4, h4⟩
            rw [List.length_map, List.take_length] at h4
            exact q D1 G3 ((sG.trans s2).free (s3.free nD1)) h4 (((sG.trans s2).trans s3).trans s4)
        | true =>
          refine iteT ⟨fun sl G3 => ∃ (gr st : Bool) (v5 v6 : Option V), sl = [some (.ref m), some (.str z), some (.ref D0), some (.ref r), some (.bl gr), v5, v6, none, none] ∧ Same G G3 ∧ SetIs P w G3 r (reachF x y z st) st ∧ gr = (st != st0) ∧ st = (st0 || hangs nts x y z), ?_, ?_⟩
          · rintro sl G3 ⟨gr, st, v5, v6, rfl, s3, S3, egr, est⟩
            refine ⟨if gr = true then (if st = true then 1 else 2) else 0, ?_, gr, st, v5, v6, rfl, s3, S3, ?_, ?_, rfl⟩
            · rw [if_pos rfl]
              cases st0 with
              | true =>
                have e : st = true := by rw [est]; rfl
                subst e
                have e2 : gr = false := by rw [egr]; rfl
                subst e2
                decide
              | false =>
                cases st with
                | true =>
                  have e2 : gr = true := by rw [egr]; rfl
                  subst e2
                  decide
                | false =>
                  have e2 : gr = false := by rw [egr]; rfl
                  subst e2
                  decide
            · intro e
              rw [est] at e
              cases hs : st0 with
              | true => exact imp hs
              | false =>
                rw [hs] at e
                exact e
            · intro e
              rw [e] at egr
              cases hs : st0 with
              | true =>
                rw [hs] at est
                rw [est, imp hs]
                rfl
              | false =>
                rw [hs] at est
                rw [est]
                rfl
          · refine ⟨_, rfl, D0, rfl, ⟨_, .inl (.inl (s2 _ _ hp1))⟩, for_list (K := K) (a := D0) (xs := pas.map V.ref) (fun i sl G3 => ∃ (gr st : Bool) (v5 v6 : Option V), sl = [some (.ref m), some (.str z), some (.ref D0), some (.ref r), some (.bl gr), v5, v6, none, none] ∧ Same G G3 ∧ SetIs P w G3 r (reachF x y z st) st ∧ gr = (st != st0) ∧ st = (st0 || (decide (0 < i) && zin)))
              ⟨false, st0, _, _, rfl, s2, S2, by cases st0 <;> rfl, by simp⟩ (fun i sl G3 _ ⟨_, _, _, _, _, s3, _⟩ => .inl (.inl (s3 _ _ hp1))) ?_ ?_⟩
            · rintro i xv sl G3 hx ⟨gr, st, v5, v6, rfl, s3, S3, egr, est⟩
              obtain ⟨b3, prow, rfl, hr3, hb3⟩ := rows_ref hp2 hx
              have hm := prs_all PO (List.mem_of_getElem? hr3)
              obtain ⟨a1, b1, rfl, hab⟩ : ∃ a1 b1 : Str, prow = [.str a1, .str b1] ∧ ((a1 = x ∧ b1 = y) ∨ (a1 = y ∧ b1 = x)) := by
                rcases hm with e | e
                · exact ⟨x, y, e, .inl ⟨rfl, rfl⟩⟩
                · exact ⟨y, x, e, .inr ⟨rfl, rfl⟩⟩
              obtain ⟨n, hn, hS, hn1⟩ := S3
              refine ⟨b3, _, rfl, .inl (.inl (s3 _ _ hb3)), rfl, _, _, rfl, _, _, rfl, rfl, ?_⟩
              refine ⟨_, rfl, _, rfl, .inr a1, r, _, n, rfl, rfl, hS, _, rfl, _, rfl, .inr b1, r, _, n, rfl, rfl, hS, ?_⟩
              have nx : (st0 || (decide (0 < i + 1) && zin)) = (st || zin) := by
                rw [est, decide_eq_true (Nat.succ_pos i)]
                cases st0 <;> cases zin <;> simp
              cases st with
              | true =>
                have e1 : reachF x y z true (.inr a1) = true := by
                  rw [reach_str, if_pos rfl]
                  rcases hab with ⟨rfl, rfl⟩ | ⟨rfl, rfl⟩ <;> simp
                have e2 : reachF x y z true (.inr b1) = true := by
                  rw [reach_str, if_pos rfl]
                  rcases hab with ⟨rfl, rfl⟩ | ⟨rfl, rfl⟩ <;> simp
                show _ ∧ _
                rw [e1, e2]
                refine ⟨rfl, _, rfl, iteF ⟨gr, true, _, _, rfl, s3, ⟨n, hn, hS, hn1⟩, egr, nx.symm⟩⟩
              | false =>
                have e1 : reachF x y z false (.inr a1) = decide (a1 = z) := by
                  rw [reach_str, if_neg (by decide)]
                have e2 : reachF x y z false (.inr b1) = decide (b1 = z) := by
                  rw [reach_str, if_neg (by decide)]
                show _ ∧ _
                rw [e1, e2]
                have f0 : st0 = false := by
                  cases hs : st0 with
                  | false => rfl
                  | true =>
                    rw [hs] at est
                    cases est
                have g0 : gr = false := by rw [egr, f0]; rfl
                subst g0
                by_cases hzin : zin = true
                · have hne : (decide (a1 = z) = true ∧ decide (b1 = z) = false) ∨ (decide (a1 = z) = false ∧ decide (b1 = z) = true) := by
                    have hz2 : z = x ∨ z = y := by simpa [zin] using hzin
                    have xy := PO.ne
                    rcases hab with ⟨rfl, rfl⟩ | ⟨rfl, rfl⟩ <;> rcases hz2 with rfl | rfl <;> simp [xy, xy.symm]
                  have hfn : (fun j => (reachF x y z false j || decide (j = Sum.inr a1)) || decide (j = Sum.inr b1)) = reachF x y z true := by
                    funext j
                    have hz2 : z = x ∨ z = y := by simpa [zin] using hzin
                    unfold reachF
                    rw [if_neg (by decide), if_pos rfl]
                    rcases hab with ⟨e1, e2⟩ | ⟨e1, e2⟩ <;> rcases hz2 with e3 | e3 <;> rw [e1, e2, e3] <;> cases decide (j = Sum.inr x) <;> cases decide (j = Sum.inr y) <;> rfl
                  rcases hne with ⟨q1, q2⟩ | ⟨q1, q2⟩ <;> rw [q1, q2] <;> refine ⟨rfl, _, rfl, iteT ?_⟩ <;>
                  (refine ⟨_, rfl, ⟨r, _, n, rfl, hS⟩, _, rfl, r, .inr a1, _, n, rfl, rfl, hS, by unfold scanBound; omega, ?_⟩
                   refine ⟨_, rfl, ⟨r, _, _, rfl, upd_same⟩, _, rfl, r, .inr b1, _, _, rfl, rfl, upd_same, by unfold scanBound; split <;> omega, ?_⟩
                   refine ⟨true, true, _, _, rfl, sb _ _ (sb _ _ s3), ⟨_, ?_, by rw [upd_same]; exact congrArg (fun S => some (SetK P w r S _)) hfn, fun e => nomatch e⟩, by rw [f0]; rfl, by rw [nx, hzin]; rfl⟩
                   have nle : n ≤ 1 := hn1 rfl
                   split <;> split <;> omega)
                · have hze : zin = false := Bool.eq_false_iff.mpr hzin
                  have q1 : decide (a1 = z) = false ∧ decide (b1 = z) = false := by
                    have hz2 : ¬ z = x ∧ ¬ z = y := by simpa [zin] using hzin
                    rcases hab with ⟨rfl, rfl⟩ | ⟨rfl, rfl⟩
                    · exact ⟨decide_eq_false fun e => hz2.1 e.symm, decide_eq_false fun e => hz2.2 e.symm⟩
                    · exact ⟨decide_eq_false fun e => hz2.2 e.symm, decide_eq_false fun e => hz2.1 e.symm⟩
                  rw [q1.1, q1.2]
                  refine ⟨rfl, _, rfl, iteF ⟨false, false, _, _, rfl, s3, ⟨n, hn, hS, hn1⟩, egr, ?_⟩⟩
                  rw [nx, hze]
                  rfl
            · rintro sl G3 ⟨gr, st, v5, v6, rfl, s3, S3, egr, est⟩
              refine ⟨gr, st, v5, v6, rfl, s3, S3, egr, ?_⟩
              rw [est, hz, List.length_map, lp]
end
end Md

namespace Md
open PySem PySem.Spec PyProof.Rows L2
abbrev sGroupsOf : Stmt := top 26
def FS (H : Hp) (b : Addr) (l : List Str) : Prop := H b = some (.lst (l.map V.str))
theorem monoS : MonoF FS := ⟨fun h k ne f => k _ _ f ne, fun s f => s _ _ f⟩
def grpOf (nts : List Nt) (x y : Str) (zs : List Str) (z : Str) : List Str := zs.filter (grpB nts x y z)
def leads (nts : List Nt) (x y : Str) (zs : List Str) (z : Str) : Bool := decide ((grpOf nts x y zs z).head? = some z)
def grps (nts : List Nt) (x y : Str) (zs l : List Str) : List (List Str) := (l.filter (leads nts x y zs)).map (grpOf nts x y zs)
theorem grpB_self (nts : List Nt) (x y z : Str) : grpB nts x y z z = true := by
  unfold grpB
  by_cases h : hangs nts x y z = true
  · rw [if_pos h]
    unfold hangs at h
    rw [Bool.and_eq_true] at h
    exact h.2
  · rw [if_neg h]
    simp
theorem grps_next {nts : List Nt} {x y : Str} {zs l : List Str} {i : Nat} {z : Str} (h : l[i]? = some z) : grps nts x y zs (l.take (i + 1)) = grps nts x y zs (l.take i) ++ (if leads nts x y zs z = true then [grpOf nts x y zs z] else []) := by
  unfold grps
  rw [List.take_add_one, h, List.filter_append, List.map_append]
  congr 1
  simp only [Option.toList_some, List.filter_cons, List.filter_nil]
  split <;> rfl
section
variable {P : Program} {w : World} {K : PySem.W.Frag} {mg : Str → Option Value} {base : Heap}
def spGroupsOf (C : Addr) : Sp := fun vs H Q _ => ∃ (m dx a b : Addr) (ts : List (List V)) (nts : List Nt) (x y : Str), vs = [.ref m] ∧ DiaryAt C H m dx a b ts (nts.map Nt.row) ∧ (∀ r ∈ ts, TownR r) ∧ ts.length ≤ 100 ∧ nts.length ≤ 100 ∧ PairOf nts x y ∧
  ∀ q H', H q = none → LF FS H' q (grps nts x y (ts.map nameOf) (ts.map nameOf)) → Same H H' → Q (.ref q) H'
abbrev nGroupsOf : List Str := ["diary", "groups", "name", "group"]
theorem scGroupsOf : FnScope nGroupsOf ["diary"] (defScope sGroupsOf) := ⟨rfl, rfl, rfl, by decide +kernel, rfl, by decide +kernel, by decide +kernel⟩
theorem ok_groupsOf {f fG C pT gT pN gN fA fL : Addr} {fd fdG dT dN dA dL : FuncData} {k : Nat} (F : Fun K "groups_of" "groups_of" sGroupsOf f fd) (GO : DefAt P w K mg base "group_of" fG fdG ["diary", "town"] 3 (spGroupOf C)) (D : Tell P w K mg base C pT gT pN gN fA fL dT dN dA dL) :
    FnOk P w K mg base CX0 (k + 4) f fd ["diary"] (spGroupsOf C) := by
  have GG := GO.ok k
  refine F.ok scGroupsOf (fun vs H Q E h => ?_) (fun cdv A outer s H vs Q E hr h => ?_)
  · obtain ⟨m, dx, a, b, ts, nts, x, y, rfl, _⟩ := h
    rfl
  · obtain ⟨m, dx, a, b, ts, nts, x, y, rfl, DA, good, few, few2, PO, q⟩ := h
    have nd := scGroupsOf.nd
    refine ⟨_, pss_cons (ps_set (i := 1) nd rfl (.inl rfl) (pe_lst pa_nil))
      (pss_cons (ps_for PassesOwn.never rfl (pi_list (pe_meth0 (pv 0) D.cl.cl D.mA (D.oA (k + 2)) hr D.bA .nil pass0)) (pg_name (i := 2) nd rfl (.inl rfl))
        (pss_cons (ps_set (i := 3) nd rfl (.inl rfl) (pe_call GG hr (by rfl) GO.mg GO.kp GO.b .nil pass0 (pa_cons (pv 0) (pa_cons (pv 2) pa_nil))))
        (pss_one (ps_if (pt_cmpR op_eq (pe_ix ix_list (pv 3) pe_int (fun _ _ => rfl)) (pv 2) (nomark _))
          (pss_one (ps_expr (pe_bm PySem.F.plainAttrs_list PySem.F.slot_list_append PySem.F.type_list_append mt_append (pv 1) (pa_cons (pv 3) pa_nil)))) pss_nil))))
      (pss_one (ps_ret (pv 1)))), ?_⟩
    refine ⟨Nat.zero_le _, fun D0 nD0 => ?_⟩
    have g0 : Grow FS H (upd H D0 (.lst [])) D0 [] := Grow.start nD0
    have DA0 := DA.same (new_same nD0 (o := .lst []))
    refine ⟨_, rfl, m, dx, _, rfl, DA0.ob, by rfl, m, dx, a, b, ts, nts.map Nt.row, rfl, DA0, good, few, fun N1 H3 n1 h31 s3 => ?_⟩
    refine ⟨N1, rfl, ⟨_, .inl (.inl h31)⟩, ?_⟩
    have g1 := g0.step monoS s3
    refine for_list (K := K) (a := N1) (xs := (ts.map nameOf).map V.str) (fun i sl G => ∃ v2 v3, sl = [some (.ref m), some (.ref D0), v2, v3] ∧ Grow FS H G D0 (grps nts x y (ts.map nameOf) ((ts.map nameOf).take i)) ∧ G N1 = some (.lst ((ts.map nameOf).map V.str)))
      ⟨none, none, rfl, g1, h31⟩ (fun i sl G _ ⟨_, _, _, _, h⟩ => .inl (.inl h)) ?_ ?_
    · rintro i xv sl G hx ⟨v2, v3, rfl, g, hN⟩
      obtain ⟨z, hz, rfl⟩ := strs_at hx
      refine ⟨_, rfl, _, rfl, m, dx, a, b, ts, nts, x, y, z, rfl, DA.same g.same, good, few, few2, PO, fun gq G2 ngq hgq s2 => ?_⟩
      have hmem : z ∈ grpOf nts x y (ts.map nameOf) z := List.mem_filter.mpr ⟨List.mem_of_getElem? hz, grpB_self ..⟩
      have gne : gq ≠ D0 := fun e => by
        obtain ⟨as, _, h⟩ := g.len
        rw [e, h] at ngq
        cases ngq
      have neN : N1 ≠ D0 := fun e => by
        rw [e, upd_same] at n1
        cases n1
      have g2 := g.step monoS s2
      cases hl : grpOf nts x y (ts.map nameOf) z with
      | nil =>
        rw [hl] at hmem
        cases hmem
      | cons h tl =>
        have hl2 : (ts.map nameOf).filter (grpB nts x y z) = h :: tl := hl
        have hq2 : G2 gq = some (.lst ((h :: tl).map V.str)) := by rw [hgq, hl2]
        refine ⟨_, rfl, gq, _, 0, .str h, rfl, rfl, .inl (.inl hq2), atI_nat (j := 0) rfl, _, rfl, rfl, _, rfl, ?_⟩
        have nx := grps_next (nts := nts) (x := x) (y := y) (zs := ts.map nameOf) hz
        have el : leads nts x y (ts.map nameOf) z = decide (h = z) := by
          unfold leads
          rw [hl]
          exact decide_eq_decide.mpr ⟨fun e => Option.some.inj e, fun e => congrArg some e⟩
        by_cases e : h = z
        · subst e
          rw [decide_eq_true rfl]
          rw [el, decide_eq_true rfl, if_pos rfl] at nx
          obtain ⟨as, h8, l8, g3⟩ := g2.push monoS gne (show FS G2 gq (grpOf nts x y (ts.map nameOf) h) by rw [hl]; exact hq2)
          refine iteT ⟨_, rfl, .inl ⟨rfl, _, .inl (.inl h8)⟩, _, rfl, D0, _, _, rfl, rfl, h8, ?_, _, _, rfl, ?_, ?_⟩
          · rw [List.length_map, l8]
            unfold grps
            rw [List.length_map]
            refine small1000 (Nat.le_trans (List.length_filter_le _ _) ?_)
            rw [List.length_take, List.length_map]
            omega
          · rw [nx]
            exact g3
          · rw [upd_ne neN]
            exact s2 _ _ hN
        · rw [decide_eq_false (show ¬ V.str h = V.str z from fun e2 => e (V.str.inj e2))]
          rw [el, decide_eq_false e, if_neg (by decide), List.append_nil] at nx
          refine iteF ⟨_, _, rfl, ?_, s2 _ _ hN⟩
          rw [nx]
          exact g2
    · rintro sl G ⟨v2, v3, rfl, g, hN⟩
      rw [List.length_map, List.take_length] at g
      exact ⟨_, rfl, q D0 G nD0 g.lf g.same⟩
end
end Md

namespace Md
open PySem PySem.Spec PyProof.Rows L2
abbrev sAskedOf : Stmt := top 27
/-- a note that asks of some towns alone: its index, itself, the places of its names -/
abbrev AE := Nat × Nt × List Nat
def FA (H : Hp) (b : Addr) (p : AE) : Prop := ∃ tn tp : Addr, H b = some (.tup [.int (p.1 : Nat), .ref tn, .ref tp]) ∧ H tn = some (.tup p.2.1.row) ∧ H tp = some (.lst (p.2.2.map fun n => V.int (n : Nat))) ∧ p.2.2 ≠ []
theorem monoA : MonoF FA := by
  refine ⟨fun {G G' D b r as} h k ne f => ?_, fun s f => ?_⟩
  · obtain ⟨tn, tp, h1, h2, h3, h4⟩ := f
    refine ⟨tn, tp, k _ _ h1 ne, k _ _ h2 fun e => ?_, k _ _ h3 fun e => ?_, h4⟩
    · rw [e, h] at h2
      cases h2
    · rw [e, h] at h3
      cases hp : r.2.2 with
      | nil => exact h4 hp
      | cons n l =>
        rw [hp] at h3
        cases as with
        | nil => cases h3
        | cons a as => cases h3
  · obtain ⟨tn, tp, h1, h2, h3, h4⟩ := f
    exact ⟨tn, tp, s _ _ h1, s _ _ h2, s _ _ h3, h4⟩
def inside (gs : List Str) (nt : Nt) : Bool := nt.mids.all fun u => decide (u ∈ gs)
def placesIn (gs : List Str) (nt : Nt) : List Nat := nt.mids.map fun u => gs.idxOf u
def askedAt (gs : List Str) (i : Nat) (nt : Nt) : List AE := if inside gs nt = true then [(i, nt, placesIn gs nt)] else []
def askedFrom (gs : List Str) : Nat → List Nt → List AE
  | _, [] => []
  | i, nt :: r => askedAt gs i nt ++ askedFrom gs (i + 1) r
theorem asked_snoc (gs : List Str) (nt : Nt) : ∀ (l : List Nt) (i : Nat), askedFrom gs i (l ++ [nt]) = askedFrom gs i l ++ askedAt gs (i + l.length) nt
  | [], i => by simp [askedFrom]
  | n :: l, i => by
    show askedAt gs i n ++ askedFrom gs (i + 1) (l ++ [nt]) = (askedAt gs i n ++ askedFrom gs (i + 1) l) ++ askedAt gs (i + (l.length + 1)) nt
    rw [asked_snoc gs nt l (i + 1), List.append_assoc, show i + 1 + l.length = i + (l.length + 1) by omega]
theorem asked_next {gs : List Str} {nts : List Nt} {i : Nat} {nt : Nt} (h : nts[i]? = some nt) : askedFrom gs 0 (nts.take (i + 1)) = askedFrom gs 0 (nts.take i) ++ askedAt gs i nt := by
  have hi : i < nts.length := (List.getElem?_eq_some_iff.mp h).1
  rw [List.take_add_one, h]
  show askedFrom gs 0 (nts.take i ++ [nt]) = _
  rw [asked_snoc, List.length_take, Nat.zero_add, Nat.min_eq_left (by omega)]
theorem asked_len (gs : List Str) : ∀ (l : List Nt) (i : Nat), (askedFrom gs i l).length ≤ l.length
  | [], _ => Nat.le_refl _
  | n :: l, i => by
    show (askedAt gs i n ++ _).length ≤ _
    have ih := asked_len gs l (i + 1)
    have e : (askedAt gs i n).length ≤ 1 := by
      unfold askedAt
      split
      · exact Nat.le_refl _
      · exact Nat.zero_le _
    rw [List.length_append, List.length_cons]
    omega
theorem cut_mid (k : V) (ms : List V) (d : V) : cutV (k :: (ms ++ [d])) (some 1) (some (-1)) = ms := by
  have l : (k :: (ms ++ [d])).length = ms.length + 2 := by simp
  have s1 : HT.sIx (ms.length + 2) 0 (some 1) = 1 := by
    rw [show (1 : Int) = ((1 : Nat) : Int) from rfl, HT.sIx_nat]
    omega
  have s2 : HT.sIx (ms.length + 2) (ms.length + 2) (some (-1)) = ms.length + 1 := by
    show (if (-1 : Int) < 0 then ((-1 : Int) + ((ms.length + 2 : Nat) : Int)).toNat else min (-1 : Int).toNat (ms.length + 2)) = ms.length + 1
    rw [if_pos (by decide)]
    omega
  unfold cutV
  rw [l, s1, s2]
  simp
theorem row_len (nt : Nt) : nt.row.length = nt.mids.length + 2 := by
  unfold Nt.row
  simp
theorem row_part (nt : Nt) : ¬ (HT.sIx nt.row.length 0 (some 1) = 0 ∧ HT.sIx nt.row.length nt.row.length (some (-1)) = nt.row.length) := by
  intro z
  have z1 := z.1
  rw [row_len, show (1 : Int) = ((1 : Nat) : Int) from rfl, HT.sIx_nat] at z1
  omega
theorem mids_ne (nt : Nt) : nt.mids ≠ [] := by
  cases nt with
  | one _ _ _ => simp [Nt.mids]
  | two _ _ _ _ => simp [Nt.mids]
theorem mids_few (nt : Nt) : nt.mids.length ≤ 2 := by
  cases nt with
  | one _ _ _ => simp [Nt.mids]
  | two _ _ _ _ => simp [Nt.mids]
theorem idx_eqV {gs : List Str} {u : Str} (h : u ∈ gs) : (gs.map V.str)[gs.idxOf u]? = some (.str u) ∧ ∀ (m : Nat) (z : V), m < gs.idxOf u → (gs.map V.str)[m]? = some z → eqV z (.str u) = false := by
  constructor
  · rw [List.getElem?_map, List.getElem?_eq_getElem (List.idxOf_lt_length_of_mem h), List.getElem_idxOf]
    rfl
  · intro m z hm hz
    rw [List.getElem?_map] at hz
    cases e : gs[m]? with
    | none => rw [e] at hz; cases hz
    | some y =>
      rw [e] at hz
      have ez : z = .str y := (Option.some.inj hz).symm
      subst ez
      have ne : ¬ y = u := fun e2 => by
        have hl := (List.getElem?_eq_some_iff.mp e).1
        have hy := (List.getElem?_eq_some_iff.mp e).2
        have h2 := List.not_of_lt_findIdx (p := (· == u)) (xs := gs) (i := m) hm
        rw [hy, e2] at h2
        simp at h2
      show (y == u) = false
      simp [ne]
section
variable {X : Cx} {tg l o e : Expr} {es : List Expr} {tl to : TE} {t : TA} {apos cpos : Pos}
theorem pi_tupK (K : PySem.W.Frag) (hK : X.K = K) (hl : PE X l tl) : PI X tg l (iTup K tl) := by
  subst hK
  exact pi_tup hl
theorem pi_listK (K : PySem.W.Frag) (hK : X.K = K) (hl : PE X l tl) : PI X tg l (iList K tl) := by
  subst hK
  exact pi_list hl
theorem pe_bmK (K : PySem.W.Frag) (hK : X.K = K) {call : Expr} {T : String} {r : V → List V → Hp → VK → Prop} (h : PE X call (tBM X.K T r to t)) : PE X call (tBM K T r to t) := by
  subst hK
  exact h
end
/-- names that are more -/
structure Blt2 (mg : Str → Option Value) : Prop where
  enum : mg "enumerate" = none
section
variable {P : Program} {w : World} {K : PySem.W.Frag} {mg : Str → Option Value} {base : Heap}
def spAskedOf (C : Addr) : Sp := fun vs H Q _ => ∃ (m dx a b g : Addr) (ts : List (List V)) (nts : List Nt) (gs : List Str), vs = [.ref m, .ref g] ∧ DiaryAt C H m dx a b ts (nts.map Nt.row) ∧ nts.length ≤ 100 ∧ H g = some (.lst (gs.map V.str)) ∧
  ∀ q H', H q = none → LF FA H' q (askedFrom gs 0 nts) → Same H H' → Q (.ref q) H'
abbrev nAskedOf : List Str := ["diary", "names", "index", "note", "name"]
theorem scAskedOf : FnScope nAskedOf ["diary", "names"] (defScope sAskedOf) := ⟨rfl, rfl, rfl, by decide +kernel, rfl, by decide +kernel, by decide +kernel⟩
abbrev scA2 : Scope := { kind := .function, names := [(".0", .local), ("index", .local), ("note", .local), ("all", .globalImplicit), ("names", .cell)], isGenerator := false, isCoroutine := false }
theorem ok_askedOf {f C pT gT pN gN fA fL : Addr} {fd dT dN dA dL : FuncData} {k : Nat} (F : Fun K "asked_of" "asked_of" sAskedOf f fd) (D : Tell P w K mg base C pT gT pN gN fA fL dT dN dA dL) (B : Blt mg) (B2 : Blt2 mg) :
    FnOk P w K mg base CX0 (k + 3) f fd ["diary", "names"] (spAskedOf C) := by
  refine F.ok scAskedOf (fun vs H Q E h => ?_) (fun cdv A outer s H vs Q E hr h => ?_)
  · obtain ⟨m, dx, a, b, g, ts, nts, gs, rfl, _⟩ := h
    rfl
  · obtain ⟨m, dx, a, b, g, ts, nts, gs, rfl, DA, few, hg, q⟩ := h
    have nd := scAskedOf.nd
    refine ⟨_, pss_one (ps_ret (pe_lc (own := [("index", 2), ("note", 3)]) (g := gTup K 2 (gCons (gName 2) (gCons (gName 3) gNil))) rfl nd (pi_enum (by rfl) B2.enum (pa_cons (pe_prop (pv 0) D.cl.cl D.pN (D.oN k) hr D.bN .nil pass0 (by rfl)) pa_nil)) (blkOk_by (N := nAskedOf) (sc := defScope sAskedOf) (by decide +kernel))
      (fun _ _ _ _ _ => pg_tup (by rfl) (pgs_cons (pg_name (i := 2) nd rfl (.inl rfl)) (pgs_cons (pg_name (i := 3) nd rfl (.inl rfl)) pgs_nil)))
      (fun _ _ _ _ _ => pts_one (pt_val (pe_callB (r := rAll K) (cr_all (by rfl)) (by rfl) B.all (by decide +kernel) (pa_cons (pe_lc (own := [("name", 4)]) (g := gName 4) (tt := tYes) rfl nd (pi_tupK K rfl (pe_slice (r := rSlT K) sl_tup (pv 3) (po_some pe_int) (po_some (pe_un un_neg pe_int)))) (blkOk_by (N := nAskedOf) (sc := scA2) (by decide +kernel))
        (fun _ _ _ _ _ => pg_name (i := 4) nd rfl (.inl rfl)) (fun _ _ _ _ _ => pts_nil) (fun _ _ _ _ _ => pe_cmpR (r := rIn K false) op_in_seq (pv 4) (pv 1) (by rfl))) pa_nil))))
      (fun _ _ _ _ _ => pe_tup (pa_cons (pv 2) (pa_cons (pv 3) (pa_cons (pe_lc (own := [("name", 4)]) (g := gName 4) (tt := tYes) rfl nd (pi_tupK K rfl (pe_slice (r := rSlT K) sl_tup (pv 3) (po_some pe_int) (po_some (pe_un un_neg pe_int)))) (blkOk_by (N := nAskedOf) (sc := scA2) (by decide +kernel))
        (fun _ _ _ _ _ => pg_name (i := 4) nd rfl (.inl rfl)) (fun _ _ _ _ _ => pts_nil) (fun _ _ _ _ _ => pe_bmK K rfl (pe_bm (r := rIndex K) PySem.F.plainAttrs_list PySem.F.slot_list_index PySem.F.type_list_index mt_index (pv 1) (pa_cons (pv 4) pa_nil)))) pa_nil)))))), ?_⟩
    refine ⟨_, rfl, m, dx, _, rfl, DA.ob, m, dx, a, b, ts, nts.map Nt.row, rfl, DA, fun N0 H1 n0 r0 s1 => ?_⟩
    obtain ⟨nas, h1, h2⟩ := r0
    have ln : nas.length = nts.length := by rw [paired_len h2, List.length_map]
    refine ⟨N0, _, rfl, .inl (.inl h1), fun D0 nD0 => ?_⟩
    refine lc_it (walk_enum (K := K) (a := N0) (xs := nas.map V.ref)) (fun i G => Grow FA H1 G D0 (askedFrom gs 0 (nts.take i))) (Grow.start nD0) (fun i G _ gr => .inl (.inl (gr.same _ _ h1))) ?_ ?_
    · rintro i x G G' hi gr ⟨T, x1, x2, rfl, nT, rfl, e1, hx⟩
      have e1 := (Option.some.inj e1).symm
      subst e1
      obtain ⟨b2, row, rfl, hr1, hb⟩ := rows_ref h2 hx
      obtain ⟨nt, hnt, rfl⟩ := nt_at hr1
      have gr1 := gr.new monoA nT (o := .tup [.int (i : Nat), .ref b2])
      refine ⟨T, _, rfl, .inl (.inl upd_same), rfl, _, _, rfl, _, _, rfl, rfl, rfl, ?_⟩
      have hrow := gr1.same _ _ hb
      refine ⟨_, rfl, 1, rfl, _, rfl, -1, rfl, b2, _, rfl, .inl (.inl hrow), row_part nt, fun c nc => ?_⟩
      rw [show cutV nt.row (some 1) (some (-1)) = nt.mids.map V.str from cut_mid _ _ _]
      have gr2 := gr1.new monoA nc (o := .tup (nt.mids.map V.str))
      refine ⟨c, rfl, ⟨_, .inl (.inl upd_same)⟩, fun D2 nD2 => ?_⟩
      refine lc_it (walk_tup (K := K) (a := c) (xs := nt.mids.map V.str)) (fun j G2 => Same (upd (upd G T (.tup [.int (i : Nat), .ref b2])) c (.tup (nt.mids.map V.str))) G2 ∧ G2 D2 = some (.lst (((nt.mids.take j).map fun u => decide (u ∈ gs)).map V.bl)))
        ⟨new_same nD2, by rw [upd_same]; rfl⟩ (fun j G2 _ z => .inl (.inl (z.1 _ _ upd_same))) ?_ ?_
      · rintro j xv G2 G3 hj ⟨s2, h4⟩ ⟨rfl, hx2⟩
        obtain ⟨u, hu, rfl⟩ := strs_at hx2
        refine ⟨rfl, _, rfl, _, rfl, g, _, rfl, .inl (.inl (.inl (s2 _ _ (gr2.same _ _ (s1 _ _ hg))))), rfl, flat_strs _, _, h4, ?_, ?_⟩
        · rw [List.length_map, List.length_map, List.length_take]
          have := mids_few nt
          exact small1000 (by omega)
        · refine ⟨fun b3 o z => by rw [upd_ne (ne_of_none z nD2)]; exact s2 _ _ z, ?_⟩
          rw [upd_same, List.take_add_one, hu]
          show some (HO.lst (_ ++ [V.bl (inV (V.str u) (gs.map V.str))])) = _
          rw [inV_str, List.map_append, List.map_append]
          rfl
      · rintro G2 ⟨s2, h4⟩
        rw [List.length_map, List.take_length] at h4
        refine ⟨D2, _, rfl, .inl (.inl h4), _, rfl, ?_⟩
        have hall : (nt.mids.map fun u => decide (u ∈ gs)).all id = inside gs nt := by
          unfold inside
          rw [List.all_map]
          rfl
        rw [hall]
        have gr3 := gr2.step monoA s2
        have nx := asked_next (gs := gs) hnt
        by_cases e : inside gs nt = true
        · rw [e]
          unfold askedAt at nx
          rw [if_pos e] at nx
          refine iteT ⟨_, rfl, _, rfl, _, rfl, 1, rfl, _, rfl, -1, rfl, b2, _, rfl, .inl (.inl (gr3.same _ _ hb)), row_part nt, fun c2 nc2 => ?_⟩
          rw [show cutV nt.row (some 1) (some (-1)) = nt.mids.map V.str from cut_mid _ _ _]
          have gr4 := gr3.new monoA nc2 (o := .tup (nt.mids.map V.str))
          refine ⟨c2, rfl, ⟨_, .inl (.inl upd_same)⟩, fun D3 nD3 => ?_⟩
          refine lc_it (walk_tup (K := K) (a := c2) (xs := nt.mids.map V.str)) (fun j G4 => Same (upd G2 c2 (.tup (nt.mids.map V.str))) G4 ∧ G4 D3 = some (.lst ((placesIn gs nt).take j |>.map fun n => V.int (n : Nat))))
            ⟨new_same nD3, by rw [upd_same]; rfl⟩ (fun j G4 _ z => .inl (.inl (z.1 _ _ upd_same))) ?_ ?_
          · rintro j xv G4 G5 hj ⟨s4, h5⟩ ⟨rfl, hx2⟩
            obtain ⟨u, hu, rfl⟩ := strs_at hx2
            have hmem : u ∈ gs := of_decide_eq_true (List.all_eq_true.mp e u (List.mem_of_getElem? hu))
            have hg5 := s4 _ _ (gr4.same _ _ (s1 _ _ hg))
            have hpl : (placesIn gs nt)[j]? = some (gs.idxOf u) := by
              unfold placesIn
              rw [List.getElem?_map, hu]
              rfl
            refine ⟨rfl, _, rfl, .inl ⟨rfl, _, .inl (.inl hg5)⟩, _, rfl, g, _, .str u, gs.idxOf u, .str u, rfl, rfl, .inl (.inl hg5), rfl, flat_strs _, (idx_eqV hmem).1, by show (u == u) = true; simp, (idx_eqV hmem).2, _, h5, ?_, ?_⟩
            · rw [List.length_map, List.length_take]
              unfold placesIn
              rw [List.length_map]
              have := mids_few nt
              exact small1000 (by omega)
            · refine ⟨fun b3 o z => by rw [upd_ne (ne_of_none z nD3)]; exact s4 _ _ z, ?_⟩
              rw [upd_same, List.take_add_one, hpl, List.map_append]
              rfl
          · rintro G4 ⟨s4, h5⟩
            have lpl : (nt.mids.map V.str).length = (placesIn gs nt).length := by
              unfold placesIn
              rw [List.length_map, List.length_map]
            rw [lpl, List.take_length] at h5
            refine ⟨by show 3 ≤ sizeLine; decide, fun T2 nT2 => ?_⟩
            have gr5 := gr4.step monoA s4
            have gr6 := gr5.new monoA nT2 (o := .tup [.int (i : Nat), .ref b2, .ref D3])
            have fa : FA (upd G4 T2 (.tup [.int (i : Nat), .ref b2, .ref D3])) T2 (i, nt, placesIn gs nt) := by
              refine ⟨b2, D3, upd_same, gr6.same _ _ hb, ?_, ?_⟩
              · rw [upd_ne (ne_of_none h5 nT2)]
                exact h5
              · unfold placesIn
                intro z
                exact mids_ne nt (List.map_eq_nil_iff.mp z)
            obtain ⟨as, h8, l8, gr7⟩ := gr6.push monoA (gr6.away upd_same) fa
            refine ⟨_, h8, ?_, ?_⟩
            · rw [List.length_map, l8]
              have := asked_len gs (nts.take i) 0
              rw [List.length_take] at this
              exact small1000 (by omega)
            · rw [nx]
              exact gr7
        · rw [Bool.eq_false_iff.mpr e]
          unfold askedAt at nx
          rw [if_neg e, List.append_nil] at nx
          refine iteF ?_
          rw [nx]
          exact gr3
    · intro G gr
      rw [List.length_map, ln, List.take_length] at gr
      exact q D0 G (s1.free nD0) gr.lf (s1.trans gr.same)
end
end Md

namespace Md
open PySem PySem.Spec PyProof.Rows L2
abbrev sLots : Stmt := top 28
def FC (H : Hp) (b : Addr) (c : Ch) : Prop := H b = some (.tup (chV c))
theorem monoC : MonoF FC := ⟨fun h k ne f => k _ _ f ne, fun s f => s _ _ f⟩
def FL (H : Hp) (b : Addr) (l : List Ch) : Prop := LF FC H b l
theorem monoL : MonoF FL := by
  refine ⟨fun {G G' D b r as} h k ne f => ?_, fun s f => LF.same monoC s f⟩
  obtain ⟨cs, h1, h2⟩ := f
  refine ⟨cs, k _ _ h1 ne, paired_imp h2 fun c ch z => k _ _ z fun e => ?_⟩
  have z2 : G c = some (.tup (chV ch)) := z
  rw [e, h] at z2
  cases z2
def rowLo : List V → Int
  | [_, .int lo, _] => lo
  | _ => 0
def rowHi : List V → Int
  | [_, _, .int hi] => hi
  | _ => 0
/-- a note asks of one town at this place alone -/
def soleB (p : AE) (last : Nat) (c : Ch) : Bool := !(decide (p.2.2 = [last])) || keptB p.2.1 [c]
def ownOf (as : List AE) (last : Nat) (r : List V) : List Ch := (ways (rowLo r) (rowHi r)).filter fun c => as.all fun p => soleB p last c
def pairB (p : AE) (last : Nat) (l : List Ch) : Bool :=
  match p.2.2 with
  | [i, j] => if max i j = last then keptB p.2.1 [l.getD i (1, 0), l.getD j (1, 0)] else true
  | _ => true
def crossed (lots : List (List Ch)) (own : List Ch) : List (List Ch) := lots.flatMap fun l => own.map fun c => l ++ [c]
def stepLots (as : List AE) (last : Nat) (r : List V) (lots : List (List Ch)) : List (List Ch) := (crossed lots (ownOf as last r)).filter fun l => as.all fun p => pairB p last l
def lotsOf (as : List AE) : Nat → List (List V) → List (List Ch) → List (List Ch)
  | _, [], lots => lots
  | i, r :: rs, lots => lotsOf as (i + 1) rs (stepLots as i r lots)
def inGroup (gs : List Str) (r : List V) : Bool := decide (nameOf r ∈ gs)
theorem ints_dp {K : PySem.W.Frag} {H : Hp} : ∀ ns : List Int, DpAll K H (ns.map V.int) (ns.map PyData.int)
  | [] => .nil
  | n :: ns => .cons (.int n) (ints_dp ns)
theorem ints_lay : ∀ ns : List Int, PyData.canLayAll0 (ns.map PyData.int) = true ∧ PyData.depthAll (ns.map PyData.int) = 0
  | [] => by simp [PyData.canLayAll0, PyData.depthAll]
  | n :: ns => by
    have ih := ints_lay ns
    simp [PyData.canLayAll0, PyData.depthAll, PyData.canLay0, PyData.depth, ih.1, ih.2]
theorem ints_shaped (ns : List Int) : SeqAt.shaped (.list (ns.map PyData.int)) = true := by
  unfold SeqAt.shaped
  have h := ints_lay ns
  simp [PyData.canLay0, PyData.depth, h.1, h.2]
theorem ints_eqv (ns ms : List Int) : PyData.eqv (.list (ns.map PyData.int)) (.list (ms.map PyData.int)) = decide (ns = ms) := by
  unfold PyData.eqv
  exact PySem.W.ked_eqvAll ns ms
def natI (pl : List Nat) : List Int := pl.map fun (n : Nat) => (n : Int)
theorem natI_inj : ∀ {a b : List Nat}, natI a = natI b → a = b
  | [], [], _ => rfl
  | [], _ :: _, h => by cases h
  | _ :: _, [], h => by cases h
  | x :: a, y :: b, h => by
    have h2 := List.cons.inj h
    rw [natI_inj h2.2, Int.ofNat.inj h2.1]
theorem natI_eq {pl : List Nat} {i : Nat} : natI pl = [(i : Int)] ↔ pl = [i] :=
  ⟨fun h => natI_inj (b := [i]) h, fun h => by rw [h]; rfl⟩
theorem natV (pl : List Nat) : (pl.map fun n => V.int (n : Nat)) = (natI pl).map V.int := by
  unfold natI
  rw [List.map_map]
  rfl
theorem lf_chs {G : Hp} {q : Addr} {cs : List Ch} (h : LF F1 G q (cs.map chV)) : LF FC G q cs := by
  obtain ⟨as, h1, h2⟩ := h
  refine ⟨as, h1, ?_⟩
  clear h1
  induction cs generalizing as with
  | nil => cases h2; exact .nil
  | cons c cs ih =>
    cases h2 with
    | cons a t => exact .cons a (ih _ t)
theorem lf_at {α : Type} {F : Hp → Addr → α → Prop} {G : Hp} {as : List Addr} {rs : List α} (h : Paired (F G) as rs) {i : Nat} {x : V} (hx : (as.map V.ref)[i]? = some x) : ∃ b r, x = .ref b ∧ as[i]? = some b ∧ rs[i]? = some r ∧ F G b r := by
  have hi : i < rs.length := by
    have z := (List.getElem?_eq_some_iff.mp hx).1
    rw [List.length_map, paired_len h] at z
    exact z
  have hr : rs[i]? = some rs[i] := List.getElem?_eq_getElem hi
  obtain ⟨b, hb, hbr⟩ := paired_get h i rs[i] hr
  refine ⟨b, rs[i], ?_, hb, hr, hbr⟩
  rw [List.getElem?_map, hb] at hx
  exact (Option.some.inj hx).symm
theorem crossed_len : ∀ (lots : List (List Ch)) (own : List Ch), (crossed lots own).length = lots.length * own.length
  | [], own => by simp [crossed]
  | l :: lots, own => by
    have ih := crossed_len lots own
    unfold crossed at ih ⊢
    rw [List.flatMap_cons, List.length_append, ih, List.length_map, List.length_cons, Nat.succ_mul]
    omega
theorem crossed_mem {lots : List (List Ch)} {own : List Ch} {l : List Ch} (h : l ∈ crossed lots own) : ∃ l0 ∈ lots, ∃ c ∈ own, l = l0 ++ [c] := by
  unfold crossed at h
  obtain ⟨l0, h0, h1⟩ := List.mem_flatMap.mp h
  obtain ⟨c, hc, e⟩ := List.mem_map.mp h1
  exact ⟨l0, h0, c, hc, e.symm⟩
section
variable {P : Program} {w : World} {K : PySem.W.Frag} {mg : Str → Option Value} {base : Heap}
def spLots (C : Addr) : Sp := fun vs H Q _ => ∃ (m dx a b g ak : Addr) (ts : List (List V)) (ns : List (List V)) (gs : List Str) (as : List AE), vs = [.ref m, .ref g, .ref ak] ∧ DiaryAt C H m dx a b ts ns ∧ (∀ r ∈ ts, TownR r ∧ rowHi r ≤ 12) ∧ ts.length ≤ 100 ∧ H g = some (.lst (gs.map V.str)) ∧
  LF FA H ak as ∧ as.length ≤ 100 ∧ (ts.filter (inGroup gs)).length ≤ 2 ∧
  ∀ q H', H q = none → LF FL H' q (lotsOf as 0 (ts.filter (inGroup gs)) [[]]) → Same H H' → Q (.ref q) H'
abbrev nLots : List Str := ["diary", "names", "asked", "towns", "lots", "last", "town", "own", "_", "note", "places", "one", "other", "choice", "chosen"]
theorem scLots : FnScope nLots ["diary", "names", "asked"] (defScope sLots) := ⟨rfl, rfl, rfl, by decide +kernel, rfl, by decide +kernel, by decide +kernel⟩
theorem ok_lots {f fW fK C pT gT pN gN fA fL : Addr} {fd fdW fdK dT dN dA dL : FuncData} {k : Nat} (F : Fun K "lots_keeping" "lots_keeping" sLots f fd) (WY : DefAt P w K mg base "choices_of" fW fdW ["town"] 1 spWays) (KP : DefAt P w K mg base "is_kept" fK fdK ["note", "chosen"] 3 (spKeptP K))
    (D : Tell P w K mg base C pT gT pN gN fA fL dT dN dA dL) (B : Blt mg) (B2 : Blt2 mg) :
    FnOk P w K mg base CX0 (k + 4) f fd ["diary", "names", "asked"] (spLots C) := by
  have GW := WY.ok (k + 2)
  have GK := KP.ok k
  refine F.ok scLots (fun vs H Q E h => ?_) (fun cdv A outer s H vs Q E hr h => ?_)
  · obtain ⟨m, dx, a, b, g, ak, ts, ns, gs, as, rfl, _⟩ := h
    rfl
  · obtain ⟨m, dx, a, b, g, ak, ts, ns, gs, as, rfl, DA, good, few, hg, hak, fewA, few2, q⟩ := h
    have nd := scLots.nd
    refine ⟨_, pss_cons (ps_setLc (i := 3) (own := [("town", 6)]) (g := gName 6) rfl nd rfl rfl (sw_true rfl rfl rfl (by decide +kernel)) (pi_list (pe_prop (pv 0) D.cl.cl D.pT (D.oT (k + 1)) hr D.bT .nil pass0 (by rfl))) (blkOk_by (N := nLots) (sc := defScope sLots) (by decide +kernel))
        (fun _ _ _ _ _ => pg_name (i := 6) nd rfl (.inl rfl)) (fun _ _ _ _ _ => pts_one (pt_cmpR (r := rIn K false) op_in_seq (pe_ix (r := rIxT K) ix_tup (pv 6) pe_int (fun _ _ => rfl)) (pv 1) (by rfl))) (fun _ _ _ _ _ => pv 6))
      (pss_cons (ps_set (i := 4) nd rfl (.inl rfl) (pe_lst (pa_cons (pe_lst pa_nil) pa_nil)))
      (pss_cons (ps_for PassesOwn.never rfl (pi_enum (by rfl) B2.enum (pa_cons (pv 3) pa_nil)) (pg_tup (by rfl) (pgs_cons (pg_name (i := 5) nd rfl (.inl rfl)) (pgs_cons (pg_name (i := 6) nd rfl (.inl rfl)) pgs_nil)))
        (pss_cons (ps_set (i := 7) nd rfl (.inr rfl) (pe_call GW hr (by rfl) WY.mg WY.kp WY.b .nil pass0 (pa_cons (pv 6) pa_nil)))
        (pss_cons (ps_for PassesOwn.never rfl (pi_list (pv 2)) (pg_tup (by rfl) (pgs_cons (pg_name (i := 8) nd rfl (.inl rfl)) (pgs_cons (pg_name (i := 9) nd rfl (.inr rfl)) (pgs_cons (pg_name (i := 10) nd rfl (.inl rfl)) pgs_nil))))
          (pss_one (ps_if (pt_cmpR (op_eqD hr.units) (pv 10) (pe_lst (pa_cons (pv 5) pa_nil)) (nomark _))
            (pss_one (ps_set (i := 7) nd rfl (.inr rfl) (pe_lc (own := [("choice", 13)]) (g := gName 13) rfl nd (pi_list (pv 7)) (blkOk_by (N := nLots) (sc := defScope sLots) (by decide +kernel))
              (fun _ _ _ _ _ => pg_name (i := 13) nd rfl (.inl rfl)) (fun _ _ _ _ _ => pts_one (pt_val (pe_call GK hr (by rfl) KP.mg KP.kp KP.b .nil pass0 (pa_cons (pv 9) (pa_cons (pe_lst (pa_cons (pv 13) pa_nil)) pa_nil))))) (fun _ _ _ _ _ => pv 13)))) pss_nil)))
        (pss_cons (ps_setLc2 (i := 4) (own := [("chosen", 14), ("choice", 13)]) (vs1 := [13]) (g := gName 14) (g1 := gName 13) (tt := tYes) (tt1 := tYes) rfl nd rfl rfl (sw_true rfl rfl rfl (by decide +kernel)) (pi_list (pv 4)) (blkOk_by (N := nLots) (sc := defScope sLots) (by decide +kernel)) (by decide)
          (fun _ _ _ _ _ => pg_name (i := 14) nd rfl (.inl rfl)) (fun _ _ _ _ _ => pts_nil) (fun _ _ _ _ _ => pi_listK K rfl (pv 7)) (fun _ _ _ _ _ => pg_name (i := 13) nd rfl (.inl rfl)) (fun _ _ _ _ _ => pts_nil)
          (fun _ _ _ _ _ => pe_op (r := rCat) op_cat (pv 14) (pe_lst (pa_cons (pv 13) pa_nil))))
        (pss_one (ps_for PassesOwn.never rfl (pi_list (pv 2)) (pg_tup (by rfl) (pgs_cons (pg_name (i := 8) nd rfl (.inl rfl)) (pgs_cons (pg_name (i := 9) nd rfl (.inr rfl)) (pgs_cons (pg_name (i := 10) nd rfl (.inl rfl)) pgs_nil))))
          (pss_one (ps_if (PW.pt (pw_and (pt_cmpR op_eq (pe_callB call_len_seq (by rfl) B.len PySem.boot_len (pa_cons (pv 10) pa_nil)) pe_int (nomark _)) (pw_and1 (pt_cmpR op_eq (pe_callB (cr_max rfl) (by rfl) B.max (by decide +kernel) (pa_cons (pv 10) pa_nil)) (pv 5) (nomark _)))))
            (pss_cons (ps_asg (pv 10) (pg_lst (by rfl) (pgs_cons (pg_name (i := 11) nd rfl (.inr rfl)) (pgs_cons (pg_name (i := 12) nd rfl (.inr rfl)) pgs_nil))))
            (pss_one (ps_setLc (i := 4) (own := [("chosen", 14)]) (g := gName 14) rfl nd rfl rfl (sw_true rfl rfl rfl (by decide +kernel)) (pi_list (pv 4)) (blkOk_by (N := nLots) (sc := defScope sLots) (by decide +kernel))
              (fun _ _ _ _ _ => pg_name (i := 14) nd rfl (.inl rfl)) (fun _ _ _ _ _ => pts_one (pt_val (pe_call GK hr (by rfl) KP.mg KP.kp KP.b .nil pass0 (pa_cons (pv 9) (pa_cons (pe_lst (pa_cons (pe_ix (r := rIxL K) ix_list (pv 14) (pv 11) (fun _ _ => rfl)) (pa_cons (pe_ix (r := rIxL K) ix_list (pv 14) (pv 12) (fun _ _ => rfl)) pa_nil))) pa_nil)))))
              (fun _ _ _ _ _ => pv 14)))) pss_nil))))))))
      (pss_one (ps_ret (pv 4))))), ?_⟩
    refine ⟨_, rfl, m, dx, _, rfl, DA.ob, m, dx, a, b, ts, ns, rfl, DA, fun N0 H1 n0 r0 s1 => ?_⟩
    obtain ⟨tas, h1, h2⟩ := r0
    have ln : tas.length = ts.length := paired_len h2
    refine ⟨N0, rfl, ⟨_, .inl (.inl h1)⟩, fun D0 nD0 => ?_⟩
    refine lc_it (walk_list (K := K) (a := N0) (xs := tas.map V.ref)) (fun i G => Grow F1 H1 G D0 ((ts.take i).filter (inGroup gs))) (Grow.start nD0) (fun i G _ gr => .inl (.inl (gr.same _ _ h1))) ?_ ?_
    · rintro i x G G' hi gr ⟨rfl, hx⟩
      obtain ⟨b2, row, rfl, hr1, hb⟩ := rows_ref h2 hx
      obtain ⟨z, lo, hi2, er, _⟩ := (good row (List.mem_of_getElem? hr1)).1
      have hb1 := gr.same _ _ hb
      rw [er] at hb1
      have hg1 := gr.same _ _ (s1 _ _ hg)
      have nx : (ts.take (i + 1)).filter (inGroup gs) = (ts.take i).filter (inGroup gs) ++ (if inGroup gs row = true then [row] else []) := by
        rw [List.take_add_one, hr1, List.filter_append]
        congr 1
        simp only [Option.toList_some, List.filter_cons, List.filter_nil]
      refine ⟨rfl, _, rfl, b2, _, 0, .str z, rfl, rfl, .inl (.inl hb1), atI_nat (j := 0) rfl, _, rfl, g, _, rfl, .inl (.inl (.inl hg1)), rfl, flat_strs _, _, rfl, ?_⟩
      show (if inV (V.str z) (gs.map V.str) = true then _ else _)
      have ez : inV (V.str z) (gs.map V.str) = inGroup gs row := by
        rw [inV_str, er]
        rfl
      rw [ez]
      by_cases e : inGroup gs row = true
      · rw [if_pos e] at nx
        rw [e]
        obtain ⟨as2, h8, l8, gr2⟩ := gr.push mono1 (gr.away hb1) (show F1 _ b2 row by rw [er]; exact hb1)
        refine iteT ⟨_, rfl, _, h8, ?_, ?_⟩
        · rw [List.length_map, l8]
          refine small1000 (Nat.le_trans (List.length_filter_le _ _) ?_)
          rw [List.length_take]
          omega
        · rw [nx]
          exact gr2
      · rw [if_neg e, List.append_nil] at nx
        rw [Bool.eq_false_iff.mpr e]
        refine iteF ?_
        rw [nx]
        exact gr
    · intro G gr
      rw [List.length_map, ln, List.take_length] at gr
      obtain ⟨ras, hr1, hr2⟩ := gr.lf
      have hGs : Same H G := s1.trans gr.same
      refine ⟨Nat.zero_le _, fun L0 nL0 => ⟨by show 1 ≤ sizeLine; decide, fun L1 nL1 => ?_⟩⟩
      have sL : Same G (upd (upd G L0 (.lst [])) L1 (.lst [.ref L0])) := (new_same nL0).trans (new_same nL1)
      refine ⟨_, rfl, D0, _, rfl, .inl (.inl (sL _ _ hr1)), ?_⟩
      have hrl : (ts.filter (inGroup gs)).length = ras.length := (paired_len hr2).symm
      have hgood : ∀ r ∈ ts.filter (inGroup gs), TownR r ∧ rowHi r ≤ 12 := fun r hr => good r (List.mem_filter.mp hr).1
      revert hr2 hrl hgood q few2
      generalize ts.filter (inGroup gs) = rs
      intro few2 q hr2 hrl hgood
      refine for_it (walk_enum (K := K) (a := D0) (xs := ras.map V.ref)) (fun i sl G2 => ∃ (la : Addr) (lots : List (List Ch)) (v5 v6 v7 v8 v9 v10 v11 v12 : Option V), sl = [some (.ref m), some (.ref g), some (.ref ak), some (.ref D0), some (.ref la), v5, v6, v7, v8, v9, v10, v11, v12, none, none] ∧ Same G G2 ∧ (H la = none) ∧ LF FL G2 la lots ∧
        lotsOf as 0 rs [[]] = lotsOf as i (rs.drop i) lots ∧ (∀ l ∈ lots, l.length = i ∧ ∀ c ∈ l, 1 ≤ c.1) ∧ lots.length ≤ 144 ^ i) ⟨L1, [[]], none, none, none, none, none, none, none, none, rfl, sL, ?_, ?_, rfl, ?_, by simp⟩ (fun i sl G2 _ ⟨_, _, _, _, _, _, _, _, _, _, _, s2, _⟩ => .inl (.inl (s2 _ _ hr1))) ?_ ?_
      · exact (hGs.trans (new_same nL0)).free nL1
      · exact ⟨[L0], upd_same, .cons ⟨[], by rw [upd_ne (ne_of_none upd_same nL1), upd_same]; rfl, .nil⟩ .nil⟩
      · intro l hl
        rw [List.mem_singleton.mp hl]
        exact ⟨rfl, fun c hc => nomatch hc⟩
      · rintro i x sl G2 G3 hi ⟨la, lots, v5, v6, v7, v8, v9, v10, v11, v12, rfl, s2, nla, hla, hlots, hlen, hsz⟩ ⟨T, x1, x2, rfl, nT, rfl, e1, hx⟩
        have e1 := (Option.some.inj e1).symm
        subst e1
        obtain ⟨rb, row, rfl, _, hrow, hrb⟩ := lf_at hr2 hx
        have s3 : Same G (upd G2 T (.tup [.int (i : Nat), .ref rb])) := s2.trans (new_same nT)
        refine ⟨T, _, rfl, .inl (.inl upd_same), rfl, _, _, rfl, _, _, rfl, rfl, ?_⟩
        obtain ⟨⟨z, lo, hi2, er, gz, z8, l1, l2⟩, l3⟩ := hgood row (List.mem_of_getElem? hrow)
        have hrb1 : G rb = some (.tup [.str z, .int lo, .int hi2]) := by rw [← er]; exact hrb
        rw [er] at l3
        have l3 : hi2 ≤ 12 := l3
        refine ⟨_, rfl, rb, z, lo, hi2, rfl, s3 _ _ hrb1, l1, l2, l3, fun oa G4 noa hoa s4 => ?_⟩
        have hoa := lf_chs hoa
        have s5 : Same G G4 := s3.trans s4
        have hla4 : LF FL G4 la lots := LF.same monoL ((new_same nT).trans s4) hla
        obtain ⟨aas, ha1, ha2⟩ := hak
        have ha1' : ∀ {G5 : Hp}, Same G G5 → G5 ak = some (.lst (aas.map V.ref)) := fun s => s _ _ (hGs _ _ ha1)
        have la1 : aas.length = as.length := paired_len ha2
        refine ⟨_, rfl, ak, rfl, ⟨_, .inl (.inl (ha1' s5))⟩, ?_⟩
        have i2 : i < 2 := by
          rw [List.length_map] at hi
          omega
        have hpos : ∀ c ∈ ways lo hi2, 1 ≤ c.1 := fun c hc => ways_pos l1 hc
        have hwl := ways_len (lo := lo) (hi := hi2) l1 l3
        refine for_list (K := K) (a := ak) (xs := aas.map V.ref) (fun j sl G5 => ∃ (oa : Addr) (own : List Ch) (v8 v9 v10 : Option V), sl = [some (.ref m), some (.ref g), some (.ref ak), some (.ref D0), some (.ref la), some (.int (i : Nat)), some (.ref rb), some (.ref oa), v8, v9, v10, v11, v12, none, none] ∧ Same G4 G5 ∧ LF FC G5 oa own ∧
          own = (ways lo hi2).filter fun c => (as.take j).all fun p => soleB p i c) ⟨oa, ways lo hi2, v8, v9, v10, rfl, Same.refl _, hoa, (List.filter_eq_self.mpr fun _ _ => rfl).symm⟩ (fun j sl G5 _ ⟨_, _, _, _, _, _, s6, _⟩ => .inl (.inl (ha1' (s5.trans s6)))) ?_ ?_
        · rintro j x sl G5 hx ⟨oa, own, v8, v9, v10, rfl, s6, ho, hown⟩
          obtain ⟨pb, p, rfl, _, hp, hpb⟩ := lf_at ha2 hx
          have s0 : Same H G5 := (hGs.trans s5).trans s6
          obtain ⟨tn, tp, hp1, hp2, hp3, hp4⟩ := monoA.same s0 hpb
          rw [natV] at hp3
          refine ⟨pb, _, rfl, .inl (.inl hp1), rfl, _, _, rfl, _, _, rfl, _, _, rfl, rfl, ?_⟩
          refine ⟨_, rfl, _, rfl, by show 1 ≤ sizeLine; decide, fun L nL => ⟨.list ((natI p.2.2).map PyData.int), .list ([(i : Int)].map PyData.int), .lst (.inl (.inl (by rw [upd_ne (ne_of_none hp3 nL)]; exact hp3))) (ints_dp _), .lst (.inl (.inl upd_same)) (ints_dp [(i : Int)]), ints_shaped _, ints_shaped _, _, rfl, ?_⟩⟩
          rw [ints_eqv]
          have s7 : Same G5 (upd G5 L (.lst [.int (i : Nat)])) := new_same nL
          have nx : (as.take (j + 1)) = as.take j ++ [p] := by rw [List.take_add_one, hp]; rfl
          by_cases e : p.2.2 = [i]
          · rw [decide_eq_true (natI_eq.mpr e)]
            refine iteT ?_
            obtain ⟨oas, ho1, ho2⟩ := ho
            have lo1 : oas.length = own.length := paired_len ho2
            refine ⟨_, rfl, oa, rfl, ⟨_, .inl (.inl (s7 _ _ ho1))⟩, fun D1 nD1 => ?_⟩
            have ownpos : ∀ c ∈ own, 1 ≤ c.1 := fun c hc => by
              rw [hown] at hc
              exact hpos c (List.mem_filter.mp hc).1
            have ownlen : own.length ≤ 144 := by
              rw [hown]
              exact Nat.le_trans (List.length_filter_le _ _) hwl
            refine lc_it (walk_list (K := K) (a := oa) (xs := oas.map V.ref)) (fun u G6 => Grow FC (upd G5 L (.lst [.int (i : Nat)])) G6 D1 ((own.take u).filter fun c => keptB p.2.1 [c])) (Grow.start nD1) (fun u G6 _ gr => .inl (.inl (gr.same _ _ (s7 _ _ ho1)))) ?_ ?_
            · rintro u x G6 G7 hu gr ⟨rfl, hx2⟩
              obtain ⟨cb, c, rfl, _, hc, hcb⟩ := lf_at ho2 hx2
              have hcb2 : FC G7 cb c := monoC.same (s7.trans gr.same) hcb
              refine ⟨rfl, _, rfl, _, rfl, by show 1 ≤ sizeLine; decide, fun L2 nL2 => ?_⟩
              have gr2 := gr.new monoC nL2 (o := .lst [.ref cb])
              have hn2 := (s7.trans gr2.same) _ _ hp2
              refine ⟨tn, L2, p.2.1, [c], rfl, hn2, ⟨[cb], .inl (.inl upd_same), .cons (monoC.same (new_same nL2) hcb2) .nil⟩, ?_, by show 1 ≤ 1000; decide, fun G8 s8 => ⟨_, rfl, ?_⟩⟩
              · intro c2 hc2
                rw [List.mem_singleton.mp hc2]
                exact ownpos c (List.mem_of_getElem? hc)
              · have gr3 := gr2.step monoC s8
                have nx2 : (own.take (u + 1)).filter (fun c => keptB p.2.1 [c]) = (own.take u).filter (fun c => keptB p.2.1 [c]) ++ (if keptB p.2.1 [c] = true then [c] else []) := by
                  rw [List.take_add_one, hc, List.filter_append]
                  congr 1
                  simp only [Option.toList_some, List.filter_cons, List.filter_nil]
                by_cases e3 : keptB p.2.1 [c] = true
                · rw [if_pos e3] at nx2
                  rw [e3]
                  have hcb3 : FC G8 cb c := monoC.same ((new_same nL2).trans s8) hcb2
                  obtain ⟨as3, h8, l8, gr4⟩ := gr3.push monoC (gr3.away hcb3) hcb3
                  refine iteT ⟨_, rfl, _, h8, ?_, ?_⟩
                  · rw [List.length_map, l8]
                    refine small1000 (Nat.le_trans (List.length_filter_le _ _) ?_)
                    rw [List.length_take]
                    omega
                  · rw [nx2]
                    exact gr4
                · rw [if_neg e3, List.append_nil] at nx2
                  rw [Bool.eq_false_iff.mpr e3]
                  refine iteF ?_
                  rw [nx2]
                  exact gr3
            · intro G6 gr
              rw [List.length_map, lo1, List.take_length] at gr
              refine ⟨D1, _, _, _, _, rfl, (s6.trans s7).trans gr.same, gr.lf, ?_⟩
              rw [hown, nx, List.filter_filter]
              refine List.filter_congr fun c _ => ?_
              rw [List.all_append, Bool.and_comm]
              congr 1
              simp [soleB, e]
          · rw [decide_eq_false (fun z => e (natI_eq.mp z))]
            refine iteF ⟨oa, own, _, _, _, rfl, s6.trans s7, LF.same monoC s7 ho, ?_⟩
            rw [hown, nx]
            refine List.filter_congr fun c _ => ?_
            rw [List.all_append]
            simp [soleB, e]
        · rintro sl G5 ⟨oa, own, v8, v9, v10, rfl, s6, ho, hown⟩
          rw [List.length_map, la1, List.take_length] at hown
          have hown2 : own = ownOf as i row := by
            rw [hown, er]
            rfl
          have ownpos : ∀ c ∈ own, 1 ≤ c.1 := fun c hc => by
            rw [hown] at hc
            exact hpos c (List.mem_filter.mp hc).1
          have ownlen : own.length ≤ 144 := by
            rw [hown]
            exact Nat.le_trans (List.length_filter_le _ _) hwl
          have s56 := s5.trans s6
          have hla5 : LF FL G5 la lots := LF.same monoL s6 hla4
          obtain ⟨las, hl1, hl2⟩ := hla5
          have ll1 : las.length = lots.length := paired_len hl2
          obtain ⟨oas, ho1, ho2⟩ := ho
          have lo1 : oas.length = own.length := paired_len ho2
          have lots1 : lots.length ≤ 144 := Nat.le_trans hsz (by
            rcases (show i = 0 ∨ i = 1 by omega) with e | e <;> rw [e] <;> decide)
          refine ⟨_, rfl, la, rfl, ⟨_, .inl (.inl hl1)⟩, fun D2 nD2 => ?_⟩
          refine lc2_it (walk_list (K := K) (a := la) (xs := las.map V.ref)) (fun u G6 => Grow FL G5 G6 D2 (crossed (lots.take u) own)) (Grow.start nD2) (fun u G6 _ gr => .inl (.inl (gr.same _ _ hl1))) ?_ ?_
          · rintro u x G6 G7 hu gr ⟨rfl, hx2⟩
            obtain ⟨lb, l, rfl, _, hl, hlb⟩ := lf_at hl2 hx2
            refine ⟨rfl, ?_⟩
            refine ⟨_, rfl, oa, rfl, ⟨_, .inl (.inl (gr.same _ _ ho1))⟩, ?_⟩
            refine lc2_in (walk_list (K := K) (a := oa) (xs := oas.map V.ref)) (fun v G8 => Grow FL G5 G8 D2 (crossed (lots.take u) own ++ (own.take v).map fun c => l ++ [c])) (by simpa using gr) (fun v G8 _ gr8 => .inl (.inl (gr8.same _ _ ho1))) ?_ ?_
            · rintro v x G8 G9 hv gr8 ⟨rfl, hx3⟩
              obtain ⟨cb, c, rfl, _, hc, hcb⟩ := lf_at ho2 hx3
              obtain ⟨cs, hc1, hc2⟩ := monoL.same gr8.same hlb
              refine ⟨rfl, _, rfl, _, rfl, by show 1 ≤ sizeLine; decide, fun L nL => ?_⟩
              have hc1L : upd G9 L (.lst [.ref cb]) lb = some (.lst (cs.map V.ref)) := by
                rw [upd_ne (ne_of_none hc1 nL)]
                exact hc1
              have lc : cs.length = i := by
                rw [paired_len hc2]
                exact (hlen l (List.mem_of_getElem? hl)).1
              refine ⟨lb, L, _, _, rfl, rfl, hc1L, upd_same, ?_, fun N nN => ?_⟩
              · rw [List.length_map, lc]
                exact Nat.le_of_lt (small1000 (by show i + 1 ≤ 1000; omega))
              · have gr9 := (gr8.new monoL nL (o := .lst [.ref cb])).new monoL nN (o := .lst (cs.map V.ref ++ [.ref cb]))
                have s9 : Same G9 (upd (upd G9 L (.lst [.ref cb])) N (.lst (cs.map V.ref ++ [.ref cb]))) := (new_same nL).trans (new_same nN)
                have fl : FL (upd (upd G9 L (.lst [.ref cb])) N (.lst (cs.map V.ref ++ [.ref cb]))) N (l ++ [c]) := by
                  refine ⟨cs ++ [cb], by rw [upd_same, List.map_append]; rfl, paired_snoc (paired_imp hc2 fun b r z => monoC.same s9 z) ?_⟩
                  exact monoC.same (gr8.same.trans s9) hcb
                have neN : N ≠ D2 := fun e => (gr8.new monoL nL (o := .lst [.ref cb])).ne nN e.symm
                obtain ⟨as3, h8, l8, gr10⟩ := gr9.push monoL neN fl
                refine ⟨_, h8, ?_, ?_⟩
                · rw [List.length_map, l8, List.length_append, List.length_map, List.length_take]
                  have b1 := crossed_len (lots.take u) own
                  rw [List.length_take] at b1
                  have b2 : min u lots.length * own.length ≤ 144 * 144 := Nat.mul_le_mul (by omega) ownlen
                  exact Nat.lt_of_le_of_lt (show _ ≤ 40000 by omega) (by decide)
                · have e4 : crossed (lots.take u) own ++ (own.take (v + 1)).map (fun c => l ++ [c]) = (crossed (lots.take u) own ++ (own.take v).map (fun c => l ++ [c])) ++ [l ++ [c]] := by
                    rw [List.take_add_one, hc, List.map_append, List.append_assoc]
                    rfl
                  rw [e4]
                  exact gr10
            · intro G8 gr8
              rw [List.length_map, lo1, List.take_length] at gr8
              have e4 : crossed (lots.take (u + 1)) own = crossed (lots.take u) own ++ own.map (fun c => l ++ [c]) := by
                unfold crossed
                rw [List.take_add_one, hl, List.flatMap_append]
                simp
              rw [e4]
              exact gr8
          · intro G6 gr
            rw [List.length_map, ll1, List.take_length] at gr
            have s6b : Same G G6 := s56.trans gr.same
            have clen : ∀ l ∈ crossed lots own, l.length = i + 1 ∧ ∀ c ∈ l, 1 ≤ c.1 := fun l hl => by
              obtain ⟨l0, h0, c, hc, rfl⟩ := crossed_mem hl
              refine ⟨by rw [List.length_append, (hlen l0 h0).1]; rfl, fun c2 hc2 => ?_⟩
              rcases List.mem_append.mp hc2 with z | z
              · exact (hlen l0 h0).2 c2 z
              · rw [List.mem_singleton.mp z]
                exact ownpos c hc
            have csz : (crossed lots own).length ≤ 144 ^ (i + 1) := by
              rw [crossed_len, Nat.pow_succ]
              exact Nat.mul_le_mul hsz ownlen
            have csz2 : (crossed lots own).length ≤ 40000 := by
              rw [crossed_len]
              have := Nat.mul_le_mul lots1 ownlen
              omega
            refine ⟨_, rfl, ak, rfl, ⟨_, .inl (.inl (ha1' s6b))⟩, ?_⟩
            refine for_list (K := K) (a := ak) (xs := aas.map V.ref) (fun j sl G7 => ∃ (la2 : Addr) (lots2 : List (List Ch)) (v8 v9 v10 v11 v12 : Option V), sl = [some (.ref m), some (.ref g), some (.ref ak), some (.ref D0), some (.ref la2), some (.int (i : Nat)), some (.ref rb), some (.ref oa), v8, v9, v10, v11, v12, none, none] ∧ Same G6 G7 ∧ H la2 = none ∧ LF FL G7 la2 lots2 ∧
              lots2 = (crossed lots own).filter fun l => (as.take j).all fun p => pairB p i l) ⟨D2, crossed lots own, _, _, _, _, _, rfl, Same.refl _, (hGs.trans s56).free nD2, gr.lf, (List.filter_eq_self.mpr fun _ _ => rfl).symm⟩ (fun j sl G7 _ ⟨_, _, _, _, _, _, _, _, s7, _⟩ => .inl (.inl (ha1' (s6b.trans s7)))) ?_ ?_
            · rintro j x sl G7 hx ⟨la2, lots2, v8, v9, v10, v11, v12, rfl, s7, nla2, hl2, hlots2⟩
              obtain ⟨pb, p, rfl, _, hp, hpb⟩ := lf_at ha2 hx
              have s0 : Same H G7 := (hGs.trans s6b).trans s7
              obtain ⟨tn, tp, hp1, hp2, hp3, hp4⟩ := monoA.same s0 hpb
              rw [natV] at hp3
              refine ⟨pb, _, rfl, .inl (.inl hp1), rfl, _, _, rfl, _, _, rfl, _, _, rfl, rfl, ?_⟩
              have nx : (as.take (j + 1)) = as.take j ++ [p] := by rw [List.take_add_one, hp]; rfl
              have stay : (∀ l ∈ crossed lots own, pairB p i l = true) → ∃ (la2' : Addr) (lots2' : List (List Ch)) (v8' v9' v10' v11' v12' : Option V), [some (V.ref m), some (V.ref g), some (V.ref ak), some (V.ref D0), some (V.ref la2), some (V.int (i : Nat)), some (V.ref rb), some (V.ref oa), some (V.int (p.1 : Nat)), some (V.ref tn), some (V.ref tp), v11, v12, none, none] = [some (V.ref m), some (V.ref g), some (V.ref ak), some (V.ref D0), some (V.ref la2'), some (V.int (i : Nat)), some (V.ref rb), some (V.ref oa), v8', v9', v10', v11', v12', none, none] ∧ Same G6 G7 ∧ H la2' = none ∧ LF FL G7 la2' lots2' ∧
                  lots2' = (crossed lots own).filter fun l => (as.take (j + 1)).all fun p => pairB p i l := fun hall => by
                refine ⟨la2, lots2, _, _, _, _, _, rfl, s7, nla2, hl2, ?_⟩
                rw [hlots2, nx]
                refine List.filter_congr fun l hl => ?_
                rw [List.all_append]
                simp [hall l hl]
              refine ⟨_, rfl, tp, _, rfl, .inl (.inl (.inl hp3)), rfl, _, rfl, ite2 (fun e => ?_) (fun e => iteF (stay fun l hl => ?_))⟩
              · have e2 : p.2.2.length = 2 := by
                  have z := V.int.inj (of_decide_eq_true e)
                  rw [List.length_map] at z
                  unfold natI at z
                  rw [List.length_map] at z
                  omega
                obtain ⟨i1, j1, hij⟩ : ∃ i1 j1, p.2.2 = [i1, j1] := by
                  match h : p.2.2, e2 with
                  | [i1, j1], _ => exact ⟨i1, j1, rfl⟩
                have hp3' : G7 tp = some (.lst [V.int (i1 : Nat), V.int (j1 : Nat)]) := by
                  rw [hp3, hij]
                  rfl
                have hpB : ∀ l, pairB p i l = if max i1 j1 = i then keptB p.2.1 [l.getD i1 (1, 0), l.getD j1 (1, 0)] else true := fun l => by
                  unfold pairB
                  rw [hij]
                refine ⟨_, rfl, tp, [(i1 : Int), (j1 : Int)], rfl, .inl (.inl hp3'), by show 0 < 2; decide, fun mx hm1 hm2 => ?_⟩
                have hmx : mx = (max i1 j1 : Nat) := by
                  have a1 := hm2 i1 (by simp)
                  have a2 := hm2 j1 (by simp)
                  have a3 : mx = (i1 : Int) ∨ mx = (j1 : Int) := by simpa using hm1
                  omega
                subst hmx
                refine ⟨_, rfl, rfl, _, rfl, ite2 (fun e3 => ?_) (fun e3 => stay fun l hl => ?_)⟩
                · have e4 : max i1 j1 = i := by
                    have z := V.int.inj (of_decide_eq_true e3)
                    omega
                  refine ⟨_, rfl, tp, _, rfl, .inl (.inl hp3'), rfl, _, _, rfl, _, _, rfl, rfl, ?_⟩
                  obtain ⟨l2as, hla, hlb⟩ := hl2
                  have l2len : l2as.length = lots2.length := paired_len hlb
                  have lots2len : lots2.length ≤ 40000 := by
                    rw [hlots2]
                    exact Nat.le_trans (List.length_filter_le _ _) csz2
                  have lots2mem : ∀ l ∈ lots2, l ∈ crossed lots own := fun l hl => by
                    rw [hlots2] at hl
                    exact (List.mem_filter.mp hl).1
                  refine ⟨_, rfl, la2, rfl, ⟨_, .inl (.inl hla)⟩, fun D3 nD3 => ?_⟩
                  refine lc_it (walk_list (K := K) (a := la2) (xs := l2as.map V.ref)) (fun u G8 => Grow FL G7 G8 D3 ((lots2.take u).filter fun l => pairB p i l)) (Grow.start nD3) (fun u G8 _ gr8 => .inl (.inl (gr8.same _ _ hla))) ?_ ?_
                  · rintro u x G8 G9 hu gr8 ⟨rfl, hx2⟩
                    obtain ⟨lb, l, rfl, _, hl, hlb2⟩ := lf_at hlb hx2
                    have hlm := lots2mem l (List.mem_of_getElem? hl)
                    obtain ⟨ll, lpos⟩ := clen l hlm
                    obtain ⟨cs, hc1, hc2⟩ := monoL.same gr8.same hlb2
                    have hi1 : i1 < l.length := by omega
                    have hj1 : j1 < l.length := by omega
                    obtain ⟨c1, hc1a, hc1b⟩ := paired_get hc2 i1 l[i1] (List.getElem?_eq_getElem hi1)
                    obtain ⟨c2, hc2a, hc2b⟩ := paired_get hc2 j1 l[j1] (List.getElem?_eq_getElem hj1)
                    refine ⟨rfl, _, rfl, _, rfl, _, rfl, lb, _, (i1 : Int), .ref c1, rfl, rfl, .inl (.inl hc1), atI_nat (by rw [List.getElem?_map, hc1a]; rfl), _, rfl, _, rfl, lb, _, (j1 : Int), .ref c2, rfl, rfl, .inl (.inl hc1), atI_nat (by rw [List.getElem?_map, hc2a]; rfl), by show 2 ≤ sizeLine; decide, fun L2 nL2 => ?_⟩
                    have gr9 := gr8.new monoL nL2 (o := .lst [.ref c1, .ref c2])
                    have hn2 := gr9.same _ _ hp2
                    have hpk : keptB p.2.1 [l[i1], l[j1]] = pairB p i l := by
                      rw [hpB, if_pos e4, List.getD_eq_getElem?_getD, List.getD_eq_getElem?_getD, List.getElem?_eq_getElem hi1, List.getElem?_eq_getElem hj1]
                      rfl
                    refine ⟨tn, L2, p.2.1, [l[i1], l[j1]], rfl, hn2, ⟨[c1, c2], .inl (.inl upd_same), .cons (monoC.same (new_same nL2) hc1b) (.cons (monoC.same (new_same nL2) hc2b) .nil)⟩, ?_, by show 2 ≤ 1000; decide, fun G10 s10 => ⟨_, rfl, ?_⟩⟩
                    · intro c hc
                      rcases List.mem_cons.mp hc with z | z
                      · rw [z]
                        exact lpos _ (List.getElem_mem hi1)
                      · rw [List.mem_singleton.mp z]
                        exact lpos _ (List.getElem_mem hj1)
                    · have gr10 := gr9.step monoL s10
                      have nx2 : (lots2.take (u + 1)).filter (fun l => pairB p i l) = (lots2.take u).filter (fun l => pairB p i l) ++ (if pairB p i l = true then [l] else []) := by
                        rw [List.take_add_one, hl, List.filter_append]
                        congr 1
                        simp only [Option.toList_some, List.filter_cons, List.filter_nil]
                      rw [hpk]
                      by_cases e5 : pairB p i l = true
                      · rw [if_pos e5] at nx2
                        rw [e5]
                        have hlb3 : FL G10 lb l := monoL.same gr10.same hlb2
                        have neb : lb ≠ D3 := by
                          have z := ne_of_none (hlb2.choose_spec.1) nD3
                          exact z
                        obtain ⟨as3, h8, l8, gr11⟩ := gr10.push monoL neb hlb3
                        refine iteT ⟨_, rfl, _, h8, ?_, ?_⟩
                        · rw [List.length_map, l8]
                          refine Nat.lt_of_le_of_lt (Nat.le_trans (List.length_filter_le _ _) (show _ ≤ 40000 from ?_)) (by decide)
                          rw [List.length_take]
                          omega
                        · rw [nx2]
                          exact gr11
                      · rw [if_neg e5, List.append_nil] at nx2
                        rw [Bool.eq_false_iff.mpr e5]
                        refine iteF ?_
                        rw [nx2]
                        exact gr10
                  · intro G8 gr8
                    rw [List.length_map, l2len, List.take_length] at gr8
                    refine ⟨D3, _, _, _, _, _, _, rfl, s7.trans gr8.same, ((hGs.trans s6b).trans s7).free nD3, gr8.lf, ?_⟩
                    rw [hlots2, nx, List.filter_filter]
                    refine List.filter_congr fun l _ => ?_
                    rw [List.all_append, Bool.and_comm]
                    simp
                · rw [hpB, if_neg (fun z => e3 (by rw [z]; exact decide_eq_true rfl))]
              · unfold pairB
                match h : p.2.2 with
                | [] => rfl
                | [_] => rfl
                | [i1, j1] => exact absurd (by rw [h]; rfl) e
                | _ :: _ :: _ :: _ => rfl
            · rintro sl G7 ⟨la2, lots2, v8, v9, v10, v11, v12, rfl, s7, nla2, hl2, hlots2⟩
              rw [List.length_map, la1, List.take_length] at hlots2
              have hst : lots2 = stepLots as i row lots := by
                rw [hlots2, hown2]
                rfl
              refine ⟨la2, lots2, _, _, _, _, _, _, _, _, rfl, s6b.trans s7, nla2, hl2, ?_, fun l hl => ?_, ?_⟩
              · rw [hlots, hst]
                have hd : rs.drop i = row :: rs.drop (i + 1) := by
                  have hi3 := (List.getElem?_eq_some_iff.mp hrow).1
                  rw [List.drop_eq_getElem_cons hi3, (List.getElem?_eq_some_iff.mp hrow).2]
                rw [hd]
                rfl
              · rw [hlots2] at hl
                exact clen l (List.mem_filter.mp hl).1
              · rw [hlots2]
                exact Nat.le_trans (List.length_filter_le _ _) csz
      · rintro sl G2 ⟨la, lots, v5, v6, v7, v8, v9, v10, v11, v12, rfl, s2, nla, hla, hlots, hlen, hsz⟩
        rw [List.length_map, ← hrl] at hlots
        rw [List.drop_length] at hlots
        refine ⟨_, rfl, q la G2 nla ?_ (hGs.trans s2)⟩
        rw [hlots]
        exact hla
end
end Md

namespace Md
open PySem PySem.Spec PyProof.Rows L2
abbrev sFitting : Stmt := top 29
abbrev sNumber : Stmt := top 31
def fits (nts : List Nt) (ts : List (List V)) (gs : List Str) : List (List Ch) := lotsOf (askedFrom gs 0 nts) 0 (ts.filter (inGroup gs)) [[]]
def numOf (nts : List Nt) (ts : List (List V)) : List (List Str) → Nat
  | [] => 1
  | gs :: r => (fits nts ts gs).length * numOf nts ts r
def numCases (nts : List Nt) (ts : List (List V)) (x y : Str) : Nat := numOf nts ts (grps nts x y (ts.map nameOf) (ts.map nameOf))
theorem own_len {as : List AE} {i : Nat} {r : List V} (h : TownR r ∧ rowHi r ≤ 12) : (ownOf as i r).length ≤ 144 := by
  obtain ⟨⟨z, lo, hi, er, _, _, l1, _⟩, l3⟩ := h
  unfold ownOf
  refine Nat.le_trans (List.length_filter_le _ _) ?_
  rw [er] at l3 ⊢
  exact ways_len l1 l3
theorem lots_len (as : List AE) : ∀ (rs : List (List V)) (i : Nat) (lots : List (List Ch)), (∀ r ∈ rs, TownR r ∧ rowHi r ≤ 12) → (lotsOf as i rs lots).length ≤ lots.length * 144 ^ rs.length
  | [], i, lots, _ => by simp [lotsOf]
  | r :: rs, i, lots, h => by
    have ih := lots_len as rs (i + 1) (stepLots as i r lots) fun x hx => h x (List.mem_cons_of_mem _ hx)
    have e : (stepLots as i r lots).length ≤ lots.length * 144 := by
      unfold stepLots
      refine Nat.le_trans (List.length_filter_le _ _) ?_
      rw [crossed_len]
      exact Nat.mul_le_mul (Nat.le_refl _) (own_len (h r (List.mem_cons_self ..)))
    refine Nat.le_trans ih ?_
    rw [List.length_cons, Nat.pow_succ, Nat.mul_comm (144 ^ rs.length) 144, ← Nat.mul_assoc]
    exact Nat.mul_le_mul e (Nat.le_refl _)
theorem fits_len {nts : List Nt} {ts : List (List V)} {gs : List Str} (good : ∀ r ∈ ts, TownR r ∧ rowHi r ≤ 12) (few : (ts.filter (inGroup gs)).length ≤ 2) : (fits nts ts gs).length ≤ 20736 := by
  unfold fits
  have a := lots_len (askedFrom gs 0 nts) (ts.filter (inGroup gs)) 0 [[]] fun r hr => good r (List.mem_filter.mp hr).1
  refine Nat.le_trans a ?_
  have b : 144 ^ (ts.filter (inGroup gs)).length ≤ 144 ^ 2 := Nat.pow_le_pow_right (by decide) few
  simp only [List.length_cons, List.length_nil]
  omega
theorem two_most {l : List Str} {x y : Str} (n : l.Nodup) (h : ∀ a ∈ l, a = x ∨ a = y) : l.length ≤ 2 := by
  match l, n, h with
  | [], _, _ => exact Nat.zero_le _
  | [_], _, _ => exact Nat.le_succ 1
  | [_, _], _, _ => exact Nat.le_refl 2
  | a :: b :: c :: r, n, h =>
    exfalso
    have ha := h a (by simp)
    have hb := h b (by simp)
    have hc := h c (by simp)
    have n1 := List.nodup_cons.mp n
    have n2 := List.nodup_cons.mp n1.2
    have ab : a ≠ b := fun e => n1.1 (by simp [e])
    have ac : a ≠ c := fun e => n1.1 (by simp [e])
    have bc : b ≠ c := fun e => n2.1 (by simp [e])
    rcases ha with rfl | rfl <;> rcases hb with rfl | rfl <;> rcases hc with rfl | rfl <;> first | exact ab rfl | exact ac rfl | exact bc rfl
theorem group_few {nts : List Nt} {x y z : Str} {ts : List (List V)} (n : (ts.map nameOf).Nodup) : (ts.filter (inGroup (grpOf nts x y (ts.map nameOf) z))).length ≤ 2 := by
  have h1 : ((ts.filter (inGroup (grpOf nts x y (ts.map nameOf) z))).map nameOf).Nodup := (List.filter_sublist.map nameOf).nodup n
  have h2 : ∀ a ∈ (ts.filter (inGroup (grpOf nts x y (ts.map nameOf) z))).map nameOf, grpB nts x y z a = true := fun a ha => by
    obtain ⟨r, hr, rfl⟩ := List.mem_map.mp ha
    have hi := of_decide_eq_true (List.mem_filter.mp hr).2
    exact (List.mem_filter.mp hi).2
  rw [← List.length_map (f := nameOf)]
  by_cases hh : hangs nts x y z = true
  · refine two_most (x := x) (y := y) h1 fun a ha => ?_
    have z2 := h2 a ha
    unfold grpB at z2
    rw [if_pos hh] at z2
    simpa using z2
  · refine two_most (x := z) (y := z) h1 fun a ha => .inl ?_
    have z2 := h2 a ha
    unfold grpB at z2
    rw [if_neg hh] at z2
    simpa using z2
section
variable {P : Program} {w : World} {K : PySem.W.Frag} {mg : Str → Option Value} {base : Heap}
def spFitting (C : Addr) : Sp := fun vs H Q _ => ∃ (m dx a b g : Addr) (ts : List (List V)) (nts : List Nt) (gs : List Str), vs = [.ref m, .ref g] ∧ DiaryAt C H m dx a b ts (nts.map Nt.row) ∧ (∀ r ∈ ts, TownR r ∧ rowHi r ≤ 12) ∧ ts.length ≤ 100 ∧ nts.length ≤ 100 ∧ H g = some (.lst (gs.map V.str)) ∧
  (ts.filter (inGroup gs)).length ≤ 2 ∧ ∀ q H', H q = none → LF FL H' q (fits nts ts gs) → Same H H' → Q (.ref q) H'
theorem scFitting : FnScope ["diary", "group"] ["diary", "group"] (defScope sFitting) := ⟨rfl, rfl, rfl, by decide +kernel, rfl, by decide +kernel, by decide +kernel⟩
theorem ok_fitting {f fL fA C : Addr} {fd fdL fdA : FuncData} {k : Nat} (F : Fun K "fitting_lots" "fitting_lots" sFitting f fd) (LK : DefAt P w K mg base "lots_keeping" fL fdL ["diary", "names", "asked"] 4 (spLots C)) (AO : DefAt P w K mg base "asked_of" fA fdA ["diary", "names"] 3 (spAskedOf C)) :
    FnOk P w K mg base CX0 (k + 5) f fd ["diary", "group"] (spFitting C) := by
  have GL := LK.ok k
  have GA := AO.ok (k + 1)
  refine F.ok scFitting (fun vs H Q E h => ?_) (fun cdv A outer s H vs Q E hr h => ?_)
  · obtain ⟨m, dx, a, b, g, ts, nts, gs, rfl, _⟩ := h
    rfl
  · obtain ⟨m, dx, a, b, g, ts, nts, gs, rfl, DA, good, few, few2, hg, fewG, q⟩ := h
    have nd := scFitting.nd
    refine ⟨_, pss_one (ps_ret (pe_call GL hr (by rfl) LK.mg LK.kp LK.b .nil pass0 (pa_cons (pv 0) (pa_cons (pv 1) (pa_cons (pe_call GA hr (by rfl) AO.mg AO.kp AO.b .nil pass0 (pa_cons (pv 0) (pa_cons (pv 1) pa_nil))) pa_nil))))), ?_⟩
    refine ⟨_, rfl, _, rfl, _, rfl, _, rfl, m, dx, a, b, g, ts, nts, gs, rfl, DA, few2, hg, fun ak H1 nak hak s1 => ?_⟩
    refine ⟨m, dx, a, b, g, ak, ts, nts.map Nt.row, gs, askedFrom gs 0 nts, rfl, DA.same s1, good, few, s1 _ _ hg, hak, ?_, fewG, fun q0 H2 nq hq s2 => q q0 H2 (s1.free nq) hq (s1.trans s2)⟩
    have := asked_len gs nts 0
    omega
def spNumber (C : Addr) : Sp := fun vs H Q _ => ∃ (m dx a b : Addr) (ts : List (List V)) (nts : List Nt) (x y : Str), vs = [.ref m] ∧ DiaryAt C H m dx a b ts (nts.map Nt.row) ∧ (∀ r ∈ ts, TownR r ∧ rowHi r ≤ 12) ∧ (ts.map nameOf).Nodup ∧ ts.length ≤ 100 ∧ nts.length ≤ 100 ∧ PairOf nts x y ∧
  ∀ H', Same H H' → Q (.int (numCases nts ts x y : Nat)) H'
abbrev nNumber : List Str := ["diary", "many", "group"]
theorem scNumber : FnScope nNumber ["diary"] (defScope sNumber) := ⟨rfl, rfl, rfl, by decide +kernel, rfl, by decide +kernel, by decide +kernel⟩
theorem num_split (nts : List Nt) (ts : List (List V)) : ∀ (l : List (List Str)) (i : Nat) (g : List Str), l[i]? = some g → numOf nts ts (l.take (i + 1)) = numOf nts ts (l.take i) * (fits nts ts g).length
  | [], i, g, h => by simp at h
  | a :: l, 0, g, h => by
    have e : a = g := Option.some.inj h
    subst e
    show (fits nts ts a).length * 1 = 1 * _
    omega
  | a :: l, i + 1, g, h => by
    show (fits nts ts a).length * numOf nts ts (l.take (i + 1)) = (fits nts ts a).length * numOf nts ts (l.take i) * _
    rw [num_split nts ts l i g h, Nat.mul_assoc]
theorem ok_number {f fG fF C : Addr} {fd fdG fdF : FuncData} {k : Nat} (F : Fun K "number_of_cases" "number_of_cases" sNumber f fd) (GO : DefAt P w K mg base "groups_of" fG fdG ["diary"] 4 (spGroupsOf C)) (FL_ : DefAt P w K mg base "fitting_lots" fF fdF ["diary", "group"] 5 (spFitting C)) (B : Blt mg) :
    FnOk P w K mg base CX0 (k + 6) f fd ["diary"] (spNumber C) := by
  have GG := GO.ok (k + 1)
  have GF := FL_.ok k
  refine F.ok scNumber (fun vs H Q E h => ?_) (fun cdv A outer s H vs Q E hr h => ?_)
  · obtain ⟨m, dx, a, b, ts, nts, x, y, rfl, _⟩ := h
    rfl
  · obtain ⟨m, dx, a, b, ts, nts, x, y, rfl, DA, good, nodup, few, few2, PO, q⟩ := h
    have nd := scNumber.nd
    refine ⟨_, pss_cons (ps_set (i := 1) nd rfl (.inl rfl) pe_int)
      (pss_cons (ps_for PassesOwn.never rfl (pi_list (pe_call GG hr (by rfl) GO.mg GO.kp GO.b .nil pass0 (pa_cons (pv 0) pa_nil))) (pg_name (i := 2) nd rfl (.inl rfl))
        (pss_one (ps_set (i := 1) nd rfl (.inl rfl) (pe_op op_mul (pv 1) (pe_callB call_len_seq (by rfl) B.len PySem.boot_len (pa_cons (pe_call GF hr (by rfl) FL_.mg FL_.kp FL_.b .nil pass0 (pa_cons (pv 0) (pa_cons (pv 2) pa_nil))) pa_nil))))))
      (pss_one (ps_ret (pv 1)))), ?_⟩
    refine ⟨_, rfl, m, dx, a, b, ts, nts, x, y, rfl, DA, (fun r hr => (good r hr).1), few, few2, PO, fun g0 H1 ng hg s1 => ?_⟩
    obtain ⟨gas, hg1, hg2⟩ := hg
    have lg : gas.length = _ := paired_len hg2
    refine ⟨g0, rfl, ⟨_, .inl (.inl hg1)⟩, ?_⟩
    refine for_list (K := K) (a := g0) (xs := gas.map V.ref) (fun i sl G => ∃ v2, sl = [some (.ref m), some (.int (numOf nts ts ((grps nts x y (ts.map nameOf) (ts.map nameOf)).take i) : Nat)), v2] ∧ Same H1 G) ⟨none, rfl, Same.refl _⟩ (fun i sl G _ ⟨_, _, s2⟩ => .inl (.inl (s2 _ _ hg1))) ?_ ?_
    · rintro i xv sl G hx ⟨v2, rfl, s2⟩
      obtain ⟨gb, gs, rfl, _, hgs, hgb⟩ := lf_at hg2 hx
      have hmem := List.mem_of_getElem? hgs
      obtain ⟨z, _, ez⟩ := List.mem_map.mp hmem
      refine ⟨_, rfl, _, rfl, _, rfl, m, dx, a, b, gb, ts, nts, gs, rfl, DA.same (s1.trans s2), good, few, few2, s2 _ _ hgb, by rw [← ez]; exact group_few nodup, fun q0 G2 nq hq s3 => ?_⟩
      obtain ⟨qas, hq1, hq2⟩ := hq
      refine ⟨q0, _, rfl, .inl (.inl (.inl hq1)), _, _, rfl, rfl, .inr ?_, ?_⟩
      · have hb := fits_len (nts := nts) (gs := gs) good (by rw [← ez]; exact group_few nodup)
        rw [List.length_map, paired_len hq2]
        omega
      refine ⟨some (.ref gb), ?_, s2.trans s3⟩
      have e := num_split nts ts _ i gs hgs
      rw [e, List.length_map, paired_len hq2, Int.natCast_mul]
      rfl
    · rintro sl G ⟨v2, rfl, s2⟩
      rw [List.length_map, lg, List.take_length]
      exact ⟨_, rfl, q G (s1.trans s2)⟩
end
end Md

namespace Md
open PySem PySem.Spec PyProof.Rows L2
abbrev sKeptL : Stmt := top 44
abbrev sFree : Stmt := top 45
section
variable {P : Program} {w : World} {K : PySem.W.Frag} {mg : Str → Option Value} {base : Heap}
theorem ok_marketX {f : Addr} {fd : FuncData} {k : Nat} (F : Fun K "_law_mk_market" "_law_mk_market" sMarket f fd) (B : Blt mg) : FnOk P w K mg base CX0 (k + 1) f fd ["pick", "moment"] spHas := by
  refine F.ok scMarket (fun vs H Q E h => ?_) (fun cdv A outer s H vs Q E hr h => ?_)
  · obtain ⟨b, c, d, rfl, _⟩ := h
    rfl
  · obtain ⟨b, ⟨t, x⟩, d, rfl, hb, t1, q⟩ := h
    have t1 : 1 ≤ t := t1
    refine ⟨_, pss_one (ps_ret (pe_cmpR op_eq (pe_op op_mod (pe_callTy call_int1 (by rfl) B.int (by decide +kernel) (pa_cons (pv 1) pa_nil)) (pe_ix (r := rIxT K) ix_tup (pv 0) pe_int (fun _ _ => rfl))) (pe_ix (r := rIxT K) ix_tup (pv 0) pe_int (fun _ _ => rfl)) (nomark _))), ?_⟩
    refine ⟨_, rfl, .inl ⟨_, rfl, _, rfl, b, _, 0, .int t, rfl, rfl, .inl (.inl hb), atI_nat (j := 0) rfl, _, _, rfl, rfl, (by show 0 < t; omega), _, rfl, b, _, 1, .int x, rfl, rfl, .inl (.inl hb), atI_nat (j := 1) rfl, rfl, ?_⟩⟩
    have e : decide (V.int (d % t) = V.int x) = hasM (t, x) d := by
      unfold hasM
      exact decide_eq_decide.mpr ⟨fun z => V.int.inj z, fun z => by rw [show d % t = x from z]⟩
    rw [e]
    exact q
/-- what a dict of choices holds for some names -/
def Holds (H : Hp) (kvs : List (Key × V)) (us : List Str) (cs : List Ch) : Prop := Paired (fun u c => ∃ cb, valV kvs (.inr u) = some (.ref cb) ∧ FC H cb c ∧ 1 ≤ c.1) us cs
def spKeptL : Sp := fun vs H Q _ => ∃ (t h : Addr) (nt : Nt) (kvs : List (Key × V)) (cs : List Ch), vs = [.ref t, .ref h] ∧ H t = some (.tup nt.row) ∧ H h = some (.dK kvs) ∧ Holds H kvs nt.mids cs ∧ ∀ H', Same H H' → Q (.bl (keptB nt cs)) H'
abbrev nKeptL : List Str := ["entry", "held", "here"]
theorem scKeptL : FnScope nKeptL ["entry", "held"] (defScope sKeptL) := ⟨rfl, rfl, rfl, by decide +kernel, rfl, by decide +kernel, by decide +kernel⟩
theorem cnt1 (c : Ch) (d : Int) : cnt [c] d = if hasM c d = true then 1 else 0 := by
  unfold cnt
  simp only [List.filter_cons, List.filter_nil]
  split <;> rfl
theorem cnt2 (c e : Ch) (d : Int) : cnt [c, e] d = (if hasM c d = true then 1 else 0) + (if hasM e d = true then 1 else 0) := by
  unfold cnt
  simp only [List.filter_cons, List.filter_nil]
  split <;> split <;> rfl
theorem kept1 (mk : Bool) (z : Str) (d : Int) (c : Ch) : keptB (.one mk z d) [c] = (hasM c d == mk) := by
  show fitsN (.one mk z d) (cnt [c] d) = _
  rw [cnt1]
  cases mk <;> cases hasM c d <;> rfl
theorem kept2 (sm : Bool) (y z : Str) (d : Int) (c e : Ch) : keptB (.two sm y z d) [c, e] = ((hasM c d == hasM e d) == sm) := by
  show fitsN (.two sm y z d) (cnt [c, e] d) = _
  rw [cnt2]
  cases sm <;> cases hasM c d <;> cases hasM e d <;> rfl
theorem bl_eq (a b : Bool) : decide (V.bl a = V.bl b) = (a == b) := by
  cases a <;> cases b <;> rfl
theorem ok_keptL {f fM : Addr} {fd fdM : FuncData} {k : Nat} (F : Fun K "_law_mk_kept" "_law_mk_kept" sKeptL f fd) (MK : DefAt P w K mg base "_law_mk_market" fM fdM ["pick", "moment"] 1 spHas) : FnOk P w K mg base CX0 (k + 2) f fd ["entry", "held"] spKeptL := by
  have GM := MK.ok k
  refine F.ok scKeptL (fun vs H Q E h => ?_) (fun cdv A outer s H vs Q E hr h => ?_)
  · obtain ⟨t, h, nt, kvs, cs, rfl, _⟩ := h
    rfl
  · obtain ⟨t, h, nt, kvs, cs, rfl, hT, hH, hP, q⟩ := h
    have nd := scKeptL.nd
    refine ⟨_, pss_cons (ps_set (i := 2) nd rfl (.inl rfl) (pe_call GM hr (by rfl) MK.mg MK.kp MK.b .nil pass0 (pa_cons (pe_dget (hu_of hr) (pv 1) (pe_ix (r := rIxT K) ix_tup (pv 0) pe_int (fun _ _ => rfl)) (fun _ _ => rfl)) (pa_cons (pe_ix (r := rIxT K) ix_tup (pv 0) (pe_un un_neg pe_int) (fun _ _ => rfl)) pa_nil))))
      (pss_cons (ps_if (pt_cmpR op_in_seq (pe_ix (r := rIxT K) ix_tup (pv 0) pe_int (fun _ _ => rfl)) (pe_tup (pa_cons pe_str (pa_cons pe_str pa_nil))) (by rfl))
        (pss_one (ps_ret (pe_cmpR op_eq (pv 2) (pe_cmpR op_eq (pe_ix (r := rIxT K) ix_tup (pv 0) pe_int (fun _ _ => rfl)) pe_str (nomark _)) (nomark _)))) pss_nil)
      (pss_one (ps_ret (pe_cmpR op_eq (pe_cmpR op_eq (pv 2) (pe_call GM hr (by rfl) MK.mg MK.kp MK.b .nil pass0 (pa_cons (pe_dget (hu_of hr) (pv 1) (pe_ix (r := rIxT K) ix_tup (pv 0) pe_int (fun _ _ => rfl)) (fun _ _ => rfl)) (pa_cons (pe_ix (r := rIxT K) ix_tup (pv 0) (pe_un un_neg pe_int) (fun _ _ => rfl)) pa_nil))) (nomark _))
        (pe_cmpR op_eq (pe_ix (r := rIxT K) ix_tup (pv 0) pe_int (fun _ _ => rfl)) pe_str (nomark _)) (nomark _))))), ?_⟩
    have hq : SqT K H t nt.row := .inl (.inl hT)
    cases nt with
    | one mk z d =>
      obtain ⟨c, rfl, cb, hv, hcb, c1⟩ : ∃ c, cs = [c] ∧ ∃ cb, valV kvs (.inr z) = some (.ref cb) ∧ FC H cb c ∧ 1 ≤ c.1 := by
        cases hP with
        | cons a r =>
          cases r with
          | nil => exact ⟨_, rfl, a⟩
      have hg : DGet H h (.str z) (some (.ref cb)) := by
        have g := DGet.k (k := .inr z) hH
        rw [hv] at g
        exact g
      refine ⟨_, rfl, _, rfl, t, _, 1, .str z, rfl, rfl, hq, atI_nat (j := 1) rfl, h, .ref cb, rfl, hg, _, rfl, _, rfl, t, _, -1, .int d, rfl, rfl, hq, row_last (.one mk z d), cb, c, d, rfl, hcb, c1, ?_⟩
      refine ⟨_, rfl, t, _, 0, .str (kind1 mk), rfl, rfl, hq, atI_nat (j := 0) rfl, by show 2 ≤ sizeLine; decide, fun T nT => ⟨T, _, rfl, .inr (.inl (.inl upd_same)), rfl, rfl, _, rfl, ?_⟩⟩
      have hq2 : SqT K (upd H T (.tup [.str "market", .str "none"])) t (Nt.one mk z d).row := .inl (.inl (new_same nT _ _ hT))
      have e1 : inV (V.str (kind1 mk)) [.str "market", .str "none"] = true := by cases mk <;> decide +kernel
      show (if inV (V.str (kind1 mk)) [.str "market", .str "none"] = true then _ else _)
      rw [e1]
      refine iteT ⟨_, rfl, _, rfl, t, _, 0, .str (kind1 mk), rfl, rfl, hq2, atI_nat (j := 0) rfl, rfl, rfl, ?_⟩
      have e2 : decide (V.bl (hasM c d) = V.bl (decide (V.str (kind1 mk) = V.str "market"))) = keptB (.one mk z d) [c] := by
        rw [kept1, bl_eq]
        congr 1
        cases mk <;> decide +kernel
      rw [e2]
      exact q _ (new_same nT)
    | two sm y z d =>
      obtain ⟨c, e, rfl, ⟨cb, hv, hcb, c1⟩, eb, hw, heb, e1⟩ : ∃ c e, cs = [c, e] ∧ (∃ cb, valV kvs (.inr y) = some (.ref cb) ∧ FC H cb c ∧ 1 ≤ c.1) ∧ ∃ cb, valV kvs (.inr z) = some (.ref cb) ∧ FC H cb e ∧ 1 ≤ e.1 := by
        cases hP with
        | cons a r =>
          cases r with
          | cons b r2 =>
            cases r2 with
            | nil => exact ⟨_, _, rfl, a, b⟩
      have hg : DGet H h (.str y) (some (.ref cb)) := by
        have g := DGet.k (k := .inr y) hH
        rw [hv] at g
        exact g
      refine ⟨_, rfl, _, rfl, t, _, 1, .str y, rfl, rfl, hq, atI_nat (j := 1) rfl, h, .ref cb, rfl, hg, _, rfl, _, rfl, t, _, -1, .int d, rfl, rfl, hq, row_last (.two sm y z d), cb, c, d, rfl, hcb, c1, ?_⟩
      refine ⟨_, rfl, t, _, 0, .str (kind2 sm), rfl, rfl, hq, atI_nat (j := 0) rfl, by show 2 ≤ sizeLine; decide, fun T nT => ⟨T, _, rfl, .inr (.inl (.inl upd_same)), rfl, rfl, _, rfl, ?_⟩⟩
      have s1 : Same H (upd H T (.tup [.str "market", .str "none"])) := new_same nT
      have hq2 : SqT K (upd H T (.tup [.str "market", .str "none"])) t (Nt.two sm y z d).row := .inl (.inl (s1 _ _ hT))
      have e3 : inV (V.str (kind2 sm)) [.str "market", .str "none"] = false := by cases sm <;> decide +kernel
      show (if inV (V.str (kind2 sm)) [.str "market", .str "none"] = true then _ else _)
      rw [e3]
      have hg2 : DGet (upd H T (.tup [.str "market", .str "none"])) h (.str z) (some (.ref eb)) := by
        have g := DGet.k (k := .inr z) (s1 _ _ hH)
        rw [hw] at g
        exact g
      refine iteF ⟨_, rfl, _, rfl, _, rfl, t, _, 2, .str z, rfl, rfl, hq2, atI_nat (j := 2) rfl, h, .ref eb, rfl, hg2, _, rfl, _, rfl, t, _, -1, .int d, rfl, rfl, hq2, row_last (.two sm y z d), eb, e, d, rfl, monoC.same s1 heb, e1, rfl, ?_⟩
      refine ⟨_, rfl, t, _, 0, .str (kind2 sm), rfl, rfl, hq2, atI_nat (j := 0) rfl, rfl, rfl, ?_⟩
      have e2 : decide (V.bl (decide (V.bl (hasM c d) = V.bl (hasM e d))) = V.bl (decide (V.str (kind2 sm) = V.str "same"))) = keptB (.two sm y z d) [c, e] := by
        rw [kept2, bl_eq, bl_eq]
        congr 1
        cases sm <;> decide +kernel
      rw [e2]
      exact q _ s1
/-! ### the choices of a town that keep its own notes -/
def FN (H : Hp) (b : Addr) (nt : Nt) : Prop := H b = some (.tup nt.row)
theorem monoN : MonoF FN := ⟨fun h k ne f => k _ _ f ne, fun s f => s _ _ f⟩
theorem rows_lf {G : Hp} {q : Addr} {nts : List Nt} (h : Rows G q (nts.map Nt.row)) : LF FN G q nts := by
  obtain ⟨as, h1, h2⟩ := h
  refine ⟨as, h1, ?_⟩
  clear h1
  induction nts generalizing as with
  | nil => cases h2; exact .nil
  | cons c cs ih =>
    cases h2 with
    | cons a t => exact .cons a (ih _ t)
theorem lf_rows {G : Hp} {q : Addr} {nts : List Nt} (h : LF FN G q nts) : Rows G q (nts.map Nt.row) := by
  obtain ⟨as, h1, h2⟩ := h
  refine ⟨as, h1, ?_⟩
  clear h1
  induction nts generalizing as with
  | nil => cases h2; exact .nil
  | cons c cs ih =>
    cases h2 with
    | cons a t => exact .cons a (ih _ t)
def soleOf (z : Str) (nt : Nt) : Bool := decide (nt.mids = [z])
def okFree (nts : List Nt) (z : Str) (c : Ch) : Bool := (nts.filter (soleOf z)).all fun nt => keptB nt [c]
def freeOf (nts : List Nt) (z : Str) (lo hi : Int) : List Ch := (ways lo hi).filter (okFree nts z)
theorem none_left {α : Type} (p : α → Bool) : ∀ l : List α, (l.filter fun x => !p x).isEmpty = l.all p
  | [] => rfl
  | x :: l => by
    have ih := none_left p l
    rw [List.filter_cons, List.all_cons]
    cases h : p x with
    | true => simpa using ih
    | false => rfl
theorem filter_next {α : Type} {p : α → Bool} {l : List α} {i : Nat} {x : α} (h : l[i]? = some x) : (l.take (i + 1)).filter p = (l.take i).filter p ++ (if p x = true then [x] else []) := by
  rw [List.take_add_one, h, List.filter_append]
  congr 1
  simp only [Option.toList_some, List.filter_cons, List.filter_nil]
theorem strs_eqv : ∀ us vs : List Str, PyData.eqvAll (us.map PyData.str) (vs.map PyData.str) = decide (us = vs)
  | [], [] => by simp [PyData.eqvAll]
  | [], _ :: _ => by simp [PyData.eqvAll]
  | _ :: _, [] => by simp [PyData.eqvAll]
  | a :: r, b :: t => by
    simp only [List.map_cons, PyData.eqvAll, PyData.eqv, strs_eqv r t]
    by_cases h : a = b <;> by_cases h' : r = t <;> simp [h, h']
theorem tup_eqv (us vs : List Str) : PyData.eqv (.tuple (us.map PyData.str)) (.tuple (vs.map PyData.str)) = decide (us = vs) := by
  unfold PyData.eqv
  exact strs_eqv us vs
theorem empty_eqv (ds : List PyData) : PyData.eqv (.list ds) (.list []) = ds.isEmpty := by
  unfold PyData.eqv
  cases ds <;> simp [PyData.eqvAll]
theorem strs_shaped {us : List Str} (h : ∀ u ∈ us, nameB u = true ∧ u.length ≤ 8) : SeqAt.shaped (.tuple (us.map PyData.str)) = true :=
  (Nice.tuple (ds := us.map PyData.str) (dep := 0) (b := 8) fun d hd => by
    obtain ⟨z, hz, e⟩ := List.mem_map.mp hd
    rw [← e]
    exact (name_flat (h z hz).1 (h z hz).2).nice).shaped (by decide)
/-- notes whose names are names, whose days are days -/
def NtOk (nt : Nt) : Prop := (∀ u ∈ nt.mids, nameB u = true ∧ u.length ≤ 8) ∧ 0 ≤ nt.day ∧ nt.day ≤ 10 ^ 30
theorem NtOk.flat {nt : Nt} (h : NtOk nt) : RowF nt.row := by
  refine ⟨by rw [row_len]; have := mids_few nt; omega, fun v hv => ?_⟩
  unfold Nt.row at hv
  rcases List.mem_cons.mp hv with e | e
  · rw [e]
    refine kind_flat ?_
    cases nt with
    | one mk _ _ => cases mk <;> simp [Nt.kind, kind1]
    | two sm _ _ _ => cases sm <;> simp [Nt.kind, kind2]
  · rcases List.mem_append.mp e with z | z
    · obtain ⟨u, hu, e2⟩ := List.mem_map.mp z
      rw [← e2]
      exact name_flat (h.1 u hu).1 (h.1 u hu).2
    · rw [List.mem_singleton.mp z]
      exact .inr ⟨_, rfl, h.2.1, h.2.2⟩
def spFree : Sp := fun vs H Q _ => ∃ (t e : Addr) (z : Str) (lo hi : Int) (nts : List Nt), vs = [.ref t, .ref e] ∧ H t = some (.tup [.str z, .int lo, .int hi]) ∧ nameB z = true ∧ z.length ≤ 8 ∧ 1 ≤ lo ∧ lo ≤ hi ∧ hi ≤ 12 ∧ LF FN H e nts ∧ nts.length ≤ 100 ∧ (∀ nt ∈ nts, NtOk nt) ∧
  ∀ q H', H q = none → LF FC H' q (freeOf nts z lo hi) → Same H H' → Q (.ref q) H'
abbrev nFree : List Str := ["place", "entries", "asked", "found", "turn", "start", "held", "entry"]
theorem scFree : FnScope nFree ["place", "entries"] (defScope sFree) := ⟨rfl, rfl, rfl, by decide +kernel, rfl, by decide +kernel, by decide +kernel⟩
theorem ok_free {f fK : Addr} {fd fdK : FuncData} {k : Nat} (F : Fun K "_law_mk_free" "_law_mk_free" sFree f fd) (KL : DefAt P w K mg base "_law_mk_kept" fK fdK ["entry", "held"] 2 spKeptL) (B : Blt mg) : FnOk P w K mg base CX0 (k + 3) f fd ["place", "entries"] spFree := by
  have GK := KL.ok k
  refine F.ok scFree (fun vs H Q E h => ?_) (fun cdv A outer s H vs Q E hr h => ?_)
  · obtain ⟨t, e, z, lo, hi, nts, rfl, _⟩ := h
    rfl
  · obtain ⟨t, e, z, lo, hi, nts, rfl, hT, gz, z8, l1, l2, l3, hE, few, okN, q⟩ := h
    have nd := scFree.nd
    refine ⟨_, pss_cons (ps_par (i := 2) (j := 3) rfl nd rfl rfl (by decide) rfl rfl (pa_cons (pe_lc (own := [("entry", 7)]) (g := gName 7) rfl nd (pi_list (pv 1)) (blkOk_by (N := nFree) (sc := defScope sFree) (by decide +kernel))
          (fun _ _ _ _ _ => pg_name (i := 7) nd rfl (.inl rfl)) (fun _ _ _ _ _ => pts_one (pt_cmpR (r := rEqD K) (op_eqD hr.units) (pe_slice (r := rSlT K) sl_tup (pv 7) (po_some pe_int) (po_some (pe_un un_neg pe_int))) (pe_tup (pa_cons (pe_ix (r := rIxT K) ix_tup (pv 0) pe_int (fun _ _ => rfl)) pa_nil)) (nomark _))) (fun _ _ _ _ _ => pv 7)) (pa_cons (pe_lst pa_nil) pa_nil)) (by rfl))
      (pss_cons (ps_for PassesOwn.never rfl (pi_range2 (by rfl) B.range (pa_cons (pe_ix (r := rIxT K) ix_tup (pv 0) pe_int (fun _ _ => rfl)) (pa_cons (pe_op op_add (pe_ix (r := rIxT K) ix_tup (pv 0) pe_int (fun _ _ => rfl)) pe_int) pa_nil))) (pg_name (i := 4) nd rfl (.inl rfl))
        (pss_one (ps_for PassesOwn.never rfl (pi_range1 (by rfl) B.range (pa_cons (pv 4) pa_nil)) (pg_name (i := 5) nd rfl (.inl rfl))
          (pss_cons (ps_set (i := 6) nd rfl (.inr rfl) (pe_disp (pps_cons (pe_ix (r := rIxT K) ix_tup (pv 0) pe_int (fun _ _ => rfl)) (pe_tup (pa_cons (pv 4) (pa_cons (pv 5) pa_nil))) pps_nil) rfl rfl (by simp) (by decide)))
          (pss_one (ps_if (pt_cmpR (op_eqD hr.units) (pe_lc (own := [("entry", 7)]) (g := gName 7) rfl nd (pi_list (pv 2)) (blkOk_by (N := nFree) (sc := defScope sFree) (by decide +kernel))
              (fun _ _ _ _ _ => pg_name (i := 7) nd rfl (.inl rfl)) (fun _ _ _ _ _ => pts_one (pt_not (pt_val (pe_call GK hr (by rfl) KL.mg KL.kp KL.b .nil pass0 (pa_cons (pv 7) (pa_cons (pv 6) pa_nil)))))) (fun _ _ _ _ _ => pv 7)) (pe_lst pa_nil) (nomark _))
            (pss_one (ps_expr (pe_bm PySem.F.plainAttrs_list PySem.F.slot_list_append PySem.F.type_list_append mt_append (pv 3) (pa_cons (pe_tup (pa_cons (pv 4) (pa_cons (pv 5) pa_nil))) pa_nil)))) pss_nil))))))
      (pss_one (ps_ret (pv 3)))), ?_⟩
    have hq : SqT K H t [.str z, .int lo, .int hi] := .inl (.inl hT)
    obtain ⟨eas, he1, he2⟩ := hE
    have le : eas.length = nts.length := paired_len he2
    refine ⟨_, rfl, e, rfl, ⟨_, .inl (.inl he1)⟩, fun D0 nD0 => ?_⟩
    refine lc_it (walk_list (K := K) (a := e) (xs := eas.map V.ref)) (fun i G => Grow FN H G D0 ((nts.take i).filter (soleOf z))) (Grow.start nD0) (fun i G _ gr => .inl (.inl (gr.same _ _ he1))) ?_ ?_
    · rintro i x G G' hi2 gr ⟨rfl, hx⟩
      obtain ⟨b, nt, rfl, _, hnt, hb⟩ := lf_at he2 hx
      have hb1 : FN G' b nt := monoN.same gr.same hb
      refine ⟨rfl, _, rfl, 1, rfl, _, rfl, -1, rfl, b, _, rfl, .inl (.inl hb1), row_part nt, fun c nc => ?_⟩
      rw [show cutV nt.row (some 1) (some (-1)) = nt.mids.map V.str from cut_mid _ _ _]
      have gr1 := gr.new monoN nc (o := .tup (nt.mids.map V.str))
      refine ⟨_, rfl, t, _, 0, .str z, rfl, rfl, .inl (.inl (gr1.same _ _ hT)), atI_nat (j := 0) rfl, by show 1 ≤ sizeLine; decide, fun T nT => ?_⟩
      have gr2 := gr1.new monoN nT (o := .tup [.str z])
      refine ⟨.tuple (nt.mids.map PyData.str), .tuple ([z].map PyData.str), .tup (.inl (.inl (by rw [upd_ne (ne_of_none upd_same nT)]; exact upd_same))) (strs_dp _), .tup (.inl (.inl upd_same)) (strs_dp [z]), strs_shaped (okN nt (List.mem_of_getElem? hnt)).1, strs_shaped (us := [z]) (fun u hu => by rw [List.mem_singleton.mp hu]; exact ⟨gz, z8⟩), _, rfl, ?_⟩
      rw [tup_eqv]
      show (if soleOf z nt = true then _ else _)
      have nx := filter_next (p := soleOf z) hnt
      by_cases e5 : soleOf z nt = true
      · rw [if_pos e5] at nx
        rw [e5]
        have hb2 : FN (upd (upd G' c (.tup (nt.mids.map V.str))) T (.tup [.str z])) b nt := monoN.same gr2.same hb
        obtain ⟨as3, h8, l8, gr3⟩ := gr2.push monoN (gr2.away hb2) hb2
        refine iteT ⟨_, rfl, _, h8, ?_, ?_⟩
        · rw [List.length_map, l8]
          refine small1000 (Nat.le_trans (List.length_filter_le _ _) ?_)
          rw [List.length_take]
          omega
        · rw [nx]
          exact gr3
      · rw [if_neg e5, List.append_nil] at nx
        rw [Bool.eq_false_iff.mpr e5]
        refine iteF ?_
        rw [nx]
        exact gr2
    · intro G1 gr
      rw [List.length_map, le, List.take_length] at gr
      have s1 := gr.same
      obtain ⟨das, hd1, hd2⟩ := gr.lf
      have ld : das.length = (nts.filter (soleOf z)).length := paired_len hd2
      refine ⟨Nat.zero_le _, fun F0 nF0 => ⟨_, _, rfl, ?_⟩⟩
      have g0 : Grow FC G1 (upd G1 F0 (.lst [])) F0 [] := Grow.start nF0
      have hq1 : ∀ {G : Hp}, Same G1 G → SqT K G t [.str z, .int lo, .int hi] := fun s => .inl (.inl (s _ _ (s1 _ _ hT)))
      refine ⟨_, rfl, t, _, 1, .int lo, rfl, rfl, hq1 g0.same, atI_nat (j := 1) rfl, _, rfl, t, _, 2, .int hi, rfl, rfl, hq1 g0.same, atI_nat (j := 2) rfl, _, _, rfl, rfl, lo, hi + 1, rfl, ⟨by omega, by omega, by omega, by omega⟩, ?_⟩
      refine for_range (lo := lo) (n := (hi + 1 - lo).toNat) (fun i sl G => ∃ v4 v5 v6, sl = [some (.ref t), some (.ref e), some (.ref D0), some (.ref F0), v4, v5, v6, none] ∧ Grow FC G1 G F0 (((List.range i).flatMap (waysFrom lo)).filter (okFree nts z))) ⟨none, none, none, rfl, g0⟩ ?_ ?_
      · rintro i sl G hi3 ⟨v4, v5, v6, rfl, g⟩
        refine ⟨_, rfl, lo + (i : Int), rfl, by omega, by omega, ?_⟩
        refine for_range (lo := 0) (n := (lo + (i : Int)).toNat) (fun j sl G2 => ∃ v5 v6, sl = [some (.ref t), some (.ref e), some (.ref D0), some (.ref F0), some (.int (lo + (i : Int))), v5, v6, none] ∧ Grow FC G1 G2 F0 (((List.range i).flatMap (waysFrom lo) ++ (waysFrom lo i).take j).filter (okFree nts z))) ⟨_, _, rfl, by simpa using g⟩ ?_ ?_
        · rintro j sl G2 hj ⟨v5, v6, rfl, g2⟩
          have hj2 : (waysFrom lo i)[j]? = some (lo + (i : Int), (j : Int)) := by
            unfold waysFrom
            rw [List.getElem?_map, List.getElem?_range hj]
            rfl
          let c : Ch := (lo + (i : Int), (j : Int))
          refine fun hd nhd => ?_
          have g3 := g2.new monoC nhd (o := .dK [])
          refine ⟨_, rfl, t, _, 0, .str z, rfl, rfl, hq1 g3.same, atI_nat (j := 0) rfl, _, rfl, _, rfl, by show 2 ≤ sizeLine; decide, fun T nT => ⟨by rw [upd_ne (ne_of_none upd_same nT)]; exact upd_same, [(.inr z, .ref T)], rfl, by show 1 ≤ 15; decide, ?_⟩⟩
          have nT2 : G2 T = none := by
            by_cases e7 : T = hd
            · rw [e7]; exact nhd
            · rw [upd_ne e7] at nT
              exact nT
          have sG : Same G2 (upd (upd (upd G2 hd (.dK [])) T (.tup [.int (lo + (i : Int)), .int (0 + (j : Int))])) hd (.dK (mergeK [] [(.inr z, .ref T)]))) := fun b o zz => by
            rw [upd_ne (ne_of_none zz nhd), upd_ne (ne_of_none zz nT2), upd_ne (ne_of_none zz nhd)]
            exact zz
          have hTt : (upd (upd (upd G2 hd (.dK [])) T (.tup [.int (lo + (i : Int)), .int (0 + (j : Int))])) hd (.dK (mergeK [] [(.inr z, .ref T)]))) T = some (.tup (chV c)) := by
            have ne : T ≠ hd := fun e7 => by
              rw [e7, upd_same] at nT
              cases nT
            rw [upd_ne ne, upd_same]
            simp [chV, c]
          have hH : (upd (upd (upd G2 hd (.dK [])) T (.tup [.int (lo + (i : Int)), .int (0 + (j : Int))])) hd (.dK (mergeK [] [(.inr z, .ref T)]))) hd = some (.dK [(.inr z, .ref T)]) := by
            rw [upd_same]
            rfl
          revert sG hTt hH
          generalize (upd (upd (upd G2 hd (.dK [])) T (.tup [.int (lo + (i : Int)), .int (0 + (j : Int))])) hd (.dK (mergeK [] [(.inr z, .ref T)]))) = G3
          intro sG hTt hH
          have g4 := g2.step monoC sG
          refine ⟨_, rfl, D0, rfl, ⟨_, .inl (.inl (g4.same _ _ hd1))⟩, fun D1 nD1 => ?_⟩
          refine lc_it (walk_list (K := K) (a := D0) (xs := das.map V.ref)) (fun u G4 => Grow FN G3 G4 D1 (((nts.filter (soleOf z)).take u).filter fun nt => !keptB nt [c])) (Grow.start nD1) (fun u G4 _ gr4 => .inl (.inl ((g4.same.trans gr4.same) _ _ hd1))) ?_ ?_
          · rintro u x G4 G5 hu gr4 ⟨rfl, hx⟩
            obtain ⟨b, nt, rfl, _, hnt, hb⟩ := lf_at hd2 hx
            have hb1 : FN G5 b nt := monoN.same (g4.same.trans gr4.same) hb
            have hsole : nt.mids = [z] := of_decide_eq_true (List.mem_filter.mp (List.mem_of_getElem? hnt)).2
            refine ⟨rfl, _, rfl, _, rfl, b, hd, nt, [(.inr z, .ref T)], [c], rfl, hb1, gr4.same _ _ hH, ?_, fun G6 s6 => ⟨_, rfl, ?_⟩⟩
            · rw [hsole]
              exact .cons ⟨T, valV_pos rfl, gr4.same _ _ hTt, by show 1 ≤ lo + (i : Int); omega⟩ .nil
            · have gr5 := gr4.step monoN s6
              have nx := filter_next (p := fun nt => !keptB nt [c]) hnt
              by_cases e5 : keptB nt [c] = true
              · rw [e5] at nx ⊢
                rw [if_neg (by decide), List.append_nil] at nx
                refine iteF ?_
                rw [nx]
                exact gr5
              · rw [Bool.eq_false_iff.mpr e5] at nx ⊢
                rw [if_pos (by rfl)] at nx
                have hb2 : FN G6 b nt := monoN.same s6 hb1
                obtain ⟨as3, h8, l8, gr6⟩ := gr5.push monoN (gr5.away hb2) hb2
                refine iteT ⟨_, rfl, _, h8, ?_, ?_⟩
                · rw [List.length_map, l8]
                  refine small1000 (Nat.le_trans (List.length_filter_le _ _) ?_)
                  rw [List.length_take]
                  have := List.length_filter_le (soleOf z) nts
                  omega
                · rw [nx]
                  exact gr6
          · intro G4 gr4
            rw [List.length_map, ld, List.take_length] at gr4
            have hrows : Rows G4 D1 (((nts.filter (soleOf z)).filter fun nt => !keptB nt [c]).map Nt.row) := lf_rows gr4.lf
            have hflat : ∀ r ∈ ((nts.filter (soleOf z)).filter fun nt => !keptB nt [c]).map Nt.row, RowF r := fun r hr => by
              obtain ⟨nt, hnt, e9⟩ := List.mem_map.mp hr
              rw [← e9]
              exact (okN nt (List.mem_filter.mp (List.mem_filter.mp hnt).1).1).flat
            refine ⟨Nat.zero_le _, fun N nN => ⟨_, .list [], rows_dp (hrows.new nN) hflat, .lst (.inl (.inl upd_same)) .nil, (rows_nice hflat).shaped (by decide), by rfl, _, rfl, ?_⟩⟩
            rw [empty_eqv, List.isEmpty_map, List.isEmpty_map, none_left]
            show (if okFree nts z c = true then _ else _)
            have nx := filter_next (p := okFree nts z) hj2
            have g5 := ((g4.step monoC gr4.same).new monoC nN (o := .lst []))
            have key : ((List.range i).flatMap (waysFrom lo) ++ (waysFrom lo i).take (j + 1)).filter (okFree nts z) = ((List.range i).flatMap (waysFrom lo) ++ (waysFrom lo i).take j).filter (okFree nts z) ++ (if okFree nts z c = true then [c] else []) := by
              rw [List.filter_append, nx, List.filter_append, List.append_assoc]
            by_cases e5 : okFree nts z c = true
            · rw [if_pos e5] at key
              rw [e5]
              obtain ⟨fas, hf1, hf2⟩ := g5.len
              refine iteT ⟨_, rfl, .inl ⟨rfl, _, .inl (.inl hf2)⟩, _, rfl, _, rfl, by show 2 ≤ sizeLine; decide, fun T2 nT2 => ?_⟩
              have g6 := g5.new monoC nT2 (o := .tup [.int (lo + (i : Int)), .int (0 + (j : Int))])
              obtain ⟨as3, h8, l8, g7⟩ := g6.push monoC (g6.away upd_same) (show FC _ T2 c by show upd _ _ _ _ = _; rw [upd_same]; simp [chV, c])
              refine ⟨F0, _, _, rfl, rfl, h8, ?_, _, _, rfl, ?_⟩
              · rw [List.length_map, l8]
                refine small1000 (Nat.le_trans (List.length_filter_le _ _) ?_)
                have b1 : ((waysFrom lo i).take j).length ≤ 12 := by
                  rw [List.length_take, waysFrom_len]
                  omega
                have b2 := ways_few (lo := lo) (n := i) (h := 12) (by omega)
                have b3 : 12 * i ≤ 144 := by omega
                rw [List.length_append]
                omega
              · rw [key]
                exact g7
            · rw [if_neg e5, List.append_nil] at key
              rw [Bool.eq_false_iff.mpr e5]
              refine iteF ⟨_, _, rfl, ?_⟩
              rw [key]
              exact g5
        · rintro sl G2 ⟨v5, v6, rfl, g2⟩
          have e6 : (waysFrom lo i).take (lo + (i : Int)).toNat = waysFrom lo i := List.take_of_length_le (by rw [waysFrom_len]; exact Nat.le_refl _)
          rw [e6] at g2
          refine ⟨_, _, _, rfl, ?_⟩
          rw [List.range_succ, List.flatMap_append]
          simpa using g2
      · rintro sl G ⟨v4, v5, v6, rfl, g⟩
        exact ⟨_, rfl, q F0 G (s1.free nF0) g.lf (s1.trans g.same)⟩
end
end Md

namespace Md
open PySem PySem.Spec PyProof.Rows L2
abbrev sRanks : Stmt := top 46
abbrev sCouples : Stmt := top 47
abbrev sCount : Stmt := top 48
/-- a sheet: towns and notes -/
structure ShAt (H : Hp) (q a b : Addr) (ts : List (List V)) (nts : List Nt) : Prop where
  tup : H q = some (.tup [.ref a, .ref b])
  towns : Rows H a ts
  notes : LF FN H b nts
theorem ShAt.same {H G : Hp} {q a b : Addr} {ts : List (List V)} {nts : List Nt} (h : ShAt H q a b ts nts) (s : Same H G) : ShAt G q a b ts nts := ⟨s _ _ h.tup, h.towns.same s, LF.same monoN s h.notes⟩
/-- a small sheet -/
structure SmS (ts : List (List V)) (nts : List Nt) (x y : Str) : Prop where
  good : ∀ r ∈ ts, TownR r ∧ rowHi r ≤ 12
  nodup : (ts.map nameOf).Nodup
  okN : ∀ nt ∈ nts, NtOk nt
  inN : ∀ nt ∈ nts, ∀ u ∈ nt.mids, u ∈ ts.map nameOf
  pair : PairOf nts x y
  few : ts.length ≤ 100
  few2 : nts.length ≤ 100
/-- the places of the two towns that hang together -/
def RanksAre (nts : List Nt) (zs : List Str) (x y : Str) (is : List Int) : Prop := (has2 nts = false ∧ is = []) ∨ (has2 nts = true ∧ ∃ (i j : Nat) (u v : Str), is = [(i : Int), (j : Int)] ∧ i < j ∧ zs[i]? = some u ∧ zs[j]? = some v ∧ ((u = x ∧ v = y) ∨ (u = y ∧ v = x)))
theorem has2_take {nts : List Nt} (h : ∀ sm a b d, Nt.two sm a b d ∉ nts) : has2 nts = false := by
  unfold has2 prs
  have e : nts.flatMap Nt.pairs = [] := List.flatMap_eq_nil_iff.mpr fun n hn => by
    cases n with
    | one _ _ _ => rfl
    | two sm a b d => exact absurd hn (h sm a b d)
  rw [e]
  rfl
theorem has2_mem {nts : List Nt} {sm : Bool} {a b : Str} {d : Int} (h : Nt.two sm a b d ∈ nts) : has2 nts = true := by
  unfold has2
  have m : [V.str a, V.str b] ∈ prs nts := List.mem_flatMap.mpr ⟨_, h, List.mem_singleton.mpr rfl⟩
  cases e : prs nts with
  | nil => rw [e] at m; cases m
  | cons _ _ => rfl
section
variable {P : Program} {w : World} {K : PySem.W.Frag} {mg : Str → Option Value} {base : Heap}
/-- the places of the two towns of some note of two towns -/
def RanksOf (nts : List Nt) (zs : List Str) (is : List Int) : Prop := (has2 nts = false ∧ is = []) ∨ (has2 nts = true ∧ ∃ (i j : Nat) (u v : Str), is = [(i : Int), (j : Int)] ∧ i < j ∧ zs[i]? = some u ∧ zs[j]? = some v ∧ ∃ sm a b d, Nt.two sm a b d ∈ nts ∧ ((u = a ∧ v = b) ∨ (u = b ∧ v = a)))
def spRanks2 : Sp := fun vs H Q _ => ∃ (q a b : Addr) (ts : List (List V)) (nts : List Nt), vs = [.ref q] ∧ ShAt H q a b ts nts ∧ (∀ r ∈ ts, TownR r) ∧ ts.length ≤ 100 ∧ (∀ nt ∈ nts, ∀ u ∈ nt.mids, u ∈ ts.map nameOf) ∧ (∀ sm a b d, Nt.two sm a b d ∈ nts → a ≠ b) ∧
  ∀ is r H', RanksOf nts (ts.map nameOf) is → H r = none → H' r = some (.lst (is.map V.int)) → Same H H' → Q (.ref r) H'
def spRanks : Sp := fun vs H Q _ => ∃ (q a b : Addr) (ts : List (List V)) (nts : List Nt) (x y : Str), vs = [.ref q] ∧ ShAt H q a b ts nts ∧ (∀ r ∈ ts, TownR r) ∧ ts.length ≤ 100 ∧ (∀ nt ∈ nts, ∀ u ∈ nt.mids, u ∈ ts.map nameOf) ∧ PairOf nts x y ∧
  ∀ is r H', RanksAre nts (ts.map nameOf) x y is → H r = none → H' r = some (.lst (is.map V.int)) → Same H H' → Q (.ref r) H'
theorem RanksOf.are {nts : List Nt} {zs : List Str} {is : List Int} {x y : Str} (h : RanksOf nts zs is) (PO : PairOf nts x y) : RanksAre nts zs x y is := by
  rcases h with h | ⟨h2, i, j, u, v, e, ij, hu, hv, sm, a, b, d, hm, huv⟩
  · exact .inl h
  · refine .inr ⟨h2, i, j, u, v, e, ij, hu, hv, ?_⟩
    rcases PO.all sm a b d hm with ⟨rfl, rfl⟩ | ⟨rfl, rfl⟩
    · exact huv
    · exact huv.symm
abbrev nRanks : List Str := ["sheet", "labels", "entry", "place"]
theorem scRanks : FnScope nRanks ["sheet"] (defScope sRanks) := ⟨rfl, rfl, rfl, by decide +kernel, rfl, by decide +kernel, by decide +kernel⟩
theorem ok_ranks2 {f : Addr} {fd : FuncData} {k : Nat} (F : Fun K "_law_mk_ranks" "_law_mk_ranks" sRanks f fd) (B : Blt mg) : FnOk P w K mg base CX0 (k + 1) f fd ["sheet"] spRanks2 := by
  refine F.ok scRanks (fun vs H Q E h => ?_) (fun cdv A outer s H vs Q E hr h => ?_)
  · obtain ⟨q, a, b, ts, nts, rfl, _⟩ := h
    rfl
  · obtain ⟨q, a, b, ts, nts, rfl, S, good, few, inN, twoN, fin⟩ := h
    have nd := scRanks.nd
    refine ⟨_, pss_cons (ps_setLc (i := 1) (own := [("place", 3)]) (g := gName 3) (tt := tYes) rfl nd rfl rfl (sw_true rfl rfl rfl (by decide +kernel)) (pi_list (pe_ix (r := rIxT K) ix_tup (pv 0) pe_int (fun _ _ => rfl))) (blkOk_by (N := nRanks) (sc := defScope sRanks) (by decide +kernel))
        (fun _ _ _ _ _ => pg_name (i := 3) nd rfl (.inl rfl)) (fun _ _ _ _ _ => pts_nil) (fun _ _ _ _ _ => pe_ix (r := rIxT K) ix_tup (pv 3) pe_int (fun _ _ => rfl)))
      (pss_cons (ps_for PassesOwn.never rfl (pi_list (pe_ix (r := rIxT K) ix_tup (pv 0) pe_int (fun _ _ => rfl))) (pg_name (i := 2) nd rfl (.inl rfl))
        (pss_one (ps_if (pt_cmpR op_eq (pe_callB call_len_seq (by rfl) B.len PySem.boot_len (pa_cons (pv 2) pa_nil)) pe_int (nomark _))
          (pss_one (ps_ret (pe_callB cr_sortedI (by rfl) B.sorted (by decide +kernel) (pa_cons (pe_lst (pa_cons (pe_bm PySem.F.plainAttrs_list PySem.F.slot_list_index PySem.F.type_list_index mt_index (pv 1) (pa_cons (pe_ix (r := rIxT K) ix_tup (pv 2) pe_int (fun _ _ => rfl)) pa_nil))
            (pa_cons (pe_bm PySem.F.plainAttrs_list PySem.F.slot_list_index PySem.F.type_list_index mt_index (pv 1) (pa_cons (pe_ix (r := rIxT K) ix_tup (pv 2) pe_int (fun _ _ => rfl)) pa_nil)) pa_nil))) pa_nil)))) pss_nil)))
      (pss_one (ps_ret (pe_lst pa_nil)))), ?_⟩
    obtain ⟨as, ha1, ha2⟩ := S.towns
    have ln : as.length = ts.length := paired_len ha2
    refine ⟨_, rfl, q, _, 0, .ref a, rfl, rfl, .inl (.inl S.tup), atI_nat (j := 0) rfl, a, rfl, ⟨_, .inl (.inl ha1)⟩, fun L nL => ?_⟩
    refine lcp_list (K := K) (a := a) (xs := as.map V.ref) (ys := (ts.map nameOf).map V.str) (.inl (.inl ha1)) nL (by rw [List.length_map, List.length_map, List.length_map, ln]) (by rw [List.length_map, ln]; exact small1000 (by omega)) (fun i x y R hx hy r => ?_) ?_
    · obtain ⟨b3, row, ex, hr1, hb3⟩ := rows_ref ha2 hx
      subst ex
      obtain ⟨z, lo, hi, er, _⟩ := good row (List.mem_of_getElem? hr1)
      have ey : y = V.str z := by
        rw [List.getElem?_map, List.getElem?_map, hr1, er] at hy
        exact (Option.some.inj hy).symm
      subst ey
      subst er
      refine ⟨rfl, _, rfl, b3, [.str z, .int lo, .int hi], 0, .str z, rfl, rfl, .inl (.inl ?_), atI_nat (j := 0) rfl, r⟩
      unfold grown
      rw [upd_ne (ne_of_none hb3 nL)]
      exact hb3
    · have s1 : Same H (upd H L (.lst ((ts.map nameOf).map V.str))) := new_same nL
      have S1 := S.same s1
      obtain ⟨bs, hb1, hb2⟩ := S1.notes
      have lb : bs.length = nts.length := paired_len hb2
      refine ⟨_, rfl, q, _, 1, .ref b, rfl, rfl, .inl (.inl S1.tup), atI_nat (j := 1) rfl, b, rfl, ⟨_, .inl (.inl hb1)⟩, ?_⟩
      refine for_list (K := K) (a := b) (xs := bs.map V.ref) (fun i sl G => ∃ v2, sl = [some (.ref q), some (.ref L), v2, none] ∧ G = upd H L (.lst ((ts.map nameOf).map V.str)) ∧ ∀ sm a b d, Nt.two sm a b d ∉ nts.take i) ⟨none, rfl, rfl, by simp⟩ (fun i sl G _ ⟨_, _, e, _⟩ => by rw [e]; exact .inl (.inl hb1)) ?_ ?_
      · rintro i xv sl G hx ⟨v2, rfl, rfl, no⟩
        obtain ⟨nb, nt, rfl, _, hnt, hb⟩ := lf_at hb2 hx
        have hq2 : SqT K (upd H L (.lst ((ts.map nameOf).map V.str))) nb nt.row := .inl (.inl hb)
        cases nt with
        | one mk z1 d1 =>
          refine ⟨_, rfl, nb, _, rfl, .inr hq2, rfl, _, rfl, iteF ⟨_, rfl, rfl, fun sm a b d hm => ?_⟩⟩
          rw [List.take_add_one, hnt] at hm
          rcases List.mem_append.mp hm with h | h
          · exact no sm a b d h
          · have z := List.mem_singleton.mp h
            cases z
        | two sm a1 b1 d1 =>
          have hmem := List.mem_of_getElem? hnt
          have ma := inN _ hmem a1 (by simp [Nt.mids])
          have mb := inN _ hmem b1 (by simp [Nt.mids])
          have ne : a1 ≠ b1 := twoN sm a1 b1 d1 hmem
          have hL : SqL K (upd H L (.lst ((ts.map nameOf).map V.str))) L ((ts.map nameOf).map V.str) := .inl (.inl upd_same)
          refine ⟨_, rfl, nb, _, rfl, .inr hq2, rfl, _, rfl, iteT ?_⟩
          refine ⟨_, rfl, .inl ⟨rfl, _, hL⟩, _, rfl, nb, _, 1, .str a1, rfl, rfl, hq2, atI_nat (j := 1) rfl, L, _, .str a1, (ts.map nameOf).idxOf a1, .str a1, rfl, rfl, hL, rfl, flat_strs _, (idx_eqV ma).1, by show (a1 == a1) = true; simp, (idx_eqV ma).2, ?_⟩
          refine ⟨_, rfl, .inl ⟨rfl, _, hL⟩, _, rfl, nb, _, 2, .str b1, rfl, rfl, hq2, atI_nat (j := 2) rfl, L, _, .str b1, (ts.map nameOf).idxOf b1, .str b1, rfl, rfl, hL, rfl, flat_strs _, (idx_eqV mb).1, by show (b1 == b1) = true; simp, (idx_eqV mb).2, ?_⟩
          refine ⟨by show 2 ≤ sizeLine; decide, fun L2 nL2 => ⟨L2, [(((ts.map nameOf).idxOf a1 : Nat) : Int), (((ts.map nameOf).idxOf b1 : Nat) : Int)], rfl, .inl (.inl upd_same), fun ns S0 pm pw nS => ?_⟩⟩
          obtain ⟨p1, p2, rfl, p12, hp1, hp2⟩ := two_sorted pm pw
          have ia := List.idxOf_lt_length_of_mem ma
          have ib := List.idxOf_lt_length_of_mem mb
          have ga : (ts.map nameOf)[(ts.map nameOf).idxOf a1]? = some a1 := by rw [List.getElem?_eq_getElem ia, List.getElem_idxOf]
          have gb : (ts.map nameOf)[(ts.map nameOf).idxOf b1]? = some b1 := by rw [List.getElem?_eq_getElem ib, List.getElem_idxOf]
          have ine : (ts.map nameOf).idxOf a1 ≠ (ts.map nameOf).idxOf b1 := fun e => by
            rw [e, gb] at ga
            exact ne (Option.some.inj ga).symm
          refine fin [p1, p2] S0 _ (.inr ⟨has2_mem hmem, ?_⟩) (s1.free ((new_same nL2).free nS)) upd_same ((s1.trans (new_same nL2)).trans (new_same nS))
          have pp := pm
          rcases hp1 with e1 | e1
          · rcases hp2 with e2 | e2
            · exfalso
              have := pm.mem_iff (a := (((ts.map nameOf).idxOf b1 : Nat) : Int))
              rw [e1, e2] at this
              simp at this
              omega
            · exact ⟨_, _, a1, b1, by rw [e1, e2], by omega, ga, gb, sm, a1, b1, d1, hmem, .inl ⟨rfl, rfl⟩⟩
          · rcases hp2 with e2 | e2
            · exact ⟨_, _, b1, a1, by rw [e1, e2], by omega, gb, ga, sm, a1, b1, d1, hmem, .inr ⟨rfl, rfl⟩⟩
            · exfalso
              have := pm.mem_iff (a := (((ts.map nameOf).idxOf a1 : Nat) : Int))
              rw [e1, e2] at this
              simp at this
              omega
      · rintro sl G ⟨v2, rfl, rfl, no⟩
        rw [List.length_map, lb, List.take_length] at no
        exact ⟨Nat.zero_le _, fun r nr => fin [] r _ (.inl ⟨has2_take no, rfl⟩) (s1.free nr) upd_same (s1.trans (new_same nr))⟩
theorem ok_ranks {f : Addr} {fd : FuncData} {n : Nat} (h : FnOk P w K mg base CX0 n f fd ["sheet"] spRanks2) : FnOk P w K mg base CX0 n f fd ["sheet"] spRanks :=
  h.imp fun vs H Q E ⟨q, a, b, ts, nts, x, y, e, S, good, few, inN, PO, fin⟩ => ⟨q, a, b, ts, nts, e, S, good, few, inN, fun sm a b d hm => by
    rcases PO.all sm a b d hm with ⟨rfl, rfl⟩ | ⟨rfl, rfl⟩
    · exact PO.ne
    · exact PO.ne.symm, fun is r H' ha => fin is r H' (ha.are PO)⟩
end
end Md

namespace Md
open PySem PySem.Spec PyProof.Rows L2
def isTwo (nt : Nt) : Bool := decide (nt.mids.length = 2)
def okPair (nts : List Nt) (u : Str) (c d : Ch) : Bool := (nts.filter isTwo).all fun nt => keptB nt (nt.mids.map fun w => if w = u then c else d)
def cplOf (nts : List Nt) (u : Str) (fu fv : List Ch) : List (Ch × Ch) := fu.flatMap fun c => (fv.filter (okPair nts u c)).map fun d => (c, d)
def FT (H : Hp) (b : Addr) (_ : Ch × Ch) : Prop := ∃ xs, H b = some (.tup xs)
theorem monoT : MonoF FT := ⟨fun h k ne f => ⟨_, k _ _ f.choose_spec ne⟩, fun s f => ⟨_, s _ _ f.choose_spec⟩⟩
theorem merge2 {u v : Str} {a b : V} (h : u ≠ v) : mergeK [] [(Sum.inr u, a), (Sum.inr v, b)] = [((Sum.inr u : Key), a), (Sum.inr v, b)] := by
  have h2 : ¬ (Sum.inr u : Key) = Sum.inr v := fun e => h (Sum.inr.inj e)
  simp [mergeK, putK, h]
section
variable {P : Program} {w : World} {K : PySem.W.Frag} {mg : Str → Option Value} {base : Heap}
def spCouples : Sp := fun vs H Q _ => ∃ (q rk a b : Addr) (ts : List (List V)) (nts : List Nt) (i j : Nat) (u v : Str) (lo1 hi1 lo2 hi2 : Int), vs = [.ref q, .ref rk] ∧ ShAt H q a b ts nts ∧ SmS ts nts u v ∧ H rk = some (.lst [.int (i : Nat), .int (j : Nat)]) ∧
  ts[i]? = some [.str u, .int lo1, .int hi1] ∧ ts[j]? = some [.str v, .int lo2, .int hi2] ∧
  ∀ r H', H r = none → LF FT H' r (cplOf nts u (freeOf nts u lo1 hi1) (freeOf nts v lo2 hi2)) → Same H H' → Q (.ref r) H'
abbrev nCouples : List Str := ["sheet", "ranks", "first", "second", "asked", "found", "others", "pick", "mate", "held", "rank", "entry"]
theorem scCouples : FnScope nCouples ["sheet", "ranks"] (defScope sCouples) := ⟨rfl, rfl, rfl, by decide +kernel, rfl, by decide +kernel, by decide +kernel⟩
theorem free_len {nts : List Nt} {z : Str} {lo hi : Int} (h1 : 1 ≤ lo) (h2 : hi ≤ 12) : (freeOf nts z lo hi).length ≤ 144 := Nat.le_trans (List.length_filter_le _ _) (ways_len h1 h2)
theorem cpl_len {nts : List Nt} {u : Str} : ∀ {fu fv : List Ch}, (cplOf nts u fu fv).length ≤ fu.length * fv.length
  | [], fv => by simp [cplOf]
  | c :: fu, fv => by
    have ih := cpl_len (nts := nts) (u := u) (fu := fu) (fv := fv)
    have e : ((fv.filter (okPair nts u c)).map fun d => (c, d)).length ≤ fv.length := by
      rw [List.length_map]
      exact List.length_filter_le _ _
    unfold cplOf at ih ⊢
    rw [List.flatMap_cons, List.length_append, List.length_cons, Nat.succ_mul]
    omega
theorem ok_couples {f fF fK : Addr} {fd fdF fdK : FuncData} {k : Nat} (F : Fun K "_law_mk_couples" "_law_mk_couples" sCouples f fd) (FR : DefAt P w K mg base "_law_mk_free" fF fdF ["place", "entries"] 3 spFree) (KL : DefAt P w K mg base "_law_mk_kept" fK fdK ["entry", "held"] 2 spKeptL) (B : Blt mg) :
    FnOk P w K mg base CX0 (k + 4) f fd ["sheet", "ranks"] spCouples := by
  have GF := FR.ok k
  have GK := KL.ok (k + 1)
  refine F.ok scCouples (fun vs H Q E h => ?_) (fun cdv A outer s H vs Q E hr h => ?_)
  · obtain ⟨q, rk, a, b, ts, nts, i, j, u, v, lo1, hi1, lo2, hi2, rfl, _⟩ := h
    rfl
  · obtain ⟨q, rk, a, b, ts, nts, i, j, u, v, lo1, hi1, lo2, hi2, rfl, S, SM, hrk, ht1, ht2, fin⟩ := h
    have nd := scCouples.nd
    refine ⟨_, pss_cons (ps_asg (pe_lc (own := [("rank", 10)]) (g := gName 10) (tt := tYes) rfl nd (pi_list (pv 1)) (blkOk_by (N := nCouples) (sc := defScope sCouples) (by decide +kernel)) (fun _ _ _ _ _ => pg_name (i := 10) nd rfl (.inl rfl)) (fun _ _ _ _ _ => pts_nil)
          (fun _ _ _ _ _ => pe_ix (r := rIxL K) ix_list (pe_ix (r := rIxT K) ix_tup (pv 0) pe_int (fun _ _ => rfl)) (pv 10) (fun _ _ => rfl))) (pg_lst (by rfl) (pgs_cons (pg_name (i := 2) nd rfl (.inl rfl)) (pgs_cons (pg_name (i := 3) nd rfl (.inl rfl)) pgs_nil))))
      (pss_cons (ps_par (i := 4) (j := 5) rfl nd rfl rfl (by decide) rfl rfl (pa_cons (pe_lc (own := [("entry", 11)]) (g := gName 11) rfl nd (pi_list (pe_ix (r := rIxT K) ix_tup (pv 0) pe_int (fun _ _ => rfl))) (blkOk_by (N := nCouples) (sc := defScope sCouples) (by decide +kernel))
          (fun _ _ _ _ _ => pg_name (i := 11) nd rfl (.inl rfl)) (fun _ _ _ _ _ => pts_one (pt_cmpR op_eq (pe_callB (r := rLenS K) call_len_seq (by rfl) B.len PySem.boot_len (pa_cons (pv 11) pa_nil)) pe_int (nomark _))) (fun _ _ _ _ _ => pv 11)) (pa_cons (pe_lst pa_nil) pa_nil)) (by rfl))
      (pss_cons (ps_set (i := 6) nd rfl (.inl rfl) (pe_call GF hr (by rfl) FR.mg FR.kp FR.b .nil pass0 (pa_cons (pv 3) (pa_cons (pe_ix (r := rIxT K) ix_tup (pv 0) pe_int (fun _ _ => rfl)) pa_nil))))
      (pss_cons (ps_for PassesOwn.never rfl (pi_list (pe_call GF hr (by rfl) FR.mg FR.kp FR.b .nil pass0 (pa_cons (pv 2) (pa_cons (pe_ix (r := rIxT K) ix_tup (pv 0) pe_int (fun _ _ => rfl)) pa_nil)))) (pg_name (i := 7) nd rfl (.inl rfl))
        (pss_one (ps_for PassesOwn.never rfl (pi_list (pv 6)) (pg_name (i := 8) nd rfl (.inl rfl))
          (pss_cons (ps_set (i := 9) nd rfl (.inr rfl) (pe_disp (pps_cons (pe_ix (r := rIxT K) ix_tup (pv 2) pe_int (fun _ _ => rfl)) (pv 7) (pps_cons (pe_ix (r := rIxT K) ix_tup (pv 3) pe_int (fun _ _ => rfl)) (pv 8) pps_nil)) rfl rfl (by simp) (by decide)))
          (pss_one (ps_if (pt_cmpR (op_eqD hr.units) (pe_lc (own := [("entry", 11)]) (g := gName 11) rfl nd (pi_list (pv 4)) (blkOk_by (N := nCouples) (sc := defScope sCouples) (by decide +kernel))
              (fun _ _ _ _ _ => pg_name (i := 11) nd rfl (.inl rfl)) (fun _ _ _ _ _ => pts_one (pt_not (pt_val (pe_call GK hr (by rfl) KL.mg KL.kp KL.b .nil pass0 (pa_cons (pv 11) (pa_cons (pv 9) pa_nil)))))) (fun _ _ _ _ _ => pv 11)) (pe_lst pa_nil) (nomark _))
            (pss_one (ps_expr (pe_bm PySem.F.plainAttrs_list PySem.F.slot_list_append PySem.F.type_list_append mt_append (pv 5) (pa_cons (pe_tup (pa_cons (pv 7) (pa_cons (pv 8) pa_nil))) pa_nil)))) pss_nil))))))
      (pss_one (ps_ret (pv 5)))))), ?_⟩
    obtain ⟨as, ha1, ha2⟩ := S.towns
    have uv : u ≠ v := SM.pair.ne
    obtain ⟨t1, hta1, htr1⟩ := paired_get ha2 i _ ht1
    obtain ⟨t2, hta2, htr2⟩ := paired_get ha2 j _ ht2
    obtain ⟨⟨z1, _, _, er1, g1, z18, l11, l12⟩, l13⟩ := SM.good _ (List.mem_of_getElem? ht1)
    obtain ⟨⟨z2, _, _, er2, g2, z28, l21, l22⟩, l23⟩ := SM.good _ (List.mem_of_getElem? ht2)
    cases er1
    cases er2
    have l13 : hi1 ≤ 12 := l13
    have l23 : hi2 ≤ 12 := l23
    -- first, second
    refine ⟨_, rfl, rk, rfl, ⟨_, .inl (.inl hrk)⟩, fun L nL => ?_⟩
    refine lc_it (walk_list (K := K) (a := rk) (xs := [.int (i : Nat), .int (j : Nat)])) (fun n G => Same H G ∧ G L = some (.lst ([V.ref t1, .ref t2].take n))) ⟨new_same nL, by rw [upd_same]; rfl⟩ (fun n G _ z => .inl (.inl (z.1 _ _ hrk))) ?_ ?_
    · rintro n xv G G' hn ⟨s1, hL⟩ ⟨rfl, hx⟩
      obtain ⟨m, t, hm, ht, hn2⟩ : ∃ (m : Nat) (t : Addr), xv = .int (m : Nat) ∧ (as.map V.ref)[m]? = some (.ref t) ∧ [V.ref t1, V.ref t2][n]? = some (.ref t) := by
        have n2 : n = 0 ∨ n = 1 := by
          have : n < 2 := hn
          omega
        rcases n2 with rfl | rfl
        · exact ⟨i, t1, (Option.some.inj hx).symm, by rw [List.getElem?_map, hta1]; rfl, rfl⟩
        · exact ⟨j, t2, (Option.some.inj hx).symm, by rw [List.getElem?_map, hta2]; rfl, rfl⟩
      subst hm
      refine ⟨rfl, _, rfl, q, _, 0, .ref a, rfl, rfl, .inl (.inl (s1 _ _ S.tup)), atI_nat (j := 0) rfl, _, rfl, a, _, (m : Int), .ref t, rfl, rfl, .inl (.inl (s1 _ _ ha1)), atI_nat ht, _, hL, ?_, ?_⟩
      · rw [List.length_take]
        exact small1000 (by show min n 2 ≤ 1000; omega)
      · refine ⟨fun b2 o z => by rw [upd_ne (ne_of_none z nL)]; exact s1 _ _ z, ?_⟩
        rw [upd_same, List.take_add_one, hn2]
        rfl
    · rintro G ⟨s1, hL⟩
      have hL : G L = some (.lst [V.ref t1, .ref t2]) := hL
      refine ⟨L, _, rfl, .inl (.inl hL), rfl, _, _, rfl, _, _, rfl, rfl, ?_⟩
      have S1 := S.same s1
      obtain ⟨nas, hn1, hn2⟩ := S1.notes
      have lnn : nas.length = nts.length := paired_len hn2
      refine ⟨_, rfl, q, _, 1, .ref b, rfl, rfl, .inl (.inl S1.tup), atI_nat (j := 1) rfl, b, rfl, ⟨_, .inl (.inl hn1)⟩, fun D0 nD0 => ?_⟩
      refine lc_it (walk_list (K := K) (a := b) (xs := nas.map V.ref)) (fun n G2 => Grow FN G G2 D0 ((nts.take n).filter isTwo)) (Grow.start nD0) (fun n G2 _ gr => .inl (.inl (gr.same _ _ hn1))) ?_ ?_
      · rintro n xv G2 G3 hn gr ⟨rfl, hx⟩
        obtain ⟨nb, nt, rfl, _, hnt, hb⟩ := lf_at hn2 hx
        have hb1 : FN G3 nb nt := monoN.same gr.same hb
        refine ⟨rfl, _, rfl, nb, _, rfl, .inr (.inl (.inl hb1)), rfl, _, rfl, ?_⟩
        have e0 : decide (V.int ((nt.row.length : Nat) : Int) = V.int 4) = isTwo nt := by
          unfold isTwo
          rw [row_len]
          exact decide_eq_decide.mpr ⟨fun z => by have := V.int.inj z; omega, fun z => by rw [z]; rfl⟩
        rw [e0]
        have nx := filter_next (p := isTwo) hnt
        by_cases e5 : isTwo nt = true
        · rw [if_pos e5] at nx
          rw [e5]
          obtain ⟨as3, h8, l8, gr3⟩ := gr.push monoN (gr.away hb1) hb1
          refine iteT ⟨_, rfl, _, h8, ?_, ?_⟩
          · rw [List.length_map, l8]
            refine small1000 (Nat.le_trans (List.length_filter_le _ _) ?_)
            rw [List.length_take]
            have := SM.few2
            omega
          · rw [nx]
            exact gr3
        · rw [if_neg e5, List.append_nil] at nx
          rw [Bool.eq_false_iff.mpr e5]
          refine iteF ?_
          rw [nx]
          exact gr
      · intro G2 gr
        rw [List.length_map, lnn, List.take_length] at gr
        obtain ⟨das, hd1, hd2⟩ := gr.lf
        have ld : das.length = (nts.filter isTwo).length := paired_len hd2
        refine ⟨Nat.zero_le _, fun F0 nF0 => ⟨_, _, rfl, ?_⟩⟩
        have s2 : Same H G2 := s1.trans gr.same
        have s3 : Same H (upd G2 F0 (.lst [])) := s2.trans (new_same nF0)
        have gF : Grow FT G2 (upd G2 F0 (.lst [])) F0 [] := Grow.start nF0
        refine ⟨_, rfl, _, rfl, q, _, 1, .ref b, rfl, rfl, .inl (.inl (s3 _ _ S.tup)), atI_nat (j := 1) rfl, t2, b, v, lo2, hi2, nts, rfl, s3 _ _ htr2, g2, z28, l21, l22, l23, LF.same monoN s3 S.notes, SM.few2, SM.okN, fun o2 G4 no2 ho2 s4 => ?_⟩
        have gF4 := gF.step monoT s4
        have s4' := s3.trans s4
        refine ⟨_, rfl, _, rfl, q, _, 1, .ref b, rfl, rfl, .inl (.inl (s4' _ _ S.tup)), atI_nat (j := 1) rfl, t1, b, u, lo1, hi1, nts, rfl, s4' _ _ htr1, g1, z18, l11, l12, l13, LF.same monoN s4' S.notes, SM.few2, SM.okN, fun o1 G5 no1 ho1 s5 => ?_⟩
        have gF5 := gF4.step monoT s5
        obtain ⟨o1s, ho11, ho12⟩ := ho1
        obtain ⟨o2s, ho21, ho22⟩ := LF.same monoC s5 ho2
        have lo1_ : o1s.length = (freeOf nts u lo1 hi1).length := paired_len ho12
        have lo2_ : o2s.length = (freeOf nts v lo2 hi2).length := paired_len ho22
        have fl1 := free_len (nts := nts) (z := u) l11 l13
        have fl2 := free_len (nts := nts) (z := v) l21 l23
        obtain ⟨f5, hf5, _⟩ := gF5.items
        have ne1 : o1 ≠ F0 := fun e => by
          obtain ⟨x4, h4, _⟩ := gF4.items
          rw [e, h4] at no1
          cases no1
        have ne2 : o2 ≠ F0 := fun e => by
          rw [e, upd_same] at no2
          cases no2
        have hposu : ∀ c ∈ freeOf nts u lo1 hi1, 1 ≤ c.1 := fun c hc => ways_pos l11 (List.mem_filter.mp hc).1
        have hposv : ∀ c ∈ freeOf nts v lo2 hi2, 1 ≤ c.1 := fun c hc => ways_pos l21 (List.mem_filter.mp hc).1
        revert ho12 ho22 lo1_ lo2_ fin fl1 fl2 hposu hposv
        generalize freeOf nts u lo1 hi1 = fu
        generalize freeOf nts v lo2 hi2 = fv
        intro fin ho12 ho22 lo1_ lo2_ fl1 fl2 hposu hposv
        have fcK : ∀ {G6 : Hp} {cb : Addr} {c : Ch}, Keep F0 G5 G6 → FC G5 cb c → FC G6 cb c := fun k h => monoC.keep hf5 k (gF5.away h) h
        refine ⟨o1, rfl, ⟨_, .inl (.inl ho11)⟩, ?_⟩
        refine for_list (K := K) (a := o1) (xs := o1s.map V.ref) (fun n sl G => ∃ v7 v8 v9, sl = [some (.ref q), some (.ref rk), some (.ref t1), some (.ref t2), some (.ref D0), some (.ref F0), some (.ref o2), v7, v8, v9, none, none] ∧ Grow FT G2 G F0 (cplOf nts u (fu.take n) fv) ∧ Keep F0 G5 G)
          ⟨none, none, none, rfl, gF5, Keep.refl _ _⟩ (fun n sl G _ ⟨_, _, _, _, _, k⟩ => .inl (.inl (k _ _ ho11 ne1))) ?_ ?_
        · rintro n xv sl G6 hx ⟨v7, v8, v9, rfl, g6, k6⟩
          obtain ⟨cb, c, rfl, _, hc, hcb⟩ := lf_at ho12 hx
          refine ⟨_, rfl, o2, rfl, ⟨_, .inl (.inl (k6 _ _ ho21 ne2))⟩, ?_⟩
          refine for_list (K := K) (a := o2) (xs := o2s.map V.ref) (fun n2 sl G => ∃ v8 v9, sl = [some (.ref q), some (.ref rk), some (.ref t1), some (.ref t2), some (.ref D0), some (.ref F0), some (.ref o2), some (.ref cb), v8, v9, none, none] ∧ Grow FT G2 G F0 (cplOf nts u (fu.take n) fv ++ ((fv.take n2).filter (okPair nts u c)).map fun d => (c, d)) ∧ Keep F0 G5 G)
            ⟨_, _, rfl, by simpa using g6, k6⟩ (fun n2 sl G _ ⟨_, _, _, _, k⟩ => .inl (.inl (k _ _ ho21 ne2))) ?_ ?_
          · rintro n2 xv sl G7 hx2 ⟨v8, v9, rfl, g7, k7⟩
            obtain ⟨eb, e, rfl, _, he, heb⟩ := lf_at ho22 hx2
            have h27 : Same H G7 := s2.trans g7.same
            refine fun hd nhd => ?_
            have sd : Same G7 (upd G7 hd (.dK [])) := new_same nhd
            refine ⟨_, rfl, t1, _, 0, .str u, rfl, rfl, .inl (.inl (sd _ _ (h27 _ _ htr1))), atI_nat (j := 0) rfl, _, rfl, _, rfl, t2, _, 0, .str v, rfl, rfl, .inl (.inl (sd _ _ (h27 _ _ htr2))), atI_nat (j := 0) rfl, _, rfl, upd_same, [(.inr u, .ref cb), (.inr v, .ref eb)], rfl, by show 2 ≤ 15; decide, ?_⟩
            rw [merge2 uv]
            have sG : Same G7 (upd (upd G7 hd (.dK [])) hd (.dK [(.inr u, .ref cb), (.inr v, .ref eb)])) := fun b2 o zz => by
              rw [upd_ne (ne_of_none zz nhd), upd_ne (ne_of_none zz nhd)]
              exact zz
            have hH : (upd (upd G7 hd (.dK [])) hd (.dK [(.inr u, .ref cb), (.inr v, .ref eb)])) hd = some (.dK [(.inr u, .ref cb), (.inr v, .ref eb)]) := upd_same
            revert sG hH
            generalize (upd (upd G7 hd (.dK [])) hd (.dK [(.inr u, .ref cb), (.inr v, .ref eb)])) = G8
            intro sG hH
            have g8 := g7.step monoT sG
            have hcb8 : FC G8 cb c := monoC.same sG (fcK k7 hcb)
            have heb8 : FC G8 eb e := monoC.same sG (fcK k7 heb)
            have cpos : 1 ≤ c.1 := hposu c (List.mem_of_getElem? hc)
            have epos : 1 ≤ e.1 := hposv e (List.mem_of_getElem? he)
            refine ⟨_, rfl, D0, rfl, ⟨_, .inl (.inl (g8.same _ _ hd1))⟩, fun D1 nD1 => ?_⟩
            refine lc_it (walk_list (K := K) (a := D0) (xs := das.map V.ref)) (fun m G9 => Grow FN G8 G9 D1 (((nts.filter isTwo).take m).filter fun nt => !keptB nt (nt.mids.map fun w => if w = u then c else e))) (Grow.start nD1) (fun m G9 _ gr4 => .inl (.inl ((g8.same.trans gr4.same) _ _ hd1))) ?_ ?_
            · rintro m xv G9 G10 hm gr4 ⟨rfl, hx3⟩
              obtain ⟨nb, nt, rfl, _, hnt, hb⟩ := lf_at hd2 hx3
              have hb1 : FN G10 nb nt := monoN.same (g8.same.trans gr4.same) hb
              have hmem := List.mem_filter.mp (List.mem_of_getElem? hnt)
              refine ⟨rfl, _, rfl, _, rfl, nb, hd, nt, [(.inr u, .ref cb), (.inr v, .ref eb)], nt.mids.map (fun w => if w = u then c else e), rfl, hb1, gr4.same _ _ hH, ?_, fun G11 s11 => ⟨_, rfl, ?_⟩⟩
              · have hu : ∃ cb', valV [((Sum.inr u : Key), V.ref cb), (Sum.inr v, V.ref eb)] (.inr u) = some (.ref cb') ∧ FC G10 cb' c ∧ 1 ≤ c.1 := ⟨cb, valV_pos rfl, monoC.same gr4.same hcb8, cpos⟩
                have hv : ∃ cb', valV [((Sum.inr u : Key), V.ref cb), (Sum.inr v, V.ref eb)] (.inr v) = some (.ref cb') ∧ FC G10 cb' e ∧ 1 ≤ e.1 := ⟨eb, by rw [valV_neg (fun z => uv (Sum.inr.inj z))]; exact valV_pos rfl, monoC.same gr4.same heb8, epos⟩
                have iu : (if u = u then c else e) = c := if_pos rfl
                have iv : (if v = u then c else e) = e := if_neg uv.symm
                cases nt with
                | one mk z d =>
                  have := of_decide_eq_true hmem.2
                  simp [Nt.mids] at this
                | two sm a1 b1 d1 =>
                  rcases SM.pair.all sm a1 b1 d1 hmem.1 with ⟨rfl, rfl⟩ | ⟨rfl, rfl⟩
                  · show Holds _ _ [a1, b1] [if a1 = a1 then c else e, if b1 = a1 then c else e]
                    rw [iu, iv]
                    exact .cons hu (.cons hv .nil)
                  · show Holds _ _ [a1, b1] [if a1 = b1 then c else e, if b1 = b1 then c else e]
                    rw [iu, iv]
                    exact .cons hv (.cons hu .nil)
              · have gr5 := gr4.step monoN s11
                have nx := filter_next (p := fun nt => !keptB nt (nt.mids.map fun w => if w = u then c else e)) hnt
                by_cases e5 : keptB nt (nt.mids.map fun w => if w = u then c else e) = true
                · rw [e5] at nx ⊢
                  rw [if_neg (by decide), List.append_nil] at nx
                  refine iteF ?_
                  rw [nx]
                  exact gr5
                · rw [Bool.eq_false_iff.mpr e5] at nx ⊢
                  rw [if_pos (by rfl)] at nx
                  have hb2 : FN G11 nb nt := monoN.same s11 hb1
                  obtain ⟨as3, h8, l8, gr6⟩ := gr5.push monoN (gr5.away hb2) hb2
                  refine iteT ⟨_, rfl, _, h8, ?_, ?_⟩
                  · rw [List.length_map, l8]
                    refine small1000 (Nat.le_trans (List.length_filter_le _ _) ?_)
                    rw [List.length_take]
                    have h1 := List.length_filter_le isTwo nts
                    have h2 := SM.few2
                    omega
                  · rw [nx]
                    exact gr6
            · intro G9 gr4
              rw [List.length_map, ld, List.take_length] at gr4
              have hrows : Rows G9 D1 (((nts.filter isTwo).filter fun nt => !keptB nt (nt.mids.map fun w => if w = u then c else e)).map Nt.row) := lf_rows gr4.lf
              have hflat : ∀ r ∈ ((nts.filter isTwo).filter fun nt => !keptB nt (nt.mids.map fun w => if w = u then c else e)).map Nt.row, RowF r := fun r hr => by
                obtain ⟨nt, hnt, e9⟩ := List.mem_map.mp hr
                rw [← e9]
                exact (SM.okN nt (List.mem_filter.mp (List.mem_filter.mp hnt).1).1).flat
              refine ⟨Nat.zero_le _, fun N nN => ⟨_, .list [], rows_dp (hrows.new nN) hflat, .lst (.inl (.inl upd_same)) .nil, (rows_nice hflat).shaped (by decide), by rfl, _, rfl, ?_⟩⟩
              rw [empty_eqv, List.isEmpty_map, List.isEmpty_map, none_left]
              show (if okPair nts u c e = true then _ else _)
              have nx := filter_next (p := okPair nts u c) he
              have g9 := (g8.step monoT gr4.same).new monoT nN (o := .lst [])
              have k9 : Keep F0 G5 (upd G9 N (.lst [])) := k7.trans (Keep.of ((sG.trans gr4.same).trans (new_same nN)))
              have key : cplOf nts u (fu.take n) fv ++ ((fv.take (n2 + 1)).filter (okPair nts u c)).map (fun d => (c, d)) = (cplOf nts u (fu.take n) fv ++ ((fv.take n2).filter (okPair nts u c)).map (fun d => (c, d))) ++ (if okPair nts u c e = true then [(c, e)] else []) := by
                rw [nx, List.map_append, List.append_assoc]
                congr 2
                split <;> rfl
              by_cases e5 : okPair nts u c e = true
              · rw [if_pos e5] at key
                rw [e5]
                obtain ⟨fas, hf1, hf2⟩ := g9.len
                refine iteT ⟨_, rfl, .inl ⟨rfl, _, .inl (.inl hf2)⟩, _, rfl, _, rfl, by show 2 ≤ sizeLine; decide, fun T2 nT2 => ?_⟩
                have g10 := g9.new monoT nT2 (o := .tup [.ref cb, .ref eb])
                obtain ⟨as3, h8, l8, g11⟩ := g10.push monoT (r := (c, e)) (g10.away upd_same) ⟨_, upd_same⟩
                refine ⟨F0, _, _, rfl, rfl, h8, ?_, _, _, rfl, ?_, ?_⟩
                · rw [List.length_map, l8, List.length_append, List.length_map]
                  have c1 := cpl_len (nts := nts) (u := u) (fu := fu.take n) (fv := fv)
                  have c2 := List.length_filter_le (okPair nts u c) (fv.take n2)
                  rw [List.length_take] at c1 c2
                  have c3 : min n fu.length * fv.length ≤ 144 * 144 := Nat.mul_le_mul (by omega) fl2
                  exact Nat.lt_of_le_of_lt (show _ ≤ 40000 by omega) (by decide)
                · rw [key]
                  exact g11
                · exact (k9.trans (Keep.of (new_same nT2))).trans put_keep
              · rw [if_neg e5, List.append_nil] at key
                rw [Bool.eq_false_iff.mpr e5]
                refine iteF ⟨_, _, rfl, ?_, k9⟩
                rw [key]
                exact g9
          · rintro sl G7 ⟨v8, v9, rfl, g7, k7⟩
            rw [List.length_map, lo2_, List.take_length] at g7
            refine ⟨_, _, _, rfl, ?_, k7⟩
            have e4 : cplOf nts u (fu.take (n + 1)) fv = cplOf nts u (fu.take n) fv ++ (fv.filter (okPair nts u c)).map fun d => (c, d) := by
              unfold cplOf
              rw [List.take_add_one, hc, List.flatMap_append]
              simp
            rw [e4]
            exact g7
        · rintro sl G6 ⟨v7, v8, v9, rfl, g6, k6⟩
          rw [List.length_map, lo1_, List.take_length] at g6
          exact ⟨_, rfl, fin F0 G6 (s2.free nF0) g6.lf (s2.trans g6.same)⟩
end
end Md

namespace Md
open PySem PySem.Spec PyProof.Rows L2
theorem inV_int (x : Int) : ∀ zs : List Int, inV (V.int x) (zs.map V.int) = decide (x ∈ zs)
  | [] => by simp [inV]
  | z :: zs => by
    have ih := inV_int x zs
    unfold inV at ih ⊢
    rw [List.map_cons, List.any_cons, ih]
    by_cases h : z = x
    · subst h
      simp [eqV]
    · have h2 : ¬ x = z := fun e => h e.symm
      simp [eqV, h, h2]
theorem flat_ints : ∀ zs : List Int, (zs.map V.int).all flatV = true
  | [] => rfl
  | z :: zs => by
    rw [List.map_cons, List.all_cons, flat_ints zs]
    rfl
def frOf (nts : List Nt) (r : List V) : List Ch := freeOf nts (nameOf r) (rowLo r) (rowHi r)
def term (nts : List Nt) (is : List Int) (i : Nat) (r : List V) : Nat := if (i : Int) ∈ is then 1 else (frOf nts r).length
def prodFrom (nts : List Nt) (is : List Int) : Nat → List (List V) → Nat
  | _, [] => 1
  | i, r :: rs => term nts is i r * prodFrom nts is (i + 1) rs
theorem prod_snoc (nts : List Nt) (is : List Int) (r : List V) : ∀ (l : List (List V)) (i : Nat), prodFrom nts is i (l ++ [r]) = prodFrom nts is i l * term nts is (i + l.length) r
  | [], i => by
    show term nts is i r * 1 = 1 * _
    simp
  | a :: l, i => by
    show term nts is i a * prodFrom nts is (i + 1) (l ++ [r]) = term nts is i a * prodFrom nts is (i + 1) l * term nts is (i + (l.length + 1)) r
    rw [prod_snoc nts is r l (i + 1), Nat.mul_assoc, show i + 1 + l.length = i + (l.length + 1) by omega]
theorem prod_next {nts : List Nt} {is : List Int} {ts : List (List V)} {i : Nat} {r : List V} (h : ts[i]? = some r) : prodFrom nts is 0 (ts.take (i + 1)) = prodFrom nts is 0 (ts.take i) * term nts is i r := by
  have hi := (List.getElem?_eq_some_iff.mp h).1
  rw [List.take_add_one, h]
  show prodFrom nts is 0 (ts.take i ++ [r]) = _
  rw [prod_snoc, List.length_take, Nat.zero_add, Nat.min_eq_left (by omega)]
/-- what the law counts, by the places it found -/
def LawN (nts : List Nt) (ts : List (List V)) (x y : Str) (n : Nat) : Prop :=
  (has2 nts = false ∧ n = prodFrom nts [] 0 ts) ∨ (has2 nts = true ∧ ∃ (i j : Nat) (u v : Str) (lo1 hi1 lo2 hi2 : Int), i < j ∧ ts[i]? = some [.str u, .int lo1, .int hi1] ∧ ts[j]? = some [.str v, .int lo2, .int hi2] ∧ ((u = x ∧ v = y) ∨ (u = y ∧ v = x)) ∧
    n = prodFrom nts [(i : Int), (j : Int)] 0 ts * (cplOf nts u (freeOf nts u lo1 hi1) (freeOf nts v lo2 hi2)).length)
section
variable {P : Program} {w : World} {K : PySem.W.Frag} {mg : Str → Option Value} {base : Heap}
def spCount0 : Sp := fun vs H Q _ => ∃ (q a b : Addr) (ts : List (List V)) (nts : List Nt) (x y : Str), vs = [.ref q] ∧ ShAt H q a b ts nts ∧ SmS ts nts x y ∧ ∀ n H', LawN nts ts x y n → Same H H' → Q (.int (n : Nat)) H'
abbrev nCount : List Str := ["sheet", "product", "ranks", "rank", "place"]
theorem scCount : FnScope nCount ["sheet"] (defScope sCount) := ⟨rfl, rfl, rfl, by decide +kernel, rfl, by decide +kernel, by decide +kernel⟩
theorem PairOf.swap {nts : List Nt} {x y : Str} (h : PairOf nts x y) : PairOf nts y x := ⟨h.ne.symm, fun sm a b d m => (h.all sm a b d m).symm⟩
theorem SmS.swap {ts : List (List V)} {nts : List Nt} {x y : Str} (h : SmS ts nts x y) : SmS ts nts y x := ⟨h.good, h.nodup, h.okN, h.inN, h.pair.swap, h.few, h.few2⟩
theorem ok_count0 {f fR fF fC : Addr} {fd fdR fdF fdC : FuncData} {k : Nat} (F : Fun K "_law_mk_count" "_law_mk_count" sCount f fd) (RK : DefAt P w K mg base "_law_mk_ranks" fR fdR ["sheet"] 1 spRanks) (FR : DefAt P w K mg base "_law_mk_free" fF fdF ["place", "entries"] 3 spFree)
    (CP : DefAt P w K mg base "_law_mk_couples" fC fdC ["sheet", "ranks"] 4 spCouples) (B : Blt mg) (B2 : Blt2 mg) : FnOk P w K mg base CX0 (k + 5) f fd ["sheet"] spCount0 := by
  have GR := RK.ok (k + 3)
  have GF := FR.ok (k + 1)
  have GC := CP.ok k
  refine F.ok scCount (fun vs H Q E h => ?_) (fun cdv A outer s H vs Q E hr h => ?_)
  · obtain ⟨q, a, b, ts, nts, x, y, rfl, _⟩ := h
    rfl
  · obtain ⟨q, a, b, ts, nts, x, y, rfl, S, SM, fin⟩ := h
    have nd := scCount.nd
    refine ⟨_, pss_cons (ps_par (i := 1) (j := 2) rfl nd rfl rfl (by decide) rfl rfl (pa_cons pe_int (pa_cons (pe_call GR hr (by rfl) RK.mg RK.kp RK.b .nil pass0 (pa_cons (pv 0) pa_nil)) pa_nil)) (by rfl))
      (pss_cons (ps_for PassesOwn.never rfl (pi_enum (by rfl) B2.enum (pa_cons (pe_ix (r := rIxT K) ix_tup (pv 0) pe_int (fun _ _ => rfl)) pa_nil)) (pg_tup (by rfl) (pgs_cons (pg_name (i := 3) nd rfl (.inl rfl)) (pgs_cons (pg_name (i := 4) nd rfl (.inl rfl)) pgs_nil)))
        (pss_one (ps_if (pt_cmpR op_notIn_seq (pv 3) (pv 2) (by rfl))
          (pss_one (ps_set (i := 1) nd rfl (.inl rfl) (pe_op op_mul (pv 1) (pe_callB call_len_seq (by rfl) B.len PySem.boot_len (pa_cons (pe_call GF hr (by rfl) FR.mg FR.kp FR.b .nil pass0 (pa_cons (pv 4) (pa_cons (pe_ix (r := rIxT K) ix_tup (pv 0) pe_int (fun _ _ => rfl)) pa_nil))) pa_nil))))) pss_nil)))
      (pss_one (ps_ret (pe_ifExp (pt_cmpR (op_neD hr.units) (pv 2) (pe_lst pa_nil) (nomark _)) (pe_op op_mul (pv 1) (pe_callB call_len_seq (by rfl) B.len PySem.boot_len (pa_cons (pe_call GC hr (by rfl) CP.mg CP.kp CP.b .nil pass0 (pa_cons (pv 0) (pa_cons (pv 2) pa_nil))) pa_nil))) (pv 1))))), ?_⟩
    have goodT : ∀ r ∈ ts, TownR r := fun r hr => (SM.good r hr).1
    refine ⟨_, rfl, q, a, b, ts, nts, x, y, rfl, S, goodT, SM.few, SM.inN, SM.pair, fun is r H1 RA nr hr1 s1 => ?_⟩
    refine ⟨_, _, rfl, ?_⟩
    have S1 := S.same s1
    obtain ⟨as, ha1, ha2⟩ := S1.towns
    have ln : as.length = ts.length := paired_len ha2
    refine ⟨_, rfl, q, _, 0, .ref a, rfl, rfl, .inl (.inl S1.tup), atI_nat (j := 0) rfl, a, _, rfl, .inl (.inl ha1), ?_⟩
    refine for_it (walk_enum (K := K) (a := a) (xs := as.map V.ref)) (fun i sl G => ∃ v3 v4, sl = [some (.ref q), some (.int (prodFrom nts is 0 (ts.take i) : Nat)), some (.ref r), v3, v4] ∧ Same H1 G) ⟨none, none, rfl, Same.refl _⟩ (fun i sl G _ ⟨_, _, _, s2⟩ => .inl (.inl (s2 _ _ ha1))) ?_ ?_
    · rintro i xv sl G G3 hi ⟨v3, v4, rfl, s2⟩ ⟨T, x1, x2, rfl, nT, rfl, e1, hx⟩
      have e1 := (Option.some.inj e1).symm
      subst e1
      obtain ⟨tb, row, rfl, hrow, htb⟩ := rows_ref ha2 hx
      have s3 : Same H1 (upd G T (.tup [.int (i : Nat), .ref tb])) := s2.trans (new_same nT)
      refine ⟨T, _, rfl, .inl (.inl upd_same), rfl, _, _, rfl, _, _, rfl, rfl, ?_⟩
      refine ⟨_, rfl, _, rfl, r, _, rfl, .inl (.inl (.inl (s3 _ _ hr1))), rfl, flat_ints _, _, rfl, ?_⟩
      rw [inV_int]
      have nx := prod_next (nts := nts) (is := is) hrow
      by_cases e5 : (i : Int) ∈ is
      · rw [decide_eq_true e5]
        unfold term at nx
        rw [if_pos e5, Nat.mul_one] at nx
        refine iteF ⟨some (.int (i : Nat)), some (.ref tb), ?_, s3⟩
        rw [nx]
        rfl
      · rw [decide_eq_false e5]
        unfold term at nx
        rw [if_neg e5] at nx
        obtain ⟨⟨z, lo, hi2, er, gz, z8, l1, l2⟩, l3⟩ := SM.good row (List.mem_of_getElem? hrow)
        have htb1 := s3 _ _ htb
        rw [er] at htb1 l3
        have l3 : hi2 ≤ 12 := l3
        have fl := free_len (nts := nts) (z := z) l1 l3
        refine iteT ⟨_, rfl, _, rfl, _, rfl, q, _, 1, .ref b, rfl, rfl, .inl (.inl (s3 _ _ S1.tup)), atI_nat (j := 1) rfl, tb, b, z, lo, hi2, nts, rfl, htb1, gz, z8, l1, l2, l3, LF.same monoN s3 S1.notes, SM.few2, SM.okN, fun o G4 no ho s4 => ?_⟩
        obtain ⟨os, ho1, ho2⟩ := ho
        have lo_ : os.length = (freeOf nts z lo hi2).length := paired_len ho2
        refine ⟨o, _, rfl, .inl (.inl (.inl ho1)), _, _, rfl, rfl, .inr ?_, some (.int (i : Nat)), some (.ref tb), ?_, s3.trans s4⟩
        · rw [List.length_map, lo_]
          omega
        · rw [nx, List.length_map, lo_, Int.natCast_mul]
          have e9 : frOf nts row = freeOf nts z lo hi2 := by
            rw [er]
            rfl
          rw [e9]
          rfl
    · rintro sl G ⟨v3, v4, rfl, s2⟩
      rw [List.length_map, ln, List.take_length]
      have hr2 := s2 _ _ hr1
      refine ⟨_, rfl, Nat.zero_le _, fun N nN => ⟨.list (is.map PyData.int), .list [], .lst (.inl (.inl (by rw [upd_ne (ne_of_none hr2 nN)]; exact hr2))) (ints_dp _), .lst (.inl (.inl upd_same)) .nil, ints_shaped _, by rfl, _, rfl, ?_⟩⟩
      rw [empty_eqv, List.isEmpty_map]
      have sN : Same H (upd G N (.lst [])) := (s1.trans s2).trans (new_same nN)
      rcases RA with ⟨h2, rfl⟩ | ⟨h2, i, j, u, v, rfl, ij, hu, hv, huv⟩
      · refine iteF ⟨_, rfl, fin _ _ (.inl ⟨h2, rfl⟩) sN⟩
      · refine iteT ?_
        obtain ⟨r1, hr1a, er1⟩ : ∃ r1, ts[i]? = some r1 ∧ nameOf r1 = u := by
          rw [List.getElem?_map] at hu
          cases e : ts[i]? with
          | none => rw [e] at hu; cases hu
          | some r1 => rw [e] at hu; exact ⟨r1, rfl, Option.some.inj hu⟩
        obtain ⟨r2, hr2a, er2⟩ : ∃ r2, ts[j]? = some r2 ∧ nameOf r2 = v := by
          rw [List.getElem?_map] at hv
          cases e : ts[j]? with
          | none => rw [e] at hv; cases hv
          | some r1 => rw [e] at hv; exact ⟨r1, rfl, Option.some.inj hv⟩
        obtain ⟨⟨z1, lo1, hi1, e1, _, _, l11, _⟩, l13⟩ := SM.good r1 (List.mem_of_getElem? hr1a)
        obtain ⟨⟨z2, lo2, hi2, e2, _, _, l21, _⟩, l23⟩ := SM.good r2 (List.mem_of_getElem? hr2a)
        rw [e1] at hr1a er1 l13
        rw [e2] at hr2a er2 l23
        have er1 : z1 = u := er1
        have er2 : z2 = v := er2
        have l13 : hi1 ≤ 12 := l13
        have l23 : hi2 ≤ 12 := l23
        subst er1 er2
        have SM2 : SmS ts nts z1 z2 := by
          rcases huv with ⟨rfl, rfl⟩ | ⟨rfl, rfl⟩
          · exact SM
          · exact SM.swap
        have fl1 := free_len (nts := nts) (z := z1) l11 l13
        have fl2 := free_len (nts := nts) (z := z2) l21 l23
        refine ⟨_, rfl, _, rfl, _, rfl, q, r, a, b, ts, nts, i, j, z1, z2, lo1, hi1, lo2, hi2, rfl, S.same sN, SM2, (new_same nN) _ _ hr2, hr1a, hr2a, fun o G4 no ho s4 => ?_⟩
        obtain ⟨os, ho1, ho2⟩ := ho
        have lo_ : os.length = _ := paired_len ho2
        have cl := cpl_len (nts := nts) (u := z1) (fu := freeOf nts z1 lo1 hi1) (fv := freeOf nts z2 lo2 hi2)
        have cl2 : (freeOf nts z1 lo1 hi1).length * (freeOf nts z2 lo2 hi2).length ≤ 144 * 144 := Nat.mul_le_mul fl1 fl2
        refine ⟨o, _, rfl, .inl (.inl (.inl ho1)), _, _, rfl, rfl, .inr ?_, ?_⟩
        · rw [List.length_map, lo_]
          omega
        · have z := fin _ G4 (.inr ⟨h2, i, j, z1, z2, lo1, hi1, lo2, hi2, ij, hr1a, hr2a, huv, rfl⟩) (sN.trans s4)
          rw [List.length_map, lo_]
          rw [Int.natCast_mul] at z
          exact z
end
end Md

namespace Md
open PySem PySem.Spec PyProof.Rows L2
/-! ### products over rows -/
def PR (f : Nat → List V → Nat) : Nat → List (List V) → Nat
  | _, [] => 1
  | i, r :: rs => f i r * PR f (i + 1) rs
theorem prod_pr (nts : List Nt) (is : List Int) : ∀ (rs : List (List V)) (i : Nat), prodFrom nts is i rs = PR (term nts is) i rs
  | [], _ => rfl
  | r :: rs, i => by
    show term nts is i r * _ = term nts is i r * _
    rw [prod_pr nts is rs (i + 1)]
theorem pr_congr {f g : Nat → List V → Nat} : ∀ {rs : List (List V)} {i : Nat}, (∀ k r, rs[k]? = some r → f (i + k) r = g (i + k) r) → PR f i rs = PR g i rs
  | [], _, _ => rfl
  | r :: rs, i, h => by
    have h0 : f i r = g i r := h 0 r rfl
    have h1 : PR f (i + 1) rs = PR g (i + 1) rs := pr_congr fun k x hx => by
      have z := h (k + 1) x hx
      have e : i + (k + 1) = i + 1 + k := by omega
      rw [e] at z
      exact z
    show f i r * PR f (i + 1) rs = g i r * PR g (i + 1) rs
    rw [h0, h1]
theorem pr_one {f g : Nat → List V → Nat} {c : Nat} : ∀ {rs : List (List V)} {i k0 : Nat} {r0 : List V}, rs[k0]? = some r0 → f (i + k0) r0 = g (i + k0) r0 * c → (∀ k r, rs[k]? = some r → k ≠ k0 → f (i + k) r = g (i + k) r) → PR f i rs = PR g i rs * c
  | [], _, _, _, h, _, _ => by simp at h
  | r :: rs, i, 0, r0, h, h0, hh => by
    have e : r = r0 := Option.some.inj h
    subst e
    have h0 : f i r = g i r * c := h0
    have h1 : PR f (i + 1) rs = PR g (i + 1) rs := pr_congr fun k x hx => by
      have z := hh (k + 1) x hx (by omega)
      have e : i + (k + 1) = i + 1 + k := by omega
      rw [e] at z
      exact z
    show f i r * PR f (i + 1) rs = g i r * PR g (i + 1) rs * c
    rw [h0, h1, Nat.mul_assoc, Nat.mul_comm c, ← Nat.mul_assoc]
  | r :: rs, i, k0 + 1, r0, h, h0, hh => by
    have e0 : f i r = g i r := hh 0 r rfl (by omega)
    have ek : i + (k0 + 1) = i + 1 + k0 := by omega
    rw [ek] at h0
    have h1 : PR f (i + 1) rs = PR g (i + 1) rs * c := pr_one (k0 := k0) (r0 := r0) h h0 fun k x hx ne => by
      have z := hh (k + 1) x hx (by omega)
      have e : i + (k + 1) = i + 1 + k := by omega
      rw [e] at z
      exact z
    show f i r * PR f (i + 1) rs = g i r * PR g (i + 1) rs * c
    rw [e0, h1, Nat.mul_assoc]
theorem all_ext {α : Type} {p q : α → Bool} : ∀ {l : List α}, (∀ x ∈ l, p x = q x) → l.all p = l.all q
  | [], _ => rfl
  | x :: l, h => by
    rw [List.all_cons, List.all_cons, h x (List.mem_cons_self ..), all_ext fun y hy => h y (List.mem_cons_of_mem _ hy)]
/-! ### one or two of a list by their keys -/
theorem keep_one {α : Type} {f : α → Str} : ∀ {l : List α} {a : α}, (l.map f).Nodup → a ∈ l → l.filter (fun w => decide (f w = f a)) = [a]
  | [], a, _, h => by cases h
  | b :: l, a, n, h => by
    have n1 := List.nodup_cons.mp n
    rcases List.mem_cons.mp h with rfl | h
    · rw [List.filter_cons, decide_eq_true rfl, if_pos rfl]
      congr 1
      refine List.filter_eq_nil_iff.mpr fun w hw => ?_
      intro e
      have e2 := of_decide_eq_true e
      exact n1.1 (by rw [← e2]; exact List.mem_map.mpr ⟨w, hw, rfl⟩)
    · have ne : ¬ f b = f a := fun e => n1.1 (by rw [e]; exact List.mem_map.mpr ⟨a, h, rfl⟩)
      rw [List.filter_cons, decide_eq_false ne, if_neg (by decide)]
      exact keep_one n1.2 h
theorem keep_two {α : Type} {f : α → Str} : ∀ {l : List α} {i j : Nat} {a b : α}, (l.map f).Nodup → l[i]? = some a → l[j]? = some b → i < j → l.filter (fun w => decide (f w = f a) || decide (f w = f b)) = [a, b]
  | [], _, _, _, _, _, h, _, _ => by simp at h
  | c :: l, i, 0, a, b, n, h1, h2, ij => by omega
  | c :: l, 0, j + 1, a, b, n, h1, h2, ij => by
    have n1 := List.nodup_cons.mp n
    have e : c = a := Option.some.inj h1
    subst e
    have hb : b ∈ l := List.mem_of_getElem? h2
    rw [List.filter_cons, decide_eq_true rfl, Bool.true_or, if_pos rfl]
    congr 1
    rw [← keep_one n1.2 hb]
    refine List.filter_congr fun w hw => ?_
    have ne : ¬ f w = f c := fun e => n1.1 (by rw [← e]; exact List.mem_map.mpr ⟨w, hw, rfl⟩)
    rw [decide_eq_false ne, Bool.false_or]
  | c :: l, i + 1, j + 1, a, b, n, h1, h2, ij => by
    have n1 := List.nodup_cons.mp n
    have ha : a ∈ l := List.mem_of_getElem? h1
    have hb : b ∈ l := List.mem_of_getElem? h2
    have na : ¬ f c = f a := fun e => n1.1 (by rw [e]; exact List.mem_map.mpr ⟨a, ha, rfl⟩)
    have nb : ¬ f c = f b := fun e => n1.1 (by rw [e]; exact List.mem_map.mpr ⟨b, hb, rfl⟩)
    rw [List.filter_cons, decide_eq_false na, decide_eq_false nb, Bool.false_or, if_neg (by decide)]
    exact keep_two n1.2 h1 h2 (by omega)
/-! ### notes that are asked of some towns -/
theorem asked_all {gs : List Str} {g : Nt → List Nat → Bool} : ∀ {l : List Nt} {i : Nat}, (askedFrom gs i l).all (fun p => g p.2.1 p.2.2) = l.all fun nt => !(inside gs nt) || g nt (placesIn gs nt)
  | [], _ => rfl
  | nt :: l, i => by
    show (askedAt gs i nt ++ askedFrom gs (i + 1) l).all _ = _
    rw [List.all_append, asked_all (l := l) (i := i + 1), List.all_cons]
    congr 1
    unfold askedAt
    cases inside gs nt with
    | true => simp
    | false => simp
theorem all_filter_or {α : Type} (p q : α → Bool) (l : List α) : (l.filter p).all q = l.all fun x => !(p x) || q x := by
  induction l with
  | nil => rfl
  | cons a l ih =>
    rw [List.filter_cons, List.all_cons]
    cases h : p a with
    | true => simp [ih]
    | false => simp [ih]
def soleP (last : Nat) (c : Ch) (nt : Nt) (pl : List Nat) : Bool := !(decide (pl = [last])) || keptB nt [c]
theorem sole_p (p : AE) (last : Nat) (c : Ch) : soleB p last c = soleP last c p.2.1 p.2.2 := rfl
def pairP (last : Nat) (l : List Ch) (nt : Nt) (pl : List Nat) : Bool :=
  match pl with
  | [i, j] => if max i j = last then keptB nt [l.getD i (1, 0), l.getD j (1, 0)] else true
  | _ => true
theorem pair_p (p : AE) (last : Nat) (l : List Ch) : pairB p last l = pairP last l p.2.1 p.2.2 := by
  unfold pairB pairP
  rfl
theorem idx0 {u : Str} {l : List Str} : (u :: l).idxOf u = 0 := by simp
theorem idx1 {u v : Str} (h : u ≠ v) : [u, v].idxOf v = 1 := by
  rw [List.idxOf_cons]
  have e : (u == v) = false := by simp [h]
  rw [e]
  simp
/-- the choices of one town by the notes asked of a group are those by its own notes -/
theorem own_free {nts : List Nt} {gs : List Str} {z : Str} {last : Nat} {r : List V} (hz : z ∈ gs) (hl : gs.idxOf z = last) (inj : ∀ w ∈ gs, gs.idxOf w = last → w = z) (hr : nameOf r = z) (two : ∀ sm a b d, Nt.two sm a b d ∈ nts → a ≠ b) :
    ownOf (askedFrom gs 0 nts) last r = frOf nts r := by
  unfold ownOf frOf freeOf
  refine List.filter_congr fun c _ => ?_
  have e : ((askedFrom gs 0 nts).all fun p => soleB p last c) = nts.all fun nt => !(inside gs nt) || soleP last c nt (placesIn gs nt) := asked_all (g := soleP last c)
  rw [e]
  unfold okFree
  rw [all_filter_or, hr]
  refine all_ext fun nt hnt => ?_
  unfold soleP soleOf
  cases nt with
  | one mk w d =>
    have e1 : inside gs (.one mk w d) = decide (w ∈ gs) := by simp [inside, Nt.mids]
    have e2 : placesIn gs (.one mk w d) = [gs.idxOf w] := rfl
    rw [e1, e2]
    show (!decide (w ∈ gs) || (!decide ([gs.idxOf w] = [last]) || _)) = (!decide ([w] = [z]) || _)
    by_cases h : w = z
    · subst h
      rw [decide_eq_true hz, hl, decide_eq_true rfl, decide_eq_true rfl]
      rfl
    · rw [decide_eq_false (show ¬ [w] = [z] from fun e => h (by simpa using e))]
      by_cases hw : w ∈ gs
      · rw [decide_eq_true hw, decide_eq_false (show ¬ [gs.idxOf w] = [last] from fun e => h (inj w hw (by simpa using e)))]
        rfl
      · rw [decide_eq_false hw]
        rfl
  | two sm a b d =>
    have e2 : placesIn gs (.two sm a b d) = [gs.idxOf a, gs.idxOf b] := rfl
    rw [e2, decide_eq_false (show ¬ [gs.idxOf a, gs.idxOf b] = [last] from fun e => by simp at e)]
    show (_ || (!false || _)) = (!decide ([a, b] = [z]) || _)
    rw [decide_eq_false (show ¬ [a, b] = [z] from fun e => by simp at e)]
    simp
/-- a town that does not hang together -/
theorem fits_one {nts : List Nt} {ts : List (List V)} {r : List V} (nodup : (ts.map nameOf).Nodup) (hr : r ∈ ts) (two : ∀ sm a b d, Nt.two sm a b d ∈ nts → a ≠ b) : (fits nts ts [nameOf r]).length = (frOf nts r).length := by
  have e1 : ts.filter (inGroup [nameOf r]) = [r] := by
    rw [← keep_one nodup hr]
    refine List.filter_congr fun w _ => ?_
    unfold inGroup
    simp
  unfold fits
  rw [e1]
  show (stepLots (askedFrom [nameOf r] 0 nts) 0 r [[]]).length = _
  unfold stepLots
  have eo : ownOf (askedFrom [nameOf r] 0 nts) 0 r = frOf nts r := own_free (by simp) (by simp) (fun w hw _ => by simpa using hw) rfl two
  rw [eo]
  have e3 : (crossed [[]] (frOf nts r)).filter (fun l => (askedFrom [nameOf r] 0 nts).all fun p => pairB p 0 l) = crossed [[]] (frOf nts r) := by
    refine List.filter_eq_self.mpr fun l _ => ?_
    have e4 : ((askedFrom [nameOf r] 0 nts).all fun p => pairB p 0 l) = (askedFrom [nameOf r] 0 nts).all fun p => pairP 0 l p.2.1 p.2.2 := all_ext fun p _ => pair_p p 0 l
    rw [e4, asked_all (g := pairP 0 l), List.all_eq_true]
    intro nt hnt
    cases nt with
    | one mk w d => simp [pairP, placesIn, Nt.mids]
    | two sm a b d =>
      have ne := two sm a b d hnt
      have e5 : inside [nameOf r] (.two sm a b d) = false := by
        refine Bool.eq_false_iff.mpr fun h => ?_
        have h2 := List.all_eq_true.mp h
        have ha := of_decide_eq_true (h2 a (by simp [Nt.mids]))
        have hb := of_decide_eq_true (h2 b (by simp [Nt.mids]))
        rw [List.mem_singleton] at ha hb
        exact ne (by rw [ha, hb])
      rw [e5]
      rfl
  rw [e3, crossed_len]
  simp
/-- the two towns that hang together -/
theorem fits_two {nts : List Nt} {ts : List (List V)} {i j : Nat} {r1 r2 : List V} (nodup : (ts.map nameOf).Nodup) (h1 : ts[i]? = some r1) (h2 : ts[j]? = some r2) (ij : i < j) (PO : PairOf nts (nameOf r1) (nameOf r2)) :
    (fits nts ts [nameOf r1, nameOf r2]).length = (cplOf nts (nameOf r1) (frOf nts r1) (frOf nts r2)).length := by
  have uv := PO.ne
  have two : ∀ sm a b d, Nt.two sm a b d ∈ nts → a ≠ b := fun sm a b d h => by
    rcases PO.all sm a b d h with ⟨rfl, rfl⟩ | ⟨rfl, rfl⟩
    · exact uv
    · exact uv.symm
  have e1 : ts.filter (inGroup [nameOf r1, nameOf r2]) = [r1, r2] := by
    rw [← keep_two nodup h1 h2 ij]
    refine List.filter_congr fun w _ => ?_
    unfold inGroup
    simp
  unfold fits
  rw [e1]
  show (stepLots (askedFrom [nameOf r1, nameOf r2] 0 nts) 1 r2 (stepLots (askedFrom [nameOf r1, nameOf r2] 0 nts) 0 r1 [[]])).length = _
  revert uv two PO
  generalize hu : nameOf r1 = u
  generalize hv : nameOf r2 = v
  intro PO uv two
  have o1 : ownOf (askedFrom [u, v] 0 nts) 0 r1 = frOf nts r1 := own_free (by simp) idx0 (fun w hw e => by
    rcases List.mem_cons.mp hw with h | h
    · exact h
    · rw [List.mem_singleton.mp h, idx1 uv] at e
      cases e) hu two
  have o2 : ownOf (askedFrom [u, v] 0 nts) 1 r2 = frOf nts r2 := own_free (by simp) (idx1 uv) (fun w hw e => by
    rcases List.mem_cons.mp hw with h | h
    · rw [h, idx0] at e
      cases e
    · exact List.mem_singleton.mp h) hv two
  have pl : ∀ (n : Nat) (l : List Ch), ((askedFrom [u, v] 0 nts).all fun p => pairB p n l) = nts.all fun nt => !(inside [u, v] nt) || pairP n l nt (placesIn [u, v] nt) := fun n l => by
    have e4 : ((askedFrom [u, v] 0 nts).all fun p => pairB p n l) = (askedFrom [u, v] 0 nts).all fun p => pairP n l p.2.1 p.2.2 := all_ext fun p _ => pair_p p n l
    rw [e4, asked_all (g := pairP n l)]
  have s0 : stepLots (askedFrom [u, v] 0 nts) 0 r1 [[]] = (frOf nts r1).map fun c => [c] := by
    unfold stepLots
    rw [o1]
    have e5 : crossed [[]] (frOf nts r1) = (frOf nts r1).map fun c => [c] := by
      unfold crossed
      simp
    rw [e5]
    refine List.filter_eq_self.mpr fun l _ => ?_
    rw [pl, List.all_eq_true]
    intro nt hnt
    cases nt with
    | one mk w d => simp [pairP, placesIn, Nt.mids]
    | two sm a b d =>
      rcases PO.all sm a b d hnt with ⟨rfl, rfl⟩ | ⟨rfl, rfl⟩
      · have e2 : placesIn [a, b] (.two sm a b d) = [0, 1] := by
          show [[a, b].idxOf a, [a, b].idxOf b] = [0, 1]
          rw [idx0, idx1 uv]
        rw [e2]
        simp [pairP]
      · have e2 : placesIn [b, a] (.two sm a b d) = [1, 0] := by
          show [[b, a].idxOf a, [b, a].idxOf b] = [1, 0]
          rw [idx0, idx1 uv]
        rw [e2]
        simp [pairP]
  rw [s0]
  unfold stepLots
  rw [o2]
  have key : ∀ c d, ((askedFrom [u, v] 0 nts).all fun p => pairB p 1 [c, d]) = okPair nts u c d := fun c d => by
    rw [pl]
    unfold okPair
    rw [all_filter_or]
    refine all_ext fun nt hnt => ?_
    cases nt with
    | one mk w d2 => simp [pairP, placesIn, Nt.mids, isTwo]
    | two sm a b d2 =>
      have e7 : isTwo (.two sm a b d2) = true := rfl
      rw [e7]
      rcases PO.all sm a b d2 hnt with ⟨rfl, rfl⟩ | ⟨rfl, rfl⟩
      · have e2 : placesIn [a, b] (.two sm a b d2) = [0, 1] := by
          show [[a, b].idxOf a, [a, b].idxOf b] = [0, 1]
          rw [idx0, idx1 uv]
        have e3 : inside [a, b] (.two sm a b d2) = true := by simp [inside, Nt.mids]
        rw [e2, e3]
        show (!true || keptB _ [c, d]) = (!true || keptB _ [if a = a then c else d, if b = a then c else d])
        rw [if_pos rfl, if_neg uv.symm]
      · have e2 : placesIn [b, a] (.two sm a b d2) = [1, 0] := by
          show [[b, a].idxOf a, [b, a].idxOf b] = [1, 0]
          rw [idx0, idx1 uv]
        have e3 : inside [b, a] (.two sm a b d2) = true := by simp [inside, Nt.mids]
        rw [e2, e3]
        show (!true || keptB _ [d, c]) = (!true || keptB _ [if a = b then c else d, if b = b then c else d])
        rw [if_pos rfl, if_neg uv.symm]
  unfold crossed cplOf
  generalize frOf nts r1 = fu
  generalize frOf nts r2 = fv
  induction fu with
  | nil => rfl
  | cons c fu ih =>
    rw [List.map_cons, List.flatMap_cons, List.filter_append, List.length_append, List.flatMap_cons, List.length_append, ih]
    congr 1
    rw [List.filter_map, List.length_map, List.length_map]
    congr 1
    refine List.filter_congr fun d _ => ?_
    exact key c d
end Md

namespace Md
open PySem PySem.Spec PyProof.Rows L2
def gOf (nts : List Nt) (ts : List (List V)) (x y : Str) (r : List V) : Nat := if leads nts x y (ts.map nameOf) (nameOf r) = true then (fits nts ts (grpOf nts x y (ts.map nameOf) (nameOf r))).length else 1
theorem num_pr (nts : List Nt) (ts : List (List V)) (x y : Str) : ∀ (rs : List (List V)) (i : Nat), numOf nts ts (grps nts x y (ts.map nameOf) (rs.map nameOf)) = PR (fun _ r => gOf nts ts x y r) i rs
  | [], _ => rfl
  | r :: rs, i => by
    have ih := num_pr nts ts x y rs (i + 1)
    show _ = gOf nts ts x y r * PR (fun _ r => gOf nts ts x y r) (i + 1) rs
    rw [← ih]
    unfold grps gOf
    rw [List.map_cons, List.filter_cons]
    by_cases h : leads nts x y (ts.map nameOf) (nameOf r) = true
    · rw [if_pos h, if_pos h]
      rfl
    · rw [if_neg h, if_neg h, Nat.one_mul]
theorem nodup_ix {zs : List Str} {i j : Nat} {u : Str} (h : zs.Nodup) (hi : zs[i]? = some u) (hj : zs[j]? = some u) : i = j := by
  obtain ⟨li, ei⟩ := List.getElem?_eq_some_iff.mp hi
  obtain ⟨lj, ej⟩ := List.getElem?_eq_some_iff.mp hj
  have pw := List.pairwise_iff_getElem.mp h
  rcases Nat.lt_trichotomy i j with l | l | l
  · exact absurd (ei.trans ej.symm) (pw i j li lj l)
  · exact l
  · exact absurd (ej.trans ei.symm) (pw j i lj li l)
theorem zs_nodup_id {zs : List Str} (h : zs.Nodup) : (zs.map id).Nodup := by
  rw [List.map_id]
  exact h
/-- a town that does not hang together with another one -/
theorem g_one {nts : List Nt} {ts : List (List V)} {x y : Str} {r : List V} (SM : SmS ts nts x y) (hr : r ∈ ts) (h : hangs nts x y (nameOf r) = false) : gOf nts ts x y r = (frOf nts r).length := by
  have hz : nameOf r ∈ ts.map nameOf := List.mem_map.mpr ⟨r, hr, rfl⟩
  have eg : grpOf nts x y (ts.map nameOf) (nameOf r) = [nameOf r] := by
    have k := keep_one (f := id) (zs_nodup_id SM.nodup) hz
    rw [← k]
    unfold grpOf
    refine List.filter_congr fun w _ => ?_
    unfold grpB
    rw [h, if_neg (by decide)]
    rfl
  have el : leads nts x y (ts.map nameOf) (nameOf r) = true := by
    unfold leads
    rw [eg]
    exact decide_eq_true rfl
  unfold gOf
  rw [if_pos el, eg]
  refine fits_one SM.nodup hr fun sm a b d hm => ?_
  rcases SM.pair.all sm a b d hm with ⟨rfl, rfl⟩ | ⟨rfl, rfl⟩
  · exact SM.pair.ne
  · exact SM.pair.ne.symm
theorem law_num {nts : List Nt} {ts : List (List V)} {x y : Str} {n : Nat} (SM : SmS ts nts x y) (h : LawN nts ts x y n) : n = numCases nts ts x y := by
  unfold numCases
  rw [num_pr nts ts x y ts 0]
  rcases h with ⟨h2, rfl⟩ | ⟨h2, i, j, u, v, lo1, hi1, lo2, hi2, ij, h1, hj, huv, rfl⟩
  · rw [prod_pr]
    refine pr_congr fun k r hr => ?_
    have hm := List.mem_of_getElem? hr
    rw [g_one SM hm (by unfold hangs; rw [h2]; rfl)]
    unfold term
    rw [if_neg (by simp)]
  · rw [prod_pr]
    have nmap := SM.nodup
    have nu : (ts.map nameOf)[i]? = some u := by rw [List.getElem?_map, h1]; rfl
    have nv : (ts.map nameOf)[j]? = some v := by rw [List.getElem?_map, hj]; rfl
    have hB : ∀ z w, (z = u ∨ z = v) → grpB nts x y z w = (decide (w = u) || decide (w = v)) := fun z w hz => by
      unfold grpB hangs
      rw [h2]
      rcases huv with ⟨rfl, rfl⟩ | ⟨rfl, rfl⟩
      · have : (true && (decide (z = u) || decide (z = v))) = true := by simpa using hz
        rw [this, if_pos rfl]
      · have : (true && (decide (z = v) || decide (z = u))) = true := by simpa using hz.symm
        rw [this, if_pos rfl, Bool.or_comm]
    have hG : ∀ z, (z = u ∨ z = v) → grpOf nts x y (ts.map nameOf) z = [u, v] := fun z hz => by
      have k := keep_two (f := id) (zs_nodup_id nmap) nu nv ij
      rw [← k]
      unfold grpOf
      refine List.filter_congr fun w _ => ?_
      rw [hB z w hz]
      rfl
    have uv : u ≠ v := by
      rcases huv with ⟨rfl, rfl⟩ | ⟨rfl, rfl⟩
      · exact SM.pair.ne
      · exact SM.pair.ne.symm
    have PO2 : PairOf nts u v := by
      rcases huv with ⟨rfl, rfl⟩ | ⟨rfl, rfl⟩
      · exact SM.pair
      · exact SM.pair.swap
    refine (pr_one (k0 := i) h1 ?_ fun k r hr ne => ?_).symm
    · show gOf nts ts x y _ = term nts _ (0 + i) _ * _
      unfold gOf
      have en : nameOf [.str u, .int lo1, .int hi1] = u := rfl
      rw [en]
      have el : leads nts x y (ts.map nameOf) u = true := by
        unfold leads
        rw [hG u (.inl rfl)]
        exact decide_eq_true rfl
      rw [if_pos el, hG u (.inl rfl)]
      have ft := fits_two (nts := nts) nmap h1 hj ij PO2
      have et : term nts [(i : Int), (j : Int)] (0 + i) [.str u, .int lo1, .int hi1] = 1 := by
        unfold term
        rw [if_pos (by simp)]
      rw [et, Nat.one_mul]
      exact ft
    · show gOf nts ts x y r = term nts _ (0 + k) r
      rw [Nat.zero_add]
      by_cases ekj : k = j
      · subst ekj
        have er : r = [.str v, .int lo2, .int hi2] := by
          rw [hr] at hj
          exact Option.some.inj hj
        subst er
        unfold gOf
        have en : nameOf [.str v, .int lo2, .int hi2] = v := rfl
        rw [en]
        have el : ¬ leads nts x y (ts.map nameOf) v = true := by
          unfold leads
          rw [hG v (.inr rfl)]
          intro e
          exact uv (Option.some.inj (of_decide_eq_true e))
        rw [if_neg el]
        unfold term
        rw [if_pos (by simp)]
      · have nr : (ts.map nameOf)[k]? = some (nameOf r) := by rw [List.getElem?_map, hr]; rfl
        have d1 : nameOf r ≠ u := fun e => by
          rw [e] at nr
          exact ne (nodup_ix nmap nr nu)
        have d2 : nameOf r ≠ v := fun e => by
          rw [e] at nr
          exact ekj (nodup_ix nmap nr nv)
        rw [g_one SM (List.mem_of_getElem? hr) ?_]
        · unfold term
          rw [if_neg]
          intro hm
          have : k = i ∨ k = j := by
            have z : (k : Int) = (i : Int) ∨ (k : Int) = (j : Int) := by simpa using hm
            omega
          omega
        · unfold hangs
          rcases huv with ⟨rfl, rfl⟩ | ⟨rfl, rfl⟩
          · rw [decide_eq_false d1, decide_eq_false d2]
            simp
          · rw [decide_eq_false d1, decide_eq_false d2]
            simp
section
variable {P : Program} {w : World} {K : PySem.W.Frag} {mg : Str → Option Value} {base : Heap}
def spCount : Sp := fun vs H Q _ => ∃ (q a b : Addr) (ts : List (List V)) (nts : List Nt) (x y : Str), vs = [.ref q] ∧ ShAt H q a b ts nts ∧ SmS ts nts x y ∧ ∀ H', Same H H' → Q (.int (numCases nts ts x y : Nat)) H'
theorem count_of {f : Addr} {fd : FuncData} {n : Nat} (h : FnOk P w K mg base CX0 n f fd ["sheet"] spCount0) : FnOk P w K mg base CX0 n f fd ["sheet"] spCount := h.imp fun vs H Q E ⟨q, a, b, ts, nts, x, y, e, S, SM, fin⟩ => ⟨q, a, b, ts, nts, x, y, e, S, SM, fun n' H' hn s => by rw [law_num SM hn]; exact fin H' s⟩
end
end Md

namespace Md
open PySem PySem.Spec PyProof.Rows L2
abbrev sWith : Stmt := inClass sDiary 4
abbrev sWithout : Stmt := inClass sDiary 5
abbrev sMade : Stmt := top 43
theorem made_same {G G2 : Hp} {x dx : Addr} {o1 o2 : HO} (nx : G x = none) (nd : G dx = none) (kx : Keep x (upd (upd G dx o1) x o2) G2) : Same G G2 := fun b u z => by
  have h1 := ne_of_none z nx
  refine kx b u ?_ h1
  rw [upd_ne h1, upd_ne (ne_of_none z nd)]
  exact z
theorem made0 {G : Hp} {x dx : Addr} {o1 o2 : HO} (nx : G x = none) (nd : G dx = none) (ne : dx ≠ x) : Same G (upd (upd G dx o1) x o2) :=
  (new_same nd).trans (new_same (by rw [upd_ne (fun e => ne e.symm)]; exact nx))
/-- a note that is right where the towns have these names -/
structure NtG (zs : List Str) (nt : Nt) : Prop where
  inz : ∀ u ∈ nt.mids, u ∈ zs
  day0 : 0 ≤ nt.day
  day1 : nt.day ≤ 10 ^ 30
  two : ∀ sm a b d, nt = .two sm a b d → a ≠ b
theorem NtG.r {zs : List Str} {nt : Nt} (h : NtG zs nt) : NoteR zs nt.row := by
  cases nt with
  | one mk z d =>
    refine .inl ⟨kind1 mk, z, d, rfl, ?_, h.inz z (by simp [Nt.mids]), h.day0, h.day1⟩
    cases mk <;> simp [kind1]
  | two sm a b d =>
    refine .inr ⟨kind2 sm, a, b, d, rfl, ?_, h.inz a (by simp [Nt.mids]), h.inz b (by simp [Nt.mids]), h.two sm a b d rfl, h.day0, h.day1⟩
    cases sm <;> simp [kind2]
theorem NoteR.nt {zs : List Str} {r : List V} (h : NoteR zs r) : ∃ nt : Nt, r = nt.row ∧ NtG zs nt := by
  rcases h with ⟨kind, z, day, rfl, hk, hz, d0, d1⟩ | ⟨kind, y, z, day, rfl, hk, hy, hz, hyz, d0, d1⟩
  · have g : ∀ mk, NtG zs (.one mk z day) := fun mk => ⟨fun u hu => by rw [List.mem_singleton.mp hu]; exact hz, d0, d1, fun _ _ _ _ e => nomatch e⟩
    rcases hk with rfl | rfl
    · exact ⟨.one true z day, rfl, g true⟩
    · exact ⟨.one false z day, rfl, g false⟩
  · have g : ∀ sm, NtG zs (.two sm y z day) := fun sm => ⟨fun u hu => by
      rcases List.mem_cons.mp hu with e | e
      · rw [e]; exact hy
      · rw [List.mem_singleton.mp e]; exact hz, d0, d1, fun _ _ _ _ e => by cases e; exact hyz⟩
    rcases hk with rfl | rfl
    · exact ⟨.two false y z day, rfl, g false⟩
    · exact ⟨.two true y z day, rfl, g true⟩
theorem rows_nts {zs : List Str} : ∀ {ns : List (List V)}, (∀ r ∈ ns, NoteR zs r) → ∃ nts : List Nt, ns = nts.map Nt.row ∧ ∀ nt ∈ nts, NtG zs nt
  | [], _ => ⟨[], rfl, fun _ h => nomatch h⟩
  | r :: ns, h => by
    obtain ⟨nt, e, g⟩ := (h r (List.mem_cons_self ..)).nt
    obtain ⟨nts, e2, g2⟩ := rows_nts (ns := ns) fun x hx => h x (List.mem_cons_of_mem _ hx)
    refine ⟨nt :: nts, by rw [e, e2]; rfl, fun x hx => ?_⟩
    rcases List.mem_cons.mp hx with rfl | z
    · exact g
    · exact g2 x z
theorem nts_r {zs : List Str} {nts : List Nt} (h : ∀ nt ∈ nts, NtG zs nt) : ∀ r ∈ nts.map Nt.row, NoteR zs r := fun r hr => by
  obtain ⟨nt, hn, e⟩ := List.mem_map.mp hr
  rw [← e]
  exact (h nt hn).r
theorem cut_take (xs : List V) (i : Nat) (h : i ≤ xs.length) : cutV xs none (some (i : Int)) = xs.take i := by
  unfold cutV
  rw [HT.sIx_none, HT.sIx_nat, Nat.min_eq_left h]
  simp
theorem cut_drop (xs : List V) (i : Nat) (h : i ≤ xs.length) : cutV xs (some (i : Int)) none = xs.drop i := by
  unfold cutV
  rw [HT.sIx_none, HT.sIx_nat, Nat.min_eq_left h]
  rw [List.take_of_length_le (by rw [List.length_drop]; omega)]
theorem paired_take {α β : Type} {F : α → β → Prop} : ∀ {l : List α} {m : List β}, Paired F l m → ∀ i, Paired F (l.take i) (m.take i)
  | _, _, .nil, i => by simp; exact .nil
  | _, _, .cons h t, 0 => .nil
  | _, _, .cons h t, i + 1 => .cons h (paired_take t i)
theorem paired_drop {α β : Type} {F : α → β → Prop} : ∀ {l : List α} {m : List β}, Paired F l m → ∀ i, Paired F (l.drop i) (m.drop i)
  | _, _, .nil, i => by simp; exact .nil
  | _, _, .cons h t, 0 => .cons h t
  | _, _, .cons h t, i + 1 => paired_drop t i
theorem paired_app {α β : Type} {F : α → β → Prop} : ∀ {l l2 : List α} {m m2 : List β}, Paired F l m → Paired F l2 m2 → Paired F (l ++ l2) (m ++ m2)
  | _, _, _, _, .nil, g => g
  | _, _, _, _, .cons h t, g => .cons h (paired_app t g)
section
variable {P : Program} {w : World} {K : PySem.W.Frag} {mg : Str → Option Value} {base : Heap}
/-- the class, made -/
structure Dz (P : Program) (w : World) (K : PySem.W.Frag) (mg : Str → Option Value) (base : Heap) (C fI : Addr) (dI : FuncData) : Prop where
  cl : Cl K C
  name : mg "Diary" = some (.ref C)
  made : Mk K C fI
  oI : ∀ k, FnOk P w K mg base CX0 (k + 3) fI dI ["self", "towns", "notes"] (spInit C)
  bI : Binds K dI ["self", "towns", "notes"] []
/-- towns that are right -/
structure TsG (ts : List (List V)) : Prop where
  good : ∀ r ∈ ts, TownR r
  nodup : (ts.map nameOf).Nodup
  few : ts.length ≤ 90
def spWith0 (C : Addr) : Sp := fun vs H Q _ => ∃ (m dx a b t : Addr) (ts : List (List V)) (nts : List Nt) (nt : Nt), vs = [.ref m, .ref t] ∧ DiaryAt C H m dx a b ts (nts.map Nt.row) ∧ TsG ts ∧ nts.length ≤ 80 ∧ (∀ n ∈ nts, NtG (ts.map nameOf) n) ∧ NtG (ts.map nameOf) nt ∧ H t = some (.tup nt.row) ∧
  ∀ m' dx' a' b' H', H m' = none → H a' = none → H b' = none → DiaryAt C H' m' dx' a' b' ts ((nts ++ [nt]).map Nt.row) → Same H H' → Q (.ref m') H'
theorem scWith : FnScope ["self", "note"] ["self", "note"] (defScope sWith) := ⟨rfl, rfl, rfl, by decide +kernel, rfl, by decide +kernel, by decide +kernel⟩
theorem ok_with0 {f C fI : Addr} {fd dI : FuncData} {k : Nat} (F : Fun K "with_note" "Diary.with_note" sWith f fd) (D : Dz P w K mg base C fI dI) : FnOk P w K mg base CX0 (k + 5) f fd ["self", "note"] (spWith0 C) := by
  refine F.ok scWith (fun vs H Q E h => ?_) (fun cdv A outer s H vs Q E hr h => ?_)
  · obtain ⟨m, dx, a, b, t, ts, nts, nt, rfl, _⟩ := h
    rfl
  · obtain ⟨m, dx, a, b, t, ts, nts, nt, rfl, G, TS, few, gN, gn, hT, fin⟩ := h
    have nd := scWith.nd
    obtain ⟨nas, hn, hns⟩ := G.notes
    have ln : nas.length = nts.length := by rw [paired_len hns, List.length_map]
    refine ⟨_, pss_one (ps_ret (pe_make D.made (D.oI k) hr (by rfl) D.name D.bI .nil pass0 (pa_cons (pe_fld (pv 0) rfl) (pa_cons (pe_op op_cat (pe_fld (pv 0) rfl) (pe_lst (pa_cons (pv 1) pa_nil))) pa_nil)))), ?_⟩
    refine ⟨_, rfl, m, C, dx, _, _, rfl, G.ob, D.cl.cl, D.cl.nT, look_t, _, rfl, m, C, dx, _, _, rfl, G.ob, D.cl.cl, D.cl.nN, look_n, _, rfl, by show 1 ≤ sizeLine; decide, fun L nL => ?_⟩
    have hnL : upd H L (.lst [.ref t]) b = some (.lst (nas.map V.ref)) := by
      rw [upd_ne (ne_of_none hn nL)]
      exact hn
    refine ⟨b, L, _, _, rfl, rfl, hnL, upd_same, ?_, fun N nN => ?_⟩
    · rw [List.length_map]
      exact Nat.le_of_lt (small1000 (by show nas.length + 1 ≤ 1000; omega))
    have s2 : Same H (upd (upd H L (.lst [.ref t])) N (.lst (nas.map V.ref ++ [.ref t]))) := (new_same nL).trans (new_same nN)
    intro x dxx nx ndx ne
    have s3 := s2.trans (made0 nx ndx ne (o1 := .own x) (o2 := .ins C dxx []))
    have hN : upd (upd (upd (upd H L (.lst [.ref t])) N (.lst (nas.map V.ref ++ [.ref t]))) dxx (.own x)) x (.ins C dxx []) N = some (.lst ((nas ++ [t]).map V.ref)) := by
      rw [List.map_append]
      exact (made0 nx ndx ne) _ _ upd_same
    have gall : ∀ r ∈ (nts ++ [nt]).map Nt.row, NoteR (ts.map nameOf) r := nts_r fun n hm => by
      rcases List.mem_append.mp hm with z | z
      · exact gN n z
      · rw [List.mem_singleton.mp z]; exact gn
    refine ⟨x, dxx, a, N, ts, (nts ++ [nt]).map Nt.row, rfl, upd_same, G.towns.same s3, ⟨nas ++ [t], hN, ?_⟩, TS.good, TS.nodup, gall, by have := TS.few; omega, by rw [List.length_map, List.length_append]; show nts.length + 1 ≤ 100; omega, fun a' b' H' na nb DA kx => ⟨rfl, ?_⟩⟩
    · rw [List.map_append]
      exact paired_snoc (paired_imp hns fun b u z => s3 _ _ z) (s3 _ _ hT)
    · exact fin x dxx a' b' H' (s2.free nx) (s3.free na) (s3.free nb) DA (s2.trans (made_same nx ndx kx))
def spWithout0 (C : Addr) : Sp := fun vs H Q _ => ∃ (m dx a b : Addr) (ts : List (List V)) (nts : List Nt) (i : Nat), vs = [.ref m, .int (i : Nat)] ∧ DiaryAt C H m dx a b ts (nts.map Nt.row) ∧ TsG ts ∧ nts.length ≤ 80 ∧ (∀ n ∈ nts, NtG (ts.map nameOf) n) ∧ i < nts.length ∧
  ∀ m' dx' a' b' H', H m' = none → H a' = none → H b' = none → DiaryAt C H' m' dx' a' b' ts ((nts.take i ++ nts.drop (i + 1)).map Nt.row) → Same H H' → Q (.ref m') H'
theorem scWithout : FnScope ["self", "index"] ["self", "index"] (defScope sWithout) := ⟨rfl, rfl, rfl, by decide +kernel, rfl, by decide +kernel, by decide +kernel⟩
theorem ok_without0 {f C fI : Addr} {fd dI : FuncData} {k : Nat} (F : Fun K "without" "Diary.without" sWithout f fd) (D : Dz P w K mg base C fI dI) (B : Blt mg) : FnOk P w K mg base CX0 (k + 5) f fd ["self", "index"] (spWithout0 C) := by
  refine F.ok scWithout (fun vs H Q E h => ?_) (fun cdv A outer s H vs Q E hr h => ?_)
  · obtain ⟨m, dx, a, b, ts, nts, i, rfl, _⟩ := h
    rfl
  · obtain ⟨m, dx, a, b, ts, nts, i, rfl, G, TS, few, gN, il, fin⟩ := h
    have nd := scWithout.nd
    obtain ⟨nas, hn, hns⟩ := G.notes
    have ln : nas.length = nts.length := by rw [paired_len hns, List.length_map]
    refine ⟨_, pss_cons (ps_if (PW.pt (pw_or (pt_cmpR op_lt (pv 1) pe_int (nomark _)) (pw_or1 (pt_cmpR op_ge (pv 1) (pe_callB call_len_seq (by rfl) B.len PySem.boot_len (pa_cons (pe_fld (pv 0) rfl) pa_nil)) (nomark _))))) (pss_one ps_never) pss_nil)
      (pss_one (ps_ret (pe_make D.made (D.oI k) hr (by rfl) D.name D.bI .nil pass0 (pa_cons (pe_fld (pv 0) rfl) (pa_cons (pe_op op_cat (pe_slice sl_list (pe_fld (pv 0) rfl) po_none (po_some (pv 1)))
        (pe_slice sl_list (pe_fld (pv 0) rfl) (po_some (pe_op op_add (pv 1) pe_int)) po_none)) pa_nil))))), ?_⟩
    refine ⟨_, rfl, _, _, rfl, rfl, _, rfl, ?_⟩
    rw [decide_eq_false (show ¬ ((i : Nat) : Int) < 0 by omega)]
    refine iteF ⟨_, rfl, _, rfl, m, C, dx, _, _, rfl, G.ob, D.cl.cl, D.cl.nN, look_n, b, _, rfl, .inl (.inl (.inl hn)), _, _, rfl, rfl, _, rfl, ?_⟩
    rw [decide_eq_false (show ¬ ((nas.map V.ref).length : Int) ≤ ((i : Nat) : Int) by rw [List.length_map, ln]; omega)]
    refine iteF ?_
    refine ⟨_, rfl, m, C, dx, _, _, rfl, G.ob, D.cl.cl, D.cl.nT, look_t, _, rfl, m, C, dx, _, _, rfl, G.ob, D.cl.cl, D.cl.nN, look_n, _, rfl, _, rfl, b, _, rfl, .inl (.inl hn), fun L nL => ?_⟩
    rw [cut_take _ _ (by rw [List.length_map]; omega), ← List.map_take]
    have sL := new_same nL (o := .lst ((nas.take i).map V.ref))
    refine ⟨_, rfl, m, C, dx, _, _, rfl, sL _ _ G.ob, D.cl.cl, D.cl.nN, look_n, _, rfl, _, _, rfl, rfl, _, rfl, b, _, rfl, .inl (.inl (sL _ _ hn)), fun L2 nL2 => ?_⟩
    rw [show ((i : Nat) : Int) + 1 = ((i + 1 : Nat) : Int) from by omega, cut_drop _ _ (by rw [List.length_map]; omega), ← List.map_drop]
    have sL2 := sL.trans (new_same nL2 (o := .lst ((nas.drop (i + 1)).map V.ref)))
    refine ⟨L, L2, _, _, rfl, rfl, (new_same nL2) _ _ upd_same, upd_same, ?_, fun N nN => ?_⟩
    · rw [List.length_map, List.length_map, List.length_take, List.length_drop]
      exact Nat.le_of_lt (small1000 (by omega))
    rw [← List.map_append]
    have s2 := sL2.trans (new_same nN (o := .lst ((nas.take i ++ nas.drop (i + 1)).map V.ref)))
    intro x dxx nx ndx ne
    have s3 := s2.trans (made0 nx ndx ne (o1 := .own x) (o2 := .ins C dxx []))
    have gall : ∀ r ∈ (nts.take i ++ nts.drop (i + 1)).map Nt.row, NoteR (ts.map nameOf) r := nts_r fun n hm => by
      rcases List.mem_append.mp hm with z | z
      · exact gN n (List.mem_of_mem_take z)
      · exact gN n (List.mem_of_mem_drop z)
    have l2 : ((nts.take i ++ nts.drop (i + 1)).map Nt.row).length ≤ 100 := by
      rw [List.length_map, List.length_append, List.length_take, List.length_drop]
      omega
    refine ⟨x, dxx, a, N, ts, (nts.take i ++ nts.drop (i + 1)).map Nt.row, rfl, upd_same, G.towns.same s3, ⟨nas.take i ++ nas.drop (i + 1), (made0 nx ndx ne) _ _ upd_same, ?_⟩, TS.good, TS.nodup, gall, by have := TS.few; omega, l2, fun a' b' H' na nb DA kx => ⟨rfl, ?_⟩⟩
    · have em : (nts.take i ++ nts.drop (i + 1)).map Nt.row = (nts.map Nt.row).take i ++ (nts.map Nt.row).drop (i + 1) := by rw [List.map_append, List.map_take, List.map_drop]
      rw [em]
      exact paired_imp (paired_app (paired_take hns i) (paired_drop hns (i + 1))) fun b u z => s3 _ _ z
    · exact fin x dxx a' b' H' (s2.free nx) (s3.free na) (s3.free nb) DA (s2.trans (made_same nx ndx kx))
/-! ### a diary of a sheet -/
def spMade0 (C : Addr) : Sp := fun vs H Q _ => ∃ (q a b : Addr) (ts : List (List V)) (nts : List Nt), vs = [.ref q] ∧ ShAt H q a b ts nts ∧ TsG ts ∧ nts.length ≤ 80 ∧ (∀ n ∈ nts, NtG (ts.map nameOf) n) ∧
  ∀ m' dx' a' b' H', H m' = none → H a' = none → H b' = none → DiaryAt C H' m' dx' a' b' ts (nts.map Nt.row) → Same H H' → Q (.ref m') H'
theorem scMade : FnScope ["sheet"] ["sheet"] (defScope sMade) := ⟨rfl, rfl, rfl, by decide +kernel, rfl, by decide +kernel, by decide +kernel⟩
theorem ok_made0 {f C fI : Addr} {fd dI : FuncData} {k : Nat} (F : Fun K "_law_mk_made" "_law_mk_made" sMade f fd) (D : Dz P w K mg base C fI dI) (B : Blt mg) : FnOk P w K mg base CX0 (k + 5) f fd ["sheet"] (spMade0 C) := by
  refine F.ok scMade (fun vs H Q E h => ?_) (fun cdv A outer s H vs Q E hr h => ?_)
  · obtain ⟨q, a, b, ts, nts, rfl, _⟩ := h
    rfl
  · obtain ⟨q, a, b, ts, nts, rfl, S, TS, few, gN, fin⟩ := h
    have nd := scMade.nd
    refine ⟨_, pss_one (ps_ret (pe_make D.made (D.oI k) hr (by rfl) D.name D.bI .nil pass0 (pa_cons (pe_callTy call_list_of (by rfl) B.list (by decide +kernel) (pa_cons (pe_ix (r := rIxT K) ix_tup (pv 0) pe_int (fun _ _ => rfl)) pa_nil)) (pa_cons (pe_callTy call_list_of (by rfl) B.list (by decide +kernel) (pa_cons (pe_ix (r := rIxT K) ix_tup (pv 0) pe_int (fun _ _ => rfl)) pa_nil)) pa_nil)))), ?_⟩
    obtain ⟨as, hA1, hA2⟩ := S.towns
    refine ⟨_, rfl, q, _, 0, .ref a, rfl, rfl, .inl (.inl S.tup), atI_nat (j := 0) rfl, a, _, rfl, .inl (.inl (.inl hA1)), fun l1 n1 => ?_⟩
    have R1 := rows_copy hA2 n1
    have s1 := new_same n1 (o := .lst (as.map V.ref))
    obtain ⟨bs, hB1, hB2⟩ := (lf_rows S.notes).same s1
    refine ⟨_, rfl, q, _, 1, .ref b, rfl, rfl, .inl (.inl (s1 _ _ S.tup)), atI_nat (j := 1) rfl, b, _, rfl, .inl (.inl (.inl hB1)), fun l2 n2 => ?_⟩
    have R2 := rows_copy hB2 n2
    have s2 := s1.trans (new_same n2 (o := .lst (bs.map V.ref)))
    intro x dx nx ndx ne
    have sm := made0 nx ndx ne (o1 := .own x) (o2 := .ins C dx [])
    have s3 := s2.trans sm
    refine ⟨x, dx, l1, l2, ts, nts.map Nt.row, rfl, upd_same, (R1.same (new_same n2)).same sm, R2.same sm, TS.good, TS.nodup, nts_r gN, by have := TS.few; omega, by rw [List.length_map]; omega, fun a' b' H' na nb DA kx => ⟨rfl, ?_⟩⟩
    exact fin x dx a' b' H' (s2.free nx) (s3.free na) (s3.free nb) DA (s2.trans (made_same nx ndx kx))
end
end Md

namespace Md
open PySem PySem.Spec PyProof.Rows L2
abbrev sSheet : Stmt := top 42
abbrev sChild : Stmt := top 50
/-- the drawn pair is of these two towns, or there is none -/
def PairFor (zs : List Str) (is : List Int) (x y : Str) : Prop := x ≠ y ∧ (is = [] ∨ ∃ u v : Nat, is = [(u : Int), (v : Int)] ∧ zs[u]? = some x ∧ zs[v]? = some y)
theorem pair_for {zs : List Str} {is : List Int} {m : Nat} (h : PairI is m) (n : zs.Nodup) (l : zs.length = m) : ∃ x y, PairFor zs is x y := by
  rcases h with rfl | ⟨u, v, rfl, hu, hv, uv⟩
  · exact ⟨"a", "b", by decide +kernel, .inl rfl⟩
  · have g1 : zs[u]? = some (zs[u]'(by omega)) := List.getElem?_eq_getElem _
    have g2 : zs[v]? = some (zs[v]'(by omega)) := List.getElem?_eq_getElem _
    refine ⟨_, _, fun e => uv ?_, .inr ⟨u, v, rfl, g1, g2⟩⟩
    rw [e] at g1
    exact nodup_ix n g1 g2
theorem pair_in {zs : List Str} {is : List Int} {x y : Str} {sm : Bool} {a b : Str} {d : Int} (h : PairFor zs is x y) (g : PairIn zs is (Nt.two sm a b d).row) : (a = x ∧ b = y) ∨ (a = y ∧ b = x) := by
  obtain ⟨u, v, e, ha, hb⟩ := g (kind2 sm) a b d rfl
  rcases h.2 with rfl | ⟨u0, v0, rfl, hx, hy⟩
  · rcases e with e | e <;> cases e
  · rcases e with e | e
    · have e1 := List.cons.inj e
      have e2 := List.cons.inj e1.2
      have u1 : u0 = u := Int.ofNat.inj e1.1
      have v1 : v0 = v := Int.ofNat.inj e2.1
      subst u1 v1
      rw [hx] at ha
      rw [hy] at hb
      exact .inl ⟨(Option.some.inj ha).symm, (Option.some.inj hb).symm⟩
    · have e1 := List.cons.inj e
      have e2 := List.cons.inj e1.2
      have u1 : u0 = v := Int.ofNat.inj e1.1
      have v1 : v0 = u := Int.ofNat.inj e2.1
      subst u1 v1
      rw [hx] at hb
      rw [hy] at ha
      exact .inr ⟨(Option.some.inj ha).symm, (Option.some.inj hb).symm⟩
theorem pair_of {zs : List Str} {is : List Int} {x y : Str} {nts : List Nt} (h : PairFor zs is x y) (g : ∀ nt ∈ nts, PairIn zs is nt.row) : PairOf nts x y := ⟨h.1, fun sm a b d hm => pair_in h (g _ hm)⟩
theorem Ent.put {G : Hp} {a b e F : Addr} {rs ps : List (List V)} {is : List Int} {m : Nat} {xs : List V} {o : HO} (E : Ent G a b e rs is ps m) (hF : G F = some (.lst xs)) (n1 : a ≠ F) (n2 : b ≠ F) (n3 : e ≠ F) : Ent (upd G F o) a b e rs is ps m :=
  ⟨E.rows.put hF n1, E.towns, by rw [upd_ne n2]; exact E.ends, E.pair, E.picks.put hF n3, E.lp, E.good⟩
/-- a drawn small sheet -/
structure SmallD (ts : List (List V)) (nts : List Nt) (x y : Str) : Prop where
  towns : TownsB ts ts.length
  few : 1 ≤ ts.length ∧ ts.length ≤ 3
  low : ∀ r ∈ ts, HiLe 4 r
  notes : ∀ nt ∈ nts, NtG (ts.map nameOf) nt
  pair : PairOf nts x y
section
variable {P : Program} {w : World} {K : PySem.W.Frag} {mg : Str → Option Value} {base : Heap}
def spSheet : Sp := fun vs H Q _ => ∃ (p : Addr) (c : Nat), vs = [.ref p, .int 3, .int 4, .int 4] ∧ PurseAt H p c ∧ c ≤ 800000 ∧
  ∀ ts nts x y q a b H', SmallD ts nts x y → nts.length ≤ 4 → H q = none → ShAt H' q a b ts nts → PurseAt H' p (c + 3000) → Keep p H H' → Q (.ref q) H'
abbrev nSheet : List Str := ["purse", "count", "top", "size", "places", "pair", "picks", "is_true", "entries", "turn"]
theorem scSheet : FnScope nSheet ["purse", "count", "top", "size"] (defScope sSheet) := ⟨rfl, rfl, rfl, by decide +kernel, rfl, by decide +kernel, by decide +kernel⟩
theorem ok_sheet {f fC fL fP fI fE : Addr} {fd fdC fdL fdP fdI fdE : FuncData} {k : Nat} (F : Fun K "_law_mk_sheet" "_law_mk_sheet" sSheet f fd) (C : CoinAt P w K mg base fC fdC) (PL : DefAt P w K mg base "_law_mk_places" fL fdL ["purse", "count", "top"] 3 spPlaces)
    (PK : DefAt P w K mg base "_law_mk_picks" fP fdP ["purse", "places"] 2 spPicks) (PR : DefAt P w K mg base "_law_mk_pair" fI fdI ["purse", "places"] 2 spPair) (EN : DefAt P w K mg base "_law_mk_entry" fE fdE ["purse", "places", "pair", "picks", "is_true"] 3 spEntry2) (B : Blt mg) :
    FnOk P w K mg base CX0 (k + 4) f fd ["purse", "count", "top", "size"] spSheet := by
  have GC := C.ok (k + 2)
  have GL := PL.ok k
  have GP := PK.ok (k + 1)
  have GI := PR.ok (k + 1)
  have GE := EN.ok k
  refine F.ok scSheet (fun vs H Q E h => ?_) (fun cdv A outer s H vs Q E hr h => ?_)
  · obtain ⟨p, c, rfl, _⟩ := h
    rfl
  · obtain ⟨p, c, rfl, hp, hc, q⟩ := h
    have nd := scSheet.nd
    refine ⟨_, pss_cons (ps_set (i := 4) nd rfl (.inr rfl) (pe_call GL hr (by rfl) PL.mg PL.kp PL.b .nil pass0 (pa_cons (pv 0) (pa_cons (pe_op op_add pe_int (pe_call GC hr (by rfl) C.mg C.kp C.b .nil pass0 (pa_cons (pv 0) (pa_cons (pv 1) pa_nil)))) (pa_cons (pv 2) pa_nil)))))
      (pss_cons (ps_asg (pe_tup (pa_cons (pe_call GI hr (by rfl) PR.mg PR.kp PR.b .nil pass0 (pa_cons (pv 0) (pa_cons (pv 4) pa_nil))) (pa_cons (pe_call GP hr (by rfl) PK.mg PK.kp PK.b .nil pass0 (pa_cons (pv 0) (pa_cons (pv 4) pa_nil))) pa_nil))) (pg_tup (by rfl) (pgs_cons (pg_name (i := 5) nd rfl (.inr rfl)) (pgs_cons (pg_name (i := 6) nd rfl (.inr rfl)) pgs_nil))))
      (pss_cons (ps_set (i := 7) nd rfl (.inr rfl) (pe_cmpR op_gt (pe_call GC hr (by rfl) C.mg C.kp C.b .nil pass0 (pa_cons (pv 0) (pa_cons pe_int pa_nil))) pe_int (nomark _)))
      (pss_cons (ps_setLc (i := 8) (own := [("turn", 9)]) (g := gName 9) (tt := tYes) rfl nd rfl rfl (sw_true rfl rfl rfl (by decide +kernel)) (pi_range1 (by rfl) B.range (pa_cons (pe_call GC hr (by rfl) C.mg C.kp C.b .nil pass0 (pa_cons (pv 0) (pa_cons (pe_op op_add (pv 3) pe_int) pa_nil))) pa_nil)) (blkOk_by (N := nSheet) (sc := defScope sSheet) (by decide +kernel))
        (fun _ _ _ _ _ => pg_name (i := 9) nd rfl (.inl rfl)) (fun _ _ _ _ _ => pts_nil) (fun _ _ _ _ _ => pe_call GE hr (by rfl) EN.mg EN.kp EN.b .nil pass0 (pa_cons (pv 0) (pa_cons (pv 4) (pa_cons (pv 5) (pa_cons (pv 6) (pa_cons (pv 7) pa_nil)))))))
      (pss_one (ps_ret (pe_tup (pa_cons (pv 4) (pa_cons (pv 8) pa_nil)))))))), ?_⟩
    refine ⟨_, rfl, _, rfl, _, rfl, p, c, 3, rfl, hp, by omega, by decide, by decide, fun n0 G1 a0 a1 hp1 k1 => ⟨_, _, rfl, rfl, ?_⟩⟩
    obtain ⟨n0, rfl⟩ : ∃ n : Nat, n0 = n := ⟨n0.toNat, by omega⟩
    refine ⟨_, rfl, p, _, 1 + n0, 4, congrArg (fun z => [V.ref p, V.int z, V.int 4]) (by omega : (1 : Int) + (n0 : Int) = ((1 + n0 : Nat) : Int)), hp1, by omega, by omega, by decide, by decide, fun ts a G3 tT na3 hA hp3 k3 hlow => ?_⟩
    have k13 := k1.trans k3
    have lts := tT.1
    obtain ⟨as, hAs, hPs⟩ := id hA
    refine ⟨_, rfl, _, rfl, p, a, _, 1 + n0, as, rfl, hp3, by omega, by omega, by omega, hAs, by rw [paired_len hPs, lts], fun is b G4 pi nb hB hp4 k4 => ?_⟩
    have hA4 := hA.keep hp3 k4
    have k14 := k13.trans k4
    refine ⟨_, rfl, _, rfl, p, a, _, 1 + n0, ts, rfl, hp4, by omega, by omega, hA4, tT, fun ps e G5 lp good ne hE hp5 k5 => ⟨by show 2 ≤ sizeLine; decide, fun T nT => ⟨T, _, rfl, .inl (.inl upd_same), rfl, _, _, rfl, _, _, rfl, rfl, ?_⟩⟩⟩
    have hB5 : G5 b = some (.lst (is.map V.int)) := k5 _ _ hB fun z => by
      obtain ⟨x1, y1, w1, e1, _⟩ := hp4
      rw [z, e1] at hB
      rcases pi with rfl | ⟨u, v, rfl, _⟩
      · cases hB
      · cases hB
    have EN5 : Ent G5 a b e ts is ps (1 + n0) := ⟨hA4.keep hp4 k5, tT, hB5, pi, hE, lp, good⟩
    have EN6 := EN5.new nT (o := .tup [.ref b, .ref e])
    have hp6 := hp5.new nT (o := .tup [.ref b, .ref e])
    have k6 := (k14.trans k5).new nT (o := .tup [.ref b, .ref e])
    refine ⟨_, rfl, p, _, 4, rfl, hp6, by omega, by decide, by decide, fun d G7 d0 d1 hp7 k7 => ⟨_, _, rfl, rfl, ?_⟩⟩
    have EN7 := EN6.keep hp6 k7
    have k67 := k6.trans k7
    refine ⟨_, rfl, _, rfl, _, _, rfl, rfl, p, _, 5, rfl, hp7, by omega, by decide, by decide, fun j G8 j0 j1 hp8 k8 => ?_⟩
    have EN8 := EN7.keep hp7 k8
    have k68 := k67.trans k8
    obtain ⟨j, rfl⟩ : ∃ n : Nat, j = n := ⟨j.toNat, by omega⟩
    refine ⟨(j : Int), rfl, by omega, by omega, fun D nD => ?_⟩
    have w0 := Work.start hp8 k68 nD
    have aD : a ≠ D := by
      obtain ⟨_, h, _⟩ := EN8.rows
      exact ne_of_none h nD
    have bD : b ≠ D := ne_of_none EN8.ends nD
    have eD : e ≠ D := by
      obtain ⟨_, h, _⟩ := EN8.picks
      exact ne_of_none h nD
    refine lc_it (walk_range (lo := 0) (n := j)) (fun i G => ∃ ns : List (List V), (∀ r ∈ ns, NoteR (ts.map nameOf) r ∧ PairIn (ts.map nameOf) is r) ∧ ns.length = i ∧ Ent G a b e ts is ps (1 + n0) ∧ Work H G p D (c + 600 + 13 * i) ns) ⟨[], (fun r hr => nomatch hr), rfl, EN8.new nD, w0.more (by omega)⟩ (fun _ _ _ _ => trivial) ?_ ?_
    · rintro i xv G G' hi ⟨ns, gn, ln, EN9, w9⟩ ⟨rfl, rfl⟩
      refine ⟨rfl, _, rfl, _, rfl, _, rfl, _, rfl, _, rfl, p, a, b, e, _, 1 + n0, ts, is, ps, decide (0 < d), rfl, w9.purse, by omega, by omega, by omega, EN9, fun r T2 G10 nr pr nT2 hT2 hp10 k10 => ?_⟩
      have w10 := w9.step hp10 k10
      obtain ⟨as12, h12, l12, w13⟩ := w10.push hT2
      refine ⟨_, h12, ?_, ns ++ [r], fun x hx => ?_, by rw [List.length_append, ln]; rfl, (EN9.keep w9.purse k10).put h12 aD bD eD, w13.more (by omega)⟩
      · rw [List.length_map, l12, ln]
        exact small1000 (by omega)
      · rcases List.mem_append.mp hx with z | z
        · exact gn x z
        · rw [List.mem_singleton.mp z]
          exact ⟨nr, pr⟩
    · rintro G ⟨ns, gn, ln, EN9, w9⟩
      obtain ⟨nts, rfl, gnt⟩ := rows_nts (fun r hr => (gn r hr).1)
      obtain ⟨x, y, pf⟩ := pair_for pi tT.2.1 (by rw [List.length_map, lts])
      have po : PairOf nts x y := pair_of pf fun nt hnt => (gn _ (List.mem_map.mpr ⟨nt, hnt, rfl⟩)).2
      have lnt : nts.length = j := by rw [← ln, List.length_map]
      refine ⟨_, rfl, _, rfl, by show 2 ≤ sizeLine; decide, fun T2 nT2 => ?_⟩
      have w10 := w9.new nT2 (o := .tup [.ref a, .ref D])
      exact q ts nts x y T2 a D _ ⟨by rw [lts]; exact tT, by omega, hlow, gnt, po⟩ (by omega) (w9.none_new nT2) ⟨upd_same, EN9.rows.new nT2, rows_lf w10.rows⟩ (w10.more (by omega)).purse w10.keep
end
end Md

namespace Md
open PySem PySem.Spec PyProof.Rows L2
theorem TownsB.g {ts : List (List V)} {m : Nat} (h : TownsB ts m) (l : m ≤ 90) : TsG ts := ⟨fun r hr => (h.2.2 r hr).r, h.2.1, by have := h.1; omega⟩
theorem PurseAt.same {H G : Hp} {p : Addr} {c : Nat} (h : PurseAt H p c) (s : Same H G) : PurseAt G p c := by
  obtain ⟨p0, p1, p2, a, b⟩ := h
  exact ⟨p0, p1, p2, s _ _ a, b⟩
theorem ShAt.keep {H G : Hp} {q a b p : Addr} {c : Nat} {ts : List (List V)} {nts : List Nt} (h : ShAt H q a b ts nts) (hp : PurseAt H p c) (k : Keep p H G) : ShAt G q a b ts nts := by
  refine ⟨k _ _ h.tup fun e => ?_, h.towns.keep hp k, rows_lf ((lf_rows h.notes).keep hp k)⟩
  obtain ⟨p0, p1, p2, e1, _⟩ := hp
  have z := h.tup
  rw [e, e1] at z
  cases z
/-- one note more keeps the pair -/
theorem ranks_pair {nts : List Nt} {zs : List Str} {is : List Int} {x y : Str} {nt : Nt} (h : RanksOf nts zs is) (PO : PairOf nts x y) (g : PairIn zs is nt.row) : PairOf (nts ++ [nt]) x y := by
  refine ⟨PO.ne, fun sm a b d hm => ?_⟩
  rcases List.mem_append.mp hm with z | z
  · exact PO.all sm a b d z
  · have e := List.mem_singleton.mp z
    subst e
    have ra := h.are PO
    rcases ra with ⟨_, rfl⟩ | ⟨_, i, j, u, v, rfl, ij, hu, hv, huv⟩
    · exact pair_in ⟨PO.ne, .inl rfl⟩ g
    · rcases huv with ⟨rfl, rfl⟩ | ⟨rfl, rfl⟩
      · exact pair_in ⟨PO.ne, .inr ⟨i, j, rfl, hu, hv⟩⟩ g
      · exact (pair_in ⟨PO.ne.symm, .inr ⟨i, j, rfl, hu, hv⟩⟩ g).symm
theorem ranks_pairI {nts : List Nt} {ts : List (List V)} {is : List Int} (h : RanksOf nts (ts.map nameOf) is) : PairI is ts.length := by
  rcases h with ⟨_, rfl⟩ | ⟨_, i, j, u, v, rfl, ij, hu, hv, _⟩
  · exact .inl rfl
  · have h1 := (List.getElem?_eq_some_iff.mp hu).1
    have h2 := (List.getElem?_eq_some_iff.mp hv).1
    rw [List.length_map] at h1 h2
    exact .inr ⟨i, j, rfl, h1, h2, by omega⟩
section
variable {P : Program} {w : World} {K : PySem.W.Frag} {mg : Str → Option Value} {base : Heap}
/-- what a child of a diary is -/
structure ChildOf (ts : List (List V)) (nts nts' : List Nt) (most : Nat) : Prop where
  notes : ∀ nt ∈ nts', NtG (ts.map nameOf) nt
  few : nts'.length ≤ most
  pair : ∀ x y, PairOf nts x y → PairOf nts' x y
def spChild (C : Addr) : Sp := fun vs H Q _ => ∃ (p m dx da db q a b : Addr) (c most : Nat) (ts : List (List V)) (nts : List Nt), vs = [.ref p, .ref m, .ref q, .int (most : Nat)] ∧ PurseAt H p c ∧ c ≤ 900000 ∧ DiaryAt C H m dx da db ts (nts.map Nt.row) ∧ ShAt H q a b ts nts ∧
  TownsB ts ts.length ∧ 1 ≤ ts.length ∧ ts.length ≤ 20 ∧ (∀ nt ∈ nts, NtG (ts.map nameOf) nt) ∧ nts.length ≤ most ∧ 1 ≤ most ∧ most ≤ 60 ∧
  ∀ r m' dx' da' db' q' b' nts' H', H r = none → H m' = none → H da' = none → H db' = none → H q' = none → H b' = none → H' r = some (.lst [.ref m', .ref q']) → DiaryAt C H' m' dx' da' db' ts (nts'.map Nt.row) → ShAt H' q' a b' ts nts' → ChildOf ts nts nts' most →
    PurseAt H' p (c + 100) → Keep p H H' → Q (.ref r) H'
abbrev nChild : List Str := ["purse", "made", "sheet", "most", "spot", "pair", "entry"]
theorem scChild : FnScope nChild ["purse", "made", "sheet", "most"] (defScope sChild) := ⟨rfl, rfl, rfl, by decide +kernel, rfl, by decide +kernel, by decide +kernel⟩
theorem ok_child {f fC fP fE fR fW fO C : Addr} {fd fdC fdP fdE fdR dW dO : FuncData} {k : Nat} (F : Fun K "_law_mk_child" "_law_mk_child" sChild f fd) (cl : Cl K C) (CN : CoinAt P w K mg base fC fdC) (PK : DefAt P w K mg base "_law_mk_picks" fP fdP ["purse", "places"] 2 spPicks)
    (EN : DefAt P w K mg base "_law_mk_entry" fE fdE ["purse", "places", "pair", "picks", "is_true"] 3 spEntry2) (RK : DefAt P w K mg base "_law_mk_ranks" fR fdR ["sheet"] 1 spRanks2)
    (GWi : ∀ k, FnOk P w K mg base CX0 (k + 5) fW dW ["self", "note"] (spWith0 C)) (mW : Meth K C "with_note" fW) (bW : Binds K dW ["self", "note"] [])
    (GOu : ∀ k, FnOk P w K mg base CX0 (k + 5) fO dO ["self", "index"] (spWithout0 C)) (mO : Meth K C "without" fO) (bO : Binds K dO ["self", "index"] []) (B : Blt mg) :
    FnOk P w K mg base CX0 (k + 6) f fd ["purse", "made", "sheet", "most"] (spChild C) := by
  have GC := CN.ok (k + 4)
  have GP := PK.ok (k + 3)
  have GE := EN.ok (k + 2)
  have GR := RK.ok (k + 4)
  have GW := GWi k
  have GO := GOu k
  refine F.ok scChild (fun vs H Q E h => ?_) (fun cdv A outer s H vs Q E hr h => ?_)
  · obtain ⟨p, m, dx, da, db, q, a, b, c, most, ts, nts, rfl, _⟩ := h
    rfl
  · obtain ⟨p, m, dx, da, db, q, a, b, c, most, ts, nts, rfl, hp, hc, DA, S, tT, t1, t20, gN, fewN, m1, m60, fin⟩ := h
    have nd := scChild.nd
    refine ⟨_, C8.pss_cut (ps_if (PW.pt (pw_and (pt_cmpR (op_neD hr.units) (pe_ix (r := rIxT K) ix_tup (pv 2) pe_int (fun _ _ => rfl)) (pe_lst pa_nil) (nomark _)) (pw_and1 (PW.pt (pw_or (pt_cmpR op_ge (pe_callB call_len_seq (by rfl) B.len PySem.boot_len (pa_cons (pe_ix (r := rIxT K) ix_tup (pv 2) pe_int (fun _ _ => rfl)) pa_nil)) (pv 3) (nomark _))
          (pw_or1 (pt_cmpR op_eq (pe_call GC hr (by rfl) CN.mg CN.kp CN.b .nil pass0 (pa_cons (pv 0) (pa_cons pe_int pa_nil))) pe_int (nomark _))))))))
        (pss_cons (ps_set (i := 4) nd rfl (.inl rfl) (pe_call GC hr (by rfl) CN.mg CN.kp CN.b .nil pass0 (pa_cons (pv 0) (pa_cons (pe_callB call_len_seq (by rfl) B.len PySem.boot_len (pa_cons (pe_ix (r := rIxT K) ix_tup (pv 2) pe_int (fun _ _ => rfl)) pa_nil)) pa_nil))))
        (pss_one (ps_ret (pe_lst (pa_cons (pe_meth (pv 1) cl.cl mO GO hr bO .nil pass0 (pa_cons (pv 4) pa_nil)) (pa_cons (pe_tup (pa_cons (pe_ix (r := rIxT K) ix_tup (pv 2) pe_int (fun _ _ => rfl))
          (pa_cons (pe_op op_cat (pe_slice sl_list (pe_ix (r := rIxT K) ix_tup (pv 2) pe_int (fun _ _ => rfl)) po_none (po_some (pv 4))) (pe_slice sl_list (pe_ix (r := rIxT K) ix_tup (pv 2) pe_int (fun _ _ => rfl)) (po_some (pe_op op_add (pv 4) pe_int)) po_none)) pa_nil))) pa_nil)))))) pss_nil)
      (pss_cons (ps_set (i := 5) nd rfl (.inl rfl) (pe_call GR hr (by rfl) RK.mg RK.kp RK.b .nil pass0 (pa_cons (pv 2) pa_nil)))
      (pss_cons (ps_set (i := 6) nd rfl (.inl rfl) (pe_call GE hr (by rfl) EN.mg EN.kp EN.b .nil pass0 (pa_cons (pv 0) (pa_cons (pe_ix (r := rIxT K) ix_tup (pv 2) pe_int (fun _ _ => rfl)) (pa_cons (pv 5)
          (pa_cons (pe_call GP hr (by rfl) PK.mg PK.kp PK.b .nil pass0 (pa_cons (pv 0) (pa_cons (pe_ix (r := rIxT K) ix_tup (pv 2) pe_int (fun _ _ => rfl)) pa_nil))) (pa_cons pe_bl pa_nil)))))))
      (pss_one (ps_ret (pe_lst (pa_cons (pe_meth (pv 1) cl.cl mW GW hr bW .nil pass0 (pa_cons (pv 6) pa_nil)) (pa_cons (pe_tup (pa_cons (pe_ix (r := rIxT K) ix_tup (pv 2) pe_int (fun _ _ => rfl))
          (pa_cons (pe_op op_cat (pe_ix (r := rIxT K) ix_tup (pv 2) pe_int (fun _ _ => rfl)) (pe_lst (pa_cons (pv 6) pa_nil))) pa_nil))) pa_nil))))))), ?_⟩
    have TS := tT.g (by omega)
    obtain ⟨bs, hb1, hb2⟩ := S.notes
    have lb : bs.length = nts.length := paired_len hb2
    have hq : SqT K H q [.ref a, .ref b] := .inl (.inl S.tup)
    have flatN : ∀ r ∈ nts.map Nt.row, RowF r := fun r hr => (nts_r gN r hr).flat (towns_names tT.2.2)
    refine ⟨fun sl G => sl = [some (.ref p), some (.ref m), some (.ref q), some (.int (most : Nat)), none, none, none] ∧ nts.length + 1 ≤ most ∧ PurseAt G p (c + 20) ∧ Keep p H G ∧ ShAt G q a b ts nts ∧ DiaryAt C G m dx da db ts (nts.map Nt.row), ?_, ?_⟩
    · refine ⟨_, rfl, q, _, 1, .ref b, rfl, rfl, hq, atI_nat (j := 1) rfl, Nat.zero_le _, fun N nN => ?_⟩
      have sN : Same H (upd H N (.lst [])) := new_same nN
      refine ⟨_, .list [], rows_dp ((lf_rows S.notes).same sN) flatN, .lst (.inl (.inl upd_same)) .nil, (rows_nice flatN).shaped (by decide), by rfl, _, rfl, ?_⟩
      rw [empty_eqv, List.isEmpty_map, List.isEmpty_map]
      by_cases e0 : nts.isEmpty = true
      · rw [e0]
        have ez : nts.length = 0 := by
          cases nts with
          | nil => rfl
          | cons _ _ => cases e0
        exact iteF (iteF ⟨rfl, by omega, (hp.new nN).more (by omega), Keep.of sN, S.same sN, DA.same sN⟩)
      · rw [Bool.eq_false_iff.mpr e0]
        have e1 : 1 ≤ nts.length := by
          cases nts with
          | nil => exact absurd rfl e0
          | cons _ _ => exact Nat.succ_le_succ (Nat.zero_le _)
        refine iteT ⟨_, rfl, q, _, 1, .ref b, rfl, rfl, .inl (.inl (sN _ _ S.tup)), atI_nat (j := 1) rfl, b, _, rfl, .inl (.inl (.inl (sN _ _ hb1))), _, rfl, _, _, rfl, rfl, _, rfl, ite2 (fun e => ?_) (fun e => ⟨_, rfl, p, c, 3, rfl, hp.new nN, by omega, by decide, by decide, fun d5 G5 d50 d51 hp5 k5 => ⟨rfl, _, rfl, ite2 (fun e2 => ?_) (fun e2 => ⟨rfl, ?_, hp5.more (by omega), (Keep.of sN).trans k5, (S.same sN).keep (hp.new nN) k5, (DA.same sN).keep (hp.new nN) k5⟩)⟩⟩)⟩
        · have fact : ∃ n, PurseAt (upd H N (.lst [])) p n ∧ n ≤ c + 20 ∧ Keep p H (upd H N (.lst [])) := ⟨c, hp.new nN, by omega, Keep.of sN⟩
          revert fact
          generalize upd H N (.lst []) = G
          rintro ⟨n, hpG, hn, kG⟩
          have SG := S.keep hp kG
          have DG := DA.keep hp kG
          obtain ⟨cs, hc1, hc2⟩ := SG.notes
          have lc : cs.length = nts.length := paired_len hc2
          refine ⟨_, rfl, _, rfl, q, _, 1, .ref b, rfl, rfl, .inl (.inl SG.tup), atI_nat (j := 1) rfl, b, _, rfl, .inl (.inl (.inl hc1)), p, n, _, rfl, hpG, by omega, by rw [List.length_map, lc]; omega, by rw [List.length_map, lc]; omega, fun d G2 d0 d1 hp2 k2 => ?_⟩
          rw [List.length_map, lc] at d1
          obtain ⟨d, rfl⟩ : ∃ n : Nat, d = n := ⟨d.toNat, by omega⟩
          have dl : d < nts.length := by omega
          have k12 := kG.trans k2
          have D2 := DG.keep hpG k2
          have S2 := SG.keep hpG k2
          refine ⟨_, rfl, m, dx, _, rfl, D2.ob, by rfl, _, rfl, m, dx, da, db, ts, nts, d, rfl, D2, TS, by omega, gN, dl, fun m' dx' a' b' G3 nm na nb DA3 s3 => ?_⟩
          have S3 := S2.same s3
          obtain ⟨es, he1, he2⟩ := S3.notes
          have le : es.length = nts.length := paired_len he2
          refine ⟨_, rfl, q, _, 0, .ref a, rfl, rfl, .inl (.inl S3.tup), atI_nat (j := 0) rfl, ?_⟩
          refine ⟨_, rfl, q, _, 1, .ref b, rfl, rfl, .inl (.inl S3.tup), atI_nat (j := 1) rfl, _, rfl, _, rfl, b, _, rfl, .inl (.inl he1), fun L nL => ?_⟩
          rw [cut_take _ _ (by rw [List.length_map]; omega), ← List.map_take]
          have sL := new_same nL (o := .lst ((es.take d).map V.ref))
          refine ⟨_, rfl, q, _, 1, .ref b, rfl, rfl, .inl (.inl (sL _ _ S3.tup)), atI_nat (j := 1) rfl, _, rfl, _, _, rfl, rfl, _, rfl, b, _, rfl, .inl (.inl (sL _ _ he1)), fun L2 nL2 => ?_⟩
          rw [show ((d : Nat) : Int) + 1 = ((d + 1 : Nat) : Int) from by omega, cut_drop _ _ (by rw [List.length_map]; omega), ← List.map_drop]
          have sL2 := sL.trans (new_same nL2 (o := .lst ((es.drop (d + 1)).map V.ref)))
          refine ⟨L, L2, _, _, rfl, rfl, (new_same nL2) _ _ upd_same, upd_same, ?_, fun N2 nN2 => ?_⟩
          · rw [List.length_map, List.length_map, List.length_take, List.length_drop]
            exact Nat.le_of_lt (small1000 (by omega))
          rw [← List.map_append]
          have s5 := sL2.trans (new_same nN2 (o := .lst ((es.take d ++ es.drop (d + 1)).map V.ref)))
          refine ⟨by show 2 ≤ sizeLine; decide, fun T2 nT2 => ⟨by show 2 ≤ sizeLine; decide, fun R nR => ?_⟩⟩
          have s6 := s5.trans (new_same nT2 (o := .tup [.ref a, .ref N2]))
          have s7 := s6.trans (new_same nR (o := .lst [.ref m', .ref T2]))
          have s23 := s3.trans s5
          refine fin R m' dx' a' b' T2 N2 (nts.take d ++ nts.drop (d + 1)) _ (k12.fresh hp2 (s3.free (s6.free nR))) (k12.fresh hp2 nm) (k12.fresh hp2 na) (k12.fresh hp2 nb) (k12.fresh hp2 (s23.free nT2)) (k12.fresh hp2 (s3.free (sL2.free nN2))) upd_same (DA3.same s7) ⟨new_same nR _ _ upd_same, S3.towns.same s7, es.take d ++ es.drop (d + 1), ?_, ?_⟩ ⟨fun nt hm => ?_, ?_, fun x y PO => ⟨PO.ne, fun sm a0 b0 d0 hm => ?_⟩⟩ ((hp2.same (s3.trans s7)).more (by omega)) (k12.trans (Keep.of (s3.trans s7)))
          · rw [upd_ne (ne_of_none (new_same nT2 _ _ upd_same) nR), upd_ne (ne_of_none upd_same nT2), upd_same]
          · exact paired_imp (paired_app (paired_take he2 d) (paired_drop he2 (d + 1))) fun b0 u z => monoN.same s7 z
          · rcases List.mem_append.mp hm with z | z
            · exact gN nt (List.mem_of_mem_take z)
            · exact gN nt (List.mem_of_mem_drop z)
          · rw [List.length_append, List.length_take, List.length_drop]
            omega
          · rcases List.mem_append.mp hm with z | z
            · exact PO.all sm a0 b0 d0 (List.mem_of_mem_take z)
            · exact PO.all sm a0 b0 d0 (List.mem_of_mem_drop z)
        · have fact : ∃ n, PurseAt G5 p n ∧ n ≤ c + 20 ∧ Keep p H G5 := ⟨c + 1, hp5, by omega, (Keep.of sN).trans k5⟩
          revert fact
          generalize G5 = G
          rintro ⟨n, hpG, hn, kG⟩
          have SG := S.keep hp kG
          have DG := DA.keep hp kG
          obtain ⟨cs, hc1, hc2⟩ := SG.notes
          have lc : cs.length = nts.length := paired_len hc2
          refine ⟨_, rfl, _, rfl, q, _, 1, .ref b, rfl, rfl, .inl (.inl SG.tup), atI_nat (j := 1) rfl, b, _, rfl, .inl (.inl (.inl hc1)), p, n, _, rfl, hpG, by omega, by rw [List.length_map, lc]; omega, by rw [List.length_map, lc]; omega, fun d G2 d0 d1 hp2 k2 => ?_⟩
          rw [List.length_map, lc] at d1
          obtain ⟨d, rfl⟩ : ∃ n : Nat, d = n := ⟨d.toNat, by omega⟩
          have dl : d < nts.length := by omega
          have k12 := kG.trans k2
          have D2 := DG.keep hpG k2
          have S2 := SG.keep hpG k2
          refine ⟨_, rfl, m, dx, _, rfl, D2.ob, by rfl, _, rfl, m, dx, da, db, ts, nts, d, rfl, D2, TS, by omega, gN, dl, fun m' dx' a' b' G3 nm na nb DA3 s3 => ?_⟩
          have S3 := S2.same s3
          obtain ⟨es, he1, he2⟩ := S3.notes
          have le : es.length = nts.length := paired_len he2
          refine ⟨_, rfl, q, _, 0, .ref a, rfl, rfl, .inl (.inl S3.tup), atI_nat (j := 0) rfl, ?_⟩
          refine ⟨_, rfl, q, _, 1, .ref b, rfl, rfl, .inl (.inl S3.tup), atI_nat (j := 1) rfl, _, rfl, _, rfl, b, _, rfl, .inl (.inl he1), fun L nL => ?_⟩
          rw [cut_take _ _ (by rw [List.length_map]; omega), ← List.map_take]
          have sL := new_same nL (o := .lst ((es.take d).map V.ref))
          refine ⟨_, rfl, q, _, 1, .ref b, rfl, rfl, .inl (.inl (sL _ _ S3.tup)), atI_nat (j := 1) rfl, _, rfl, _, _, rfl, rfl, _, rfl, b, _, rfl, .inl (.inl (sL _ _ he1)), fun L2 nL2 => ?_⟩
          rw [show ((d : Nat) : Int) + 1 = ((d + 1 : Nat) : Int) from by omega, cut_drop _ _ (by rw [List.length_map]; omega), ← List.map_drop]
          have sL2 := sL.trans (new_same nL2 (o := .lst ((es.drop (d + 1)).map V.ref)))
          refine ⟨L, L2, _, _, rfl, rfl, (new_same nL2) _ _ upd_same, upd_same, ?_, fun N2 nN2 => ?_⟩
          · rw [List.length_map, List.length_map, List.length_take, List.length_drop]
            exact Nat.le_of_lt (small1000 (by omega))
          rw [← List.map_append]
          have s5 := sL2.trans (new_same nN2 (o := .lst ((es.take d ++ es.drop (d + 1)).map V.ref)))
          refine ⟨by show 2 ≤ sizeLine; decide, fun T2 nT2 => ⟨by show 2 ≤ sizeLine; decide, fun R nR => ?_⟩⟩
          have s6 := s5.trans (new_same nT2 (o := .tup [.ref a, .ref N2]))
          have s7 := s6.trans (new_same nR (o := .lst [.ref m', .ref T2]))
          have s23 := s3.trans s5
          refine fin R m' dx' a' b' T2 N2 (nts.take d ++ nts.drop (d + 1)) _ (k12.fresh hp2 (s3.free (s6.free nR))) (k12.fresh hp2 nm) (k12.fresh hp2 na) (k12.fresh hp2 nb) (k12.fresh hp2 (s23.free nT2)) (k12.fresh hp2 (s3.free (sL2.free nN2))) upd_same (DA3.same s7) ⟨new_same nR _ _ upd_same, S3.towns.same s7, es.take d ++ es.drop (d + 1), ?_, ?_⟩ ⟨fun nt hm => ?_, ?_, fun x y PO => ⟨PO.ne, fun sm a0 b0 d0 hm => ?_⟩⟩ ((hp2.same (s3.trans s7)).more (by omega)) (k12.trans (Keep.of (s3.trans s7)))
          · rw [upd_ne (ne_of_none (new_same nT2 _ _ upd_same) nR), upd_ne (ne_of_none upd_same nT2), upd_same]
          · exact paired_imp (paired_app (paired_take he2 d) (paired_drop he2 (d + 1))) fun b0 u z => monoN.same s7 z
          · rcases List.mem_append.mp hm with z | z
            · exact gN nt (List.mem_of_mem_take z)
            · exact gN nt (List.mem_of_mem_drop z)
          · rw [List.length_append, List.length_take, List.length_drop]
            omega
          · rcases List.mem_append.mp hm with z | z
            · exact PO.all sm a0 b0 d0 (List.mem_of_mem_take z)
            · exact PO.all sm a0 b0 d0 (List.mem_of_mem_drop z)
        · have e3 : ¬ (most : Int) ≤ ((bs.map V.ref).length : Int) := fun z => e (decide_eq_true z)
          rw [List.length_map, lb] at e3
          omega
    · rintro sl G ⟨rfl, few1, hp1, k1, S1, D1⟩
      have inN : ∀ nt ∈ nts, ∀ u ∈ nt.mids, u ∈ ts.map nameOf := fun nt hn => (gN nt hn).inz
      have twoN : ∀ sm a b d, Nt.two sm a b d ∈ nts → a ≠ b := fun sm a b d hm => (gN _ hm).two sm a b d rfl
      refine ⟨_, rfl, q, a, b, ts, nts, rfl, S1, TS.good, by have := TS.few; omega, inN, twoN, fun is r G2 RO nr hr2 s2 => ?_⟩
      have S2 := S1.same s2
      have hp2 := hp1.same s2
      have k2 := k1.trans (Keep.of s2)
      refine ⟨_, rfl, _, rfl, q, _, 0, .ref a, rfl, rfl, .inl (.inl S2.tup), atI_nat (j := 0) rfl, _, rfl, _, rfl, _, rfl, q, _, 0, .ref a, rfl, rfl, .inl (.inl S2.tup), atI_nat (j := 0) rfl, p, a, _, ts.length, ts, rfl, hp2, by omega, t20, S2.towns, tT, fun ps e G3 lp good ne hE hp3 k3 => ?_⟩
      have S3 := S2.keep hp2 k3
      have pI := ranks_pairI RO
      have hr3 : G3 r = some (.lst (is.map V.int)) := k3 _ _ hr2 fun z => by
        obtain ⟨x1, y1, w1, e1, _⟩ := hp2
        rw [z, e1] at hr2
        rcases pI with rfl | ⟨u, v, rfl, _⟩
        · cases hr2
        · cases hr2
      refine ⟨p, a, r, e, _, ts.length, ts, is, ps, false, rfl, hp3, by omega, t1, t20, ⟨S3.towns, tT, hr3, pI, hE, lp, good⟩, fun row T G4 nrow pr nT hT hp4 k4 => ?_⟩
      obtain ⟨nt, rfl, gn⟩ := nrow.nt
      have k34 := (k2.trans k3).trans k4
      have S4 := S3.keep hp3 k4
      have D4 := ((D1.same s2).keep hp2 k3).keep hp3 k4
      refine ⟨_, rfl, m, dx, _, rfl, D4.ob, by rfl, _, rfl, m, dx, da, db, T, ts, nts, nt, rfl, D4, TS, by omega, gN, gn, hT, fun m' dx' a' b' G5 nm na nb DA5 s5 => ?_⟩
      have S5 := S4.same s5
      obtain ⟨es, he1, he2⟩ := S5.notes
      have le : es.length = nts.length := paired_len he2
      refine ⟨_, rfl, q, _, 0, .ref a, rfl, rfl, .inl (.inl S5.tup), atI_nat (j := 0) rfl, _, rfl, q, _, 1, .ref b, rfl, rfl, .inl (.inl S5.tup), atI_nat (j := 1) rfl, _, rfl, by show 1 ≤ sizeLine; decide, fun L nL => ?_⟩
      have sL := new_same nL (o := .lst [.ref T])
      refine ⟨b, L, _, _, rfl, rfl, sL _ _ he1, upd_same, ?_, fun N nN => ?_⟩
      · rw [List.length_map, le]
        exact Nat.le_of_lt (small1000 (by show nts.length + 1 ≤ 1000; omega))
      have s6 := sL.trans (new_same nN (o := .lst (es.map V.ref ++ [.ref T])))
      refine ⟨by show 2 ≤ sizeLine; decide, fun T2 nT2 => ⟨by show 2 ≤ sizeLine; decide, fun R nR => ?_⟩⟩
      have s7 := s6.trans (new_same nT2 (o := .tup [.ref a, .ref N]))
      have s8 := s7.trans (new_same nR (o := .lst [.ref m', .ref T2]))
      refine fin R m' dx' a' b' T2 N (nts ++ [nt]) _ (k34.fresh hp4 (s5.free (s7.free nR))) (k34.fresh hp4 nm) (k34.fresh hp4 na) (k34.fresh hp4 nb) (k34.fresh hp4 (s5.free (s6.free nT2))) (k34.fresh hp4 (s5.free (sL.free nN))) upd_same (DA5.same s8) ⟨new_same nR _ _ upd_same, S5.towns.same s8, es ++ [T], ?_, ?_⟩ ⟨fun x hm => ?_, ?_, fun x y PO => ranks_pair RO PO pr⟩ ((hp4.same (s5.trans s8)).more (by omega)) (k34.trans (Keep.of (s5.trans s8)))
      · rw [upd_ne (ne_of_none (new_same nT2 _ _ upd_same) nR), upd_ne (ne_of_none upd_same nT2), upd_same, List.map_append]
        rfl
      · exact paired_snoc (paired_imp he2 fun b0 u z => monoN.same s8 z) (s8 _ _ (s5 _ _ hT))
      · rcases List.mem_append.mp hm with z | z
        · exact gN x z
        · rw [List.mem_singleton.mp z]
          exact gn
      · rw [List.length_append]
        show nts.length + 1 ≤ most
        exact few1
end
end Md

namespace Md
open PySem PySem.Spec PyProof.Rows L2
abbrev sRight : Stmt := top 51
/-! ### the family of diaries and what was told of them -/
def Off (D1 D2 x : Addr) : Prop := x ≠ D1 ∧ x ≠ D2
def KeepX (p D1 D2 : Addr) (G G' : Hp) : Prop := ∀ b o, G b = some o → b ≠ p → b ≠ D1 → b ≠ D2 → G' b = some o
theorem KeepX.of {p D1 D2 : Addr} {G G' : Hp} (k : Keep p G G') : KeepX p D1 D2 G G' := fun b o h n _ _ => k b o h n
theorem KeepX.trans {p D1 D2 : Addr} {G G1 G2 : Hp} (k : KeepX p D1 D2 G G1) (l : KeepX p D1 D2 G1 G2) : KeepX p D1 D2 G G2 := fun b o h n1 n2 n3 => l b o (k b o h n1 n2 n3) n1 n2 n3
theorem KeepX.put1 {p D1 D2 : Addr} {G : Hp} {o : HO} : KeepX p D1 D2 G (upd G D1 o) := fun b u h _ n _ => by rw [upd_ne n]; exact h
theorem KeepX.put2 {p D1 D2 : Addr} {G : Hp} {o : HO} : KeepX p D1 D2 G (upd G D2 o) := fun b u h _ _ n => by rw [upd_ne n]; exact h
structure BaseX (p D1 D2 : Addr) (G : Hp) : Prop where
  purse : ∃ c, PurseAt G p c
  l1 : ∃ xs, G D1 = some (.lst xs)
  l2 : ∃ xs, G D2 = some (.lst xs)
section
variable {C p D1 D2 a l : Addr} {G G' : Hp} {ts rs : List (List V)}
theorem BaseX.tup (B : BaseX p D1 D2 G) (k : KeepX p D1 D2 G G') {b : Addr} {xs : List V} (h : G b = some (.tup xs)) : G' b = some (.tup xs) := by
  obtain ⟨c, p0, p1, p2, e1, _⟩ := B.purse
  obtain ⟨x1, e2⟩ := B.l1
  obtain ⟨x2, e3⟩ := B.l2
  exact k _ _ h (fun e => by rw [e, e1] at h; cases h) (fun e => by rw [e, e2] at h; cases h) (fun e => by rw [e, e3] at h; cases h)
theorem BaseX.ins (B : BaseX p D1 D2 G) (k : KeepX p D1 D2 G G') {b c dx : Addr} {fs : List (Str × V)} (h : G b = some (.ins c dx fs)) : G' b = some (.ins c dx fs) := by
  obtain ⟨c, p0, p1, p2, e1, _⟩ := B.purse
  obtain ⟨x1, e2⟩ := B.l1
  obtain ⟨x2, e3⟩ := B.l2
  exact k _ _ h (fun e => by rw [e, e1] at h; cases h) (fun e => by rw [e, e2] at h; cases h) (fun e => by rw [e, e3] at h; cases h)
theorem BaseX.refs (B : BaseX p D1 D2 G) (k : KeepX p D1 D2 G G') {b : Addr} {as : List Addr} (h : G b = some (.lst (as.map V.ref))) (o : Off D1 D2 b) : G' b = some (.lst (as.map V.ref)) := by
  obtain ⟨c, hp⟩ := B.purse
  exact k _ _ h (refs_ne hp h) o.1 o.2
theorem BaseX.strs (B : BaseX p D1 D2 G) (k : KeepX p D1 D2 G G') {b : Addr} {zs : List Str} (h : G b = some (.lst (zs.map V.str))) (o : Off D1 D2 b) : G' b = some (.lst (zs.map V.str)) := by
  obtain ⟨c, hp⟩ := B.purse
  exact k _ _ h (hp.apart h (strs_ne zs)) o.1 o.2
theorem BaseX.rows (B : BaseX p D1 D2 G) (k : KeepX p D1 D2 G G') (h : Rows G l rs) (o : Off D1 D2 l) : Rows G' l rs := by
  obtain ⟨as, h1, h2⟩ := h
  exact ⟨as, B.refs k h1 o, paired_imp h2 fun b r z => B.tup k z⟩
theorem BaseX.shat (B : BaseX p D1 D2 G) (k : KeepX p D1 D2 G G') {q b : Addr} {nts : List Nt} (h : ShAt G q a b ts nts) (oa : Off D1 D2 a) (ob : Off D1 D2 b) : ShAt G' q a b ts nts :=
  ⟨B.tup k h.tup, B.rows k h.towns oa, rows_lf (B.rows k (lf_rows h.notes) ob)⟩
def FX (C D1 D2 a : Addr) (ts : List (List V)) (G : Hp) (fb : Addr) (nts : List Nt) : Prop := ∃ m dx da db q b, G fb = some (.lst [.ref m, .ref q]) ∧ DiaryAt C G m dx da db ts (nts.map Nt.row) ∧ ShAt G q a b ts nts ∧ Off D1 D2 fb ∧ Off D1 D2 da ∧ Off D1 D2 db ∧ Off D1 D2 b
theorem FX.keep {fb : Addr} {nts : List Nt} (h : FX C D1 D2 a ts G fb nts) (B : BaseX p D1 D2 G) (oa : Off D1 D2 a) (k : KeepX p D1 D2 G G') : FX C D1 D2 a ts G' fb nts := by
  obtain ⟨m, dx, da, db, q, b, h1, h2, h3, o1, o2, o3, o4⟩ := h
  exact ⟨m, dx, da, db, q, b, B.refs (as := [m, q]) k h1 o1, ⟨B.ins k h2.ob, B.rows k h2.towns o2, B.rows k h2.notes o3⟩, B.shat k h3 oa o4, o1, o2, o3, o4⟩
def HX (D1 D2 : Addr) (zs : List Str) (G : Hp) (hb : Addr) (d : Option (List Nt)) : Prop := ∃ l1 l2, G hb = some (.lst [.ref l1, .ref l2]) ∧ Off D1 D2 hb ∧ Off D1 D2 l1 ∧ Off D1 D2 l2 ∧
  (∀ nts, d = some nts → Rows G l1 (nts.map Nt.row) ∧ Rows G l2 (nts.map Nt.row)) ∧ (d = none → G l1 = some (.lst (zs.map V.str)) ∧ G l2 = some (.lst (zs.map V.str)))
theorem HX.keep {hb : Addr} {zs : List Str} {d : Option (List Nt)} (h : HX D1 D2 zs G hb d) (B : BaseX p D1 D2 G) (k : KeepX p D1 D2 G G') : HX D1 D2 zs G' hb d := by
  obtain ⟨l1, l2, h1, o1, o2, o3, h2, h3⟩ := h
  exact ⟨l1, l2, B.refs (as := [l1, l2]) k h1 o1, o1, o2, o3, fun nts e => ⟨B.rows k (h2 nts e).1 o2, B.rows k (h2 nts e).2 o3⟩, fun e => ⟨B.strs k (h3 e).1 o2, B.strs k (h3 e).2 o3⟩⟩
end
def TsOk (sm : Bool) (ts : List (List V)) : Prop := TownsB ts ts.length ∧ 1 ≤ ts.length ∧ ts.length ≤ 20 ∧ (sm = true → ∀ r ∈ ts, HiLe 4 r)
structure NlOk (sm : Bool) (ts : List (List V)) (x y : Str) (nts : List Nt) : Prop where
  notes : ∀ nt ∈ nts, NtG (ts.map nameOf) nt
  few : nts.length ≤ if sm = true then 6 else 60
  pair : sm = true → PairOf nts x y
theorem NlOk.few60 {sm : Bool} {ts : List (List V)} {x y : Str} {nts : List Nt} (h : NlOk sm ts x y nts) : nts.length ≤ 60 := by
  have := h.few
  split at this <;> omega
theorem sms_of {ts : List (List V)} {x y : Str} {nts : List Nt} (T : TsOk true ts) (h : NlOk true ts x y nts) : SmS ts nts x y := by
  refine ⟨fun r hr => ⟨(T.1.2.2 r hr).r, ?_⟩, T.1.2.1, fun nt hn => ⟨fun u hu => towns_names T.1.2.2 u ((h.notes nt hn).inz u hu), (h.notes nt hn).day0, (h.notes nt hn).day1⟩, fun nt hn => (h.notes nt hn).inz, h.pair rfl, by have := T.2.2.1; omega, by have := h.few60; omega⟩
  obtain ⟨z, lo, hi, rfl, h4⟩ := T.2.2.2 rfl r hr
  show hi ≤ 12
  omega
theorem keep_put {p F : Addr} {H G : Hp} {o : HO} (k : Keep p H G) (n : H F = none) : Keep p H (upd G F o) := fun b u h ne => by
  rw [upd_ne (ne_of_none h n)]
  exact k b u h ne
def sheetD (ts ns : List (List V)) : PyData := .tuple [.list (ts.map rowD), .list (ns.map rowD)]
theorem sheet_nice {ts ns : List (List V)} (h1 : ∀ r ∈ ts, RowF r) (h2 : ∀ r ∈ ns, RowF r) (l1 : ts.length ≤ 20) (l2 : ns.length ≤ 60) : Nice (sheetD ts ns) 3 5000 := by
  have a := (rows_nice h1).more (Nat.le_refl 2) (show 37 * ts.length ≤ 2300 by omega)
  have b := (rows_nice h2).more (Nat.le_refl 2) (show 37 * ns.length ≤ 2300 by omega)
  refine (Nice.tuple (ds := [.list (ts.map rowD), .list (ns.map rowD)]) (dep := 2) (b := 2300) fun d hd => ?_).more (Nat.le_refl _) (by simp)
  have q : d = .list (ts.map rowD) ∨ d = .list (ns.map rowD) := by simpa using hd
  rcases q with rfl | rfl
  · exact a
  · exact b
theorem sheetD_dp {K : PySem.W.Frag} {H : Hp} {q a b : Addr} {ts ns : List (List V)} (h1 : ∀ r ∈ ts, RowF r) (h2 : ∀ r ∈ ns, RowF r) (hq : H q = some (.tup [.ref a, .ref b])) (ha : Rows H a ts) (hb : Rows H b ns) : Dp K H (.ref q) (sheetD ts ns) :=
  .tup (.inl (.inl hq)) (.cons (rows_dp ha h1) (.cons (rows_dp hb h2) .nil))
theorem NlOk.flat {sm : Bool} {ts : List (List V)} {x y : Str} {nts : List Nt} (h : NlOk sm ts x y nts) (T : TsOk sm ts) : ∀ r ∈ nts.map Nt.row, RowF r := fun r hr => (nts_r h.notes r hr).flat (towns_names T.1.2.2)
/-- the law's two lists, and what stands in them -/
structure Fam (C p q0 F0 He a b0 : Addr) (sm : Bool) (ts : List (List V)) (x y : Str) (nts0 : List Nt) (H G : Hp) (n : Nat) (fs hs : List Addr) (nl : List (List Nt)) (hl : List (Option (List Nt))) : Prop where
  f : G F0 = some (.lst (fs.map V.ref))
  pf : Paired (FX C F0 He a ts G) fs nl
  h : G He = some (.lst (hs.map V.ref))
  ph : Paired (HX F0 He (ts.map nameOf) G) hs hl
  first : nl[0]? = some nts0
  okN : ∀ nts ∈ nl, NlOk sm ts x y nts
  okH : ∀ d ∈ hl, ∀ nts, d = some nts → NlOk sm ts x y nts
  sh : ShAt G q0 a b0 ts nts0
  offA : Off F0 He a
  offB : Off F0 He b0
  neq : F0 ≠ He
  purse : PurseAt G p n
  keep : Keep p H G
  n1 : H F0 = none
  n2 : H He = none
section
variable {C p q0 F0 He a b0 : Addr} {sm : Bool} {ts : List (List V)} {x y : Str} {nts0 nts : List Nt} {H G G' : Hp} {n n' : Nat} {fs hs : List Addr} {nl : List (List Nt)} {hl : List (Option (List Nt))} {fb hb : Addr} {d : Option (List Nt)}
theorem Fam.base (M : Fam C p q0 F0 He a b0 sm ts x y nts0 H G n fs hs nl hl) : BaseX p F0 He G := ⟨⟨n, M.purse⟩, ⟨_, M.f⟩, ⟨_, M.h⟩⟩
theorem Fam.move (M : Fam C p q0 F0 He a b0 sm ts x y nts0 H G n fs hs nl hl) (k : KeepX p F0 He G G') : Paired (FX C F0 He a ts G') fs nl ∧ Paired (HX F0 He (ts.map nameOf) G') hs hl ∧ ShAt G' q0 a b0 ts nts0 :=
  ⟨paired_imp M.pf fun b r z => z.keep M.base M.offA k, paired_imp M.ph fun b r z => z.keep M.base k, M.base.shat k M.sh M.offA M.offB⟩
theorem Fam.step (M : Fam C p q0 F0 He a b0 sm ts x y nts0 H G n fs hs nl hl) (k : Keep p G G') (hp : PurseAt G' p n') : Fam C p q0 F0 He a b0 sm ts x y nts0 H G' n' fs hs nl hl := by
  obtain ⟨m1, m2, m3⟩ := M.move (KeepX.of k)
  exact ⟨k _ _ M.f (refs_ne M.purse M.f), m1, k _ _ M.h (refs_ne M.purse M.h), m2, M.first, M.okN, M.okH, m3, M.offA, M.offB, M.neq, hp, M.keep.trans k, M.n1, M.n2⟩
theorem Fam.same (M : Fam C p q0 F0 He a b0 sm ts x y nts0 H G n fs hs nl hl) (s : Same G G') : Fam C p q0 F0 He a b0 sm ts x y nts0 H G' n fs hs nl hl := M.step (Keep.of s) (M.purse.same s)
theorem Fam.more (M : Fam C p q0 F0 He a b0 sm ts x y nts0 H G n fs hs nl hl) (e : n ≤ n') : Fam C p q0 F0 He a b0 sm ts x y nts0 H G n' fs hs nl hl := { M with purse := M.purse.more e }
theorem Fam.pushF (M : Fam C p q0 F0 He a b0 sm ts x y nts0 H G n fs hs nl hl) (hX : FX C F0 He a ts G fb nts) (ok : NlOk sm ts x y nts) : Fam C p q0 F0 He a b0 sm ts x y nts0 H (upd G F0 (.lst (fs.map V.ref ++ [.ref fb]))) n (fs ++ [fb]) hs (nl ++ [nts]) hl := by
  obtain ⟨m1, m2, m3⟩ := M.move (KeepX.put1 (o := .lst (fs.map V.ref ++ [.ref fb])))
  have np : F0 ≠ p := refs_ne M.purse M.f
  refine ⟨by rw [upd_same, List.map_append]; rfl, paired_snoc m1 (hX.keep M.base M.offA KeepX.put1), by rw [upd_ne M.neq.symm]; exact M.h, m2, ?_, fun z hz => ?_, M.okH, m3, M.offA, M.offB, M.neq, ?_, keep_put M.keep M.n1, M.n1, M.n2⟩
  · have h0 := (List.getElem?_eq_some_iff.mp M.first).1
    rw [List.getElem?_append_left h0]
    exact M.first
  · rcases List.mem_append.mp hz with w | w
    · exact M.okN z w
    · rw [List.mem_singleton.mp w]
      exact ok
  · obtain ⟨a1, a2, a3, e, r⟩ := M.purse
    exact ⟨a1, a2, a3, by rw [upd_ne np.symm]; exact e, r⟩
theorem Fam.pushH (M : Fam C p q0 F0 He a b0 sm ts x y nts0 H G n fs hs nl hl) (hX : HX F0 He (ts.map nameOf) G hb d) (ok : ∀ nts, d = some nts → NlOk sm ts x y nts) : Fam C p q0 F0 He a b0 sm ts x y nts0 H (upd G He (.lst (hs.map V.ref ++ [.ref hb]))) n fs (hs ++ [hb]) nl (hl ++ [d]) := by
  obtain ⟨m1, m2, m3⟩ := M.move (KeepX.put2 (o := .lst (hs.map V.ref ++ [.ref hb])))
  have np : He ≠ p := refs_ne M.purse M.h
  refine ⟨by rw [upd_ne M.neq]; exact M.f, m1, by rw [upd_same, List.map_append]; rfl, paired_snoc m2 (hX.keep M.base KeepX.put2), M.first, M.okN, fun z hz => ?_, m3, M.offA, M.offB, M.neq, ?_, keep_put M.keep M.n2, M.n1, M.n2⟩
  · rcases List.mem_append.mp hz with w | w
    · exact M.okH z w
    · rw [List.mem_singleton.mp w]
      exact ok
  · obtain ⟨a1, a2, a3, e, r⟩ := M.purse
    exact ⟨a1, a2, a3, by rw [upd_ne np.symm]; exact e, r⟩
/-- a new address is none of the two lists -/
theorem Fam.off (M : Fam C p q0 F0 He a b0 sm ts x y nts0 H G n fs hs nl hl) {l : Addr} (e : G l = none) : Off F0 He l := ⟨(fun z => by rw [z, M.f] at e; cases e), (fun z => by rw [z, M.h] at e; cases e)⟩
end
theorem ulm_town {d : Int} (h0 : 0 ≤ d) (h1 : d < 8) : TownB [.str "ulm", .int 1, .int (1 + d)] := ⟨"ulm", 1, 1 + d, rfl, by decide +kernel, by decide +kernel, by omega, by omega, by omega⟩
theorem cut_take2 (xs : List V) (i : Nat) : cutV xs none (some (i : Int)) = xs.take i := by
  unfold cutV
  rw [HT.sIx_none, HT.sIx_nat, List.drop_zero, Nat.sub_zero]
  rcases Nat.le_total i xs.length with h | h
  · rw [Nat.min_eq_left h]
  · rw [Nat.min_eq_right h, List.take_of_length_le (Nat.le_refl _), List.take_of_length_le h]
/-! ### a call by names alone -/
section
variable {X : Cx} {CX : CXT} {k : Nat} {f : Addr} {fd : FuncData} {ps ks : List Str} {sp : Sp} {E : XK} {x : Str} {p pos : Pos} {kws : List Keyword} {tk : TA} {g : List Value → List Value → List Value} {gV : List V → List V → List V}
theorem pe_callK0 (F : FnOk X.prog X.w X.K X.mg X.base CX k f fd ps sp) (hr : Room k X.A) (hg : Gl X x) (hm : X.mg x = some (.ref f)) (hk : PySem.W.keepIn X.K (.ref f) = true) (hb : KBinds X.K fd ps ks g gV) (hx : Passes CX X E)
    (hkw : PK X kws tk) (hall : (backToKw pos (keywordEach kws X.env)).all (·.1.isSome) = true := by rfl) (hks : (backToKw pos (keywordEach kws X.env)).filterMap (·.1) = ks := by rfl)
    (hdb : (x == ("__debug__" : Str)) = false := by decide) (hpl : ((backTo pos (starEach [] X.env)).any (·.1) || (backToKw pos (keywordEach kws X.env)).any (·.1.isNone)) = false := by rfl) :
    PE X (.Call (.Name x p) [] kws pos) (tCallK sp gV E tNil tk) := by
  refine ⟨fun pins s σ H Q I h => ?_⟩
  refine wpAny_Call_Name_kw (ld_glob I hg hm ?_ hdb)
  refine PySem.W.callWith_KW0 (h₀ := X.base) I.ok.mod.kin hk hall ?_ hpl
  refine thn (hkw.run pos pins s σ H _ I h) fun ws s2 ⟨zs, H2, I2, rz, q2⟩ => ⟨I2.kIn, ?_⟩
  rw [hks]
  exact run_fnk F hr hb hx I2 .nil rz q2
end
/-- a def that shows data, as its callers see it -/
structure GAt (P : Program) (w : World) (K : PySem.W.Frag) (mg : Str → Option Value) (base : Heap) (x : Str) (f : Addr) (fd : FuncData) (ps : List Str) (n : Nat) (sp : Sp) : Prop where
  ok : ∀ k, FnG P w K mg base CX0 (k + n) f fd ps sp
  mg : mg x = some (.ref f)
  kp : PySem.W.keepIn K (.ref f) = true
  b : Binds K fd ps []
section
variable {P : Program} {w : World} {K : PySem.W.Frag} {mg : Str → Option Value} {base : Heap}
theorem number_kb {f : Addr} {fd : FuncData} (F : Fun K "number_of_cases" "number_of_cases" sNumber f fd) : KBinds K fd ["diary"] ["diary"] (fun us ws => us ++ ws) (fun vs zs => vs ++ zs) := by
  obtain ⟨oc, od, kV, doc, pm, an, cdv, ct, osl, rfl, lk, hcd⟩ := F.ex
  refine ⟨fun s us ws X l => match us, ws, l with | [], [_], _ => .of_eq rfl | [_], [], _ => .of_eq rfl, fun r1 r2 => paired_app r1 r2⟩
def spRight : Sp := fun vs H Q _ => ∃ (p : Addr) (c : Nat), vs = [.ref p] ∧ PurseAt H p c ∧ c ≤ 10000 ∧ ∀ H', Keep p H H' → Q (.bl true) H'
abbrev nRight : List Str := ["purse", "is_small", "sheet", "family", "held", "turn", "made", "elder", "start", "told", "due", "place"]
theorem scRight : FnScope nRight ["purse"] (defScope sRight) := ⟨rfl, rfl, rfl, by decide +kernel, rfl, by decide +kernel, by decide +kernel⟩
theorem ok_right {f fC fS fW fM fN fO fH C pT gT pN gN fA fL : Addr} {fd fdC fdS fdW fdM fdN fdO fdH dT dN dA dL : FuncData} {k : Nat} (F : Fun K "_law_right" "_law_right" sRight f fd) (CN : CoinAt P w K mg base fC fdC) (SH : DefAt P w K mg base "_law_mk_sheet" fS fdS ["purse", "count", "top", "size"] 4 spSheet) (WD : DefAt P w K mg base "_law_mk_wide" fW fdW ["purse"] 4 spWide)
    (MA : DefAt P w K mg base "_law_mk_made" fM fdM ["sheet"] 5 (spMade0 C)) (NU : DefAt P w K mg base "number_of_cases" fN fdN ["diary"] 6 (spNumber C)) (KN : KBinds K fdN ["diary"] ["diary"] (fun us ws => us ++ ws) (fun vs zs => vs ++ zs)) (CO : DefAt P w K mg base "_law_mk_count" fO fdO ["sheet"] 5 spCount)
    (CH : DefAt P w K mg base "_law_mk_child" fH fdH ["purse", "made", "sheet", "most"] 6 (spChild C)) (D : Tell P w K mg base C pT gT pN gN fA fL dT dN dA dL) (B : Blt mg) : FnG P w K mg base CX0 (k + 7) f fd ["purse"] spRight := by
  have GC := CN.ok (k + 5)
  have GS := SH.ok (k + 2)
  have GW := WD.ok (k + 2)
  have GM := MA.ok (k + 1)
  have GN := NU.ok k
  have GO := CO.ok (k + 1)
  have GH := CH.ok k
  refine okG F scRight (fun vs H Q E h => ?_) (fun cdv A outer s H vs Q E g hr h => ?_)
  · obtain ⟨p, c, rfl, _⟩ := h
    rfl
  · obtain ⟨p, c, rfl, hp, hc, fin⟩ := h
    have nd := scRight.nd
    refine ⟨_, pss_cons (ps_set (i := 1) nd rfl (.inl rfl) (pe_cmpR op_eq (pe_call GC hr (by rfl) CN.mg CN.kp CN.b .nil pass0 (pa_cons (pv 0) (pa_cons pe_int pa_nil))) pe_int (nomark _)))
      (C8.pss_cut (ps_set (i := 2) nd rfl (.inl rfl) (pe_ifExp (pt_val (pv 1)) (pe_call GS hr (by rfl) SH.mg SH.kp SH.b .nil pass0 (pa_cons (pv 0) (pa_cons pe_int (pa_cons pe_int (pa_cons pe_int pa_nil))))) (pe_call GW hr (by rfl) WD.mg WD.kp WD.b .nil pass0 (pa_cons (pv 0) pa_nil))))
      (C8.pss_cut (ps_if (pt_cmpR (op_eqD hr.units) (pe_ix (r := rIxT K) ix_tup (pv 2) pe_int (fun _ _ => rfl)) (pe_lst pa_nil) (nomark _)) (pss_one (ps_set (i := 2) nd rfl (.inl rfl) (pe_tup (pa_cons (pe_lst (pa_cons (pe_tup (pa_cons pe_str (pa_cons pe_int (pa_cons (pe_op op_add pe_int (pe_call GC hr (by rfl) CN.mg CN.kp CN.b .nil pass0 (pa_cons (pv 0) (pa_cons pe_int pa_nil)))) pa_nil)))) pa_nil)) (pa_cons (pe_lst pa_nil) pa_nil))))) pss_nil)
      (pss_cons (ps_set (i := 2) nd rfl (.inl rfl) (pe_tup (pa_cons (pe_ix (r := rIxT K) ix_tup (pv 2) pe_int (fun _ _ => rfl)) (pa_cons (pe_slice sl_list (pe_ix (r := rIxT K) ix_tup (pv 2) pe_int (fun _ _ => rfl)) po_none (po_some pe_int)) pa_nil))))
      (pss_cons (ps_par (i := 3) (j := 4) rfl nd rfl rfl (by decide) rfl rfl (pa_cons (pe_lst (pa_cons (pe_lst (pa_cons (pe_call GM hr (by rfl) MA.mg MA.kp MA.b .nil pass0 (pa_cons (pv 2) pa_nil)) (pa_cons (pv 2) pa_nil))) pa_nil)) (pa_cons (pe_lst pa_nil) pa_nil)) (by rfl))
      (pss_cons (ps_for PassesOwn.never rfl (pi_range1 rfl B.range (pa_cons pe_int pa_nil)) (pg_name (i := 5) nd rfl (.inl rfl))
        (pss_cons (ps_asg (pe_ix ix_list (pv 3) (pe_call GC hr (by rfl) CN.mg CN.kp CN.b .nil pass0 (pa_cons (pv 0) (pa_cons (pe_callB call_len_seq (by rfl) B.len PySem.boot_len (pa_cons (pv 3) pa_nil)) pa_nil))) (fun _ _ => rfl)) (pg_lst (by rfl) (pgs_cons (pg_name (i := 6) nd rfl (.inl rfl)) (pgs_cons (pg_name (i := 7) nd rfl (.inl rfl)) pgs_nil))))
        (C8.pss_cut (ps_if (PW.pt (pw_and (pt_val (pv 1)) (pw_and1 (pt_cmpR op_eq (pe_call GC hr (by rfl) CN.mg CN.kp CN.b .nil pass0 (pa_cons (pv 0) (pa_cons pe_int pa_nil))) pe_int (nomark _)))))
          (pss_one (ps_if (pt_cmpR op_ne (pe_call GN hr (by rfl) NU.mg NU.kp NU.b .nil pass0 (pa_cons (pv 6) pa_nil)) (pe_call GO hr (by rfl) CO.mg CO.kp CO.b .nil pass0 (pa_cons (pv 7) pa_nil)) (nomark _)) (pss_one ps_never) pss_nil)) pss_nil)
        (pss_cons (ps_expr (pe_bm PySem.F.plainAttrs_list PySem.F.slot_list_append PySem.F.type_list_append mt_append (pv 4) (pa_cons (pe_lst (pa_cons (pe_prop (pv 6) D.cl.cl D.pN (D.oN (k + 4)) hr D.bN .nil pass0 (by rfl)) (pa_cons (pe_callTy call_list_of (by rfl) B.list (by decide +kernel) (pa_cons (pe_ix (r := rIxT K) ix_tup (pv 7) pe_int (fun _ _ => rfl)) pa_nil)) pa_nil))) pa_nil)))
        (pss_cons (ps_expr (pe_bm PySem.F.plainAttrs_list PySem.F.slot_list_append PySem.F.type_list_append mt_append (pv 4) (pa_cons (pe_lst (pa_cons (pe_meth0 (pv 6) D.cl.cl D.mA (D.oA (k + 5)) hr D.bA .nil pass0)
            (pa_cons (pe_lc (own := [("place", 11)]) (g := gName 11) (tt := tYes) rfl nd (pi_list (pe_ix (r := rIxT K) ix_tup (pv 7) pe_int (fun _ _ => rfl))) (blkOk_by (N := nRight) (sc := defScope sRight) (by decide +kernel)) (fun _ _ _ _ _ => pg_name (i := 11) nd rfl (.inl rfl)) (fun _ _ _ _ _ => pts_nil)
              (fun _ _ _ _ _ => pe_ix (r := rIxT K) ix_tup (pv 11) pe_int (fun _ _ => rfl))) pa_nil))) pa_nil)))
        (pss_one (ps_expr (pe_bm PySem.F.plainAttrs_list PySem.F.slot_list_append PySem.F.type_list_append mt_append (pv 3) (pa_cons (pe_call GH hr (by rfl) CH.mg CH.kp CH.b .nil pass0 (pa_cons (pv 0) (pa_cons (pv 6) (pa_cons (pv 7) (pa_cons (pe_ix ix_list (pe_lst (pa_cons pe_int (pa_cons pe_int pa_nil))) (pe_callTy call_int1 (by rfl) B.int (by decide +kernel) (pa_cons (pv 1) pa_nil)) (fun _ _ => rfl)) pa_nil))))) pa_nil)))))))))
      (pss_cons (ps_set (i := 8) nd rfl (.inl rfl) (pe_call GC hr (by rfl) CN.mg CN.kp CN.b .nil pass0 (pa_cons (pv 0) (pa_cons (pe_callB call_len_seq (by rfl) B.len PySem.boot_len (pa_cons (pv 3) pa_nil)) pa_nil))))
      (pss_cons (ps_for PassesOwn.never rfl (pi_list (pe_op op_cat (pe_slice sl_list (pv 3) (po_some (pv 8)) po_none) (pe_slice sl_list (pv 3) po_none (po_some (pv 8))))) (pg_lst (by rfl) (pgs_cons (pg_name (i := 6) nd rfl (.inl rfl)) (pgs_cons (pg_name (i := 7) nd rfl (.inl rfl)) pgs_nil)))
        (pss_cons (ps_if (PW.pt (pw_or (pt_cmpR op_ne (pe_callB (call_repr g hr.units) (by rfl) B.repr (by decide +kernel) (pa_cons (pe_tup (pa_cons (pe_prop (pv 6) D.cl.cl D.pT (D.oT (k + 4)) hr D.bT .nil pass0 (by rfl)) (pa_cons (pe_prop (pv 6) D.cl.cl D.pN (D.oN (k + 4)) hr D.bN .nil pass0 (by rfl)) pa_nil))) pa_nil))
            (pe_callB (call_repr g hr.units) (by rfl) B.repr (by decide +kernel) (pa_cons (pe_tup (pa_cons (pe_ix (r := rIxT K) ix_tup (pv 7) pe_int (fun _ _ => rfl)) (pa_cons (pe_ix (r := rIxT K) ix_tup (pv 7) pe_int (fun _ _ => rfl)) pa_nil))) pa_nil)) (nomark _))
            (pw_or1 (pt_cmpR op_ne (pe_callB (call_lenOwn D.mL (D.oL (k + 4)) hr D.bL) (by rfl) B.len PySem.boot_len (pa_cons (pv 6) pa_nil)) (pe_callB call_len_seq (by rfl) B.len PySem.boot_len (pa_cons (pe_ix (r := rIxT K) ix_tup (pv 7) pe_int (fun _ _ => rfl)) pa_nil)) (nomark _)))))
          (pss_one ps_never) pss_nil)
        (pss_one (ps_if (PW.pt (pw_and (pt_val (pv 1)) (pw_and1 (pt_cmpR op_ne (pe_callK0 GN hr (by rfl) NU.mg NU.kp KN pass0 (pk_cons (pv 6) pk_nil)) (pe_call GO hr (by rfl) CO.mg CO.kp CO.b .nil pass0 (pa_cons (pv 7) pa_nil)) (nomark _))))) (pss_one ps_never) pss_nil))))
      (pss_cons (ps_for PassesOwn.never rfl (pi_list (pv 4)) (pg_lst (by rfl) (pgs_cons (pg_name (i := 9) nd rfl (.inl rfl)) (pgs_cons (pg_name (i := 10) nd rfl (.inl rfl)) pgs_nil)))
        (pss_one (ps_if (pt_cmpR op_ne (pe_callB (call_repr g hr.units) (by rfl) B.repr (by decide +kernel) (pa_cons (pv 9) pa_nil)) (pe_callB (call_repr g hr.units) (by rfl) B.repr (by decide +kernel) (pa_cons (pv 10) pa_nil)) (nomark _)) (pss_one ps_never) pss_nil)))
      (pss_one (ps_ret (pe_cmpR op_eq (pe_callB (call_repr g hr.units) (by rfl) B.repr (by decide +kernel) (pa_cons (pe_prop (pe_ix ix_list (pe_ix ix_list (pv 3) pe_int (fun _ _ => rfl)) pe_int (fun _ _ => rfl)) D.cl.cl D.pN (D.oN (k + 4)) hr D.bN .nil pass0 (by rfl)) pa_nil))
        (pe_callB (call_repr g hr.units) (by rfl) B.repr (by decide +kernel) (pa_cons (pe_ix (r := rIxT K) ix_tup (pv 2) pe_int (fun _ _ => rfl)) pa_nil)) (nomark _)))))))))))), ?_⟩
    refine ⟨_, rfl, p, c, 2, rfl, hp, by omega, by decide, by decide, fun d0 G1 _ _ hp1 k1 => ⟨rfl, ?_⟩⟩
    generalize decide (V.int d0 = V.int 0) = sm
    refine ⟨fun sl G => ∃ ts nts x y q a b, sl = [some (.ref p), some (.bl sm), some (.ref q), none, none, none, none, none, none, none, none, none] ∧ ShAt G q a b ts nts ∧ TownsB ts ts.length ∧ ts.length ≤ 20 ∧ (sm = true → 1 ≤ ts.length ∧ ∀ r ∈ ts, HiLe 4 r) ∧ NlOk sm ts x y nts ∧ PurseAt G p (c + 3100) ∧ Keep p H G, ?_, ?_⟩
    · refine ⟨_, rfl, sm, rfl, ?_⟩
      cases sm with
      | true =>
        refine iteT ⟨_, rfl, p, _, rfl, hp1, by omega, fun ts nts x y q a b G2 SD l4 nq S hp2 k2 => ?_⟩
        exact ⟨ts, nts, x, y, q, a, b, rfl, S, SD.towns, by have := SD.few; omega, fun _ => ⟨SD.few.1, SD.low⟩, ⟨SD.notes, by show nts.length ≤ 6; omega, fun _ => SD.pair⟩, hp2.more (by omega), k1.trans k2⟩
      | false =>
        refine iteF ⟨_, rfl, p, _, rfl, hp1, by omega, fun ts ns q a b G2 SD nq hq hA hB hp2 k2 => ?_⟩
        obtain ⟨nts, rfl, gN⟩ := rows_nts SD.notes
        have l60 := SD.few2
        rw [List.length_map] at l60
        exact ⟨ts, nts, "a", "b", q, a, b, rfl, ⟨hq, hA, rows_lf hB⟩, ⟨rfl, SD.nodup, SD.towns⟩, SD.few, (fun e => nomatch e), ⟨gN, l60, (fun e => nomatch e)⟩, hp2.more (by omega), k1.trans k2⟩
    rintro sl G2 ⟨ts, nts, x, y, q, a, b, rfl, S, tT, t20, low, NO, hp2, k2⟩
    refine ⟨fun sl G => ∃ ts nts x y q a b, sl = [some (.ref p), some (.bl sm), some (.ref q), none, none, none, none, none, none, none, none, none] ∧ ShAt G q a b ts nts ∧ TsOk sm ts ∧ NlOk sm ts x y nts ∧ PurseAt G p (c + 3200) ∧ Keep p H G, ?_, ?_⟩
    · have flatT : ∀ r ∈ ts, RowF r := fun r hr => (tT.2.2 r hr).flat
      refine ⟨_, rfl, q, _, 0, .ref a, rfl, rfl, .inl (.inl S.tup), atI_nat (j := 0) rfl, Nat.zero_le _, fun N nN => ⟨.list (ts.map rowD), .list [], rows_dp (S.towns.new nN) flatT, .lst (.inl (.inl upd_same)) .nil, (rows_nice flatT).shaped (by decide), by rfl, _, rfl, ?_⟩⟩
      rw [empty_eqv, List.isEmpty_map]
      have sN : Same G2 (upd G2 N (.lst [])) := new_same nN
      by_cases e0 : ts.isEmpty = true
      · rw [e0]
        have hsm : sm = false := by
          cases hs : sm with
          | false => rfl
          | true =>
            have := (low hs).1
            cases ts with
            | nil => cases this
            | cons _ _ => cases e0
        refine iteT ⟨_, rfl, p, _, 8, rfl, hp2.same sN, by omega, by decide, by decide, fun d G3 d1 d2 hp3 k3 => ⟨_, _, rfl, rfl, by show 3 ≤ sizeLine; decide, fun T nT => ⟨by show 1 ≤ sizeLine; decide, fun L nL => ⟨Nat.zero_le _, fun L2 nL2 => ⟨by show 2 ≤ sizeLine; decide, fun T2 nT2 => ?_⟩⟩⟩⟩⟩
        have s1 := new_same nT (o := .tup [.str "ulm", .int 1, .int (1 + d)])
        have s2 := new_same nL (o := .lst [.ref T])
        have s3 := new_same nL2 (o := .lst [])
        have s4 := new_same nT2 (o := .tup [.ref L, .ref L2])
        refine ⟨[[.str "ulm", .int 1, .int (1 + d)]], [], "a", "b", T2, L, L2, rfl, ⟨upd_same, ⟨[T], s4 _ _ (s3 _ _ upd_same), .cons (s4 _ _ (s3 _ _ (s2 _ _ upd_same))) .nil⟩, [], s4 _ _ upd_same, .nil⟩, ⟨⟨rfl, by simp, fun r hr => by rw [List.mem_singleton.mp hr]; exact ulm_town d1 d2⟩, by show 1 ≤ 1; decide, by show 1 ≤ 20; decide, fun e => by rw [hsm] at e; cases e⟩,
          ⟨(fun nt hn => nomatch hn), Nat.zero_le _, fun e => by rw [hsm] at e; cases e⟩, (hp3.same (((s1.trans s2).trans s3).trans s4)).more (by omega), (k2.trans ((Keep.of sN).trans k3)).trans (Keep.of (((s1.trans s2).trans s3).trans s4))⟩
      · rw [Bool.eq_false_iff.mpr e0]
        have t1 : 1 ≤ ts.length := by
          cases ts with
          | nil => exact absurd rfl e0
          | cons _ _ => exact Nat.succ_le_succ (Nat.zero_le _)
        exact iteF ⟨ts, nts, x, y, q, a, b, rfl, S.same sN, ⟨tT, t1, t20, fun e => (low e).2⟩, NO, (hp2.same sN).more (by omega), k2.trans (Keep.of sN)⟩
    clear NO low t20 tT S hp2 k2
    rintro sl G3 ⟨ts, nts, x, y, q, a, b, rfl, S, TO, NO, hp3, k3⟩
    obtain ⟨bs, hb1, hb2⟩ := S.notes
    have lb : bs.length = nts.length := paired_len hb2
    refine ⟨_, rfl, q, _, 0, .ref a, rfl, rfl, .inl (.inl S.tup), atI_nat (j := 0) rfl, _, rfl, q, _, 1, .ref b, rfl, rfl, .inl (.inl S.tup), atI_nat (j := 1) rfl, 58, rfl, b, _, rfl, .inl (.inl hb1), fun b0 nb0 => ?_⟩
    rw [show cutV (bs.map V.ref) none (some 58) = (bs.take 58).map V.ref from by rw [show (58 : Int) = ((58 : Nat) : Int) from rfl, cut_take2, List.map_take]]
    refine ⟨by show 2 ≤ sizeLine; decide, fun q0 nq0 => ?_⟩
    have s1 := new_same nb0 (o := .lst ((bs.take 58).map V.ref))
    have s2 := new_same nq0 (o := .tup [.ref a, .ref b0])
    have S0 : ShAt (upd (upd G3 b0 (.lst ((bs.take 58).map V.ref))) q0 (.tup [.ref a, .ref b0])) q0 a b0 ts (nts.take 58) := ⟨upd_same, S.towns.same (s1.trans s2), bs.take 58, s2 _ _ upd_same, paired_take (paired_imp hb2 fun b u z => monoN.same (s1.trans s2) z) 58⟩
    have NO0 : NlOk sm ts x y (nts.take 58) := ⟨fun nt hn => NO.notes nt (List.mem_of_mem_take hn), Nat.le_trans (by rw [List.length_take]; omega) NO.few, fun e => ⟨(NO.pair e).ne, fun sm2 a2 b2 d2 hm => (NO.pair e).all sm2 a2 b2 d2 (List.mem_of_mem_take hm)⟩⟩
    have l58 : (nts.take 58).length ≤ 58 := by rw [List.length_take]; omega
    have hp4 := hp3.same (s1.trans s2)
    have k4 := k3.trans (Keep.of (s1.trans s2))
    revert S0 NO0 l58 hp4 k4
    generalize nts.take 58 = nts0
    generalize (upd (upd G3 b0 (.lst ((bs.take 58).map V.ref))) q0 (.tup [.ref a, .ref b0])) = G4
    intro S0 NO0 l58 hp4 k4
    -- the first of the family
    refine ⟨_, rfl, q0, a, b0, ts, nts0, rfl, S0, TO.1.g (by have := TO.2.2.1; omega), by omega, NO0.notes, fun m dx da db G5 nm nda ndb DA s5 => ⟨_, rfl, by show 2 ≤ sizeLine; decide, fun f0 nf0 => ⟨by show 1 ≤ sizeLine; decide, fun F0 nF => ⟨Nat.zero_le _, fun He nHe => ⟨_, _, rfl, ?_⟩⟩⟩⟩⟩
    have sf := new_same nf0 (o := .lst [.ref m, .ref q0])
    have sF := new_same nF (o := .lst [.ref f0])
    have sH := new_same nHe (o := .lst [])
    have s8 := (sf.trans sF).trans sH
    have neFH : F0 ≠ He := ne_of_none upd_same nHe
    have offof : ∀ (l : Addr) (o : HO), G5 l = some o → Off F0 He l := fun l o h => ⟨ne_of_none (sf _ _ h) nF, ne_of_none ((sf.trans sF) _ _ h) nHe⟩
    have M0 : Fam C p q0 F0 He a b0 sm ts x y nts0 H (upd (upd (upd G5 f0 (.lst [.ref m, .ref q0])) F0 (.lst [.ref f0])) He (.lst [])) (c + 3300) [f0] [] [nts0] [] := by
      have S5 := S0.same s5
      obtain ⟨ta, ta1, _⟩ := S5.towns
      obtain ⟨tb, tb1, _⟩ := S5.notes
      obtain ⟨tc, tc1, _⟩ := DA.towns
      obtain ⟨td, td1, _⟩ := DA.notes
      refine ⟨by rw [upd_ne neFH, upd_same]; rfl, .cons ⟨m, dx, da, db, q0, b0, ?_, DA.same s8, S5.same s8, ⟨ne_of_none upd_same nF, ne_of_none (sF _ _ upd_same) nHe⟩, offof _ _ tc1, offof _ _ td1, offof _ _ tb1⟩ .nil, by rw [upd_same]; rfl, .nil, rfl, fun z hz => ?_, (fun z hz => nomatch hz), S5.same s8, offof _ _ ta1, offof _ _ tb1, neFH, (hp4.same (s5.trans s8)).more (by omega), k4.trans (Keep.of (s5.trans s8)), ?_, ?_⟩
      · exact (sF.trans sH) _ _ upd_same
      · rw [List.mem_singleton.mp hz]
        exact NO0
      · exact k4.fresh hp4 (s5.free (sf.free nF))
      · exact k4.fresh hp4 (s5.free ((sf.trans sF).free nHe))
    revert M0
    generalize (upd (upd (upd G5 f0 (.lst [.ref m, .ref q0])) F0 (.lst [.ref f0])) He (.lst [])) = G8
    intro M0
    refine ⟨(12 : Int), rfl, by decide, by decide, ?_⟩
    refine for_range (lo := 0) (n := 12) (fun i sl G => ∃ fs hs nl hl v5 v6 v7, sl = [some (.ref p), some (.bl sm), some (.ref q0), some (.ref F0), some (.ref He), v5, v6, v7, none, none, none, none] ∧ Fam C p q0 F0 He a b0 sm ts x y nts0 H G (c + 3300 + 130 * i) fs hs nl hl ∧ nl.length = i + 1 ∧ hl.length = 2 * i) ⟨[f0], [], [nts0], [], none, none, none, rfl, M0, rfl, rfl⟩ ?_ ?_
    · rintro i sl G hi ⟨fs, hs, nl, hl, v5, v6, v7, rfl, M, lnl, lhl⟩
      have lfs : fs.length = nl.length := paired_len M.pf
      -- made, elder
      refine ⟨_, rfl, _, rfl, _, rfl, F0, _, rfl, .inl (.inl (.inl M.f)), p, _, _, rfl, M.purse, by omega, by rw [List.length_map]; omega, by rw [List.length_map]; omega, fun d G2 d1 d2 hp2 k2 => ?_⟩
      rw [List.length_map] at d2
      obtain ⟨d, rfl⟩ : ∃ n : Nat, d = n := ⟨d.toNat, by omega⟩
      have M2 := M.step k2 hp2
      have dl : d < nl.length := by omega
      obtain ⟨fb, hfb, m, dx, da, db, q, b, h1, DA, S, of1, of2, of3, of4⟩ := paired_get M2.pf d nl[d] (List.getElem?_eq_getElem dl)
      have okd := M.okN nl[d] (List.getElem_mem dl)
      revert DA S okd
      generalize nl[d] = nts
      intro DA S okd
      refine ⟨F0, _, (d : Int), .ref fb, rfl, rfl, .inl (.inl M2.f), atI_nat (by rw [List.getElem?_map, hfb]; rfl), fb, _, rfl, .inl (.inl h1), rfl, _, _, rfl, _, _, rfl, rfl, ?_⟩
      have TS := TO.1.g (m := ts.length) (by have := TO.2.2.1; omega)
      have t20 := TO.2.2.1
      -- a count on the way
      refine ⟨fun sl G => sl = [some (.ref p), some (.bl sm), some (.ref q0), some (.ref F0), some (.ref He), some (.int (0 + (i : Nat))), some (.ref m), some (.ref q), none, none, none, none] ∧ Fam C p q0 F0 He a b0 sm ts x y nts0 H G (c + 3300 + 130 * i + 2) fs hs nl hl ∧ DiaryAt C G m dx da db ts (nts.map Nt.row) ∧ ShAt G q a b ts nts, ?_, ?_⟩
      · refine ⟨_, rfl, sm, rfl, ?_⟩
        cases sm with
        | false => exact iteF (iteF ⟨rfl, M2.more (by omega), DA, S⟩)
        | true =>
          have SM := sms_of TO okd
          refine iteT ⟨_, rfl, p, _, 2, rfl, hp2, by omega, by decide, by decide, fun d3 G3 d4 d5 hp3 k3 => ⟨rfl, _, rfl, ite2 (fun e => ?_) (fun e => ⟨rfl, (M2.step k3 hp3).more (by omega), DA.keep hp2 k3, S.keep hp2 k3⟩)⟩⟩
          have DA3 := DA.keep hp2 k3
          have S3 := S.keep hp2 k3
          refine ⟨_, rfl, m, dx, da, db, ts, nts, x, y, rfl, DA3, SM.good, SM.nodup, SM.few, SM.few2, SM.pair, fun G4 s4 => ?_⟩
          refine ⟨_, rfl, q, a, b, ts, nts, x, y, rfl, S3.same s4, SM, fun G5 s5 => ⟨rfl, _, rfl, iteNS rfl ⟨rfl, ((M2.step k3 hp3).same (s4.trans s5)).more (by omega), DA3.same (s4.trans s5), S3.same (s4.trans s5)⟩⟩⟩
      rintro sl G3 ⟨rfl, M3, D3, S3⟩
      -- its notes, held
      refine ⟨_, rfl, .inl ⟨rfl, _, .inl (.inl M3.h)⟩, _, rfl, m, dx, _, rfl, D3.ob, m, dx, da, db, ts, nts.map Nt.row, rfl, D3, fun l1 G4 nl1 r1 s4 => ?_⟩
      have M4 := M3.same s4
      have S4 := S3.same s4
      obtain ⟨bs, hb1, hb2⟩ := lf_rows S4.notes
      refine ⟨_, rfl, q, _, 1, .ref b, rfl, rfl, .inl (.inl S4.tup), atI_nat (j := 1) rfl, b, _, rfl, .inl (.inl (.inl hb1)), fun l2 nl2 => ⟨by show 2 ≤ sizeLine; decide, fun hb nhb => ?_⟩⟩
      have r2 := rows_copy hb2 nl2
      have sa := new_same nl2 (o := .lst (bs.map V.ref))
      have sb := new_same nhb (o := .lst [.ref l1, .ref l2])
      have M5 := M4.same (sa.trans sb)
      have hX : HX F0 He (ts.map nameOf) (upd (upd G4 l2 (.lst (bs.map V.ref))) hb (.lst [.ref l1, .ref l2])) hb (some nts) := ⟨l1, l2, upd_same, (M4.same sa).off nhb, M3.off nl1, M4.off nl2, fun z e => by
        have e2 := Option.some.inj e
        subst e2
        exact ⟨(r1.same (sa.trans sb)), r2.same sb⟩, (fun e => nomatch e)⟩
      have lhs : hs.length = hl.length := paired_len M5.ph
      have M6 := M5.pushH hX (fun z e => by
        have e2 := Option.some.inj e
        subst e2
        exact okd)
      have D6 : DiaryAt C (upd (upd (upd G4 l2 (.lst (bs.map V.ref))) hb (.lst [.ref l1, .ref l2])) He (.lst (hs.map V.ref ++ [.ref hb]))) m dx da db ts (nts.map Nt.row) := by
        have z := D3.same (s4.trans (sa.trans sb))
        exact ⟨M5.base.ins KeepX.put2 z.ob, M5.base.rows KeepX.put2 z.towns of2, M5.base.rows KeepX.put2 z.notes of3⟩
      have S6 : ShAt (upd (upd (upd G4 l2 (.lst (bs.map V.ref))) hb (.lst [.ref l1, .ref l2])) He (.lst (hs.map V.ref ++ [.ref hb]))) q a b ts nts := M5.base.shat KeepX.put2 (S3.same (s4.trans (sa.trans sb))) M5.offA of4
      refine ⟨He, _, _, rfl, rfl, M5.h, by rw [List.length_map, lhs]; exact small1000 (by omega), ?_⟩
      revert M6 D6 S6
      generalize (upd (upd (upd G4 l2 (.lst (bs.map V.ref))) hb (.lst [.ref l1, .ref l2])) He (.lst (hs.map V.ref ++ [.ref hb]))) = G6
      intro M6 D6 S6
      -- its names, held
      refine ⟨_, rfl, .inl ⟨rfl, _, .inl (.inl M6.h)⟩, _, rfl, m, dx, _, rfl, D6.ob, by rfl, m, dx, da, db, ts, nts.map Nt.row, rfl, D6, TS.good, by omega, fun l3 G7 nl3 e3 s7 => ?_⟩
      have M7 := M6.same s7
      have S7 := S6.same s7
      obtain ⟨as, ha1, ha2⟩ := S7.towns
      have las : as.length = ts.length := paired_len ha2
      refine ⟨_, rfl, q, _, 0, .ref a, rfl, rfl, .inl (.inl S7.tup), atI_nat (j := 0) rfl, a, rfl, ⟨_, .inl (.inl ha1)⟩, fun l4 nl4 => ?_⟩
      refine lcp_list (K := K) (a := a) (xs := as.map V.ref) (ys := (ts.map nameOf).map V.str) (.inl (.inl ha1)) nl4 (by rw [List.length_map, List.length_map, List.length_map, las]) (by rw [List.length_map, las]; exact small1000 (by omega)) (fun i2 xv yv R hx hy r => ?_) ?_
      · obtain ⟨b3, row, ex, hr1, hb3⟩ := rows_ref ha2 hx
        subst ex
        obtain ⟨z, lo, hi2, er, _⟩ := TS.good row (List.mem_of_getElem? hr1)
        have ey : yv = V.str z := by
          rw [List.getElem?_map, List.getElem?_map, hr1, er] at hy
          exact (Option.some.inj hy).symm
        subst ey
        subst er
        refine ⟨rfl, _, rfl, b3, [.str z, .int lo, .int hi2], 0, .str z, rfl, rfl, .inl (.inl ?_), atI_nat (j := 0) rfl, r⟩
        unfold grown
        rw [upd_ne (ne_of_none hb3 nl4)]
        exact hb3
      · refine ⟨by show 2 ≤ sizeLine; decide, fun hb2 nhb2 => ?_⟩
        have sc := new_same nl4 (o := .lst ((ts.map nameOf).map V.str))
        have sd := new_same nhb2 (o := .lst [.ref l3, .ref l4])
        have M8 := M7.same (sc.trans sd)
        have hX2 : HX F0 He (ts.map nameOf) (upd (upd G7 l4 (.lst ((ts.map nameOf).map V.str))) hb2 (.lst [.ref l3, .ref l4])) hb2 none := ⟨l3, l4, upd_same, (M7.same sc).off nhb2, M6.off nl3, M7.off nl4, (fun z e => nomatch e), fun _ => ⟨(sc.trans sd) _ _ e3, sd _ _ upd_same⟩⟩
        have lhs2 : (hs ++ [hb]).length = (hl ++ [some nts]).length := paired_len M8.ph
        have M9 := M8.pushH hX2 (fun z e => nomatch e)
        have D9 : DiaryAt C (upd (upd (upd G7 l4 (.lst ((ts.map nameOf).map V.str))) hb2 (.lst [.ref l3, .ref l4])) He (.lst ((hs ++ [hb]).map V.ref ++ [.ref hb2]))) m dx da db ts (nts.map Nt.row) := by
          have z := D6.same (s7.trans (sc.trans sd))
          exact ⟨M8.base.ins KeepX.put2 z.ob, M8.base.rows KeepX.put2 z.towns of2, M8.base.rows KeepX.put2 z.notes of3⟩
        have S9 : ShAt (upd (upd (upd G7 l4 (.lst ((ts.map nameOf).map V.str))) hb2 (.lst [.ref l3, .ref l4])) He (.lst ((hs ++ [hb]).map V.ref ++ [.ref hb2]))) q a b ts nts := M8.base.shat KeepX.put2 (S6.same (s7.trans (sc.trans sd))) M8.offA of4
        refine ⟨He, _, _, rfl, rfl, M8.h, by rw [List.length_map, lhs2, List.length_append]; exact small1000 (by show hl.length + 1 ≤ 1000; omega), ?_⟩
        revert M9 D9 S9
        generalize (upd (upd (upd G7 l4 (.lst ((ts.map nameOf).map V.str))) hb2 (.lst [.ref l3, .ref l4])) He (.lst ((hs ++ [hb]).map V.ref ++ [.ref hb2]))) = G9
        intro M9 D9 S9
        -- a child
        obtain ⟨most, hmost, emost⟩ : ∃ most : Nat, atI [V.int 60, V.int 6] (if sm = true then 1 else 0) = some (.int (most : Nat)) ∧ most = if sm = true then 6 else 60 := by
          cases sm
          · exact ⟨60, atI_nat (j := 0) rfl, rfl⟩
          · exact ⟨6, atI_nat (j := 1) rfl, rfl⟩
        have m1 : 1 ≤ most := by rw [emost]; split <;> omega
        have m60 : most ≤ 60 := by rw [emost]; split <;> omega
        refine ⟨_, rfl, .inl ⟨rfl, _, .inl (.inl M9.f)⟩, _, rfl, _, rfl, _, rfl, by show 2 ≤ sizeLine; decide, fun L nL => ⟨_, rfl, .inr ⟨sm, rfl, ?_⟩⟩⟩
        have sL := new_same nL (o := .lst [.int 60, .int 6])
        have M10 := M9.same sL
        refine ⟨L, _, _, _, rfl, rfl, .inl (.inl upd_same), hmost, p, m, dx, da, db, q, a, b, _, most, ts, nts, rfl, M10.purse, by omega, D9.same sL, S9.same sL, TO.1, TO.2.1, t20, okd.notes, by rw [emost]; exact okd.few, m1, m60, fun r m' dx' da' db' q' b' nts' G11 nr nm nda ndb nq nb hr2 DA' S' CHO hp11 k11 => ?_⟩
        have M11 := M10.step k11 hp11
        have okc : NlOk sm ts x y nts' := ⟨CHO.notes, by rw [← emost]; exact CHO.few, fun e => CHO.pair x y (okd.pair e)⟩
        have M12 := M11.pushF (fb := r) ⟨m', dx', da', db', q', b', hr2, DA', S', M10.off nr, M10.off nda, M10.off ndb, M10.off nb⟩ okc
        refine ⟨F0, _, _, rfl, rfl, M11.f, by rw [List.length_map, lfs]; exact small1000 (by omega), fs ++ [r], _, _, _, _, _, _, rfl, M12.more (by omega), ?_, ?_⟩
        · rw [List.length_append, lnl]
          rfl
        · rw [List.length_append, List.length_append, lhl]
          show 2 * i + 1 + 1 = 2 * (i + 1)
          omega
    · rintro sl G ⟨fs, hs, nl, hl, v5, v6, v7, rfl, M, lnl, lhl⟩
      have lfs : fs.length = nl.length := paired_len M.pf
      have flatT : ∀ r ∈ ts, RowF r := fun r hr => (TO.1.2.2 r hr).flat
      have t20 := TO.2.2.1
      have TS := TO.1.g (m := ts.length) (by omega)
      refine ⟨_, rfl, _, rfl, F0, _, rfl, .inl (.inl (.inl M.f)), p, _, _, rfl, M.purse, by omega, by rw [List.length_map]; omega, by rw [List.length_map]; omega, fun st G2 d1 d2 hp2 k2 => ?_⟩
      rw [List.length_map] at d2
      obtain ⟨st, rfl⟩ : ∃ n : Nat, st = n := ⟨st.toNat, by omega⟩
      have M2 := M.step k2 hp2
      refine ⟨_, rfl, _, rfl, _, rfl, F0, _, rfl, .inl (.inl M2.f), fun L nL => ?_⟩
      rw [cut_drop _ _ (by rw [List.length_map]; omega), ← List.map_drop]
      have s1 := new_same nL (o := .lst ((fs.drop st).map V.ref))
      have M3 := M2.same s1
      refine ⟨_, rfl, _, rfl, _, rfl, F0, _, rfl, .inl (.inl M3.f), fun L2 nL2 => ?_⟩
      rw [cut_take _ _ (by rw [List.length_map]; omega), ← List.map_take]
      have s2 := new_same nL2 (o := .lst ((fs.take st).map V.ref))
      have M4 := M3.same s2
      refine ⟨L, L2, _, _, rfl, rfl, s2 _ _ upd_same, upd_same, ?_, fun N nN => ?_⟩
      · rw [List.length_map, List.length_map, List.length_take, List.length_drop]
        exact Nat.le_of_lt (small1000 (by omega))
      rw [← List.map_append]
      have M5 := M4.same (new_same nN (o := .lst ((fs.drop st ++ fs.take st).map V.ref)))
      have hN : (upd (upd (upd G2 L (.lst ((fs.drop st).map V.ref))) L2 (.lst ((fs.take st).map V.ref))) N (.lst ((fs.drop st ++ fs.take st).map V.ref))) N = some (.lst ((fs.drop st ++ fs.take st).map V.ref)) := upd_same
      revert M5 hN
      generalize (upd (upd (upd G2 L (.lst ((fs.drop st).map V.ref))) L2 (.lst ((fs.take st).map V.ref))) N (.lst ((fs.drop st ++ fs.take st).map V.ref))) = G5
      intro M5 hN
      have pf5 : Paired (FX C F0 He a ts G5) (fs.drop st ++ fs.take st) (nl.drop st ++ nl.take st) := paired_app (paired_drop M5.pf st) (paired_take M5.pf st)
      refine ⟨N, rfl, ⟨_, .inl (.inl hN)⟩, for_list (K := K) (a := N) (xs := (fs.drop st ++ fs.take st).map V.ref) (fun i sl G => ∃ v6 v7, sl = [some (.ref p), some (.bl sm), some (.ref q0), some (.ref F0), some (.ref He), v5, v6, v7, some (.int (st : Nat)), none, none, none] ∧ Same G5 G) ⟨_, _, rfl, Same.refl _⟩ (fun i sl G _ ⟨_, _, _, s⟩ => .inl (.inl (s _ _ hN))) ?_ ?_⟩
      · rintro i xv sl G6 hx ⟨v6, v7, rfl, s6⟩
        obtain ⟨fb, nts, rfl, _, hnts, m, dx, da, db, q, b, h1, DA, S, _⟩ := lf_at pf5 hx
        have okd : NlOk sm ts x y nts := by
          rcases List.mem_append.mp (List.mem_of_getElem? hnts) with z | z
          · exact M5.okN nts (List.mem_of_mem_drop z)
          · exact M5.okN nts (List.mem_of_mem_take z)
        have flatN := okd.flat TO
        have NI := sheet_nice flatT flatN t20 (by rw [List.length_map]; exact okd.few60)
        have D6 := DA.same s6
        refine ⟨fb, _, rfl, .inl (.inl (s6 _ _ h1)), rfl, _, _, rfl, _, _, rfl, rfl, ?_⟩
        refine ⟨_, rfl, m, dx, _, rfl, D6.ob, m, dx, da, db, ts, nts.map Nt.row, rfl, D6, fun x4 H4 n4 r4 s7 => ?_⟩
        have D7 := D6.same s7
        refine ⟨_, rfl, m, dx, _, rfl, D7.ob, m, dx, da, db, ts, nts.map Nt.row, rfl, D7, fun x5 H5 n5 r5 s8 => ⟨by show 2 ≤ sizeLine; decide, fun T nT => ?_⟩⟩
        have sT := new_same nT (o := .tup [.ref x4, .ref x5])
        have s9 := ((s6.trans s7).trans s8).trans sT
        have S9 := S.same s9
        refine ⟨_, sheetD ts (nts.map Nt.row), rfl, sheetD_dp flatT flatN upd_same ((r4.same s8).same sT) (r5.same sT), NI.show_, NI.nod, Nat.le_trans NI.deep (by decide), NI.short (by decide), ?_⟩
        refine ⟨_, rfl, q, _, 0, .ref a, rfl, rfl, .inl (.inl S9.tup), atI_nat (j := 0) rfl, _, rfl, q, _, 1, .ref b, rfl, rfl, .inl (.inl S9.tup), atI_nat (j := 1) rfl, by show 2 ≤ sizeLine; decide, fun T2 nT2 => ?_⟩
        have sT2 := new_same nT2 (o := .tup [.ref a, .ref b])
        have s10 := s9.trans sT2
        have S10 := S.same s10
        have D10 := DA.same s10
        refine ⟨_, sheetD ts (nts.map Nt.row), rfl, sheetD_dp flatT flatN upd_same S10.towns (lf_rows S10.notes), NI.show_, NI.nod, Nat.le_trans NI.deep (by decide), NI.short (by decide), rfl, _, rfl, iteNS rfl ?_⟩
        have l60 := okd.few60
        obtain ⟨bs, hb1, hb2⟩ := lf_rows S10.notes
        refine ⟨_, rfl, m, dx, _, rfl, D10.ob, m, dx, da, db, ts, nts.map Nt.row, rfl, D10, _, rfl, by rw [List.length_map]; omega, ?_⟩
        refine ⟨_, rfl, q, _, 1, .ref b, rfl, rfl, .inl (.inl S10.tup), atI_nat (j := 1) rfl, b, _, rfl, .inl (.inl (.inl hb1)), rfl, _, rfl, iteNS (by rw [List.length_map, List.length_map, paired_len hb2, List.length_map]) ?_⟩
        -- how many cases
        refine ⟨_, rfl, sm, rfl, ?_⟩
        cases sm with
        | false => exact iteF (iteF ⟨_, _, rfl, s10⟩)
        | true =>
          have SM := sms_of TO okd
          refine iteT ⟨_, rfl, m, dx, da, db, ts, nts, x, y, rfl, D10, SM.good, SM.nodup, SM.few, SM.few2, SM.pair, fun G11 s11 => ?_⟩
          exact ⟨_, rfl, q, a, b, ts, nts, x, y, rfl, S10.same s11, SM, fun G12 s12 => ⟨rfl, _, rfl, iteNS rfl ⟨_, _, rfl, (s10.trans s11).trans s12⟩⟩⟩
      · rintro sl G6 ⟨v6, v7, rfl, s6⟩
        have M6 := M5.same s6
        -- what was told on the way
        refine ⟨_, rfl, He, rfl, ⟨_, .inl (.inl M6.h)⟩, for_list (K := K) (a := He) (xs := hs.map V.ref) (fun i sl G => ∃ v9 v10, sl = [some (.ref p), some (.bl sm), some (.ref q0), some (.ref F0), some (.ref He), v5, v6, v7, some (.int (st : Nat)), v9, v10, none] ∧ Same G6 G) ⟨_, _, rfl, Same.refl _⟩ (fun i sl G _ ⟨_, _, _, s⟩ => .inl (.inl (s _ _ M6.h))) ?_ ?_⟩
        · rintro i xv sl G7 hx ⟨v9, v10, rfl, s7⟩
          obtain ⟨hb, d, rfl, _, hd, l1, l2, h1, _, _, _, hs1, hs2⟩ := lf_at M6.ph hx
          refine ⟨hb, _, rfl, .inl (.inl (s7 _ _ h1)), rfl, _, _, rfl, _, _, rfl, rfl, ?_⟩
          cases d with
          | some nts =>
            have okd := M6.okH _ (List.mem_of_getElem? hd) nts rfl
            have flatN := okd.flat TO
            have NI := (rows_nice flatN).more (Nat.le_refl 2) (show 37 * (nts.map Nt.row).length ≤ 5000 by rw [List.length_map]; have := okd.few60; omega)
            obtain ⟨ra, rb⟩ := hs1 nts rfl
            refine ⟨_, rfl, _, .list ((nts.map Nt.row).map rowD), rfl, rows_dp (ra.same s7) flatN, NI.show_, NI.nod, Nat.le_trans NI.deep (by decide), NI.short (by decide), ?_⟩
            exact ⟨_, rfl, _, .list ((nts.map Nt.row).map rowD), rfl, rows_dp (rb.same s7) flatN, NI.show_, NI.nod, Nat.le_trans NI.deep (by decide), NI.short (by decide), rfl, _, rfl, iteNS rfl ⟨_, _, rfl, s7⟩⟩
          | none =>
            obtain ⟨ra, rb⟩ := hs2 rfl
            have NI : Nice (.list ((ts.map nameOf).map PyData.str)) 1 200 := (names_nice (towns_names TO.1.2.2)).more (Nat.le_refl _) (by rw [List.length_map]; omega)
            refine ⟨_, rfl, _, .list ((ts.map nameOf).map PyData.str), rfl, .lst (.inl (.inl (s7 _ _ ra))) (strs_dp _), NI.show_, NI.nod, Nat.le_trans NI.deep (by decide), NI.short (by decide), ?_⟩
            exact ⟨_, rfl, _, .list ((ts.map nameOf).map PyData.str), rfl, .lst (.inl (.inl (s7 _ _ rb))) (strs_dp _), NI.show_, NI.nod, Nat.le_trans NI.deep (by decide), NI.short (by decide), rfl, _, rfl, iteNS rfl ⟨_, _, rfl, s7⟩⟩
        · rintro sl G7 ⟨v9, v10, rfl, s7⟩
          have M7 := M6.same s7
          have h0 := (List.getElem?_eq_some_iff.mp M7.first).1
          obtain ⟨fb, hfb, m, dx, da, db, q, b, h1, DA, S, _⟩ := paired_get M7.pf 0 nts0 M7.first
          have okd := M7.okN nts0 (List.mem_of_getElem? M7.first)
          have flatN := okd.flat TO
          have NI := (rows_nice flatN).more (Nat.le_refl 2) (show 37 * (nts0.map Nt.row).length ≤ 5000 by rw [List.length_map]; have := okd.few60; omega)
          refine ⟨_, rfl, F0, _, 0, .ref fb, rfl, rfl, .inl (.inl M7.f), atI_nat (j := 0) (by rw [List.getElem?_map, hfb]; rfl), fb, _, 0, .ref m, rfl, rfl, .inl (.inl h1), atI_nat (j := 0) rfl, m, dx, _, rfl, DA.ob, m, dx, da, db, ts, nts0.map Nt.row, rfl, DA, fun l G8 nl8 r8 s8 => ?_⟩
          refine ⟨_, .list ((nts0.map Nt.row).map rowD), rfl, rows_dp r8 flatN, NI.show_, NI.nod, Nat.le_trans NI.deep (by decide), NI.short (by decide), ?_⟩
          have M8 := M7.same s8
          refine ⟨_, rfl, q0, _, 1, .ref b0, rfl, rfl, .inl (.inl M8.sh.tup), atI_nat (j := 1) rfl, _, .list ((nts0.map Nt.row).map rowD), rfl, rows_dp (lf_rows M8.sh.notes) flatN, NI.show_, NI.nod, Nat.le_trans NI.deep (by decide), NI.short (by decide), rfl, ?_⟩
          rw [decide_eq_true rfl]
          exact fin _ M8.keep
end
end Md

namespace Md
open PySem PySem.Spec PyProof.Rows L2
abbrev sLaw : Stmt := top 52
section
variable {P : Program} {w : World} {K : PySem.W.Frag} {mg : Str → Option Value} {base : Heap}
def spLaw (K : PySem.W.Frag) : Sp := fun vs H Q _ => ∃ (a : Addr) (ns : List Int), vs = [.ref a] ∧ SqL K H a (ns.map V.int) ∧ ns.length ≤ 63 ∧ ∀ H', Q (.bl true) H'
theorem scLaw : FnScope ["script", "spot", "purse"] ["script"] (defScope sLaw) := ⟨rfl, rfl, rfl, by decide +kernel, rfl, by decide +kernel, by decide +kernel⟩
theorem ok_law {f fP fR : Addr} {fd fdP fdR : FuncData} {k : Nat} (F : Fun K "law" "law" sLaw f fd) (PP : DefAt P w K mg base "_law_purse" fP fdP ["script", "place"] 1 (spPurse K)) (R : GAt P w K mg base "_law_right" fR fdR ["purse"] 7 spRight) (B : Blt mg) :
    FnG P w K mg base CX0 (k + 8) f fd ["script"] (spLaw K) := by
  have GP := PP.ok (k + 6)
  have GR := R.ok k
  refine okG F scLaw (fun vs H Q E h => ?_) (fun cdv A outer s H vs Q E g hr h => ?_)
  · obtain ⟨a, ns, rfl, _⟩ := h
    rfl
  · obtain ⟨a, ns, rfl, hS, few, k0⟩ := h
    have nd := scLaw.nd
    refine ⟨_, pss_cons (ps_for PassesOwn.never rfl (pi_range1 rfl B.range (pa_cons (pe_callB (call_max2 rfl) (by rfl) B.max (by decide +kernel) (pa_cons pe_int (pa_cons (pe_callB (call_min2 rfl) (by rfl) B.min (by decide +kernel) (pa_cons pe_int (pa_cons (pe_callB call_len_seq (by rfl) B.len PySem.boot_len (pa_cons (pv 0) pa_nil)) pa_nil))) pa_nil))) pa_nil)) (pg_name (i := 1) nd rfl (.inl rfl))
        (pss_cons (ps_set (i := 2) nd rfl (.inl rfl) (pe_call GP hr (by rfl) PP.mg PP.kp PP.b .nil pass0 (pa_cons (pv 0) (pa_cons (pv 1) pa_nil))))
        (pss_one (ps_if (pt_not (pt_val (pe_callG GR g hr (by rfl) R.mg R.kp R.b pass0 (pa_cons (pv 2) pa_nil)))) (pss_one ps_never) pss_nil))))
      (pss_one (ps_ret pe_bl)), ?_⟩
    refine ⟨_, rfl, a, _, rfl, .inl hS, _, _, rfl, _, _, rfl, ?_⟩
    obtain ⟨v, ev, v0, v1⟩ : ∃ v : Int, (if (if ((ns.map V.int).length : Int) < 5 then ((ns.map V.int).length : Int) else 5) > 1 then (if ((ns.map V.int).length : Int) < 5 then ((ns.map V.int).length : Int) else 5) else 1) = v ∧ 0 ≤ v ∧ v ≤ 5 := by
      refine ⟨_, rfl, ?_, ?_⟩ <;> split <;> (try split) <;> omega
    rw [ev]
    refine ⟨v, rfl, by omega, by omega, for_range (lo := 0) (n := v.toNat) (fun i sl G => ∃ v1 v2, sl = [some (.ref a), v1, v2] ∧ Same H G) ⟨none, none, rfl, Same.refl H⟩ ?_ ?_⟩
    · rintro i sl G hi ⟨v1, v2, rfl, sG⟩
      refine ⟨_, rfl, _, rfl, a, ns, i, ?_, sG.seq hS, fun p H1 np hp s1 => ?_⟩
      · rw [Int.zero_add]
        rfl
      refine ⟨_, rfl, p, 0, rfl, hp, by decide, fun H2 k2 => ⟨_, rfl, iteF ?_⟩⟩
      exact ⟨_, _, rfl, fun b u z => k2 b u (s1 b u (sG b u z)) (ne_of_none (sG b u z) np)⟩
    · rintro sl G ⟨v1, v2, rfl, sG⟩
      exact k0 G
end
end Md

namespace Md
open PySem PySem.Spec PyProof.Rows L2
theorem tup_frag {K : PySem.W.Frag} {u : Addr} {ou : Option Addr} {its : Array Value} {n : Nat} {sl : Array (Option Value)} {xs : List V} (l : K.lookup u = some ⟨.type "tuple", ou, .seq its n, sl⟩) (h : its.size ≤ sizeLine) (r : Vals xs its.toList) : ∀ H, SqT K H u xs := fun H => .inr ⟨_, its, n, l, rfl, rfl, h, r⟩

set_option maxHeartbeats 2000000 in
theorem all_mk {l : PySem.W.OpenLaw} {w : World} {K : PySem.W.Frag} {h : Heap} {mg : Str → Option Value} {fa C dT dQ pm2 pm3 u0 u1 u2 u3 : Addr} {fn1 fn2 fn3 fn4 ft1 ft2 ft3 ft4 fg1 fg2 fg3 fg4 fg5 fc1 fd1 fd2 fd3 fd4 fd5 fd6 fd7 fd8 fd9 fdA fdB fdC fdD fdE fdF fdG fdH fdI fdJ fdK fm1 fm2 fm3 fm4 fm5 fm6 fm7 : Addr} {es esQ : Array DictEntry} {n nQ nu0 nu1 nu2 nu3 : Nat} {restm2 restm3 : List Value} {tk1 tk2 te0 te1 te2 te3 tu00 tu10 tu20 tu30 tu31 : Tok} {ou0 ou1 ou2 ou3 : Option Addr} {su0 su1 su2 su3 : Array (Option Value)}
    (X : K.In h) (G : h.Ns mainGlobals mg) (hfa : mg "law" = some (.ref fa))
    {odn1 ann1 odn2 ann2 odn3 ann3 odn4 ann4 odt1 ant1 odt2 ant2 odt3 ant3 odt4 ant4 odg1 ang1 odg2 ang2 odg3 ang3 odg4 ang4 odg5 ang5 odc1 anc1 odd1 and1 odd2 and2 odd3 and3 odd4 and4 odd5 and5 odd6 and6 odd7 and7 odd8 and8 odd9 and9 oddA andA oddB andB oddC andC oddD andD oddE andE oddF andF oddG andG oddH andH oddI andI oddJ andJ oddK andK odm1 anm1 odm2 anm2 odm3 anm3 odm4 anm4 odm5 anm5 odm6 anm6 odm7 anm7 : Option Addr} {sln1 sln2 sln3 sln4 slt1 slt2 slt3 slt4 slg1 slg2 slg3 slg4 slg5 slc1 sld1 sld2 sld3 sld4 sld5 sld6 sld7 sld8 sld9 sldA sldB sldC sldD sldE sldF sldG sldH sldI sldJ sldK slm1 slm2 slm3 slm4 slm5 slm6 slm7 : Array (Option Value)}
    {ocn1 kVn1 dcn1 pm_n1 cdn1 ctn1 ocn2 kVn2 dcn2 pm_n2 cdn2 ctn2 ocn3 kVn3 dcn3 pm_n3 cdn3 ctn3 ocn4 kVn4 dcn4 pm_n4 cdn4 ctn4 oct1 kVt1 dct1 pm_t1 cdt1 ctt1 oct2 kVt2 dct2 pm_t2 cdt2 ctt2 oct3 kVt3 dct3 pm_t3 cdt3 ctt3 oct4 kVt4 dct4 pm_t4 cdt4 ctt4 ocg1 kVg1 dcg1 pm_g1 cdg1 ctg1 ocg2 kVg2 dcg2 pm_g2 cdg2 ctg2 ocg3 kVg3 dcg3 pm_g3 cdg3 ctg3 ocg4 kVg4 dcg4 pm_g4 cdg4 ctg4 ocg5 kVg5 dcg5 pm_g5 cdg5 ctg5 occ1 kVc1 dcc1 pm_c1 cdc1 ctc1 ocd1 kVd1 dcd1 pm_d1 cdd1 ctd1 ocd2 kVd2 dcd2 pm_d2 cdd2 ctd2 ocd3 kVd3 dcd3 pm_d3 cdd3 ctd3 ocd4 kVd4 dcd4 pm_d4 cdd4 ctd4 ocd5 kVd5 dcd5 pm_d5 cdd5 ctd5 ocd6 kVd6 dcd6 pm_d6 cdd6 ctd6 ocd7 kVd7 dcd7 pm_d7 cdd7 ctd7 ocd8 kVd8 dcd8 pm_d8 cdd8 ctd8 ocd9 kVd9 dcd9 pm_d9 cdd9 ctd9 ocdA kVdA dcdA pm_dA cddA ctdA ocdB kVdB dcdB pm_dB cddB ctdB ocdC kVdC dcdC pm_dC cddC ctdC ocdD kVdD dcdD pm_dD cddD ctdD ocdE kVdE dcdE pm_dE cddE ctdE ocdF kVdF dcdF pm_dF cddF ctdF ocdG kVdG dcdG pm_dG cddG ctdG ocdH kVdH dcdH pm_dH cddH ctdH ocdI kVdI dcdI pm_dI cddI ctdI ocdJ kVdJ dcdJ pm_dJ cddJ ctdJ ocdK kVdK dcdK pm_dK cddK ctdK ocm1 kVm1 dcm1 pm_m1 cdm1 ctm1 ocm2 kVm2 dcm2 pm_m2 cdm2 ctm2 ocm3 kVm3 dcm3 pm_m3 cdm3 ctm3 ocm4 kVm4 dcm4 pm_m4 cdm4 ctm4 ocm5 kVm5 dcm5 pm_m5 cdm5 ctm5 ocm6 kVm6 dcm6 pm_m6 cdm6 ctm6 ocm7 kVm7 dcm7 pm_m7 cdm7 ctm7 : Value}
    (an1 : PySem.W.nsIn K mainGlobals "is_name" = some (some (.ref fn1)))
    (ln1 : K.lookup fn1 = some ⟨ocn1, odn1, .func (PySem.W.fnOf "is_name" "is_name" (defArgs sIsName) (defBody sIsName) (defScope sIsName) .none kVn1 dcn1 pm_n1 ann1 cdn1 ctn1), sln1⟩)
    (cn1 : PySem.W.codeIn K cdn1 "is_name" = true)
    (kn1 : PySem.W.keepIn K (.ref fn1) = true)
    (an2 : PySem.W.nsIn K mainGlobals "check_towns" = some (some (.ref fn2)))
    (ln2 : K.lookup fn2 = some ⟨ocn2, odn2, .func (PySem.W.fnOf "check_towns" "check_towns" (defArgs sCheckTowns) (defBody sCheckTowns) (defScope sCheckTowns) .none kVn2 dcn2 pm_n2 ann2 cdn2 ctn2), sln2⟩)
    (cn2 : PySem.W.codeIn K cdn2 "check_towns" = true)
    (kn2 : PySem.W.keepIn K (.ref fn2) = true)
    (an3 : PySem.W.nsIn K mainGlobals "check_note" = some (some (.ref fn3)))
    (ln3 : K.lookup fn3 = some ⟨ocn3, odn3, .func (PySem.W.fnOf "check_note" "check_note" (defArgs sCheckNote) (defBody sCheckNote) (defScope sCheckNote) .none kVn3 dcn3 pm_n3 ann3 cdn3 ctn3), sln3⟩)
    (cn3 : PySem.W.codeIn K cdn3 "check_note" = true)
    (kn3 : PySem.W.keepIn K (.ref fn3) = true)
    (an4 : PySem.W.nsIn K mainGlobals "check_asked" = some (some (.ref fn4)))
    (ln4 : K.lookup fn4 = some ⟨ocn4, odn4, .func (PySem.W.fnOf "check_asked" "check_asked" (defArgs sCheckAsked) (defBody sCheckAsked) (defScope sCheckAsked) .none kVn4 dcn4 pm_n4 ann4 cdn4 ctn4), sln4⟩)
    (cn4 : PySem.W.codeIn K cdn4 "check_asked" = true)
    (kn4 : PySem.W.keepIn K (.ref fn4) = true)
    (at1 : PySem.W.nsIn K mainGlobals "choices_of" = some (some (.ref ft1)))
    (lt1 : K.lookup ft1 = some ⟨oct1, odt1, .func (PySem.W.fnOf "choices_of" "choices_of" (defArgs sChoicesOf) (defBody sChoicesOf) (defScope sChoicesOf) .none kVt1 dct1 pm_t1 ant1 cdt1 ctt1), slt1⟩)
    (ct1 : PySem.W.codeIn K cdt1 "choices_of" = true)
    (kt1 : PySem.W.keepIn K (.ref ft1) = true)
    (at2 : PySem.W.nsIn K mainGlobals "has_market" = some (some (.ref ft2)))
    (lt2 : K.lookup ft2 = some ⟨oct2, odt2, .func (PySem.W.fnOf "has_market" "has_market" (defArgs sHasMarket) (defBody sHasMarket) (defScope sHasMarket) .none kVt2 dct2 pm_t2 ant2 cdt2 ctt2), slt2⟩)
    (ct2 : PySem.W.codeIn K cdt2 "has_market" = true)
    (kt2 : PySem.W.keepIn K (.ref ft2) = true)
    (at3 : PySem.W.nsIn K mainGlobals "number_with" = some (some (.ref ft3)))
    (lt3 : K.lookup ft3 = some ⟨oct3, odt3, .func (PySem.W.fnOf "number_with" "number_with" (defArgs sNumberWith) (defBody sNumberWith) (defScope sNumberWith) .none kVt3 dct3 pm_t3 ant3 cdt3 ctt3), slt3⟩)
    (ct3 : PySem.W.codeIn K cdt3 "number_with" = true)
    (kt3 : PySem.W.keepIn K (.ref ft3) = true)
    (at4 : PySem.W.nsIn K mainGlobals "is_kept" = some (some (.ref ft4)))
    (lt4 : K.lookup ft4 = some ⟨oct4, odt4, .func (PySem.W.fnOf "is_kept" "is_kept" (defArgs sIsKept) (defBody sIsKept) (defScope sIsKept) .none kVt4 dct4 pm_t4 ant4 cdt4 ctt4), slt4⟩)
    (ct4 : PySem.W.codeIn K cdt4 "is_kept" = true)
    (kt4 : PySem.W.keepIn K (.ref ft4) = true)
    (ag1 : PySem.W.nsIn K mainGlobals "group_of" = some (some (.ref fg1)))
    (lg1 : K.lookup fg1 = some ⟨ocg1, odg1, .func (PySem.W.fnOf "group_of" "group_of" (defArgs sGroupOf) (defBody sGroupOf) (defScope sGroupOf) .none kVg1 dcg1 pm_g1 ang1 cdg1 ctg1), slg1⟩)
    (cg1 : PySem.W.codeIn K cdg1 "group_of" = true)
    (kg1 : PySem.W.keepIn K (.ref fg1) = true)
    (ag2 : PySem.W.nsIn K mainGlobals "groups_of" = some (some (.ref fg2)))
    (lg2 : K.lookup fg2 = some ⟨ocg2, odg2, .func (PySem.W.fnOf "groups_of" "groups_of" (defArgs sGroupsOf) (defBody sGroupsOf) (defScope sGroupsOf) .none kVg2 dcg2 pm_g2 ang2 cdg2 ctg2), slg2⟩)
    (cg2 : PySem.W.codeIn K cdg2 "groups_of" = true)
    (kg2 : PySem.W.keepIn K (.ref fg2) = true)
    (ag3 : PySem.W.nsIn K mainGlobals "asked_of" = some (some (.ref fg3)))
    (lg3 : K.lookup fg3 = some ⟨ocg3, odg3, .func (PySem.W.fnOf "asked_of" "asked_of" (defArgs sAskedOf) (defBody sAskedOf) (defScope sAskedOf) .none kVg3 dcg3 pm_g3 ang3 cdg3 ctg3), slg3⟩)
    (cg3 : PySem.W.codeIn K cdg3 "asked_of" = true)
    (kg3 : PySem.W.keepIn K (.ref fg3) = true)
    (ag4 : PySem.W.nsIn K mainGlobals "lots_keeping" = some (some (.ref fg4)))
    (lg4 : K.lookup fg4 = some ⟨ocg4, odg4, .func (PySem.W.fnOf "lots_keeping" "lots_keeping" (defArgs sLots) (defBody sLots) (defScope sLots) .none kVg4 dcg4 pm_g4 ang4 cdg4 ctg4), slg4⟩)
    (cg4 : PySem.W.codeIn K cdg4 "lots_keeping" = true)
    (kg4 : PySem.W.keepIn K (.ref fg4) = true)
    (ag5 : PySem.W.nsIn K mainGlobals "fitting_lots" = some (some (.ref fg5)))
    (lg5 : K.lookup fg5 = some ⟨ocg5, odg5, .func (PySem.W.fnOf "fitting_lots" "fitting_lots" (defArgs sFitting) (defBody sFitting) (defScope sFitting) .none kVg5 dcg5 pm_g5 ang5 cdg5 ctg5), slg5⟩)
    (cg5 : PySem.W.codeIn K cdg5 "fitting_lots" = true)
    (kg5 : PySem.W.keepIn K (.ref fg5) = true)
    (ac1 : PySem.W.nsIn K mainGlobals "number_of_cases" = some (some (.ref fc1)))
    (lc1 : K.lookup fc1 = some ⟨occ1, odc1, .func (PySem.W.fnOf "number_of_cases" "number_of_cases" (defArgs sNumber) (defBody sNumber) (defScope sNumber) .none kVc1 dcc1 pm_c1 anc1 cdc1 ctc1), slc1⟩)
    (cc1 : PySem.W.codeIn K cdc1 "number_of_cases" = true)
    (kc1 : PySem.W.keepIn K (.ref fc1) = true)
    (ad1 : PySem.W.nsIn K mainGlobals "_law_purse" = some (some (.ref fd1)))
    (ld1 : K.lookup fd1 = some ⟨ocd1, odd1, .func (PySem.W.fnOf "_law_purse" "_law_purse" (defArgs sPurse) (defBody sPurse) (defScope sPurse) .none kVd1 dcd1 pm_d1 and1 cdd1 ctd1), sld1⟩)
    (cd1 : PySem.W.codeIn K cdd1 "_law_purse" = true)
    (kd1 : PySem.W.keepIn K (.ref fd1) = true)
    (ad2 : PySem.W.nsIn K mainGlobals "_law_coin" = some (some (.ref fd2)))
    (ld2 : K.lookup fd2 = some ⟨ocd2, odd2, .func (PySem.W.fnOf "_law_coin" "_law_coin" (defArgs sCoin) (defBody sCoin) (defScope sCoin) .none kVd2 dcd2 pm_d2 and2 cdd2 ctd2), sld2⟩)
    (cd2 : PySem.W.codeIn K cdd2 "_law_coin" = true)
    (kd2 : PySem.W.keepIn K (.ref fd2) = true)
    (ad3 : PySem.W.nsIn K mainGlobals "_law_words" = some (some (.ref fd3)))
    (ld3 : K.lookup fd3 = some ⟨ocd3, odd3, .func (PySem.W.fnOf "_law_words" "_law_words" (defArgs sWords) (defBody sWords) (defScope sWords) .none kVd3 dcd3 pm_d3 and3 cdd3 ctd3), sld3⟩)
    (cd3 : PySem.W.codeIn K cdd3 "_law_words" = true)
    (kd3 : PySem.W.keepIn K (.ref fd3) = true)
    (ad4 : PySem.W.nsIn K mainGlobals "_law_mk_moment" = some (some (.ref fd4)))
    (ld4 : K.lookup fd4 = some ⟨ocd4, odd4, .func (PySem.W.fnOf "_law_mk_moment" "_law_mk_moment" (defArgs sMoment) (defBody sMoment) (defScope sMoment) .none kVd4 dcd4 pm_d4 and4 cdd4 ctd4), sld4⟩)
    (cd4 : PySem.W.codeIn K cdd4 "_law_mk_moment" = true)
    (kd4 : PySem.W.keepIn K (.ref fd4) = true)
    (ad5 : PySem.W.nsIn K mainGlobals "_law_mk_places" = some (some (.ref fd5)))
    (ld5 : K.lookup fd5 = some ⟨ocd5, odd5, .func (PySem.W.fnOf "_law_mk_places" "_law_mk_places" (defArgs sPlaces) (defBody sPlaces) (defScope sPlaces) .none kVd5 dcd5 pm_d5 and5 cdd5 ctd5), sld5⟩)
    (cd5 : PySem.W.codeIn K cdd5 "_law_mk_places" = true)
    (kd5 : PySem.W.keepIn K (.ref fd5) = true)
    (ad6 : PySem.W.nsIn K mainGlobals "_law_mk_picks" = some (some (.ref fd6)))
    (ld6 : K.lookup fd6 = some ⟨ocd6, odd6, .func (PySem.W.fnOf "_law_mk_picks" "_law_mk_picks" (defArgs sPicks) (defBody sPicks) (defScope sPicks) .none kVd6 dcd6 pm_d6 and6 cdd6 ctd6), sld6⟩)
    (cd6 : PySem.W.codeIn K cdd6 "_law_mk_picks" = true)
    (kd6 : PySem.W.keepIn K (.ref fd6) = true)
    (ad7 : PySem.W.nsIn K mainGlobals "_law_mk_pair" = some (some (.ref fd7)))
    (ld7 : K.lookup fd7 = some ⟨ocd7, odd7, .func (PySem.W.fnOf "_law_mk_pair" "_law_mk_pair" (defArgs sPair) (defBody sPair) (defScope sPair) .none kVd7 dcd7 pm_d7 and7 cdd7 ctd7), sld7⟩)
    (cd7 : PySem.W.codeIn K cdd7 "_law_mk_pair" = true)
    (kd7 : PySem.W.keepIn K (.ref fd7) = true)
    (ad8 : PySem.W.nsIn K mainGlobals "_law_mk_market" = some (some (.ref fd8)))
    (ld8 : K.lookup fd8 = some ⟨ocd8, odd8, .func (PySem.W.fnOf "_law_mk_market" "_law_mk_market" (defArgs sMarket) (defBody sMarket) (defScope sMarket) .none kVd8 dcd8 pm_d8 and8 cdd8 ctd8), sld8⟩)
    (cd8 : PySem.W.codeIn K cdd8 "_law_mk_market" = true)
    (kd8 : PySem.W.keepIn K (.ref fd8) = true)
    (ad9 : PySem.W.nsIn K mainGlobals "_law_mk_entry" = some (some (.ref fd9)))
    (ld9 : K.lookup fd9 = some ⟨ocd9, odd9, .func (PySem.W.fnOf "_law_mk_entry" "_law_mk_entry" (defArgs sEntry) (defBody sEntry) (defScope sEntry) .none kVd9 dcd9 pm_d9 and9 cdd9 ctd9), sld9⟩)
    (cd9 : PySem.W.codeIn K cdd9 "_law_mk_entry" = true)
    (kd9 : PySem.W.keepIn K (.ref fd9) = true)
    (adA : PySem.W.nsIn K mainGlobals "_law_mk_sheet" = some (some (.ref fdA)))
    (ldA : K.lookup fdA = some ⟨ocdA, oddA, .func (PySem.W.fnOf "_law_mk_sheet" "_law_mk_sheet" (defArgs sSheet) (defBody sSheet) (defScope sSheet) .none kVdA dcdA pm_dA andA cddA ctdA), sldA⟩)
    (cdA : PySem.W.codeIn K cddA "_law_mk_sheet" = true)
    (kdA : PySem.W.keepIn K (.ref fdA) = true)
    (adB : PySem.W.nsIn K mainGlobals "_law_mk_made" = some (some (.ref fdB)))
    (ldB : K.lookup fdB = some ⟨ocdB, oddB, .func (PySem.W.fnOf "_law_mk_made" "_law_mk_made" (defArgs sMade) (defBody sMade) (defScope sMade) .none kVdB dcdB pm_dB andB cddB ctdB), sldB⟩)
    (cdB : PySem.W.codeIn K cddB "_law_mk_made" = true)
    (kdB : PySem.W.keepIn K (.ref fdB) = true)
    (adC : PySem.W.nsIn K mainGlobals "_law_mk_kept" = some (some (.ref fdC)))
    (ldC : K.lookup fdC = some ⟨ocdC, oddC, .func (PySem.W.fnOf "_law_mk_kept" "_law_mk_kept" (defArgs sKeptL) (defBody sKeptL) (defScope sKeptL) .none kVdC dcdC pm_dC andC cddC ctdC), sldC⟩)
    (cdC : PySem.W.codeIn K cddC "_law_mk_kept" = true)
    (kdC : PySem.W.keepIn K (.ref fdC) = true)
    (adD : PySem.W.nsIn K mainGlobals "_law_mk_free" = some (some (.ref fdD)))
    (ldD : K.lookup fdD = some ⟨ocdD, oddD, .func (PySem.W.fnOf "_law_mk_free" "_law_mk_free" (defArgs sFree) (defBody sFree) (defScope sFree) .none kVdD dcdD pm_dD andD cddD ctdD), sldD⟩)
    (cdD : PySem.W.codeIn K cddD "_law_mk_free" = true)
    (kdD : PySem.W.keepIn K (.ref fdD) = true)
    (adE : PySem.W.nsIn K mainGlobals "_law_mk_ranks" = some (some (.ref fdE)))
    (ldE : K.lookup fdE = some ⟨ocdE, oddE, .func (PySem.W.fnOf "_law_mk_ranks" "_law_mk_ranks" (defArgs sRanks) (defBody sRanks) (defScope sRanks) .none kVdE dcdE pm_dE andE cddE ctdE), sldE⟩)
    (cdE : PySem.W.codeIn K cddE "_law_mk_ranks" = true)
    (kdE : PySem.W.keepIn K (.ref fdE) = true)
    (adF : PySem.W.nsIn K mainGlobals "_law_mk_couples" = some (some (.ref fdF)))
    (ldF : K.lookup fdF = some ⟨ocdF, oddF, .func (PySem.W.fnOf "_law_mk_couples" "_law_mk_couples" (defArgs sCouples) (defBody sCouples) (defScope sCouples) .none kVdF dcdF pm_dF andF cddF ctdF), sldF⟩)
    (cdF : PySem.W.codeIn K cddF "_law_mk_couples" = true)
    (kdF : PySem.W.keepIn K (.ref fdF) = true)
    (adG : PySem.W.nsIn K mainGlobals "_law_mk_count" = some (some (.ref fdG)))
    (ldG : K.lookup fdG = some ⟨ocdG, oddG, .func (PySem.W.fnOf "_law_mk_count" "_law_mk_count" (defArgs sCount) (defBody sCount) (defScope sCount) .none kVdG dcdG pm_dG andG cddG ctdG), sldG⟩)
    (cdG : PySem.W.codeIn K cddG "_law_mk_count" = true)
    (kdG : PySem.W.keepIn K (.ref fdG) = true)
    (adH : PySem.W.nsIn K mainGlobals "_law_mk_wide" = some (some (.ref fdH)))
    (ldH : K.lookup fdH = some ⟨ocdH, oddH, .func (PySem.W.fnOf "_law_mk_wide" "_law_mk_wide" (defArgs sWide) (defBody sWide) (defScope sWide) .none kVdH dcdH pm_dH andH cddH ctdH), sldH⟩)
    (cdH : PySem.W.codeIn K cddH "_law_mk_wide" = true)
    (kdH : PySem.W.keepIn K (.ref fdH) = true)
    (adI : PySem.W.nsIn K mainGlobals "_law_mk_child" = some (some (.ref fdI)))
    (ldI : K.lookup fdI = some ⟨ocdI, oddI, .func (PySem.W.fnOf "_law_mk_child" "_law_mk_child" (defArgs sChild) (defBody sChild) (defScope sChild) .none kVdI dcdI pm_dI andI cddI ctdI), sldI⟩)
    (cdI : PySem.W.codeIn K cddI "_law_mk_child" = true)
    (kdI : PySem.W.keepIn K (.ref fdI) = true)
    (adJ : PySem.W.nsIn K mainGlobals "_law_right" = some (some (.ref fdJ)))
    (ldJ : K.lookup fdJ = some ⟨ocdJ, oddJ, .func (PySem.W.fnOf "_law_right" "_law_right" (defArgs sRight) (defBody sRight) (defScope sRight) .none kVdJ dcdJ pm_dJ andJ cddJ ctdJ), sldJ⟩)
    (cdJ : PySem.W.codeIn K cddJ "_law_right" = true)
    (kdJ : PySem.W.keepIn K (.ref fdJ) = true)
    (adK : PySem.W.nsIn K mainGlobals "law" = some (some (.ref fdK)))
    (ldK : K.lookup fdK = some ⟨ocdK, oddK, .func (PySem.W.fnOf "law" "law" (defArgs sLaw) (defBody sLaw) (defScope sLaw) .none kVdK dcdK pm_dK andK cddK ctdK), sldK⟩)
    (cdK : PySem.W.codeIn K cddK "law" = true)
    (kdK : PySem.W.keepIn K (.ref fdK) = true)
    (aC : PySem.W.nsIn K mainGlobals "Diary" = some (some (.ref C)))
    (am1 : PySem.W.findIn K (.ref C) "__init__" = some (some (.ref fm1)))
    (im1 : PySem.W.isFn K (.ref fm1) = true)
    (lm1 : K.lookup fm1 = some ⟨ocm1, odm1, .func (PySem.W.fnOf "__init__" "Diary.__init__" (defArgs sInit) (defBody sInit) (defScope sInit) .none kVm1 dcm1 pm_m1 anm1 cdm1 ctm1), slm1⟩)
    (cm1 : PySem.W.codeIn K cdm1 "Diary.__init__" = true)
    (km1 : PySem.W.keepIn K (.ref fm1) = true)
    (am2 : PySem.W.findIn K (.ref C) "towns" = some (some (.ref pm2)))
    (gm2 : PySem.W.specialIn K (.ref pm2) "__get__" = some (some (.builtin "property.__get__")))
    (tm2 : PySem.W.takesIn K (.ref pm2) = some true)
    (rm2 : PySem.W.recIn K pm2 "property" = some (.ref fm2 :: restm2))
    (lm2 : K.lookup fm2 = some ⟨ocm2, odm2, .func (PySem.W.fnOf "towns" "Diary.towns" (defArgs sGetTowns) (defBody sGetTowns) (defScope sGetTowns) .none kVm2 dcm2 pm_m2 anm2 cdm2 ctm2), slm2⟩)
    (cm2 : PySem.W.codeIn K cdm2 "Diary.towns" = true)
    (km2 : PySem.W.keepIn K (.ref fm2) = true)
    (am3 : PySem.W.findIn K (.ref C) "notes" = some (some (.ref pm3)))
    (gm3 : PySem.W.specialIn K (.ref pm3) "__get__" = some (some (.builtin "property.__get__")))
    (tm3 : PySem.W.takesIn K (.ref pm3) = some true)
    (rm3 : PySem.W.recIn K pm3 "property" = some (.ref fm3 :: restm3))
    (lm3 : K.lookup fm3 = some ⟨ocm3, odm3, .func (PySem.W.fnOf "notes" "Diary.notes" (defArgs sGetNotes) (defBody sGetNotes) (defScope sGetNotes) .none kVm3 dcm3 pm_m3 anm3 cdm3 ctm3), slm3⟩)
    (cm3 : PySem.W.codeIn K cdm3 "Diary.notes" = true)
    (km3 : PySem.W.keepIn K (.ref fm3) = true)
    (am4 : PySem.W.findIn K (.ref C) "names" = some (some (.ref fm4)))
    (im4 : PySem.W.isFn K (.ref fm4) = true)
    (lm4 : K.lookup fm4 = some ⟨ocm4, odm4, .func (PySem.W.fnOf "names" "Diary.names" (defArgs sNames) (defBody sNames) (defScope sNames) .none kVm4 dcm4 pm_m4 anm4 cdm4 ctm4), slm4⟩)
    (cm4 : PySem.W.codeIn K cdm4 "Diary.names" = true)
    (km4 : PySem.W.keepIn K (.ref fm4) = true)
    (am5 : PySem.W.findIn K (.ref C) "__len__" = some (some (.ref fm5)))
    (im5 : PySem.W.isFn K (.ref fm5) = true)
    (lm5 : K.lookup fm5 = some ⟨ocm5, odm5, .func (PySem.W.fnOf "__len__" "Diary.__len__" (defArgs sLen) (defBody sLen) (defScope sLen) .none kVm5 dcm5 pm_m5 anm5 cdm5 ctm5), slm5⟩)
    (cm5 : PySem.W.codeIn K cdm5 "Diary.__len__" = true)
    (km5 : PySem.W.keepIn K (.ref fm5) = true)
    (am6 : PySem.W.findIn K (.ref C) "with_note" = some (some (.ref fm6)))
    (im6 : PySem.W.isFn K (.ref fm6) = true)
    (lm6 : K.lookup fm6 = some ⟨ocm6, odm6, .func (PySem.W.fnOf "with_note" "Diary.with_note" (defArgs sWith) (defBody sWith) (defScope sWith) .none kVm6 dcm6 pm_m6 anm6 cdm6 ctm6), slm6⟩)
    (cm6 : PySem.W.codeIn K cdm6 "Diary.with_note" = true)
    (km6 : PySem.W.keepIn K (.ref fm6) = true)
    (am7 : PySem.W.findIn K (.ref C) "without" = some (some (.ref fm7)))
    (im7 : PySem.W.isFn K (.ref fm7) = true)
    (lm7 : K.lookup fm7 = some ⟨ocm7, odm7, .func (PySem.W.fnOf "without" "Diary.without" (defArgs sWithout) (defBody sWithout) (defScope sWithout) .none kVm7 dcm7 pm_m7 anm7 cdm7 ctm7), slm7⟩)
    (cm7 : PySem.W.codeIn K cdm7 "Diary.without" = true)
    (km7 : PySem.W.keepIn K (.ref fm7) = true)
    (pg : PySem.W.plainGet K C Str.empty = true)
    (hd : PySem.W.hasDictIn K C = true)
    (po : PySem.W.plainOver K C = true)
    (sa : PySem.W.findIn K (.ref C) "__setattr__" = some (some (.builtin "object.__setattr__")))
    (mk : PySem.W.makesIn K C = true)
    (kC : PySem.W.keepIn K (.ref C) = true)
    (nT : PySem.W.findIn K (.ref C) "_towns" = some none)
    (nN : PySem.W.findIn K (.ref C) "_notes" = some none)
    (tL : PySem.W.nsIn K mainGlobals "LETTERS" = some (some (.str "abcdefghijklmnopqrstuvwxyz" tk1)))
    (tM : PySem.W.nsIn K mainGlobals "MOST_LETTERS" = some (some (.int 8 tk2)))
    (tT : PySem.W.nsIn K mainGlobals "THINGS" = some (some (.ref dT)))
    (lT : K.lookup dT = some ⟨.type "dict", none, .dict es n, #[]⟩)
    (hT : PySem.W.KeysLit w.params es.toList)
    (oT : (dT == sysModules) = false)
    (e0 : PySem.W.nsIn K dT "market" = some (some (.int 3 te0)))
    (e1 : PySem.W.nsIn K dT "none" = some (some (.int 3 te1)))
    (e2 : PySem.W.nsIn K dT "one" = some (some (.int 4 te2)))
    (e3 : PySem.W.nsIn K dT "same" = some (some (.int 4 te3)))
    (tK : PySem.W.nsIn K mainGlobals "KEPT_BY" = some (some (.ref dQ)))
    (lK : K.lookup dQ = some ⟨.type "dict", none, .dict esQ nQ, #[]⟩)
    (hK : PySem.W.KeysLit w.params esQ.toList)
    (j0 : PySem.W.nsIn K dQ "market" = some (some (.ref u0)))
    (y0 : K.lookup u0 = some ⟨.type "tuple", ou0, .seq #[.int 1 tu00] nu0, su0⟩)
    (j1 : PySem.W.nsIn K dQ "none" = some (some (.ref u1)))
    (y1 : K.lookup u1 = some ⟨.type "tuple", ou1, .seq #[.int 0 tu10] nu1, su1⟩)
    (j2 : PySem.W.nsIn K dQ "one" = some (some (.ref u2)))
    (y2 : K.lookup u2 = some ⟨.type "tuple", ou2, .seq #[.int 1 tu20] nu2, su2⟩)
    (j3 : PySem.W.nsIn K dQ "same" = some (some (.ref u3)))
    (y3 : K.lookup u3 = some ⟨.type "tuple", ou3, .seq #[.int 0 tu30, .int 2 tu31] nu3, su3⟩)
    (z0 : PySem.W.nsIn K mainGlobals "len" = some none)
    (z1 : PySem.W.nsIn K mainGlobals "max" = some none)
    (z2 : PySem.W.nsIn K mainGlobals "min" = some none)
    (z3 : PySem.W.nsIn K mainGlobals "abs" = some none)
    (z4 : PySem.W.nsIn K mainGlobals "int" = some none)
    (z5 : PySem.W.nsIn K mainGlobals "list" = some none)
    (z6 : PySem.W.nsIn K mainGlobals "tuple" = some none)
    (z7 : PySem.W.nsIn K mainGlobals "set" = some none)
    (z8 : PySem.W.nsIn K mainGlobals "sorted" = some none)
    (z9 : PySem.W.nsIn K mainGlobals "range" = some none)
    (z10 : PySem.W.nsIn K mainGlobals "repr" = some none)
    (z11 : PySem.W.nsIn K mainGlobals "isinstance" = some none)
    (z12 : PySem.W.nsIn K mainGlobals "all" = some none)
    (z13 : PySem.W.nsIn K mainGlobals "enumerate" = some none) :
    ∃ fd : FuncData, (∀ (s : Shared) (v : Value), BindsTo s fd ⟨[v], []⟩ [("script", v)]) ∧ ∀ base : Heap, K.In base → base.Ns mainGlobals mg → FnG l.prog w K mg base CX0 8 fa fd ["script"] (spLaw K) := by
  have e := hfa.symm.trans (PySem.W.mg_of X G adK)
  cases e
  have B : Blt mg := ⟨PySem.W.mg_none_of X G z0, PySem.W.mg_none_of X G z1, PySem.W.mg_none_of X G z2, PySem.W.mg_none_of X G z3, PySem.W.mg_none_of X G z4, PySem.W.mg_none_of X G z5, PySem.W.mg_none_of X G z6, PySem.W.mg_none_of X G z7, PySem.W.mg_none_of X G z8, PySem.W.mg_none_of X G z9, PySem.W.mg_none_of X G z10, PySem.W.mg_none_of X G z11, PySem.W.mg_none_of X G z12⟩
  have B2 : Blt2 mg := ⟨PySem.W.mg_none_of X G z13⟩
  have T : Tops mg := ⟨⟨_, PySem.W.mg_of X G tL⟩, ⟨_, PySem.W.mg_of X G tM⟩⟩
  have TH : Things K w mg := ⟨dT, es, n, PySem.W.mg_of X G tT, ⟨lT, hT, oT⟩, ⟨_, e0⟩, ⟨_, e1⟩, ⟨_, e2⟩, ⟨_, e3⟩⟩
  have KB : KeptBy K w mg := ⟨dQ, PySem.W.mg_of X G tK, ⟨_, ⟨esQ, nQ, _, lK, hK, j0, rfl⟩, tup_frag y0 (by show 1 ≤ sizeLine; decide) (.cons ⟨_, rfl⟩ .nil)⟩, ⟨_, ⟨esQ, nQ, _, lK, hK, j1, rfl⟩, tup_frag y1 (by show 1 ≤ sizeLine; decide) (.cons ⟨_, rfl⟩ .nil)⟩, ⟨_, ⟨esQ, nQ, _, lK, hK, j2, rfl⟩, tup_frag y2 (by show 1 ≤ sizeLine; decide) (.cons ⟨_, rfl⟩ .nil)⟩, _, ⟨esQ, nQ, _, lK, hK, j3, rfl⟩, tup_frag y3 (by show 2 ≤ sizeLine; decide) (.cons ⟨_, rfl⟩ (.cons ⟨_, rfl⟩ .nil))⟩
  have cl : Cl K C := ⟨⟨pg, hd, po, sa⟩, nT, nN⟩
  have Fn1 := fun_mk (st := sIsName) ln1 cn1 kn1
  have Fn2 := fun_mk (st := sCheckTowns) ln2 cn2 kn2
  have Fn3 := fun_mk (st := sCheckNote) ln3 cn3 kn3
  have Fn4 := fun_mk (st := sCheckAsked) ln4 cn4 kn4
  have Ft1 := fun_mk (st := sChoicesOf) lt1 ct1 kt1
  have Ft2 := fun_mk (st := sHasMarket) lt2 ct2 kt2
  have Ft3 := fun_mk (st := sNumberWith) lt3 ct3 kt3
  have Ft4 := fun_mk (st := sIsKept) lt4 ct4 kt4
  have Fg1 := fun_mk (st := sGroupOf) lg1 cg1 kg1
  have Fg2 := fun_mk (st := sGroupsOf) lg2 cg2 kg2
  have Fg3 := fun_mk (st := sAskedOf) lg3 cg3 kg3
  have Fg4 := fun_mk (st := sLots) lg4 cg4 kg4
  have Fg5 := fun_mk (st := sFitting) lg5 cg5 kg5
  have Fc1 := fun_mk (st := sNumber) lc1 cc1 kc1
  have Fd1 := fun_mk (st := sPurse) ld1 cd1 kd1
  have Fd2 := fun_mk (st := sCoin) ld2 cd2 kd2
  have Fd3 := fun_mk (st := sWords) ld3 cd3 kd3
  have Fd4 := fun_mk (st := sMoment) ld4 cd4 kd4
  have Fd5 := fun_mk (st := sPlaces) ld5 cd5 kd5
  have Fd6 := fun_mk (st := sPicks) ld6 cd6 kd6
  have Fd7 := fun_mk (st := sPair) ld7 cd7 kd7
  have Fd8 := fun_mk (st := sMarket) ld8 cd8 kd8
  have Fd9 := fun_mk (st := sEntry) ld9 cd9 kd9
  have FdA := fun_mk (st := sSheet) ldA cdA kdA
  have FdB := fun_mk (st := sMade) ldB cdB kdB
  have FdC := fun_mk (st := sKeptL) ldC cdC kdC
  have FdD := fun_mk (st := sFree) ldD cdD kdD
  have FdE := fun_mk (st := sRanks) ldE cdE kdE
  have FdF := fun_mk (st := sCouples) ldF cdF kdF
  have FdG := fun_mk (st := sCount) ldG cdG kdG
  have FdH := fun_mk (st := sWide) ldH cdH kdH
  have FdI := fun_mk (st := sChild) ldI cdI kdI
  have FdJ := fun_mk (st := sRight) ldJ cdJ kdJ
  have FdK := fun_mk (st := sLaw) ldK cdK kdK
  have Fm1 := fun_mk (st := sInit) lm1 cm1 km1
  have Fm2 := fun_mk (st := sGetTowns) lm2 cm2 km2
  have Fm3 := fun_mk (st := sGetNotes) lm3 cm3 km3
  have Fm4 := fun_mk (st := sNames) lm4 cm4 km4
  have Fm5 := fun_mk (st := sLen) lm5 cm5 km5
  have Fm6 := fun_mk (st := sWith) lm6 cm6 km6
  have Fm7 := fun_mk (st := sWithout) lm7 cm7 km7
  have bn1 := Fn1.binds (ps := ["name"]) fun _ _ _ _ _ _ us hl => match us, hl with | [_], _ => rfl
  have bn2 := Fn2.binds (ps := ["towns"]) fun _ _ _ _ _ _ us hl => match us, hl with | [_], _ => rfl
  have bn3 := Fn3.binds (ps := ["names", "note"]) fun _ _ _ _ _ _ us hl => match us, hl with | [_, _], _ => rfl
  have bn4 := Fn4.binds (ps := ["names", "asked"]) fun _ _ _ _ _ _ us hl => match us, hl with | [_, _], _ => rfl
  have bt1 := Ft1.binds (ps := ["town"]) fun _ _ _ _ _ _ us hl => match us, hl with | [_], _ => rfl
  have bt2 := Ft2.binds (ps := ["choice", "day"]) fun _ _ _ _ _ _ us hl => match us, hl with | [_, _], _ => rfl
  have bt3 := Ft3.binds (ps := ["chosen", "day"]) fun _ _ _ _ _ _ us hl => match us, hl with | [_, _], _ => rfl
  have bt4 := Ft4.binds (ps := ["note", "chosen"]) fun _ _ _ _ _ _ us hl => match us, hl with | [_, _], _ => rfl
  have bg1 := Fg1.binds (ps := ["diary", "town"]) fun _ _ _ _ _ _ us hl => match us, hl with | [_, _], _ => rfl
  have bg2 := Fg2.binds (ps := ["diary"]) fun _ _ _ _ _ _ us hl => match us, hl with | [_], _ => rfl
  have bg3 := Fg3.binds (ps := ["diary", "names"]) fun _ _ _ _ _ _ us hl => match us, hl with | [_, _], _ => rfl
  have bg4 := Fg4.binds (ps := ["diary", "names", "asked"]) fun _ _ _ _ _ _ us hl => match us, hl with | [_, _, _], _ => rfl
  have bg5 := Fg5.binds (ps := ["diary", "group"]) fun _ _ _ _ _ _ us hl => match us, hl with | [_, _], _ => rfl
  have bc1 := Fc1.binds (ps := ["diary"]) fun _ _ _ _ _ _ us hl => match us, hl with | [_], _ => rfl
  have bd1 := Fd1.binds (ps := ["script", "place"]) fun _ _ _ _ _ _ us hl => match us, hl with | [_, _], _ => rfl
  have bd2 := Fd2.binds (ps := ["purse", "many"]) fun _ _ _ _ _ _ us hl => match us, hl with | [_, _], _ => rfl
  have bd3 := Fd3.binds (ps := ["purse", "many"]) fun _ _ _ _ _ _ us hl => match us, hl with | [_, _], _ => rfl
  have bd4 := Fd4.binds (ps := ["purse"]) fun _ _ _ _ _ _ us hl => match us, hl with | [_], _ => rfl
  have bd5 := Fd5.binds (ps := ["purse", "count", "top"]) fun _ _ _ _ _ _ us hl => match us, hl with | [_, _, _], _ => rfl
  have bd6 := Fd6.binds (ps := ["purse", "places"]) fun _ _ _ _ _ _ us hl => match us, hl with | [_, _], _ => rfl
  have bd7 := Fd7.binds (ps := ["purse", "places"]) fun _ _ _ _ _ _ us hl => match us, hl with | [_, _], _ => rfl
  have bd8 := Fd8.binds (ps := ["pick", "moment"]) fun _ _ _ _ _ _ us hl => match us, hl with | [_, _], _ => rfl
  have bd9 := Fd9.binds (ps := ["purse", "places", "pair", "picks", "is_true"]) fun _ _ _ _ _ _ us hl => match us, hl with | [_, _, _, _, _], _ => rfl
  have bdA := FdA.binds (ps := ["purse", "count", "top", "size"]) fun _ _ _ _ _ _ us hl => match us, hl with | [_, _, _, _], _ => rfl
  have bdB := FdB.binds (ps := ["sheet"]) fun _ _ _ _ _ _ us hl => match us, hl with | [_], _ => rfl
  have bdC := FdC.binds (ps := ["entry", "held"]) fun _ _ _ _ _ _ us hl => match us, hl with | [_, _], _ => rfl
  have bdD := FdD.binds (ps := ["place", "entries"]) fun _ _ _ _ _ _ us hl => match us, hl with | [_, _], _ => rfl
  have bdE := FdE.binds (ps := ["sheet"]) fun _ _ _ _ _ _ us hl => match us, hl with | [_], _ => rfl
  have bdF := FdF.binds (ps := ["sheet", "ranks"]) fun _ _ _ _ _ _ us hl => match us, hl with | [_, _], _ => rfl
  have bdG := FdG.binds (ps := ["sheet"]) fun _ _ _ _ _ _ us hl => match us, hl with | [_], _ => rfl
  have bdH := FdH.binds (ps := ["purse"]) fun _ _ _ _ _ _ us hl => match us, hl with | [_], _ => rfl
  have bdI := FdI.binds (ps := ["purse", "made", "sheet", "most"]) fun _ _ _ _ _ _ us hl => match us, hl with | [_, _, _, _], _ => rfl
  have bdJ := FdJ.binds (ps := ["purse"]) fun _ _ _ _ _ _ us hl => match us, hl with | [_], _ => rfl
  have bdK := FdK.binds (ps := ["script"]) fun _ _ _ _ _ _ us hl => match us, hl with | [_], _ => rfl
  have bm1 := Fm1.binds (ps := ["self", "towns", "notes"]) fun _ _ _ _ _ _ us hl => match us, hl with | [_, _, _], _ => rfl
  have bm2 := Fm2.binds (ps := ["self"]) fun _ _ _ _ _ _ us hl => match us, hl with | [_], _ => rfl
  have bm3 := Fm3.binds (ps := ["self"]) fun _ _ _ _ _ _ us hl => match us, hl with | [_], _ => rfl
  have bm4 := Fm4.binds (ps := ["self"]) fun _ _ _ _ _ _ us hl => match us, hl with | [_], _ => rfl
  have bm5 := Fm5.binds (ps := ["self"]) fun _ _ _ _ _ _ us hl => match us, hl with | [_], _ => rfl
  have bm6 := Fm6.binds (ps := ["self", "note"]) fun _ _ _ _ _ _ us hl => match us, hl with | [_, _], _ => rfl
  have bm7 := Fm7.binds (ps := ["self", "index"]) fun _ _ _ _ _ _ us hl => match us, hl with | [_, _], _ => rfl
  refine ⟨PySem.W.fnOf "law" "law" (defArgs sLaw) (defBody sLaw) (defScope sLaw) .none kVdK dcdK pm_dK andK cddK ctdK, fun s v => .of_eq rfl, fun base _ _ => ?_⟩
  have C2 : CoinAt l.prog w K mg base fd2 _ := ⟨fun k => ok_coin Fd2 B, PySem.W.mg_of X G ad2, kd2, bd2⟩
  have TE : Tell l.prog w K mg base C pm2 fm2 pm3 fm3 fm4 fm5 _ _ _ _ := ⟨cl, ⟨am2, gm2, tm2, _, rm2⟩, fun k => ok_towns Fm2 cl B, bm2, ⟨am3, gm3, tm3, _, rm3⟩, fun k => ok_notes Fm3 cl B, bm3, ⟨am4, im4, km4⟩, fun k => ok_names Fm4 cl B, bm4, ⟨am5, im5, km5⟩, fun k => ok_len Fm5 cl B, bm5⟩
  have DZ : Dz l.prog w K mg base C fm1 _ := ⟨cl, PySem.W.mg_of X G aC, ⟨mk, am1, im1, kC⟩, fun k => ok_init Fm1 cl B (ok_checkTowns Fn2 Fn1 (PySem.W.mg_of X G an1) bn1 B T) (PySem.W.mg_of X G an2) kn2 bn2 (ok_checkNote Fn3 Fn4 (PySem.W.mg_of X G an4) bn4 B TH) (PySem.W.mg_of X G an3) kn3 bn3, bm1⟩
  have W1 : DefAt l.prog w K mg base "choices_of" ft1 _ ["town"] 1 spWays := ⟨fun k => ok_ways Ft1 B, PySem.W.mg_of X G at1, kt1, bt1⟩
  have W2 : DefAt l.prog w K mg base "has_market" ft2 _ ["choice", "day"] 1 spHas := ⟨fun k => ok_has Ft2, PySem.W.mg_of X G at2, kt2, bt2⟩
  have W3 : DefAt l.prog w K mg base "number_with" ft3 _ ["chosen", "day"] 2 (spNumW K) := ⟨fun k => ok_numW Ft3 W2 B, PySem.W.mg_of X G at3, kt3, bt3⟩
  have W4 : DefAt l.prog w K mg base "is_kept" ft4 _ ["note", "chosen"] 3 (spKeptP K) := ⟨fun k => ok_keptP Ft4 W3 KB, PySem.W.mg_of X G at4, kt4, bt4⟩
  have G1 : DefAt l.prog w K mg base "group_of" fg1 _ ["diary", "town"] 3 (spGroupOf C) := ⟨fun k => ok_groupOf Fg1 TE B, PySem.W.mg_of X G ag1, kg1, bg1⟩
  have G2 : DefAt l.prog w K mg base "groups_of" fg2 _ ["diary"] 4 (spGroupsOf C) := ⟨fun k => ok_groupsOf Fg2 G1 TE, PySem.W.mg_of X G ag2, kg2, bg2⟩
  have G3 : DefAt l.prog w K mg base "asked_of" fg3 _ ["diary", "names"] 3 (spAskedOf C) := ⟨fun k => ok_askedOf Fg3 TE B B2, PySem.W.mg_of X G ag3, kg3, bg3⟩
  have G4 : DefAt l.prog w K mg base "lots_keeping" fg4 _ ["diary", "names", "asked"] 4 (spLots C) := ⟨fun k => ok_lots Fg4 W1 W4 TE B B2, PySem.W.mg_of X G ag4, kg4, bg4⟩
  have G5 : DefAt l.prog w K mg base "fitting_lots" fg5 _ ["diary", "group"] 5 (spFitting C) := ⟨fun k => ok_fitting Fg5 G4 G3, PySem.W.mg_of X G ag5, kg5, bg5⟩
  have N1 : DefAt l.prog w K mg base "number_of_cases" fc1 _ ["diary"] 6 (spNumber C) := ⟨fun k => ok_number Fc1 G2 G5 B, PySem.W.mg_of X G ac1, kc1, bc1⟩
  have A1 : DefAt l.prog w K mg base "_law_purse" fd1 _ ["script", "place"] 1 (spPurse K) := ⟨fun k => ok_purse Fd1 B, PySem.W.mg_of X G ad1, kd1, bd1⟩
  have A3 : DefAt l.prog w K mg base "_law_words" fd3 _ ["purse", "many"] 2 spWords := ⟨fun k => ok_words Fd3 C2 B, PySem.W.mg_of X G ad3, kd3, bd3⟩
  have A4 : DefAt l.prog w K mg base "_law_mk_moment" fd4 _ ["purse"] 2 spMoment := ⟨fun k => ok_moment Fd4 C2 B, PySem.W.mg_of X G ad4, kd4, bd4⟩
  have A5 : DefAt l.prog w K mg base "_law_mk_places" fd5 _ ["purse", "count", "top"] 3 spPlaces := ⟨fun k => ok_places Fd5 C2 A3 B, PySem.W.mg_of X G ad5, kd5, bd5⟩
  have A6 : DefAt l.prog w K mg base "_law_mk_picks" fd6 _ ["purse", "places"] 2 spPicks := ⟨fun k => ok_picks Fd6 C2, PySem.W.mg_of X G ad6, kd6, bd6⟩
  have A7 : DefAt l.prog w K mg base "_law_mk_pair" fd7 _ ["purse", "places"] 2 spPair := ⟨fun k => ok_pair Fd7 C2 B, PySem.W.mg_of X G ad7, kd7, bd7⟩
  have A8 : DefAt l.prog w K mg base "_law_mk_market" fd8 _ ["pick", "moment"] 1 spMarket := ⟨fun k => ok_market Fd8 B, PySem.W.mg_of X G ad8, kd8, bd8⟩
  have A8x : DefAt l.prog w K mg base "_law_mk_market" fd8 _ ["pick", "moment"] 1 spHas := ⟨fun k => ok_marketX Fd8 B, PySem.W.mg_of X G ad8, kd8, bd8⟩
  have A9 : DefAt l.prog w K mg base "_law_mk_entry" fd9 _ ["purse", "places", "pair", "picks", "is_true"] 3 spEntry := ⟨fun k => ok_entry Fd9 C2 A4 A8 B, PySem.W.mg_of X G ad9, kd9, bd9⟩
  have A9x : DefAt l.prog w K mg base "_law_mk_entry" fd9 _ ["purse", "places", "pair", "picks", "is_true"] 3 spEntry2 := ⟨fun k => ok_entry2 Fd9 C2 A4 A8 B, PySem.W.mg_of X G ad9, kd9, bd9⟩
  have AA : DefAt l.prog w K mg base "_law_mk_sheet" fdA _ ["purse", "count", "top", "size"] 4 spSheet := ⟨fun k => ok_sheet FdA C2 A5 A6 A7 A9x B, PySem.W.mg_of X G adA, kdA, bdA⟩
  have AB : DefAt l.prog w K mg base "_law_mk_made" fdB _ ["sheet"] 5 (spMade0 C) := ⟨fun k => ok_made0 FdB DZ B, PySem.W.mg_of X G adB, kdB, bdB⟩
  have AC : DefAt l.prog w K mg base "_law_mk_kept" fdC _ ["entry", "held"] 2 spKeptL := ⟨fun k => ok_keptL FdC A8x, PySem.W.mg_of X G adC, kdC, bdC⟩
  have AD : DefAt l.prog w K mg base "_law_mk_free" fdD _ ["place", "entries"] 3 spFree := ⟨fun k => ok_free FdD AC B, PySem.W.mg_of X G adD, kdD, bdD⟩
  have AEx : DefAt l.prog w K mg base "_law_mk_ranks" fdE _ ["sheet"] 1 spRanks2 := ⟨fun k => ok_ranks2 FdE B, PySem.W.mg_of X G adE, kdE, bdE⟩
  have AE : DefAt l.prog w K mg base "_law_mk_ranks" fdE _ ["sheet"] 1 spRanks := ⟨fun k => ok_ranks (ok_ranks2 FdE B), PySem.W.mg_of X G adE, kdE, bdE⟩
  have AF : DefAt l.prog w K mg base "_law_mk_couples" fdF _ ["sheet", "ranks"] 4 spCouples := ⟨fun k => ok_couples FdF AD AC B, PySem.W.mg_of X G adF, kdF, bdF⟩
  have AG : DefAt l.prog w K mg base "_law_mk_count" fdG _ ["sheet"] 5 spCount := ⟨fun k => count_of (ok_count0 FdG AE AD AF B B2), PySem.W.mg_of X G adG, kdG, bdG⟩
  have AH : DefAt l.prog w K mg base "_law_mk_wide" fdH _ ["purse"] 4 spWide := ⟨fun k => ok_wide FdH C2 A5 A6 A7 A9 B, PySem.W.mg_of X G adH, kdH, bdH⟩
  have AI : DefAt l.prog w K mg base "_law_mk_child" fdI _ ["purse", "made", "sheet", "most"] 6 (spChild C) := ⟨fun k => ok_child FdI cl C2 A6 A9x AEx (fun k => ok_with0 Fm6 DZ) ⟨am6, im6, km6⟩ bm6 (fun k => ok_without0 Fm7 DZ B) ⟨am7, im7, km7⟩ bm7 B, PySem.W.mg_of X G adI, kdI, bdI⟩
  have AJ : GAt l.prog w K mg base "_law_right" fdJ _ ["purse"] 7 spRight := ⟨fun k => ok_right FdJ C2 AA AH AB N1 (number_kb Fc1) AG AI TE B, PySem.W.mg_of X G adJ, kdJ, bdJ⟩
  exact ok_law FdK A1 AJ B
end Md

open PySem PySem.W PyProof.Rows
set_option maxRecDepth 100000 in
set_option maxHeartbeats 0 in
theorem PySem.Challenge.cw_marketdays_k14_diaries_stay_holds : PySem.Challenge.rw_marketdays_k14_diaries_stay.Holds := by
  w_on; o_law; k_head; (case hw => w_witness2)
  k_fill
  refine Md.walk_g (l := PySem.Challenge.rw_marketdays_k14_diaries_stay) (n := 63) (k := 8) (x := "script") (sp := Md.spLaw) rfl (by decide) rfl ⟨rfl, by decide, by decide⟩ (fun w h Y => PySem.W.kIn_of Y) ?F (fun _ _ a ns hl hS => ⟨a, ns, rfl, hS, hl, fun _ => rfl⟩)
  case F =>
    intro w mg fa h KX G hmg
    refine' Md.all_mk KX G hmg ?an1 ?ln1 ?cn1 ?kn1 ?an2 ?ln2 ?cn2 ?kn2 ?an3 ?ln3 ?cn3 ?kn3 ?an4 ?ln4 ?cn4 ?kn4 ?at1 ?lt1 ?ct1 ?kt1 ?at2 ?lt2 ?ct2 ?kt2 ?at3 ?lt3 ?ct3 ?kt3 ?at4 ?lt4 ?ct4 ?kt4 ?ag1 ?lg1 ?cg1 ?kg1 ?ag2 ?lg2 ?cg2 ?kg2 ?ag3 ?lg3 ?cg3 ?kg3 ?ag4 ?lg4 ?cg4 ?kg4 ?ag5 ?lg5 ?cg5 ?kg5 ?ac1 ?lc1 ?cc1 ?kc1 ?ad1 ?ld1 ?cd1 ?kd1 ?ad2 ?ld2 ?cd2 ?kd2 ?ad3 ?ld3 ?cd3 ?kd3 ?ad4 ?ld4 ?cd4 ?kd4 ?ad5 ?ld5 ?cd5 ?kd5 ?ad6 ?ld6 ?cd6 ?kd6 ?ad7 ?ld7 ?cd7 ?kd7 ?ad8 ?ld8 ?cd8 ?kd8 ?ad9 ?ld9 ?cd9 ?kd9 ?adA ?ldA ?cdA ?kdA ?adB ?ldB ?cdB ?kdB ?adC ?ldC ?cdC ?kdC ?adD ?ldD ?cdD ?kdD ?adE ?ldE ?cdE ?kdE ?adF ?ldF ?cdF ?kdF ?adG ?ldG ?cdG ?kdG ?adH ?ldH ?cdH ?kdH ?adI ?ldI ?cdI ?kdI ?adJ ?ldJ ?cdJ ?kdJ ?adK ?ldK ?cdK ?kdK ?aC ?am1 ?im1 ?lm1 ?cm1 ?km1 ?am2 ?gm2 ?tm2 ?rm2 ?lm2 ?cm2 ?km2 ?am3 ?gm3 ?tm3 ?rm3 ?lm3 ?cm3 ?km3 ?am4 ?im4 ?lm4 ?cm4 ?km4 ?am5 ?im5 ?lm5 ?cm5 ?km5 ?am6 ?im6 ?lm6 ?cm6 ?km6 ?am7 ?im7 ?lm7 ?cm7 ?km7 ?pg ?hd ?po ?sa ?mk ?kC ?nT ?nN ?tL ?tM ?tT ?lT ?hT ?oT ?e0 ?e1 ?e2 ?e3 ?tK ?lK ?hK ?j0 ?y0 ?j1 ?y1 ?j2 ?y2 ?j3 ?y3 ?z0 ?z1 ?z2 ?z3 ?z4 ?z5 ?z6 ?z7 ?z8 ?z9 ?z10 ?z11 ?z12 ?z13
    (case an1 => k_is); (case ln1 => k_is); (case cn1 => k_is); (case kn1 => k_is); (case an2 => k_is); (case ln2 => k_is)
    (case cn2 => k_is); (case kn2 => k_is); (case an3 => k_is); (case ln3 => k_is); (case cn3 => k_is); (case kn3 => k_is)
    (case an4 => k_is); (case ln4 => k_is); (case cn4 => k_is); (case kn4 => k_is); (case at1 => k_is); (case lt1 => k_is)
    (case ct1 => k_is); (case kt1 => k_is); (case at2 => k_is); (case lt2 => k_is); (case ct2 => k_is); (case kt2 => k_is)
    (case at3 => k_is); (case lt3 => k_is); (case ct3 => k_is); (case kt3 => k_is); (case at4 => k_is); (case lt4 => k_is)
    (case ct4 => k_is); (case kt4 => k_is); (case ag1 => k_is); (case lg1 => k_is); (case cg1 => k_is); (case kg1 => k_is)
    (case ag2 => k_is); (case lg2 => k_is); (case cg2 => k_is); (case kg2 => k_is); (case ag3 => k_is); (case lg3 => k_is)
    (case cg3 => k_is); (case kg3 => k_is); (case ag4 => k_is); (case lg4 => k_is); (case cg4 => k_is); (case kg4 => k_is)
    (case ag5 => k_is); (case lg5 => k_is); (case cg5 => k_is); (case kg5 => k_is); (case ac1 => k_is); (case lc1 => k_is)
    (case cc1 => k_is); (case kc1 => k_is); (case ad1 => k_is); (case ld1 => k_is); (case cd1 => k_is); (case kd1 => k_is)
    (case ad2 => k_is); (case ld2 => k_is); (case cd2 => k_is); (case kd2 => k_is); (case ad3 => k_is); (case ld3 => k_is)
    (case cd3 => k_is); (case kd3 => k_is); (case ad4 => k_is); (case ld4 => k_is); (case cd4 => k_is); (case kd4 => k_is)
    (case ad5 => k_is); (case ld5 => k_is); (case cd5 => k_is); (case kd5 => k_is); (case ad6 => k_is); (case ld6 => k_is)
    (case cd6 => k_is); (case kd6 => k_is); (case ad7 => k_is); (case ld7 => k_is); (case cd7 => k_is); (case kd7 => k_is)
    (case ad8 => k_is); (case ld8 => k_is); (case cd8 => k_is); (case kd8 => k_is); (case ad9 => k_is); (case ld9 => k_is)
    (case cd9 => k_is); (case kd9 => k_is); (case adA => k_is); (case ldA => k_is); (case cdA => k_is); (case kdA => k_is)
    (case adB => k_is); (case ldB => k_is); (case cdB => k_is); (case kdB => k_is); (case adC => k_is); (case ldC => k_is)
    (case cdC => k_is); (case kdC => k_is); (case adD => k_is); (case ldD => k_is); (case cdD => k_is); (case kdD => k_is)
    (case adE => k_is); (case ldE => k_is); (case cdE => k_is); (case kdE => k_is); (case adF => k_is); (case ldF => k_is)
    (case cdF => k_is); (case kdF => k_is); (case adG => k_is); (case ldG => k_is); (case cdG => k_is); (case kdG => k_is)
    (case adH => k_is); (case ldH => k_is); (case cdH => k_is); (case kdH => k_is); (case adI => k_is); (case ldI => k_is)
    (case cdI => k_is); (case kdI => k_is); (case adJ => k_is); (case ldJ => k_is); (case cdJ => k_is); (case kdJ => k_is)
    (case adK => k_is); (case ldK => k_is); (case cdK => k_is); (case kdK => k_is); (case aC => k_is); (case am1 => k_is)
    (case im1 => k_is); (case lm1 => k_is); (case cm1 => k_is); (case km1 => k_is); (case am2 => k_is); (case gm2 => k_is)
    (case tm2 => k_is); (case rm2 => k_is); (case lm2 => k_is); (case cm2 => k_is); (case km2 => k_is); (case am3 => k_is)
    (case gm3 => k_is); (case tm3 => k_is); (case rm3 => k_is); (case lm3 => k_is); (case cm3 => k_is); (case km3 => k_is)
    (case am4 => k_is); (case im4 => k_is); (case lm4 => k_is); (case cm4 => k_is); (case km4 => k_is); (case am5 => k_is)
    (case im5 => k_is); (case lm5 => k_is); (case cm5 => k_is); (case km5 => k_is); (case am6 => k_is); (case im6 => k_is)
    (case lm6 => k_is); (case cm6 => k_is); (case km6 => k_is); (case am7 => k_is); (case im7 => k_is); (case lm7 => k_is)
    (case cm7 => k_is); (case km7 => k_is); (case pg => k_is); (case hd => k_is); (case po => k_is); (case sa => k_is)
    (case mk => k_is); (case kC => k_is); (case nT => k_is); (case nN => k_is); (case tL => k_is); (case tM => k_is)
    (case tT => k_is); (case lT => k_is); (case hT => exact ⟨⟨_, _, rfl, rfl⟩, ⟨_, _, rfl, rfl⟩, ⟨_, _, rfl, rfl⟩, ⟨_, _, rfl, rfl⟩, trivial⟩); (case oT => rfl); (case e0 => k_is); (case e1 => k_is)
    (case e2 => k_is); (case e3 => k_is); (case tK => k_is); (case lK => k_is); (case hK => exact ⟨⟨_, _, rfl, rfl⟩, ⟨_, _, rfl, rfl⟩, ⟨_, _, rfl, rfl⟩, ⟨_, _, rfl, rfl⟩, trivial⟩); (case j0 => k_is)
    (case y0 => k_is); (case j1 => k_is); (case y1 => k_is); (case j2 => k_is); (case y2 => k_is); (case j3 => k_is)
    (case y3 => k_is); (case z0 => k_is); (case z1 => k_is); (case z2 => k_is); (case z3 => k_is); (case z4 => k_is)
    (case z5 => k_is); (case z6 => k_is); (case z7 => k_is); (case z8 => k_is); (case z9 => k_is); (case z10 => k_is)
    (case z11 => k_is); (case z12 => k_is); (case z13 => k_is)
