import PyProof.Rows.All
import Wide.All
import OpenK.AllK
import Wide.FinOn
import HandS.ForMost
import HandS.Strs
import HandS.SetFor
import HandS.SortInts
import HandS.Wide
import HandS.Property
import HandS.MakeKw
import HandS.More
import PyProof.Rows.SetFrom
import HandS.Zip
import PySem.Challenge.RW_marketdays_k09_diaries_made
import HandS.Codes
import HandS.Style
import HandS.MakeKwOnly
set_option Elab.async false
set_option linter.all false
set_option maxRecDepth 100000
/-! Defs whose bodies show data by repr: a promise under the fact that no shown thing stands on the stack. -/
namespace Md
open PySem PySem.Spec PyProof.Rows L2

/-- nothing that repr guards is running -/
abbrev NoG (A : Around) : Prop := A.guards = some []

structure FnG (P : Program) (w : World) (K : PySem.W.Frag) (mg : Str → Option Value) (base : Heap) (CX : CXT) (k : Nat) (f : Addr) (fd : FuncData) (ps : List Str) (sp : Sp) : Prop where
  many : ∀ vs H Q E, sp vs H Q E → vs.length = ps.length
  goes : ∀ (A : Around) (around : List Env) (st : Shared) (H : Hp) (ag : Args) (us : List Value) (vs : List V) (Q : VK) (E : XK),
    NoG A → Room k A → Env0 P w K mg base A around st H → BindsTo st fd ag (ps.zip us) → Vals vs us → sp vs H Q E →
    codeAny (model P w) A (.call (.ref f) ag) (CR CX around P w H st Q E) st

section
variable {X : Cx} {CX : CXT} {k : Nat} {f : Addr} {fd : FuncData} {ps : List Str} {sp : Sp} {E : XK} {x : Str} {p pos : Pos} {e : Expr} {es : List Expr} {t : TA}

theorem goes_fn {pins : List (Addr × Obj)} {sl : L2.St} {H : Hp} {st : Shared} {Q : VK} {us : List Value} {vs : List V}
    (F : FnG X.prog X.w X.K X.mg X.base CX k f fd ps sp) (g : NoG X.A) (hr : Room k X.A) (hb : Binds X.K fd ps []) (hx : Passes CX X E)
    (I : Inv X pins sl H st) (rv : Vals vs us) (h : sp vs H Q E) :
    wpAny (model X.prog X.w) X.A (call (.ref f) us) (EP X pins sl Q) X.xe st := by
  have same : us ++ [] = us := List.append_nil us
  have fits : (us ++ []).length = ps.length := by
    rw [same, ← rv.length]
    exact F.many _ _ _ _ h
  have bound := hb st us I.kIn fits
  rw [same] at bound
  refine wpAny_call (codeAny_mono (F.goes X.A X.stack st H ⟨us, []⟩ us vs Q E g hr I.env0 bound rv h) ?_)
  intro res st2 done
  match res, done with
  | .error er, done => exact hx pins sl H st er st2 I done
  | .ok (.ret u), done => exact I.after done

theorem pe_callG (F : FnG X.prog X.w X.K X.mg X.base CX k f fd ps sp) (g : NoG X.A) (hr : Room k X.A) (hg : Gl X x) (hm : X.mg x = some (.ref f)) (hk : PySem.W.keepIn X.K (.ref f) = true)
    (hb : Binds X.K fd ps []) (hx : Passes CX X E) (ha : PA X (e :: es) t) (hdb : (x == ("__debug__" : Str)) = false := by decide)
    (first : starEach (e :: es) X.env = (false, eval e X.env) :: starEach es X.env := by rfl) (flat : (backTo pos (starEach es X.env)).any (·.1) = false := by rfl) :
    PE X (.Call (.Name x p) (e :: es) [] pos) (tCall sp [] E t) := by
  constructor
  intro pins st sl H Q I h
  refine wpAny_Call_Name_kw (ld_glob I hg hm ?_ hdb)
  have args := thn (ha.run pos pins st sl H _ I h) (fun us st1 (w : AP X pins sl _ us st1) => w)
  refine PySem.W.callWith_K (h₀ := X.base) I.ok.mod.kin hk (thn args fun us st1 got => ?_) first flat
  obtain ⟨vs, H1, I1, rv, q⟩ := got
  have q' : sp vs H1 Q E := by
    have z : sp (vs ++ []) H1 Q E := q
    rwa [List.append_nil] at z
  exact ⟨I1.kIn, goes_fn F g hr hb hx I1 rv q'⟩
end

/-- a def of the text, by its body -/
theorem fn_g {CX : CXT} {P : Program} {w : World} {K : PySem.W.Frag} {mg : Str → Option Value} {base : Heap} {k : Nat} {f : Addr} {name qual : Str} {params : Arguments} {body : List Stmt} {scope : Scope}
    {dV kV doc pm cdv ct oc : Value} {an od : Option Addr} {osl : Array (Option Value)} {N ps : List Str} {sp : Sp}
    (lk : K.lookup f = some ⟨oc, od, .func (PySem.W.fnOf name qual params body scope dV kV doc pm an cdv ct), osl⟩) (hcd : PySem.W.codeIn K cdv qual = true) (S : FnScope N ps scope)
    (many : ∀ vs H Q E, sp vs H Q E → vs.length = ps.length)
    (inside : ∀ (A : Around) (around : List Env) (st : Shared) (H : Hp) (vs : List V) (Q : VK) (E : XK), NoG (A.deeper (envOfC qual scope st.heap.objs.size f cdv)) →
      Room k (A.deeper (envOfC qual scope st.heap.objs.size f cdv)) → sp vs H Q E →
      ∃ t, PSs (cxOf CX P w K mg base N qual scope f cdv A around st H E) body t ∧ t { nx := fun _ H' => Q .non H', rt := Q } (start N vs) H) :
    FnG P w K mg base CX (k + 1) f (PySem.W.fnOf name qual params body scope dV kV doc pm an cdv ct) ps sp := by
  constructor
  · exact many
  intro A around st H ag us vs Q E g hr e0 bound rv asked
  have stays : ∀ b o, base.get? b = some o → st.heap.get? b = some o := fun b o z => (e0.bs b o z).1
  have KX : K.In st.heap := e0.mod.kin.keeps stays
  have lim : st.heap.NoLimit := e0.mod.nolimit.keeps stays
  have kinds : ∀ y ∈ ps.zip us, scope.names.lookup y.1 = some .local ∨ (scope.names.lookup y.1 = some .cell ∧ ((cellsFrom (st.heap.objs.size + 1) scope.names []).lookup y.1).isSome = true) := by
    intro y hy
    have hm : y.1 ∈ ps := (List.of_mem_zip (a := y.1) (b := y.2) hy).1
    cases S.par y.1 hm with
    | inl q => exact Or.inl q
    | inr q => exact Or.inr ⟨q, PySem.W.cellsFrom_some _ _ _ (Or.inl q)⟩
  refine codeAny_call_function hr.depth (KX _ _ lk) rfl S.co S.gen rfl (PySem.W.codeRec_of KX hcd) (bound _ _ _ _ ?_)
  refine wpAny_newFunctionEnv_cells S.kind kinds ?_
  intro env he st1 entered
  subst he
  refine ⟨lim.keeps entered.toInCall.keep, codeAny_func ?_⟩
  obtain ⟨t, runs, wanted⟩ := inside A around st H vs Q E g (hr.deeper _) asked
  have I0 : Inv (cxOf CX P w K mg base N qual scope f cdv A around st H E) [] (start N vs) H st1 := inv_start S hr.hd e0 (many _ _ _ _ asked) rv entered
  refine wpAny_mono (runs.run [] st1 (start N vs) H _ I0 wanted) ?_ (fun er st2 z => z)
  intro fl st2 z
  cases fl with
  | ret u =>
    obtain ⟨v, sl', H', J, r, q⟩ := z
    exact ⟨v, H', J.os, J.bare, J.base, J.hok, r, q⟩
  | next =>
    obtain ⟨sl', H', J, q⟩ := z
    exact ⟨V.non, H', J.os, J.bare, J.base, J.hok, rfl, q⟩
  | brk =>
    obtain ⟨_, _, _, q⟩ := z
    exact False.elim q
  | cont =>
    obtain ⟨_, _, _, q⟩ := z
    exact False.elim q

/-- the same by the text's place -/
theorem okG {P : Program} {w : World} {K : PySem.W.Frag} {mg : Str → Option Value} {base : Heap} {x qual : Str} {st : Stmt} {f : Addr} {fd : FuncData} {N ps : List Str} {k : Nat} {sp : Sp}
    (F : Fun K x qual st f fd) (S : FnScope N ps (defScope st)) (many : ∀ vs H Q E, sp vs H Q E → vs.length = ps.length)
    (inside : ∀ (cdv : Value) (A : Around) (around : List Env) (s : Shared) (H : Hp) (vs : List V) (Q : VK) (E : XK), NoG (A.deeper (envOfC qual (defScope st) s.heap.objs.size f cdv)) →
      Room k (A.deeper (envOfC qual (defScope st) s.heap.objs.size f cdv)) → sp vs H Q E →
      ∃ t, PSs (cxOf CX0 P w K mg base N qual (defScope st) f cdv A around s H E).nox (defBody st) t ∧ t { nx := fun _ H' => Q .non H', rt := Q } (start N vs) H) :
    FnG P w K mg base CX0 (k + 1) f fd ps sp := by
  obtain ⟨oc, od, kV, doc, pm, an, cdv, ct, osl, same, lk, hcd⟩ := F.ex
  subst same
  refine fn_g lk hcd S many ?_
  intro A around s H vs Q E g hr asked
  obtain ⟨t, body, wanted⟩ := inside cdv A around s H vs Q E g hr asked
  exact ⟨t, body.nox, wanted⟩

/-- what callers that never show data may still use -/
theorem FnG.of {P : Program} {w : World} {K : PySem.W.Frag} {mg : Str → Option Value} {base : Heap} {CX : CXT} {k : Nat} {f : Addr} {fd : FuncData} {ps : List Str} {sp : Sp}
    (F : FnOk P w K mg base CX k f fd ps sp) : FnG P w K mg base CX k f fd ps sp :=
  ⟨F.len, fun A around st H ag us vs Q E _ => F.run A around st H ag us vs Q E⟩
end Md

namespace Md
open PySem PySem.Spec PyProof.Rows L2

/-- the heap that knows of the script alone -/
def lone (a : Addr) (o : Obj) (xs : List V) : Hp := fun b => if b = a then some (.frz o (.lst xs)) else none
theorem lone_self {a : Addr} {o : Obj} {xs : List V} : lone a o xs a = some (.frz o (.lst xs)) := by simp [lone]
theorem lone_else {a b : Addr} {o : Obj} {xs : List V} (h : b ≠ a) : lone a o xs b = none := by simp [lone, h]

/-- the call of the law's def, from an abstract heap that holds the script at most -/
theorem call_law_with {P : Program} {w : World} {K : PySem.W.Frag} {mg mb : Str → Option Value} {k : Nat} {fa a : Addr} {fd : FuncData} {x : Str} {sp : Sp} {s1 : Shared} {vs : List Value} {H : Hp}
    (KX : K.In s1.heap) (hns : s1.heap.Ns mainGlobals mg) (hb : s1.heap.Ns builtinsNs mb) (hbb : ∀ x : Str, x ≠ "__name__" → mb x = bootBuiltins x) (hlim : s1.heap.NoLimit) (hg : s1.gens = #[])
    (ha : s1.heap.get? a = some { cls := .type "list", data := .seq vs.toArray }) (hr : Room k callerA)
    (F : ∀ base : Heap, K.In base → base.Ns mainGlobals mg → FnG P w K mg base CX0 k fa fd [x] sp) (hbind : ∀ (s : Shared) (u : Value), BindsTo s fd ⟨[u], []⟩ [(x, u)])
    (asked : sp [.ref a] H (fun v _ => v = .bl true) fun _ _ _ => False) (hok : HOk P w H s1.heap) (few : ∀ b, H b ≠ none → b = a) (own : H a ≠ none → K.lookup a = none)
    (fro : ∀ b u, H b = some u → ∃ o v, u = .frz o v) :
    codeAny (model P w) callerA (.call (.ref fa) ⟨[.ref a], []⟩) (fun r s' => r = .ok (.ret (.bool true)) ∧ OldK s1.heap s'.heap ∧ s'.os = s1.os ∧ AllBare s'.gens) s1 := by
  have free : ∀ {b : Addr} {o : Obj}, s1.heap.get? b = some o → (b = a → K.lookup b ≠ none ∨ ∃ es ep, o.data = .dict es ep) → H b = none := by
    intro b o hb' hno
    cases q : H b with
    | none => rfl
    | some u =>
      exfalso
      have e : b = a := few b (by rw [q]; exact fun z => nomatch z)
      rcases hno e with n | ⟨es, ep, d⟩
      · exact n (by rw [e]; exact own (by rw [← e, q]; exact fun z => nomatch z))
      · rw [e, ha] at hb'
        have e2 := Option.some.inj hb'
        rw [← e2] at d
        exact nomatch d
  have inside : ∀ {b : Addr} {m : Str → Option Value}, s1.heap.Ns b m → (hidT s1.heap H).Ns b m := by
    intro b m ⟨o, es, ep, h1, h2, r⟩
    exact ⟨o, es, ep, hidT_get h1 (free h1 fun _ => .inr ⟨es, ep, h2⟩), h2, r⟩
  have KB : K.In (hidT s1.heap H) := by
    intro b o hk
    exact hidT_get (KX b o hk) (free (KX b o hk) fun _ => .inl (by rw [hk]; exact fun z => nomatch z))
  obtain ⟨mc, l1, l2⟩ := hlim
  have M : Mod K mg (hidT s1.heap H) := ⟨KB, inside hns, ⟨mb, inside hb, hbb⟩, ⟨mc, inside l1, l2⟩⟩
  have start0 : Env0 P w K mg (hidT s1.heap H) callerA [] s1 H :=
    ⟨rfl, M, fun b o h => of_hidT h, Nat.le_of_eq (hidT_size s1.heap H), trivial, fun b h => (List.not_mem_nil h).elim, hok, AllBare.of_eq hg⟩
  have ran := (F _ KB (inside hns)).goes callerA [] s1 H ⟨[.ref a], []⟩ [.ref a] [.ref a] _ _ rfl hr start0 (hbind s1 (.ref a)) (.cons rfl .nil) asked
  refine codeAny_mono ran ?_
  intro r s2 z
  match r, z with
  | .ok (.ret u), z =>
    obtain ⟨v, H2, h1, h2, h3, h4, h5, h6⟩ := z
    have ev : v = .bl true := h6
    rw [ev] at h5
    have eu : u = Value.bool true := h5
    rw [eu]
    refine ⟨rfl, OldK.of_keep ?_, h1, h2⟩
    intro b o hb'
    cases q : H b with
    | none => exact h3.keep b o hb' q (List.not_mem_nil) (List.not_mem_nil)
    | some u2 =>
      obtain ⟨ob, v2, e2⟩ := fro b u2 q
      rw [e2] at q
      have q2 := h3.frzs b ob v2 q
      have a1 := (hok b _ q).1
      have a2 := (h4 b _ q2).1
      rw [hb'] at a1
      rw [a2, ← Option.some.inj a1]

/-- what k_head leaves, for a law whose def is proved under NoG -/
theorem walk_g {l : PySem.W.OpenLaw} {n k : Nat} {q : Program} {loose : List Str} {XP : (Str → Option Value) → Heap → Prop} {YP : World → Heap → Prop} {d : DefRec} {K : Params → PySem.W.Frag} {sp : PySem.W.Frag → Sp} {x : Str}
    (hn : l.most = some n) (hn2 : n ≤ sizeLine) (hdf : d.params.defaults = []) (hr : Room k callerA) (hY : ∀ (w : World) (h : Heap), YP w h → (K w.params).In h)
    (F : ∀ (w : World) (mg : Str → Option Value) (fa : Addr) (h : Heap), (K w.params).In h → h.Ns mainGlobals mg → mg d.name = some (.ref fa) →
      ∃ fd : FuncData, (∀ (s : Shared) (u : Value), BindsTo s fd ⟨[u], []⟩ [(x, u)]) ∧
        ∀ base : Heap, (K w.params).In base → base.Ns mainGlobals mg → FnG l.prog w (K w.params) mg base CX0 k fa fd [x] (sp (K w.params)))
    (hsp : ∀ (K : PySem.W.Frag) (H : Hp) (a : Addr) (ns : List Int), ns.length ≤ n → SqL K H a (ns.map V.int) → sp K [.ref a] H (fun v _ => v = .bl true) fun _ _ _ => False) :
    PySem.W.WalkO q loose XP YP l.row.toRowW d [] (fun f vs => PySem.call f vs) := by
  refine Att.attach_call hn hdf ?_
  intro w s0 s1 mg mb fa o pm cd doc a vs ns G Y ho hd hcd hmg hobj hints hlen hg
  have KX := hY w _ Y
  obtain ⟨fd, hb, hF⟩ := F w mg fa _ KX G.T.g hmg
  have rv := L2.vals_ints hints
  have lenV := hints.length
  cases hk : (K w.params).lookup a with
  | some ob =>
    have e := (KX a ob hk).symm.trans hobj
    have e := Option.some.inj e
    subst e
    refine call_law_with (H := fun _ => none) KX G.T.g G.T.b G.T.builtins G.T.nolimit hg hobj hr hF hb (hsp _ _ a ns hlen (.inr ?_)) (fun b u z => nomatch z) (fun b z => absurd rfl z) (fun z => absurd rfl z) (fun b u z => nomatch z)
    refine ⟨_, vs.toArray, _, hk, rfl, rfl, rfl, ?_, ?_⟩
    · rw [List.size_toArray, lenV]
      exact Nat.le_trans hlen hn2
    · simpa using rv
  | none =>
    refine call_law_with (H := lone a { cls := .type "list", data := .seq vs.toArray } (ns.map V.int)) KX G.T.g G.T.b G.T.builtins G.T.nolimit hg hobj hr hF hb (hsp _ _ a ns hlen (.inl (.inr ⟨_, lone_self⟩))) ?_ ?_ (fun _ => hk) ?_
    · intro b u z
      by_cases hba : b = a
      · rw [hba, lone_self] at z
        have z := Option.some.inj z
        rw [← z, hba]
        exact ⟨hobj, by rw [List.length_map]; exact Nat.le_trans hlen hn2, vs, _, rv, hobj⟩
      · rw [lone_else hba] at z
        exact nomatch z
    · intro b z
      by_cases hba : b = a
      · exact hba
      · exact absurd (lone_else hba) z
    · intro b u z
      by_cases hba : b = a
      · rw [hba, lone_self] at z
        exact ⟨_, _, (Option.some.inj z).symm⟩
      · rw [lone_else hba] at z
        exact nomatch z
end Md

namespace Md
open PySem PySem.Spec PyProof.Rows L2

section
variable {X : Cx}
/-- repr of a thing that stands at an address -/
def rRepr (K : PySem.W.Frag) : List V → Hp → VK → Prop := fun xs H Q => ∃ (a : Addr) (d : PyData), xs = [.ref a] ∧ Dp K H (.ref a) d ∧ d.showable = true ∧ d.hasDict = false ∧ d.depth ≤ 40 ∧ d.shown.length ≤ sizeLine ∧ Q (.str d.shown) H
theorem call_repr (g : NoG X.A) (hu : X.A.units + 64 < cLine) : CallR X (.builtin "repr") (rRepr X.K) := by
  intro pins st sl H xs us Q I r h
  obtain ⟨a, d, rfl, dp, show1, nod, deep, small, q⟩ := h
  obtain ⟨u, rfl, e⟩ := vals1 r
  have eu : u = Value.ref a := e
  subst eu
  obtain ⟨as, rd⟩ := Dp.reads I d (.ref a) (.ref a) dp rfl
  refine repr_of_reads' rd show1 (fun z => ?_) g (by omega) (fun b o z => z) (fun h' tk t2 keep => ?_) small
  · rw [nod] at z
    exact nomatch z
  · exact ⟨.str d.shown, H, I.kept (t' := t2) keep, ⟨tk, rfl⟩, q⟩
end
end Md

namespace Md
open PySem PySem.Spec PyProof.Rows L2
section
variable {X : Cx} {C f : Addr} {fd : FuncData} {k : Nat} {sp : Sp}
/-- len(o), o an instance of a class of one's own with __len__ -/
def rLenOwn (C : Addr) (sp : Sp) : List V → Hp → VK → Prop := fun xs H Q => ∃ a dx fs, xs = [.ref a] ∧ H a = some (.ins C dx fs) ∧
  sp [.ref a] H (fun v H' => ∃ n : Nat, v = .int n ∧ n < 2 ^ 62 ∧ Q (.int n) H') E0
theorem call_lenOwn (m : Meth X.K C "__len__" f) (F : FnOk X.prog X.w X.K X.mg X.base CX0 k f fd ["self"] sp) (hr : Room (k + 1) X.A) (hb : Binds X.K fd ["self"] []) :
    CallR X (.builtin "len") (rLenOwn C sp) := by
  intro pins st sl H xs us Q I r h
  obtain ⟨a, dx, fs, rfl, ea, q⟩ := h
  obtain ⟨u, rfl, e⟩ := vals1 r
  have eu : u = Value.ref a := e
  subst eu
  obtain ⟨mA, O, _, _, _, _⟩ := ins_get I.hok ea
  obtain ⟨od, J, _⟩ := O.look
  obtain ⟨m0, F0⟩ := I.fr
  refine PySem.W.len_K F0 I.ok.mod.kin J m.at_ m.fn ?_
  have bound := hb st [.ref a] I.kIn rfl
  refine wpAny_call (codeAny_mono (F.run X.A.in1 X.stack st H ⟨[.ref a], []⟩ ([Value.ref a] ++ []) [V.ref a] _ E0 hr.in1 I.env0.in1 bound (.cons rfl .nil) q) ?_)
  intro res st2 done
  match res, done with
  | .ok (.ret u), done =>
    obtain ⟨v, H', I2, rv, n, ev, small, q2⟩ := I.after (Q := fun v H' => ∃ n : Nat, v = .int n ∧ n < 2 ^ 62 ∧ Q (.int n) H') done
    subst ev
    obtain ⟨t, et⟩ := rv
    subst et
    exact ⟨⟨by omega, by omega⟩, .int n, H', I2.tok _, ⟨_, rfl⟩, q2⟩
end
end Md

namespace Md
open PySem PySem.Spec PyProof.Rows L2
section
variable {X : Cx} {o e : Expr} {apos cpos : Pos} {td ty : TE} {d : Addr} {es : Array DictEntry} {n : Nat}
/-- THINGS.get(word), a dict of the module with keys that are texts -/
def tKGet (K : PySem.W.Frag) (d : Addr) (td ty : TE) : TE := fun sl H Q => td sl H fun x H1 => x = .ref d ∧ ty sl H1 fun y H2 => ∃ (z : Str) (r : Option Value), y = .str z ∧ PySem.W.nsIn K d z = some r ∧
  (r = none → Q .non H2) ∧ (∀ u0, r = some u0 → ∃ v0, RelV v0 u0 ∧ Q v0 H2)
theorem pe_kget (D : KDict X.K X.w d es n) (ho : PE X o td) (he : PE X e ty) (m : M1 X o "get" apos e cpos) : PE X (.Call (.Attribute o "get" apos) [e] [] cpos) (tKGet X.K d td ty) := by
  constructor
  intro pins st sl H Q I h
  refine wpAny_Call_method m.base m.few m.line PySem.F.plainAttrs_dict PySem.F.slot_dict_get PySem.F.type_dict_get (thn (ho.run pins st sl H _ I h) ?_)
  intro u s1 z
  obtain ⟨x, H1, I1, rx, ex, q1⟩ := z
  subst ex
  have eu : u = Value.ref d := rx
  subst eu
  have mo := PySem.W.mapOf_K (prog := X.prog) (w := X.w) I1.kIn D.at_ D.lit
  refine ⟨mo.typeIs, ?_, ?_⟩
  · intro b eb
    have eb := Value.ref.inj eb
    subst eb
    exact ⟨_, I1.kIn _ _ D.at_, rfl⟩
  rw [m.trees]
  refine Calls.callWith_builtin rfl (Calls.evalArgs_plain (Calls.spliced_cons (thn (he.run pins s1 sl H1 _ I1 q1) ?_)))
  intro iv s2 z
  obtain ⟨y, H2, I2, ry, zt, r, ey, hin, qn, qs⟩ := z
  subst ey
  obtain ⟨tk, et⟩ := ry
  subst et
  refine Calls.spliced_nil ?_
  have mo2 := PySem.W.mapOf_K (prog := X.prog) (w := X.w) I2.kIn D.at_ D.lit
  refine call_meetsIn PySem.F.slot_dict_get mo2.typeIs PySem.F.entry_dict_get (PySem.F.args_dict_get_2 _ _) (meets_dict_get (strKind X.prog X.w) d (strKind_is X.prog X.w zt tk) D.low) ⟨_, mo2, ?_⟩
  have f := PySem.W.find_K D.at_ hin
  cases r with
  | none =>
    refine ⟨.non, H2, I2.tok _, ?_, qn rfl⟩
    simp only [f]
    rfl
  | some u0 =>
    obtain ⟨v0, rv, q⟩ := qs u0 rfl
    refine ⟨v0, H2, I2.tok _, ?_, q⟩
    simp only [f]
    exact rv
end
end Md

/-! set(xs) of a list of texts (any keys that are carried by value and may be scanned) -/
namespace Md
open PySem PySem.Spec PyProof.Rows L2

/-- how many unlike ones stand among the first i -/
def unlike {κ : Type} [DecidableEq κ] (ks : List κ) : Nat → Nat
  | 0 => 0
  | i + 1 => match ks[i]? with
    | none => unlike ks i
    | some k => if (ks.take i).any (fun j => decide (j = k)) = true then unlike ks i else unlike ks i + 1
theorem unlike_le {κ : Type} [DecidableEq κ] (ks : List κ) : ∀ i, unlike ks i ≤ i
  | 0 => Nat.le_refl 0
  | i + 1 => by
    have ih := unlike_le ks i
    unfold unlike
    split
    · omega
    · split <;> omega
theorem unlike_full {κ : Type} [DecidableEq κ] (ks : List κ) : ∀ i, i ≤ ks.length → unlike ks i = i → (ks.take i).Nodup
  | 0, _, _ => by simp
  | i + 1, h, e => by
    have hi : i < ks.length := h
    have g : ks[i]? = some ks[i] := List.getElem?_eq_getElem hi
    have le := unlike_le ks i
    unfold unlike at e
    rw [g] at e
    dsimp only at e
    by_cases c : (ks.take i).any (fun j => decide (j = ks[i])) = true
    · rw [if_pos c] at e
      omega
    · rw [if_neg c] at e
      have ih := unlike_full ks i (Nat.le_of_lt hi) (by omega)
      rw [List.take_add_one, g, List.nodup_append]
      refine ⟨ih, by simp, ?_⟩
      intro a ha b hb
      have eb : b = ks[i] := by simpa using hb
      rw [eb]
      intro z
      exact c (List.any_eq_true.mpr ⟨a, ha, by simp [z]⟩)

abbrev noSet (led : Bool) : Obj := { cls := .type "set", dict := none, data := .set #[] 0 (.fresh 0 0 led) }

section
variable {prog : Program} {w : World} {A : Around} {κ : Type} [DecidableEq κ] {knd : PySem.KeyKind prog w κ}
/-- what is in the set behind i items -/
abbrev inFirst (ks : List κ) (i : Nat) : κ → Bool := fun k => (ks.take i).any fun j => decide (j = k)

section
variable {R : Result → Shared → Prop} {I : Addr} {fp wr : List Addr} {G : Array GenState → Array GenState → Prop} {n : Nat} {P : Nat → Value → Prop} {St : Nat → Shared → Prop}
theorem set_fill (W : WalksS prog w A.in1 I fp wr G n P St) (S : Addr) (away : S ∉ fp) (ks : List κ) (size : ks.length = n) (room : n + 1 < scanBound)
    (item : ∀ i v, P i v → ∃ k, ks[i]? = some k ∧ knd.is k v = true ∧ v.scannable = true) :
    ∀ (left i : Nat) (st : Shared), left + i = n → St i st → st.heap.SetOf knd S (inFirst ks i) (unlike ks i) →
      (∀ st', Moved (S :: wr) G st st' → st'.heap.SetOf knd S (inFirst ks n) (unlike ks n) → R (.ok (.ret .none)) st') →
      codeAny (model prog w) A (.builtin "set.update.loop" ⟨[.ref S, .ref I], []⟩) R st := by
  have out : S ∉ wr := fun z => away (W.sub _ z)
  have wider : ∀ b ∈ wr, b ∈ S :: wr := fun b z => List.mem_cons_of_mem _ z
  intro left
  induction left with
  | zero =>
    intro i st e at_ held done
    have e : i = n := by omega
    subst e
    refine codeAny_builtin PyProof.Rows.F.entry_set_update_loop ?_
    rw [Around.under_plainId PyProof.Rows.F.plain_set_update_loop _]
    show wpAny _ A.in1 (pyNext (.ref I) >>= _) _ _ st
    refine wpAny_bind (W.done st _ _ at_ ?_)
    intro st' moved
    show wpAny _ A.in1 (ret Value.none) _ _ st'
    obtain ⟨o, es, ep, tab, ho, more⟩ := held
    exact wpAny_pure (done st' (moved.mono wider) ⟨o, es, ep, tab, moved.heap S _ out ho, more⟩)
  | succ left ih =>
    intro i st e at_ held done
    have hi : i < n := by omega
    refine codeAny_builtin PyProof.Rows.F.entry_set_update_loop ?_
    rw [Around.under_plainId PyProof.Rows.F.plain_set_update_loop _]
    show wpAny _ A.in1 (pyNext (.ref I) >>= _) _ _ st
    refine wpAny_bind (W.item i st _ _ hi at_ ?_)
    intro v st1 hP at1 moved
    obtain ⟨k, hk, isk, sc⟩ := item i v hP
    have held1 : st1.heap.SetOf knd S (inFirst ks i) (unlike ks i) := by
      obtain ⟨o, es, ep, tab, ho, more⟩ := held
      exact ⟨o, es, ep, tab, moved.heap S _ out ho, more⟩
    show wpAny _ A.in1 (holding [v] (setAdd S v) >>= _) _ _ st1
    refine wpAny_bind (wpAny_holding ?_)
    unfold setAdd
    refine wpAny_holding ?_
    refine wpAny_bind (knd.pyHash isk ?_)
    have few : unlike ks i + 1 < scanBound := by
      have := unlike_le ks i
      omega
    refine wpAny_setAddHashed_of (knd := knd) (s := { st1 with toks := st1.toks + 1 }) isk sc held1 few ?_
    intro h2 same held2
    have next : h2.SetOf knd S (inFirst ks (i + 1)) (unlike ks (i + 1)) := by
      refine SetOf_congr held2 (fun j => ?_) ?_
      · show ((ks.take i).any (fun y => decide (y = j)) || decide (j = k)) = (ks.take (i + 1)).any fun y => decide (y = j)
        rw [List.take_add_one, hk]
        simp [eq_comm]
      · show (if (ks.take i).any (fun y => decide (y = k)) = true then unlike ks i else unlike ks i + 1) = unlike ks (i + 1)
        conv => rhs; unfold unlike
        rw [hk]
    have kept : ∀ b o, b ≠ S → st1.heap.get? b = some o → h2.get? b = some o := fun b o nb z => (same.2 b nb).trans z
    refine wpAny_pure ⟨plainId_quiet PyProof.Rows.F.plain_set_update_loop _, ih (i + 1) _ (by omega) (W.frame _ st1 _ _ at1 (Nat.le_succ _) ?_) next ?_⟩
    · intro b hb o z
      exact kept b o (fun q => away (q ▸ hb)) z
    · intro st3 moved3 held3
      refine done st3 (Moved.trans W.gtrans ((moved.mono wider).then_heap (Nat.le_succ _) ?_) moved3) held3
      intro b o hb z
      exact kept b o (fun q => hb (by rw [q]; exact List.mem_cons_self)) z
end

section
variable {E : Value → Shared → Prop} {st : Shared}
set_option maxHeartbeats 4000000 in
theorem set_of_list {l : Addr} {items : Array Value} {ks : List κ} {Q : Value → Shared → Prop} (hh : A.handled = none) (hl : st.heap.IsList l items) (size : ks.length = items.size) (room : items.size + 1 < scanBound)
    (item : ∀ (i : Nat) (v : Value), items[i]? = some v → ∃ k, ks[i]? = some k ∧ knd.is k v = true ∧ v.scannable = true)
    (h : ∀ (h' : Heap) (tk : Nat), h'.SetOf knd st.heap.objs.size (inFirst ks items.size) (unlike ks items.size) →
      (∀ b o, b < st.heap.objs.size → st.heap.get? b = some o → h'.get? b = some o) → Q (.ref st.heap.objs.size) { st with heap := h', toks := tk }) :
    wpAny (model prog w) A (call (.type "set") [.ref l]) Q E st := by
  obtain ⟨c, tl, hmro⟩ := F.called_set.mro
  have made := F.called_set.made
  have subs := F.called_set.sub
  have nt := F.called_set.notType
  have cc := F.called_set.canCreate
  have tc := F.typeCall_set_1 (.ref l)
  refine wpAny_call (codeAny_of_tree ?_)
  show wpAny _ _ (callAny (.type "set") _) _ _ _
  refine wpAny_pure ⟨Code.quiet_builtin _ (by decide +kernel), codeAny_builtin F.entry_type_call ?_⟩
  rw [Around.under_plain (weight_type_call_type "set" [.ref l] []) rfl]
  repeat (any_goals (first | assumption | wp_step))
  generalize eS : st.heap.objs.size = S at h
  have born : ∀ led, (st.heap.push (noSet led)).get? S = some (noSet led) := fun led => by
    rw [← eS]
    exact Heap.get?_push_size _ rfl
  refine codeAny_mono (code_set_new_1 (.ref l) (E := E) (Q₁ := fun obj st1 => ∃ led : Bool, obj = .ref S ∧ st1 = { st with heap := st.heap.push (noSet led) }) fun led => ⟨led, by rw [eS], rfl⟩) ?_
  intro r st1 hr
  match r, hr with
  | .error e, hr => exact hr
  | .ok (.ret obj), hr =>
    obtain ⟨led, e1, e2⟩ := hr
    subst e1 e2
    have there0 : (st.heap.push { cls := .type "set", dict := none, data := .set #[] 0 (.fresh 0 0 led) }).get? S = some { cls := .type "set", dict := none, data := .set #[] 0 (.fresh 0 0 led) } := born led
    have hT : Shared.TypeIs { st with heap := st.heap.push (noSet led) } (.ref S) "set" := ⟨_, born led, rfl⟩
    have li := F.called_set.init.lookup
    have bi := F.called_set.init.bind (.ref S)
    repeat (any_goals (first | assumption | wp_step))
    refine codeAny_mono (codeAny_call_builtin (R := wants (fun r st2 => r = .none ∧ ∃ h' tk, st2 = { st with heap := h', toks := tk } ∧ h'.SetOf knd S (inFirst ks items.size) (unlike ks items.size) ∧
      (∀ b o, b < S → st.heap.get? b = some o → h'.get? b = some o)) E) F.called_set.init.plain PySem.F.entry_set_init (check_set_init_1 hT ?_)) ?_
    · obtain ⟨ol, hol, hcl, nl, hdl⟩ := hl
      obtain ⟨ocls, odict, odata, oslots⟩ := ol
      simp only at hcl hdl
      subst hcl hdl
      have there : (st.heap.push (noSet led)).get? l = some { cls := .type "list", dict := odict, data := .seq items nl, slots := oslots } := Heap.get?_push_of_some _ hol
      have ns := F.sub_list_set
      have nf := F.sub_list_frozenset
      have nd : (Value.type "list" == Value.type "dict") = false := by decide
      have isl : (st.heap.push (noSet led)).IsList l items := ⟨_, there, rfl, nl, rfl⟩
      have wide1 : (st.heap.push (noSet led)).objs.size = S + 1 := by rw [Heap.size_push, eS]
      unfold Builtin.«set.__init__» noKeywords Builtin.Frozenset.updateFrom
      generalize same : pyIter = PI
      wp_walk
      subst same
      refine wpAny_pyIter_list isl ?_
      refine wpAny_bind (wpAny_runValue ?_)
      have lS : l < S := by
        rw [← eS]
        exact Heap.lt_size hol
      have calm3 : A.in1.in1.in1.handled = none := by simp [hh]
      have lI : l ≠ (st.heap.push (noSet led)).objs.size := by
        rw [wide1]
        exact Nat.ne_of_lt (Nat.lt_succ_of_lt lS)
      have away : S ∉ [(st.heap.push (noSet led)).objs.size, l] := by
        simp only [List.mem_cons, List.not_mem_nil, or_false, not_or]
        rw [wide1]
        exact ⟨Nat.ne_of_lt (Nat.lt_succ_self S), Nat.ne_of_gt lS⟩
      refine set_fill (knd := knd) ((Walks.list calm3 _ l lI items).toS) S away ks size room item items.size 0 _ (by omega) ⟨⟨_, Heap.get?_push_size _ rfl, rfl, rfl⟩, (isl.push _)⟩ ?_ ?_
      · have here : ((st.heap.push (noSet led)).push { cls := .type "list_iterator", data := .fields #[.ref l, .int 0 0] }).get? S = some (noSet led) := Heap.get?_push_of_some _ (born led)
        exact SetOf_congr ((setObjOf_fresh (knd := knd) led).setOf here (by unfold scanBound; omega)) (fun _ => rfl) rfl
      · intro st3 moved held
        obtain ⟨h3, g3, d3, t3, os3⟩ := st3
        have eg : g3 = st.gens := moved.gens
        have ed : d3 = st.drawn := moved.drawn
        have eo : os3 = st.os := moved.os
        subst eg ed eo
        show wpAny _ _ _ _ _ _
        refine wpAny_pure ?_
        show wpAny _ _ (ret Value.none) _ _ _
        refine wpAny_pure ⟨rfl, h3, t3, rfl, held, ?_⟩
        intro b o hb z
        refine moved.heap b o ?_ (Heap.get?_push_of_some _ (Heap.get?_push_of_some _ z))
        simp only [List.mem_cons, List.not_mem_nil, or_false, not_or]
        rw [wide1]
        exact ⟨Nat.ne_of_lt hb, Nat.ne_of_lt (Nat.lt_succ_of_lt hb)⟩
    · intro r2 st2 hr2
      match r2, hr2 with
      | .error e, hr2 => exact hr2
      | .ok (.ret v), hr2 =>
        obtain ⟨e3, h', tk, e4, held, keep⟩ := hr2
        subst e3 e4
        repeat (any_goals (first | assumption | wp_step))
        exact h _ _ held keep
end
end
end Md

namespace Md
open PySem PySem.Spec PyProof.Rows L2
/-- len(set(xs)), texts -/
def tLenTexts (K : PySem.W.Frag) (ta : TE) : TE := fun sl H Q => ta sl H fun x H1 => ∃ (l : Addr) (zs : List Str), x = .ref l ∧ SqL K H1 l (zs.map V.str) ∧ zs.length ≤ 1000 ∧ Q (.int (unlike zs zs.length : Nat)) H1
theorem str_item {zs : List Str} {us : List Value} (r : Vals (zs.map V.str) us) {i : Nat} {v : Value} (h : us[i]? = some v) : ∃ z t, zs[i]? = some z ∧ v = Value.str z t := by
  have hl : i < zs.length := by
    have e := r.length
    rw [List.length_map] at e
    rw [e]
    exact (List.getElem?_eq_some_iff.mp h).1
  have g : (zs.map V.str)[i]? = some (V.str zs[i]) := by rw [List.getElem?_map, List.getElem?_eq_getElem hl]; rfl
  obtain ⟨u, hu, t, e⟩ := r.get g
  rw [h] at hu
  exact ⟨zs[i], t, List.getElem?_eq_getElem hl, by rw [← e]; exact Option.some.inj hu⟩
section
variable {X : Cx} {a : Expr} {ta : TE} {p p2 q pos : Pos}
theorem pe_lenTexts (hg : Gl X "len") (hm : X.mg "len" = none) (hg2 : Gl X "set") (hm2 : X.mg "set" = none) (ha : PE X a ta) (hc : X.calm = true := by rfl)
    (na : starEach [a] X.env = (false, eval a X.env) :: starEach [] X.env := by rfl) : PE X (.Call (.Name "len" p) [.Call (.Name "set" p2) [a] [] q] [] pos) (tLenTexts X.K ta) := by
  constructor
  intro pins st sl H Q I h
  refine Call_ (ld_blt I hg hm boot_len (PyProof.Rows.callWith_builtin1 (PyProof.Rows.args_cons ?_ rfl) rfl rfl))
  refine Call_ (ld_blt I hg2 hm2 boot_set (PyProof.Rows.callWith_type1 (PyProof.Rows.args_cons (thn (ha.run pins st sl H _ I h) ?_) na) na rfl))
  intro v s1 got
  refine PyProof.Rows.args_nil ?_
  obtain ⟨x, H1, I1, r1, l, zs, ex, hq, few, q1⟩ := got
  subst ex
  have ev : v = Value.ref l := r1
  subst ev
  obtain ⟨its, r, pl, hz⟩ := I1.list hq
  have size : its.toArray.size = zs.length := by rw [List.size_toArray, ← r.length, List.length_map]
  refine set_of_list (knd := strKind X.prog X.w) (ks := zs) (I1.ok.hd hc) pl.isList size.symm (by rw [size]; unfold scanBound; omega) ?_ ?_
  · intro i v hv
    obtain ⟨z, t, e1, e2⟩ := str_item r (i := i) (v := v) (by simpa using hv)
    exact ⟨z, e1, by rw [e2]; exact strKind_is X.prog X.w z t, by rw [e2]; rfl⟩
  · intro h' tk held keep
    refine PyProof.Rows.args_nil ?_
    rw [size] at held
    obtain ⟨o, es, ep, t, ho, hex, hd, _, _, _, hf, hn⟩ := held
    have I2 : Inv X pins sl H1 { s1 with heap := h', toks := tk } := I1.kept fun b o z => keep b o (Heap.lt_size z) z
    have small := unlike_le zs zs.length
    exact call_len_set ho hex hd hf (by rw [hn]; omega) ⟨.int (unlike zs zs.length : Nat), H1, I2.tok _, ⟨_, by rw [hn]⟩, q1⟩
end
end Md

namespace Md
open PySem PySem.Spec PyProof.Rows L2
section
variable {X : Cx}
/-- ** of great numbers by a small exponent -/
def CPowW (i j : Int) : Prop := 0 ≤ j ∧ j ≤ 10 ∧ i.natAbs < 2 ^ 200
theorem bitsW {i : Int} (h : i.natAbs < 2 ^ 200) : Builtin.Int.intBits i ≤ 200 := by
  have z := PySem.Flt.log2_lt_of (by decide) h
  unfold Builtin.Int.intBits
  split <;> omega
theorem op_powW : OpR X (binaryOp .Pow) (rI CPowW fun i j => .int (i ^ j.toNat)) := opI fun i j t u s Q E hc q => by
  have b := bitsW hc.2.2
  refine pow_int hc.1 ?_ q
  have h : ((Builtin.Int.intBits i : Nat) : Int) * j ≤ 200 * 10 := Int.mul_le_mul (by omega) hc.2.1 hc.1 (by decide)
  omega
end
end Md

namespace Md
open PySem PySem.Spec PyProof.Rows L2
/-- the heap behind so many turns of a comprehension that changes nothing else -/
abbrev grown (H1 : Hp) (D : Addr) (ys : List V) (i : Nat) : Hp := upd H1 D (.lst (ys.take i))
theorem grown_next {H1 : Hp} {D : Addr} {ys : List V} {i : Nat} {y : V} (h : ys[i]? = some y) : upd (grown H1 D ys i) D (.lst (ys.take i ++ [y])) = grown H1 D ys (i + 1) := by
  unfold grown
  rw [upd_upd, List.take_add_one, h]
  rfl
section
variable {K : PySem.W.Frag} {g : TG} {te : TE} {vs : List Nat} {sl : L2.St} {H1 : Hp} {D : Addr} {Qd : Hp → Prop}
/-- [f(x) for x in xs] over a list, nothing else changed -/
theorem lcp_list {a : Addr} {xs ys : List V} (hS : SqL K H1 a xs) (fresh : H1 D = none) (len : ys.length = xs.length) (few : xs.length < sizeLine)
    (step : ∀ i x y (R : VK), xs[i]? = some x → ys[i]? = some y → R y (grown H1 D ys i) → g x (wipe sl vs) (grown H1 D ys i) fun sl2 H2 => wipe sl2 vs = wipe sl vs ∧ te sl2 H2 R)
    (done : Qd (upd H1 D (.lst ys))) :
    ∃ W : Nat → Nat → Hp → Prop, (∃ m, W 0 m (upd H1 D (.lst []))) ∧ ∀ i m H, W i m H →
      ((Itl K a).stop i H ∧ Qd H) ∨ ((Itl K a).go i H ∧ ∃ Nx : Hp → Prop, (∀ H', Nx H' → ∃ m', m' < m ∧ W (i + 1) m' H') ∧ ∀ x H', (Itl K a).yld i H x H' → g x (wipe sl vs) H' fun sl2 H2 => wipe sl2 vs = wipe sl vs ∧ tYes sl2 H2 fun b H3 =>
        if b = true then te sl2 H3 fun y H4 => ∃ acc, H4 D = some (.lst acc) ∧ acc.length < sizeLine ∧ Nx (upd H4 D (.lst (acc ++ [y]))) else Nx H3) := by
  have same : ∀ i, Same H1 (grown H1 D ys i) := fun i b o z => by
    unfold grown
    rw [upd_ne (ne_of_none z fresh)]
    exact z
  refine lc_list (K := K) (a := a) (xs := xs) (fun i H => H = grown H1 D ys i) rfl (fun i H _ e => by rw [e]; exact (same i).seq hS) (fun i x H hx e => ?_) (fun H e => ?_)
  · subst e
    have hi : i < ys.length := by rw [len]; exact (List.getElem?_eq_some_iff.mp hx).1
    have hy : ys[i]? = some ys[i] := List.getElem?_eq_getElem hi
    refine step i x ys[i] _ hx hy ⟨ys.take i, upd_same, ?_, grown_next hy⟩
    rw [List.length_take]
    omega
  · rw [e, ← len]
    show Qd (upd H1 D (.lst (ys.take ys.length)))
    rw [List.take_length]
    exact done
/-- over a range -/
theorem lcp_range {lo : Int} {n : Nat} {ys : List V} (len : ys.length = n) (few : n < sizeLine)
    (step : ∀ i y (R : VK), i < n → ys[i]? = some y → R y (grown H1 D ys i) → g (.int (lo + i)) (wipe sl vs) (grown H1 D ys i) fun sl2 H2 => wipe sl2 vs = wipe sl vs ∧ te sl2 H2 R)
    (done : Qd (upd H1 D (.lst ys))) :
    ∃ W : Nat → Nat → Hp → Prop, (∃ m, W 0 m (upd H1 D (.lst []))) ∧ ∀ i m H, W i m H →
      ((Itr lo n).stop i H ∧ Qd H) ∨ ((Itr lo n).go i H ∧ ∃ Nx : Hp → Prop, (∀ H', Nx H' → ∃ m', m' < m ∧ W (i + 1) m' H') ∧ ∀ x H', (Itr lo n).yld i H x H' → g x (wipe sl vs) H' fun sl2 H2 => wipe sl2 vs = wipe sl vs ∧ tYes sl2 H2 fun b H3 =>
        if b = true then te sl2 H3 fun y H4 => ∃ acc, H4 D = some (.lst acc) ∧ acc.length < sizeLine ∧ Nx (upd H4 D (.lst (acc ++ [y]))) else Nx H3) := by
  refine lc_range (lo := lo) (n := n) (fun i H => H = grown H1 D ys i) rfl (fun i H hi e => ?_) (fun H e => ?_)
  · subst e
    have hl : i < ys.length := by omega
    have hy : ys[i]? = some ys[i] := List.getElem?_eq_getElem hl
    refine step i ys[i] _ hi hy ⟨ys.take i, upd_same, ?_, grown_next hy⟩
    rw [List.length_take]
    omega
  · rw [e, ← len]
    show Qd (upd H1 D (.lst (ys.take ys.length)))
    rw [List.take_length]
    exact done
/-- over a text's signs -/
theorem lcp_str {x : Str} {ys : List V} (len : ys.length = x.cps.size) (few : x.cps.size < sizeLine)
    (step : ∀ i c y (R : VK), x.cps[i]? = some c → ys[i]? = some y → R y (grown H1 D ys i) → g (.str ⟨#[c]⟩) (wipe sl vs) (grown H1 D ys i) fun sl2 H2 => wipe sl2 vs = wipe sl vs ∧ te sl2 H2 R)
    (done : Qd (upd H1 D (.lst ys))) :
    ∃ W : Nat → Nat → Hp → Prop, (∃ m, W 0 m (upd H1 D (.lst []))) ∧ ∀ i m H, W i m H →
      ((Its x).stop i H ∧ Qd H) ∨ ((Its x).go i H ∧ ∃ Nx : Hp → Prop, (∀ H', Nx H' → ∃ m', m' < m ∧ W (i + 1) m' H') ∧ ∀ v H', (Its x).yld i H v H' → g v (wipe sl vs) H' fun sl2 H2 => wipe sl2 vs = wipe sl vs ∧ tYes sl2 H2 fun b H3 =>
        if b = true then te sl2 H3 fun y H4 => ∃ acc, H4 D = some (.lst acc) ∧ acc.length < sizeLine ∧ Nx (upd H4 D (.lst (acc ++ [y]))) else Nx H3) := by
  refine ⟨fun i m H => i + m = x.cps.size ∧ H = grown H1 D ys i, ⟨x.cps.size, Nat.zero_add _, rfl⟩, ?_⟩
  intro i m H z
  obtain ⟨hm, e⟩ := z
  subst e
  by_cases hi : i < x.cps.size
  · refine .inr ⟨hi, fun H' => H' = grown H1 D ys (i + 1), fun H' e => ⟨m - 1, by omega, by omega, e⟩, fun v H' yl => ?_⟩
    obtain ⟨e1, c, hc, e2⟩ := yl
    subst e1 e2
    have hl : i < ys.length := by omega
    have hy : ys[i]? = some ys[i] := List.getElem?_eq_getElem hl
    refine step i c ys[i] _ hc hy ⟨ys.take i, upd_same, ?_, grown_next hy⟩
    rw [List.length_take]
    omega
  · have e : i = ys.length := by omega
    refine .inl ⟨by show x.cps.size ≤ i; omega, ?_⟩
    rw [e]
    show Qd (upd H1 D (.lst (ys.take ys.length)))
    rw [List.take_length]
    exact done
end
end Md

namespace Md
open PySem PySem.Spec PyProof.Rows L2
def top (i : Nat) : Stmt := PySem.Challenge.pw_marketdays_k09_diaries_made.main.body.getD i (.Pass ⟨0, 0, 0, 0⟩)
abbrev sPurse : Stmt := top 19
abbrev sCoin : Stmt := top 20
/-- the built-in names that stay so -/
structure Blt (mg : Str → Option Value) : Prop where
  len : mg "len" = none
  max : mg "max" = none
  min : mg "min" = none
  abs : mg "abs" = none
  int : mg "int" = none
  list : mg "list" = none
  tuple : mg "tuple" = none
  set : mg "set" = none
  sorted : mg "sorted" = none
  range : mg "range" = none
  repr : mg "repr" = none
  isi : mg "isinstance" = none
  all : mg "all" = none
/-- where draws come from: so many draws at most so far -/
def PurseAt (H : Hp) (p : Addr) (c : Nat) : Prop := ∃ p0 p1 p2 : Int, H p = some (.lst [.int p0, .int p1, .int p2]) ∧ 0 ≤ p0 ∧ 0 ≤ p1 ∧ p1 < 10 ^ 24 + 7 ∧ 0 ≤ p2 ∧ p2 ≤ c
/-- all but the object at p is as it was -/
def Keep (p : Addr) (H H' : Hp) : Prop := ∀ b o, H b = some o → b ≠ p → H' b = some o
theorem Keep.refl (p : Addr) (H : Hp) : Keep p H H := fun _ _ h _ => h
theorem Keep.trans {p : Addr} {H H1 H2 : Hp} (a : Keep p H H1) (b : Keep p H1 H2) : Keep p H H2 := fun c o h n => b c o (a c o h n) n
theorem Keep.of {p : Addr} {H H' : Hp} (h : Same H H') : Keep p H H' := fun b o e _ => h b o e
theorem Keep.new {p q : Addr} {H H1 : Hp} {o : HO} (a : Keep p H H1) (n : H1 q = none) : Keep p H (upd H1 q o) := fun b u h ne => by
  have e := a b u h ne
  rw [upd_ne (ne_of_none e n)]
  exact e
theorem PurseAt.more {H : Hp} {p : Addr} {c d : Nat} (h : PurseAt H p c) (e : c ≤ d) : PurseAt H p d := by
  obtain ⟨p0, p1, p2, a, b, c1, c2, c3, c4⟩ := h
  exact ⟨p0, p1, p2, a, b, c1, c2, c3, by omega⟩
theorem PurseAt.new {H : Hp} {p q : Addr} {c : Nat} {o : HO} (h : PurseAt H p c) (n : H q = none) : PurseAt (upd H q o) p c := by
  obtain ⟨p0, p1, p2, a, b⟩ := h
  exact ⟨p0, p1, p2, by rw [upd_ne (ne_of_none a n)]; exact a, b⟩
section
variable {P : Program} {w : World} {K : PySem.W.Frag} {mg : Str → Option Value} {base : Heap}
def spPurse (K : PySem.W.Frag) : Sp := fun vs H Q _ => ∃ (a : Addr) (ns : List Int) (i : Nat), vs = [.ref a, .int i] ∧ SqL K H a (ns.map V.int) ∧ ∀ p H', H p = none → PurseAt H' p 0 → Same H H' → Q (.ref p) H'
theorem scPurse : FnScope ["script", "place", "cell"] ["script", "place"] (defScope sPurse) := ⟨rfl, rfl, rfl, by decide +kernel, rfl, by decide +kernel, by decide +kernel⟩
theorem ok_purse {f : Addr} {fd : FuncData} {k : Nat} (F : Fun K "_law_purse" "_law_purse" sPurse f fd) (B : Blt mg) : FnOk P w K mg base CX0 (k + 1) f fd ["script", "place"] (spPurse K) := by
  refine F.ok scPurse (fun vs H Q E h => ?_) (fun cdv A outer s H vs Q E hr h => ?_)
  · obtain ⟨a, ns, i, rfl, _⟩ := h
    rfl
  · obtain ⟨a, ns, i, rfl, hS, q⟩ := h
    refine ⟨_, pss_cons (ps_set (i := 2) scPurse.nd rfl (.inl rfl) (pe_ifExp (pt_cmpR op_lt (pv 1) (pe_callB call_len_seq (by rfl) B.len PySem.boot_len (pa_cons (pv 0) pa_nil)) (nomark _)) (pe_ix ix_list (pv 0) (pv 1) (fun _ _ => rfl)) pe_int))
      (pss_one (ps_ret (pe_lst (pa_cons (pe_callB (call_max2 rfl) (by rfl) B.max (by decide +kernel) (pa_cons pe_int (pa_cons (pe_op op_sub (pe_callB call_abs (by rfl) B.abs (by decide +kernel) (pa_cons (pv 2) pa_nil)) (pe_op op_pow pe_int pe_int)) pa_nil)))
        (pa_cons (pe_op op_mod (pe_callTy call_int1 (by rfl) B.int (by decide +kernel) (pa_cons (pe_op op_add (pe_op op_add (pe_op op_mul (pv 2) pe_int) (pe_op op_mul (pv 1) pe_int)) pe_int) pa_nil)) (pe_op op_add (pe_op op_pow pe_int pe_int) pe_int)) (pa_cons pe_int pa_nil)))))), ?_⟩
    -- cell
    refine ⟨_, rfl, .ref a, rfl, a, _, rfl, .inl hS, _, _, rfl, rfl, _, rfl, ?_⟩
    refine ite2 (fun e => ?_) (fun e => ?_)
    · have e1 : (i : Int) < ((ns.map V.int).length : Nat) := of_decide_eq_true e
      rw [List.length_map] at e1
      have e2 : i < ns.length := by omega
      refine ⟨_, rfl, _, rfl, a, _, _, .int ns[i], rfl, rfl, hS, atI_nat (by rw [List.getElem?_map, List.getElem?_eq_getElem e2]; rfl), ?_⟩
      generalize ns[i] = cell
      refine ⟨_, rfl, _, rfl, _, _, rfl, rfl, ⟨by decide, by decide, by decide⟩, _, _, rfl, rfl, _, _, rfl, ?_⟩
      refine ⟨_, rfl, _, _, rfl, rfl, .inr ⟨by decide, by decide⟩, _, rfl, _, _, rfl, rfl, .inr ⟨by decide, by decide⟩, _, _, rfl, rfl, _, _, rfl, rfl, .inl ⟨_, rfl, ?_⟩⟩
      refine ⟨_, _, rfl, rfl, ⟨by decide, by decide, by decide⟩, _, _, rfl, rfl, _, _, rfl, rfl, (by show (0 : Int) < 10 ^ 24 + 7; decide), by show 3 ≤ sizeLine; decide, fun p np => ?_⟩
      refine q p _ np ⟨_, _, 0, upd_same, ?_, ?_, ?_, by decide, by decide⟩ fun b o z => by rw [upd_ne (ne_of_none z np)]; exact z
      · split <;> omega
      · exact Int.emod_nonneg _ (by decide)
      · exact Int.emod_lt_of_pos _ (by decide)
    · refine ⟨_, rfl, _, rfl, _, _, rfl, rfl, ⟨by decide, by decide, by decide⟩, _, _, rfl, rfl, _, _, rfl, ?_⟩
      refine ⟨_, rfl, _, _, rfl, rfl, .inr ⟨by decide, by decide⟩, _, rfl, _, _, rfl, rfl, .inr ⟨by decide, by decide⟩, _, _, rfl, rfl, _, _, rfl, rfl, .inl ⟨_, rfl, ?_⟩⟩
      refine ⟨_, _, rfl, rfl, ⟨by decide, by decide, by decide⟩, _, _, rfl, rfl, _, _, rfl, rfl, (by show (0 : Int) < 10 ^ 24 + 7; decide), by show 3 ≤ sizeLine; decide, fun p np => ?_⟩
      refine q p _ np ⟨_, _, 0, upd_same, ?_, ?_, ?_, by decide, by decide⟩ fun b o z => by rw [upd_ne (ne_of_none z np)]; exact z
      · split <;> omega
      · exact Int.emod_nonneg _ (by decide)
      · exact Int.emod_lt_of_pos _ (by decide)

/-- a draw: the next number from 0 to many - 1 -/
def spCoin : Sp := fun vs H Q _ => ∃ (p : Addr) (c : Nat) (m : Int), vs = [.ref p, .int m] ∧ PurseAt H p c ∧ c ≤ 1000000 ∧ 1 ≤ m ∧ m ≤ 10 ^ 31 ∧
  ∀ (d : Int) H', 0 ≤ d → d < m → PurseAt H' p (c + 1) → Keep p H H' → Q (.int d) H'
theorem scCoin : FnScope ["purse", "many", "drawn", "stirred"] ["purse", "many"] (defScope sCoin) := ⟨rfl, rfl, rfl, by decide +kernel, rfl, by decide +kernel, by decide +kernel⟩
theorem bound31 {m : Int} (h : 1 ≤ m) (h2 : m ≤ 10 ^ 31) : CDivW 0 m := by
  have e : (10 : Int) ^ 31 < 2 ^ 200 := by decide
  have z : m.natAbs < 2 ^ 200 := by omega
  exact wide_div (by omega) z (by decide) (by decide)
theorem put_keep {p : Addr} {H : Hp} {o : HO} : Keep p H (upd H p o) := fun b u h ne => by rw [upd_ne ne]; exact h
theorem put_free {p : Addr} {H : Hp} {o u : HO} (hp : H p = some u) : ∀ b, H b = none → upd H p o b = none := fun b h => by
  rw [upd_ne (fun e => by rw [e, hp] at h; cases h)]
  exact h
theorem big1 {a b : Int} (h : 0 ≤ a) (h2 : 0 ≤ b) (h3 : a < 10 ^ 24 + 7 := by assumption) (h4 : b ≤ 1000000 := by omega) : (a + 2038074743 * (b + 1)).natAbs < 2 ^ 200 := by
  have e : (10 : Nat) ^ 40 < 2 ^ 200 := by decide
  omega
theorem big2 {a b : Int} (h : 0 ≤ a) (h3 : a < 10 ^ 25 + 13) (h2 : 0 ≤ b) (h4 : b ≤ 1000001) : (a + 982451653 * b).natAbs < 2 ^ 200 := by
  have e : (10 : Nat) ^ 40 < 2 ^ 200 := by decide
  omega
theorem ok_coin {f : Addr} {fd : FuncData} {k : Nat} (F : Fun K "_law_coin" "_law_coin" sCoin f fd) (B : Blt mg) : FnOk P w K mg base CX0 (k + 1) f fd ["purse", "many"] spCoin := by
  refine F.ok scCoin (fun vs H Q E h => ?_) (fun cdv A outer s H vs Q E hr h => ?_)
  · obtain ⟨p, c, m, rfl, _⟩ := h
    rfl
  · obtain ⟨p, c, m, rfl, ⟨p0, p1, p2, hp, h0, h1, h2, h3, h4⟩, hc, hm, hm2, q⟩ := h
    refine ⟨_, pss_cons (ps_if (pt_cmpR op_gt (pe_ix ix_list (pv 0) pe_int (fun _ _ => rfl)) pe_int (nomark _))
        (pss_cons (ps_set (i := 2) scCoin.nd rfl (.inl rfl) (pe_op op_mod (pe_callTy call_int1 (by rfl) B.int (by decide +kernel) (pa_cons (pe_ix ix_list (pv 0) pe_int (fun _ _ => rfl)) pa_nil)) (pv 1)))
        (pss_cons (ps_asg (pe_op op_fdivW (pe_ix ix_list (pv 0) pe_int (fun _ _ => rfl)) (pv 1)) (pg_sub (pv 0) pe_int set_list))
        (pss_one (ps_ret (pv 2))))) pss_nil)
      (pss_cons (ps_asg (pe_op op_add (pe_ix ix_list (pv 0) pe_int (fun _ _ => rfl)) pe_int) (pg_sub (pv 0) pe_int set_list))
      (pss_cons (ps_set (i := 3) scCoin.nd rfl (.inl rfl) (pe_op op_mod (pe_op op_powW (pe_callTy call_int1 (by rfl) B.int (by decide +kernel) (pa_cons (pe_op op_add (pe_ix ix_list (pv 0) pe_int (fun _ _ => rfl)) (pe_op op_mul pe_int (pe_ix ix_list (pv 0) pe_int (fun _ _ => rfl)))) pa_nil)) pe_int) (pe_op op_add (pe_op op_pow pe_int pe_int) pe_int)))
      (pss_cons (ps_set (i := 3) scCoin.nd rfl (.inl rfl) (pe_op op_mod (pe_op op_powW (pe_callTy call_int1 (by rfl) B.int (by decide +kernel) (pa_cons (pe_op op_add (pv 3) (pe_op op_mul pe_int (pe_ix ix_list (pv 0) pe_int (fun _ _ => rfl)))) pa_nil)) pe_int) (pe_op op_add (pe_op op_pow pe_int pe_int) pe_int)))
      (pss_one (ps_ret (pe_op op_mod (pe_callTy call_int1 (by rfl) B.int (by decide +kernel) (pa_cons (pe_op op_fdiv (pv 3) pe_int) pa_nil)) (pv 1))))))), ?_⟩
    have hS : SqL K H p [.int p0, .int p1, .int p2] := .inl (.inl hp)
    refine ⟨.ref p, rfl, p, _, 0, .int p0, rfl, rfl, hS, atI_nat (j := 0) rfl, _, _, rfl, rfl, _, rfl, ite2 (fun e => ?_) (fun e => ?_)⟩
    · -- the next figure
      have e1 : 0 < p0 := of_decide_eq_true e
      refine ⟨.ref p, rfl, p, _, 0, .int p0, rfl, rfl, hS, atI_nat (j := 0) rfl, .inl ⟨_, rfl, _, rfl, _, _, rfl, rfl, (by show 0 < m; omega), ?_⟩⟩
      refine ⟨.ref p, rfl, p, _, 0, .int p0, rfl, rfl, hS, atI_nat (j := 0) rfl, _, rfl, _, _, rfl, rfl, bound31 hm hm2, .ref p, rfl, p, _, 0, 0, rfl, rfl, hp, rfl, ?_⟩
      refine ⟨_, rfl, q _ _ (Int.emod_nonneg _ (by omega)) (Int.emod_lt_of_pos _ (by omega)) ⟨p0 / m, p1, p2, upd_same, Int.ediv_nonneg h0 (by omega), h1, h2, h3, by omega⟩ put_keep⟩
    · -- a stirred one
      have hT : SqL K (upd H p (.lst [.int p0, .int p1, .int (p2 + 1)])) p [.int p0, .int p1, .int (p2 + 1)] := .inl (.inl upd_same)
      refine ⟨.ref p, rfl, p, _, 2, .int p2, rfl, rfl, hS, atI_nat (j := 2) rfl, _, _, rfl, rfl, .ref p, rfl, p, _, 2, 2, rfl, rfl, hp, rfl, ?_⟩
      refine ⟨.ref p, rfl, p, _, 1, .int p1, rfl, rfl, hT, atI_nat (j := 1) rfl, .ref p, rfl, p, _, 2, .int (p2 + 1), rfl, rfl, hT, atI_nat (j := 2) rfl, _, _, rfl, rfl, .inl ⟨by decide, by decide⟩, _, _, rfl, rfl, .inl ⟨_, rfl, ?_⟩⟩
      refine ⟨_, _, rfl, rfl, ⟨by decide, by decide, big1 (by omega) (by omega)⟩, _, _, rfl, rfl, ⟨by decide, by decide, by decide⟩, _, _, rfl, rfl, _, _, rfl, rfl, (by show (0 : Int) < 10 ^ 25 + 13; decide), ?_⟩
      have s1 : ∀ x : Int, 0 ≤ x % (10 ^ 25 + 13) ∧ x % (10 ^ 25 + 13) < 10 ^ 25 + 13 := fun x => ⟨Int.emod_nonneg _ (by decide), Int.emod_lt_of_pos _ (by decide)⟩
      have s2 := s1 ((p1 + 2038074743 * (p2 + 1)) ^ 3)
      refine ⟨_, rfl, .ref p, rfl, p, _, 2, .int (p2 + 1), rfl, rfl, hT, atI_nat (j := 2) rfl, _, _, rfl, rfl, .inl ⟨by decide, by decide⟩, _, _, rfl, rfl, .inl ⟨_, rfl, ?_⟩⟩
      refine ⟨_, _, rfl, rfl, ⟨by decide, by decide, big2 s2.1 s2.2 (by omega) (by omega)⟩, _, _, rfl, rfl, ⟨by decide, by decide, by decide⟩, _, _, rfl, rfl, _, _, rfl, rfl, (by show (0 : Int) < 10 ^ 24 + 7; decide), ?_⟩
      refine ⟨_, rfl, _, _, rfl, rfl, ⟨by decide, by decide⟩, .inl ⟨_, rfl, _, rfl, _, _, rfl, rfl, (by show 0 < m; omega), ?_⟩⟩
      exact q _ _ (Int.emod_nonneg _ (by omega)) (Int.emod_lt_of_pos _ (by omega)) ⟨p0, p1, p2 + 1, upd_same, h0, h1, h2, by omega, by omega⟩ put_keep
end
end Md

namespace Md
open PySem PySem.Spec PyProof.Rows L2
abbrev sDiary : Stmt := top 13
abbrev sCheckTowns : Stmt := top 14
abbrev sIsName : Stmt := top 15
abbrev sCheckNote : Stmt := top 16
/-- the sign is a letter from a to z -/
def letB (c : Nat) : Bool := decide (c ∈ (("abcdefghijklmnopqrstuvwxyz" : Str)).cps.toList)
/-- whether a text is a town's name -/
def nameB (z : Str) : Bool := (decide ((1 : Int) ≤ z.length) && decide ((z.length : Int) ≤ 8)) && (z.cps.toList.map letB).all id
/-- the names of the program's top -/
structure Tops (mg : Str → Option Value) : Prop where
  letters : ∃ t, mg "LETTERS" = some (.str "abcdefghijklmnopqrstuvwxyz" t)
  most : ∃ t, mg "MOST_LETTERS" = some (.int 8 t)
section
variable {P : Program} {w : World} {K : PySem.W.Frag} {mg : Str → Option Value} {base : Heap}
def spIsName : Sp := fun vs H Q _ => ∃ z : Str, vs = [.str z] ∧ z.length ≤ 1000 ∧ ∀ H', Same H H' → Q (.bl (nameB z)) H'
theorem scIsName : FnScope ["name", "letter"] ["name"] (defScope sIsName) := ⟨rfl, rfl, rfl, by decide +kernel, rfl, by decide +kernel, by decide +kernel⟩
theorem ok_isName {f : Addr} {fd : FuncData} {k : Nat} (F : Fun K "is_name" "is_name" sIsName f fd) (B : Blt mg) (T : Tops mg) : FnOk P w K mg base CX0 (k + 1) f fd ["name"] spIsName := by
  refine F.ok scIsName (fun vs H Q E h => ?_) (fun cdv A outer s H vs Q E hr h => ?_)
  · obtain ⟨z, rfl, _⟩ := h
    rfl
  · obtain ⟨z, rfl, hz, q⟩ := h
    obtain ⟨t1, m1⟩ := T.letters
    obtain ⟨t2, m2⟩ := T.most
    refine ⟨_, pss_one (ps_ret (pe_and (pe_chain op_le op_le pe_int (pe_callB call_len_str (by rfl) B.len PySem.boot_len (pa_cons (pv 0) pa_nil)) (pe_glob (v := .int 8) rfl m2 ⟨_, rfl⟩))
      (pe_one (pe_callB (cr_all rfl) (by rfl) B.all (by decide +kernel) (pa_cons (pe_lc (own := [("letter", 1)]) (g := gName 1) (tt := tYes) rfl scIsName.nd (pi_str (pv 0)) (blkOk_by (N := ["name", "letter"]) (sc := defScope sIsName) (by decide +kernel))
        (fun _ _ _ _ _ => pg_name (i := 1) scIsName.nd rfl (.inl rfl)) (fun _ _ _ _ _ => pts_nil) (fun _ _ _ _ _ => pe_cmpR op_in_sign (pv 1) (pe_glob (v := .str "abcdefghijklmnopqrstuvwxyz") rfl m1 ⟨_, rfl⟩) (by rfl))) pa_nil))))), ?_⟩
    have hz2 : z.length ≤ sizeLine := Nat.le_of_lt (small1000 hz)
    refine ⟨_, rfl, _, rfl, hz2, _, _, rfl, rfl, _, rfl, ite2 (fun e1 => ?_) (fun e1 => ?_)⟩
    · refine ⟨_, _, rfl, rfl, _, rfl, ite2 (fun e2 => ?_) (fun e2 => ?_)⟩
      · -- all letters are of the alphabet
        refine ⟨_, rfl, _, rfl, fun D nD => ?_⟩
        have hl : (z.cps.toList.map letB).length = z.cps.size := by rw [List.length_map, Array.length_toList]
        refine lcp_str (x := z) (ys := (z.cps.toList.map letB).map V.bl) (by rw [List.length_map, hl]) (small1000 hz) (fun i c y R hc hy r => ?_) ?_
        · refine ⟨rfl, _, rfl, c, _, rfl, rfl, ?_⟩
          have e : y = V.bl (letB c) := by
            rw [List.getElem?_map, List.getElem?_map, Array.getElem?_toList, hc] at hy
            exact (Option.some.inj hy).symm
          rw [e] at r
          exact r
        · refine ⟨D, z.cps.toList.map letB, rfl, .inl (.inl upd_same), ?_⟩
          have en : nameB z = (z.cps.toList.map letB).all id := by
            unfold nameB
            rw [e1, e2]
            rfl
          rw [← en]
          exact q _ fun b o h => by rw [upd_ne (ne_of_none h nD)]; exact h
      · have en : nameB z = false := by
          unfold nameB
          rw [Bool.eq_false_iff.mpr e2]
          simp
        rw [← en]
        exact q _ (Same.refl H)
    · refine ⟨_, rfl, iteF ?_⟩
      have en : nameB z = false := by
        unfold nameB
        rw [Bool.eq_false_iff.mpr e1]
        rfl
      rw [← en]
      exact q _ (Same.refl H)
end
end Md

namespace Md
open PySem PySem.Spec PyProof.Rows L2
/-- a list of tuples whose things are flat -/
def Rows (H : Hp) (a : Addr) (rs : List (List V)) : Prop := ∃ as : List Addr, H a = some (.lst (as.map V.ref)) ∧ Paired (fun b r => H b = some (.tup r)) as rs
/-- the same, to be read -/
def RowsK (K : PySem.W.Frag) (H : Hp) (a : Addr) (rs : List (List V)) : Prop := ∃ as : List Addr, SqL K H a (as.map V.ref) ∧ Paired (fun b r => H b = some (.tup r)) as rs
theorem paired_imp {α β : Type} {F G : α → β → Prop} : ∀ {l : List α} {m : List β}, Paired F l m → (∀ a b, F a b → G a b) → Paired G l m
  | _, _, .nil, _ => .nil
  | _, _, .cons h t, f => .cons (f _ _ h) (paired_imp t f)
theorem paired_get {α β : Type} {F : α → β → Prop} : ∀ {l : List α} {m : List β}, Paired F l m → ∀ (i : Nat) (b : β), m[i]? = some b → ∃ a, l[i]? = some a ∧ F a b
  | _, _, .nil, i, b, h => by simp at h
  | _, _, .cons h t, 0, b, e => ⟨_, rfl, by
    have e2 := Option.some.inj e
    subst e2
    exact h⟩
  | _, _, .cons h t, i + 1, b, e => paired_get t i b e
theorem paired_len {α β : Type} {F : α → β → Prop} {l : List α} {m : List β} (h : Paired F l m) : l.length = m.length := Paired.length h
theorem Rows.k {K : PySem.W.Frag} {H : Hp} {a : Addr} {rs : List (List V)} (h : Rows H a rs) : RowsK K H a rs := by
  obtain ⟨as, h1, h2⟩ := h
  exact ⟨as, .inl (.inl h1), h2⟩
theorem Rows.same {H H' : Hp} {a : Addr} {rs : List (List V)} (h : Rows H a rs) (s : Same H H') : Rows H' a rs := by
  obtain ⟨as, h1, h2⟩ := h
  exact ⟨as, s _ _ h1, paired_imp h2 fun b r z => s _ _ z⟩
/-- a purse is no list of tuples: it may change -/
theorem Rows.keep {H H' : Hp} {a p : Addr} {rs : List (List V)} {c : Nat} (h : Rows H a rs) (hp : PurseAt H p c) (s : Keep p H H') : Rows H' a rs := by
  obtain ⟨as, h1, h2⟩ := h
  obtain ⟨p0, p1, p2, e, _⟩ := hp
  refine ⟨as, s _ _ h1 fun z => ?_, paired_imp h2 fun b r z => s _ _ z fun y => ?_⟩
  · rw [z, e] at h1
    have e2 := Option.some.inj h1
    cases as with
    | nil => cases e2
    | cons b bs => cases e2
  · rw [y, e] at z
    cases z
theorem Rows.length {H : Hp} {a : Addr} {rs : List (List V)} (h : Rows H a rs) : ∃ as : List Addr, as.length = rs.length ∧ H a = some (.lst (as.map V.ref)) := by
  obtain ⟨as, h1, h2⟩ := h
  exact ⟨as, paired_len h2, h1⟩
/-- a town's row, right -/
def TownR (r : List V) : Prop := ∃ (z : Str) (lo hi : Int), r = [.str z, .int lo, .int hi] ∧ nameB z = true ∧ z.length ≤ 8 ∧ 1 ≤ lo ∧ lo ≤ hi
/-- the name in a row of a town -/
def nameOf : List V → Str
  | .str z :: _ => z
  | _ => Str.empty
theorem inV_str (x : Str) : ∀ zs : List Str, inV (V.str x) (zs.map V.str) = decide (x ∈ zs)
  | [] => by simp [inV]
  | z :: zs => by
    have ih := inV_str x zs
    unfold inV at ih ⊢
    rw [List.map_cons, List.any_cons, ih]
    by_cases h : z = x
    · subst h
      simp [eqV]
    · have h2 : ¬ x = z := fun e => h e.symm
      simp [eqV, h, h2]
theorem flat_strs : ∀ zs : List Str, (zs.map V.str).all flatV = true
  | [] => rfl
  | z :: zs => by
    rw [List.map_cons, List.all_cons, flat_strs zs]
    rfl
theorem fresh_name {rs : List (List V)} (h : (rs.map nameOf).Nodup) {i : Nat} (hi : i < rs.length) : nameOf rs[i] ∉ (rs.take i).map nameOf := by
  intro m
  obtain ⟨r, hr, e⟩ := List.mem_map.mp m
  obtain ⟨j, hj, ej⟩ := List.getElem_of_mem hr
  have hj2 : j < i := by
    rw [List.length_take] at hj
    omega
  rw [List.getElem_take] at ej
  have z := (List.pairwise_iff_getElem.mp h) j i (by rw [List.length_map]; omega) (by rw [List.length_map]; exact hi) hj2
  rw [List.getElem_map, List.getElem_map, ej, e] at z
  exact z rfl
section
variable {P : Program} {w : World} {K : PySem.W.Frag} {mg : Str → Option Value} {base : Heap}
def spCheckTowns (K : PySem.W.Frag) : Sp := fun vs H Q _ => ∃ (a : Addr) (rs : List (List V)), vs = [.ref a] ∧ RowsK K H a rs ∧ (∀ r ∈ rs, TownR r) ∧ (rs.map nameOf).Nodup ∧ rs.length ≤ 100 ∧ ∀ H', Same H H' → Q .non H'
theorem scCheckTowns : FnScope ["towns", "names", "town", "name", "low", "high"] ["towns"] (defScope sCheckTowns) := ⟨rfl, rfl, rfl, by decide +kernel, rfl, by decide +kernel, by decide +kernel⟩
theorem ok_checkTowns {f fN : Addr} {fd fdN : FuncData} {k : Nat} (F : Fun K "check_towns" "check_towns" sCheckTowns f fd) (FN : Fun K "is_name" "is_name" sIsName fN fdN) (gN : mg "is_name" = some (.ref fN))
    (bN : Binds K fdN ["name"] []) (B : Blt mg) (T : Tops mg) : FnOk P w K mg base CX0 (k + 2) f fd ["towns"] (spCheckTowns K) := by
  have GN : FnOk P w K mg base CX0 (k + 1) fN fdN ["name"] spIsName := ok_isName FN B T
  refine F.ok scCheckTowns (fun vs H Q E h => ?_) (fun cdv A outer s H vs Q E hr h => ?_)
  · obtain ⟨a, rs, rfl, _⟩ := h
    rfl
  · obtain ⟨a, rs, rfl, ⟨as, hS, hR⟩, good, nodup, few, q⟩ := h
    have nd := scCheckTowns.nd
    refine ⟨_, pss_cons (ps_set (i := 1) nd rfl (.inl rfl) (pe_lst pa_nil))
      (pss_one (ps_for PassesOwn.never rfl (pi_list (pv 0)) (pg_name (i := 2) nd rfl (.inl rfl))
        (pss_cons (ps_asg (pv 2) (pg_tup (by rfl) (pgs_cons (pg_name (i := 3) nd rfl (.inl rfl)) (pgs_cons (pg_name (i := 4) nd rfl (.inl rfl)) (pgs_cons (pg_name (i := 5) nd rfl (.inl rfl)) pgs_nil)))))
        (pss_cons (ps_if (pt_not (pt_val (pe_call GN hr (by rfl) gN FN.kp bN .nil pass0 (pa_cons (pv 3) pa_nil)))) (pss_one ps_never) pss_nil)
        (pss_cons (ps_if (pt_cmpR op_in_seq (pv 3) (pv 1) (by rfl)) (pss_one ps_never) pss_nil)
        (pss_cons (ps_if (PW.pt (pw_or (pt_cmpR op_lt (pv 4) pe_int (nomark _)) (pw_or1 (pt_cmpR op_lt (pv 5) (pv 4) (nomark _))))) (pss_one ps_never) pss_nil)
        (pss_one (ps_expr (pe_bm PySem.F.plainAttrs_list PySem.F.slot_list_append PySem.F.type_list_append mt_append (pv 1) (pa_cons (pv 3) pa_nil)))))))))), ?_⟩
    refine ⟨Nat.zero_le _, fun l nl => ?_⟩
    have s0 : ∀ (H2 : Hp) (o : HO), Same H H2 → Same H (upd H2 l o) := fun H2 o sm b u z => by
      rw [upd_ne (ne_of_none z nl)]
      exact sm b u z
    have ln : as.length = rs.length := paired_len hR
    refine ⟨_, rfl, a, rfl, ⟨_, (s0 H _ (Same.refl H)).seq hS⟩, for_list (K := K) (a := a) (xs := as.map V.ref) (fun i sl H2 => ∃ v2 v3 v4 v5, sl = [some (.ref a), some (.ref l), v2, v3, v4, v5] ∧ Same H H2 ∧ H2 l = some (.lst (((rs.take i).map nameOf).map V.str)))
      ⟨none, none, none, none, rfl, s0 H _ (Same.refl H), upd_same⟩ (fun i sl H2 _ ⟨_, _, _, _, _, sm, _⟩ => sm.seq hS) ?_ ?_⟩
    · rintro i x sl H2 hx ⟨v2, v3, v4, v5, rfl, sm, hl⟩
      have hi : i < rs.length := by
        have z := (List.getElem?_eq_some_iff.mp hx).1
        rw [List.length_map] at z
        omega
      have hr0 : rs[i]? = some rs[i] := List.getElem?_eq_getElem hi
      obtain ⟨b, hb, hbr⟩ := paired_get hR i rs[i] hr0
      have ex : x = V.ref b := by
        rw [List.getElem?_map, hb] at hx
        exact (Option.some.inj hx).symm
      subst ex
      obtain ⟨z, lo, hi2, er, gz, z8, l1, l2⟩ := good rs[i] (List.getElem_mem hi)
      rw [er] at hbr
      have ez : nameOf rs[i] = z := by rw [er]; rfl
      -- name, low, high = town
      refine ⟨_, rfl, b, _, rfl, .inl (.inl (sm _ _ hbr)), rfl, _, _, rfl, _, _, rfl, _, _, rfl, rfl, ?_⟩
      -- the name is good
      refine ⟨_, rfl, z, rfl, by omega, fun H3 s3 => ⟨_, rfl, ?_⟩⟩
      rw [gz]
      refine iteF ?_
      -- it stood not before
      have hl3 : H3 l = some (.lst (((rs.take i).map nameOf).map V.str)) := s3 _ _ hl
      refine ⟨_, rfl, _, rfl, l, _, rfl, .inl (.inl (.inl hl3)), rfl, flat_strs _, _, rfl, ?_⟩
      have nin : inV (V.str z) (((rs.take i).map nameOf).map V.str) = false := by
        rw [inV_str]
        refine decide_eq_false fun m => ?_
        rw [← ez] at m
        exact fresh_name nodup hi m
      rw [nin]
      refine iteF ?_
      refine ⟨_, rfl, _, _, rfl, rfl, _, rfl, ?_⟩
      rw [decide_eq_false (show ¬ lo < 1 by omega)]
      refine iteF ⟨_, rfl, _, rfl, _, _, rfl, rfl, _, rfl, ?_⟩
      rw [decide_eq_false (show ¬ hi2 < lo by omega)]
      refine iteF ?_
      refine ⟨_, rfl, .inl ⟨rfl, _, .inl (.inl hl3)⟩, _, rfl, l, _, _, rfl, rfl, hl3, ?_, ?_⟩
      · rw [List.length_map, List.length_map, List.length_take]
        exact small1000 (by omega)
      · refine ⟨_, _, _, _, rfl, s0 H3 _ (sm.trans s3), ?_⟩
        rw [upd_same, List.take_add_one, hr0, Option.toList_some, List.map_append, List.map_append]
        show some (HO.lst (_ ++ [V.str z])) = some (HO.lst (_ ++ [V.str (nameOf rs[i])]))
        rw [ez]
    · rintro sl H2 ⟨v2, v3, v4, v5, rfl, sm, hl⟩
      exact q H2 sm
end
end Md

namespace Md
open PySem PySem.Spec PyProof.Rows L2
/-- a note's row, right where the towns have these names -/
def NoteR (ns : List Str) (r : List V) : Prop :=
  (∃ (kind z : Str) (day : Int), r = [.str kind, .str z, .int day] ∧ (kind = "market" ∨ kind = "none") ∧ z ∈ ns ∧ 0 ≤ day ∧ day ≤ 10 ^ 30) ∨
  (∃ (kind y z : Str) (day : Int), r = [.str kind, .str y, .str z, .int day] ∧ (kind = "one" ∨ kind = "same") ∧ y ∈ ns ∧ z ∈ ns ∧ y ≠ z ∧ 0 ≤ day ∧ day ≤ 10 ^ 30)
/-- the module's table of the numbers of things -/
structure Things (K : PySem.W.Frag) (w : World) (mg : Str → Option Value) : Prop where
  at_ : ∃ d es n, mg "THINGS" = some (.ref d) ∧ KDict K w d es n ∧ (∃ t, PySem.W.nsIn K d "market" = some (some (.int 3 t))) ∧ (∃ t, PySem.W.nsIn K d "none" = some (some (.int 3 t))) ∧
    (∃ t, PySem.W.nsIn K d "one" = some (some (.int 4 t))) ∧ ∃ t, PySem.W.nsIn K d "same" = some (some (.int 4 t))
section
variable {P : Program} {w : World} {K : PySem.W.Frag} {mg : Str → Option Value} {base : Heap}
abbrev sCheckAsked : Stmt := top 17
def spAsked0 (K : PySem.W.Frag) : Sp := fun vs H Q _ => ∃ (a c : Addr) (zs ys : List Str), vs = [.ref a, .ref c] ∧ SqL K H a (zs.map V.str) ∧ SqT K H c (ys.map V.str) ∧ (∀ y ∈ ys, y ∈ zs) ∧ ∀ H', Same H H' → Q .non H'
theorem scAsked : FnScope ["names", "asked", "name"] ["names", "asked"] (defScope sCheckAsked) := ⟨rfl, rfl, rfl, by decide +kernel, rfl, by decide +kernel, by decide +kernel⟩
theorem strs_at {ys : List Str} {i : Nat} {x : V} (hx : (ys.map V.str)[i]? = some x) : ∃ z, ys[i]? = some z ∧ x = V.str z := by
  rw [List.getElem?_map] at hx
  cases e : ys[i]? with
  | none => rw [e] at hx; cases hx
  | some z => rw [e] at hx; exact ⟨z, rfl, (Option.some.inj hx).symm⟩
theorem ok_asked0 {f : Addr} {fd : FuncData} {k : Nat} (F : Fun K "check_asked" "check_asked" sCheckAsked f fd) : FnOk P w K mg base CX0 (k + 1) f fd ["names", "asked"] (spAsked0 K) := by
  refine F.ok scAsked (fun vs H Q E h => ?_) (fun cdv A outer s H vs Q E hr h => ?_)
  · obtain ⟨a, c, zs, ys, rfl, _⟩ := h
    rfl
  · obtain ⟨a, c, zs, ys, rfl, hS, hc, good, q⟩ := h
    refine ⟨_, pss_one (ps_for PassesOwn.never rfl (pi_tup (pv 1)) (pg_name (i := 2) scAsked.nd rfl (.inl rfl)) (pss_one (ps_if (pt_cmpR op_notIn_seq (pv 2) (pv 0) (by rfl)) (pss_one ps_never) pss_nil))), ?_⟩
    refine ⟨_, rfl, c, rfl, ⟨_, hc⟩, for_tup (K := K) (a := c) (xs := ys.map V.str) (fun i sl H2 => ∃ v2, sl = [some (.ref a), some (.ref c), v2] ∧ H2 = H)
      ⟨none, rfl, rfl⟩ (fun i sl H2 _ ⟨_, _, e⟩ => by rw [e]; exact hc) ?_ ?_⟩
    · rintro i x sl H2 hx ⟨v3, rfl, rfl⟩
      obtain ⟨z, hz, rfl⟩ := strs_at hx
      refine ⟨_, rfl, _, rfl, a, _, rfl, .inl hS, rfl, flat_strs _, _, rfl, ?_⟩
      rw [inV_str, decide_eq_true (good z (List.mem_of_getElem? hz))]
      exact iteF ⟨_, rfl, rfl⟩
    · rintro sl H2 ⟨v3, rfl, rfl⟩
      exact q _ (Same.refl _)
def spCheckNote (K : PySem.W.Frag) : Sp := fun vs H Q _ => ∃ (a t : Addr) (zs : List Str) (r : List V), vs = [.ref a, .ref t] ∧ SqL K H a (zs.map V.str) ∧ H t = some (.tup r) ∧ NoteR zs r ∧ ∀ H', Same H H' → Q .non H'
theorem scCheckNote : FnScope ["names", "note", "asked"] ["names", "note"] (defScope sCheckNote) := ⟨rfl, rfl, rfl, by decide +kernel, rfl, by decide +kernel, by decide +kernel⟩
theorem ok_checkNote {f fA : Addr} {fd fdA : FuncData} {k : Nat} (F : Fun K "check_note" "check_note" sCheckNote f fd) (FA : Fun K "check_asked" "check_asked" sCheckAsked fA fdA) (gA : mg "check_asked" = some (.ref fA)) (bA : Binds K fdA ["names", "asked"] []) (B : Blt mg) (TH : Things K w mg) : FnOk P w K mg base CX0 (k + 2) f fd ["names", "note"] (spCheckNote K) := by
  have GA : FnOk P w K mg base CX0 (k + 1) fA fdA ["names", "asked"] (spAsked0 K) := ok_asked0 FA
  refine F.ok scCheckNote (fun vs H Q E h => ?_) (fun cdv A outer s H vs Q E hr h => ?_)
  · obtain ⟨a, t, zs, r, rfl, _⟩ := h
    rfl
  · obtain ⟨a, t, zs, r, rfl, hS, hT, good, q⟩ := h
    obtain ⟨d, es, n, mT, D, ⟨t1, k1⟩, ⟨t2, k2⟩, ⟨t3, k3⟩, t4, k4⟩ := TH.at_
    have nd := scCheckNote.nd
    refine ⟨_, pss_cons (ps_if (PW.pt (pw_or (pt_not (pt_truth (pv 1) (by intro _; rfl))) (pw_or1 (pt_cmpR op_ne (pe_callB call_len_seq (by rfl) B.len PySem.boot_len (pa_cons (pv 1) pa_nil))
        (pe_kget D (pe_glob (v := .ref d) rfl mT rfl) (pe_ix ix_tup (pv 1) pe_int (fun _ _ => rfl)) ⟨by rfl, by rfl, by rfl, by rfl⟩) (nomark _))))) (pss_one ps_never) pss_nil)
      (pss_cons (ps_set (i := 2) nd rfl (.inl rfl) (pe_slice sl_tup (pv 1) (po_some pe_int) (po_some (pe_un un_neg pe_int))))
      (pss_cons (ps_expr (pe_call GA hr (by rfl) gA FA.kp bA .nil pass0 (pa_cons (pv 0) (pa_cons (pv 2) pa_nil))))
      (pss_cons (ps_if (PW.pt (pw_and (pt_cmpR op_eq (pe_callB call_len_seq (by rfl) B.len PySem.boot_len (pa_cons (pv 2) pa_nil)) pe_int (nomark _))
        (pw_and1 (pt_cmpR op_eq (pe_ix ix_tup (pv 2) pe_int (fun _ _ => rfl)) (pe_ix ix_tup (pv 2) pe_int (fun _ _ => rfl)) (nomark _))))) (pss_one ps_never) pss_nil)
      (pss_one (ps_if (pt_cmpR op_lt (pe_ix ix_tup (pv 1) (pe_un un_neg pe_int) (fun _ _ => rfl)) pe_int (nomark _)) (pss_one ps_never) pss_nil))))), ?_⟩
    have hq : SqT K H t r := .inl (.inl hT)
    have same : ∀ (c : Addr) (o : HO), H c = none → Same H (upd H c o) := fun c o nc b u z => by
      rw [upd_ne (ne_of_none z nc)]
      exact z
    rcases good with ⟨kind, z, day, er, hk, hz, d0, d1⟩ | ⟨kind, y, z, day, er, hk, hy, hz, hyz, d0, d1⟩
    · -- a note of one town
      subst er
      have hget : ∃ tk, PySem.W.nsIn K d kind = some (some (.int 3 tk)) := by
        rcases hk with e | e
        · exact ⟨t1, by rw [e]; exact k1⟩
        · exact ⟨t2, by rw [e]; exact k2⟩
      obtain ⟨tk, hget⟩ := hget
      refine ⟨_, rfl, true, .inr (.inl ⟨_, hq, rfl⟩), iteF ?_⟩
      refine ⟨_, rfl, t, _, rfl, .inr hq, rfl, _, rfl, t, _, 0, .str kind, rfl, rfl, hq, atI_nat (j := 0) rfl, kind, _, rfl, hget, (fun e => nomatch e), fun u0 e => ⟨.int 3, ⟨tk, (Option.some.inj e).symm⟩, rfl, _, rfl, iteNS rfl ?_⟩⟩
      refine ⟨_, rfl, 1, rfl, _, rfl, -1, rfl, t, _, rfl, hq, (by simp only [List.length_cons, List.length_nil]; decide), fun c nc => ?_⟩
      have s1 := same c (.tup (cutV [.str kind, .str z, .int day] (some 1) (some (-1)))) nc
      have hcT : (upd H c (.tup (cutV [.str kind, .str z, .int day] (some 1) (some (-1))))) c = some (.tup [.str z]) := by rw [upd_same]; rfl
      have hc : SqT K (upd H c (.tup (cutV [.str kind, .str z, .int day] (some 1) (some (-1))))) c [.str z] := .inl (.inl hcT)
      refine ⟨_, rfl, _, rfl, a, c, zs, [z], rfl, s1.seq hS, hc, fun y hy => by rw [List.mem_singleton.mp hy]; exact hz, fun H2 s2 => ?_⟩
      have hc : SqT K H2 c [.str z] := .inl (.inl (s2 _ _ hcT))
      have s1 := s1.trans s2
      · refine ⟨_, rfl, c, _, rfl, .inr hc, rfl, _, rfl, ?_⟩
        refine iteF ?_
        refine ⟨_, rfl, _, rfl, t, _, -1, .int day, rfl, rfl, .inl (.inl (s1 _ _ hT)), rfl, _, _, rfl, rfl, _, rfl, ?_⟩
        rw [decide_eq_false (show ¬ day < 0 by omega)]
        exact iteF (q _ s1)
    · -- a note of two
      subst er
      have hget : ∃ tk, PySem.W.nsIn K d kind = some (some (.int 4 tk)) := by
        rcases hk with e | e
        · exact ⟨t3, by rw [e]; exact k3⟩
        · exact ⟨t4, by rw [e]; exact k4⟩
      obtain ⟨tk, hget⟩ := hget
      refine ⟨_, rfl, true, .inr (.inl ⟨_, hq, rfl⟩), iteF ?_⟩
      refine ⟨_, rfl, t, _, rfl, .inr hq, rfl, _, rfl, t, _, 0, .str kind, rfl, rfl, hq, atI_nat (j := 0) rfl, kind, _, rfl, hget, (fun e => nomatch e), fun u0 e => ⟨.int 4, ⟨tk, (Option.some.inj e).symm⟩, rfl, _, rfl, iteNS rfl ?_⟩⟩
      refine ⟨_, rfl, 1, rfl, _, rfl, -1, rfl, t, _, rfl, hq, (by simp only [List.length_cons, List.length_nil]; decide), fun c nc => ?_⟩
      have s1 := same c (.tup (cutV [.str kind, .str y, .str z, .int day] (some 1) (some (-1)))) nc
      have hcT : (upd H c (.tup (cutV [.str kind, .str y, .str z, .int day] (some 1) (some (-1))))) c = some (.tup [.str y, .str z]) := by rw [upd_same]; rfl
      have hc : SqT K (upd H c (.tup (cutV [.str kind, .str y, .str z, .int day] (some 1) (some (-1))))) c [.str y, .str z] := .inl (.inl hcT)
      refine ⟨_, rfl, _, rfl, a, c, zs, [y, z], rfl, s1.seq hS, hc, fun x hx => ?_, fun H2 s2 => ?_⟩
      · rcases List.mem_cons.mp hx with e | e
        · rw [e]; exact hy
        · rw [List.mem_singleton.mp e]; exact hz
      have hc : SqT K H2 c [.str y, .str z] := .inl (.inl (s2 _ _ hcT))
      have s1 := s1.trans s2
      · refine ⟨_, rfl, c, _, rfl, .inr hc, rfl, _, rfl, ?_⟩
        refine iteT ?_
        refine ⟨_, rfl, c, _, 0, .str y, rfl, rfl, hc, atI_nat (j := 0) rfl, _, rfl, c, _, 1, .str z, rfl, rfl, hc, atI_nat (j := 1) rfl, rfl, _, rfl, ?_⟩
        rw [decide_eq_false (show ¬ V.str y = V.str z from fun e => hyz (V.str.inj e))]
        refine iteF ?_
        refine ⟨_, rfl, _, rfl, t, _, -1, .int day, rfl, rfl, .inl (.inl (s1 _ _ hT)), rfl, _, _, rfl, rfl, _, rfl, ?_⟩
        rw [decide_eq_false (show ¬ day < 0 by omega)]
        exact iteF (q _ s1)
end
end Md

namespace Md
open PySem PySem.Spec PyProof.Rows L2
abbrev sInit : Stmt := inClass sDiary 0
abbrev sGetTowns : Stmt := inClass sDiary 1
abbrev sGetNotes : Stmt := inClass sDiary 2
abbrev sNames : Stmt := inClass sDiary 3
abbrev sLen : Stmt := inClass sDiary 6
/-- a diary's attributes -/
def flds (a b : Addr) : List (Str × V) := [("_towns", .ref a), ("_notes", .ref b)]
/-- a diary stands at m, its own lists at a and b -/
structure DiaryAt (C : Addr) (H : Hp) (m dx a b : Addr) (ts ns : List (List V)) : Prop where
  ob : H m = some (.ins C dx (flds a b))
  towns : Rows H a ts
  notes : Rows H b ns
theorem DiaryAt.same {C : Addr} {H H' : Hp} {m dx a b : Addr} {ts ns : List (List V)} (D : DiaryAt C H m dx a b ts ns) (s : Same H H') : DiaryAt C H' m dx a b ts ns :=
  ⟨s _ _ D.ob, D.towns.same s, D.notes.same s⟩
theorem DiaryAt.keep {C : Addr} {H H' : Hp} {m dx a b p : Addr} {ts ns : List (List V)} {c : Nat} (D : DiaryAt C H m dx a b ts ns) (hp : PurseAt H p c) (s : Keep p H H') : DiaryAt C H' m dx a b ts ns :=
  ⟨s _ _ D.ob (fun e => by
    obtain ⟨p0, p1, p2, e1, _⟩ := hp
    have z := D.ob
    rw [e, e1] at z
    cases z), D.towns.keep hp s, D.notes.keep hp s⟩
/-- what is asked of the class -/
structure Cl (K : PySem.W.Frag) (C : Addr) : Prop where
  cl : Cls K C
  nT : NoAttr K C "_towns"
  nN : NoAttr K C "_notes"
theorem rows_copy {H : Hp} {as : List Addr} {rs : List (List V)} {q : Addr} (h : Paired (fun b r => H b = some (.tup r)) as rs) (n : H q = none) : Rows (upd H q (.lst (as.map V.ref))) q rs :=
  ⟨as, upd_same, paired_imp h fun b r z => by rw [upd_ne (ne_of_none z n)]; exact z⟩
theorem rows_ref {as : List Addr} {rs : List (List V)} {H : Hp} (h : Paired (fun b r => H b = some (.tup r)) as rs) {i : Nat} {x : V} (hx : (as.map V.ref)[i]? = some x) : ∃ b r, x = .ref b ∧ rs[i]? = some r ∧ H b = some (.tup r) := by
  have hi : i < rs.length := by
    have z := (List.getElem?_eq_some_iff.mp hx).1
    rw [List.length_map, paired_len h] at z
    exact z
  have hr : rs[i]? = some rs[i] := List.getElem?_eq_getElem hi
  obtain ⟨b, hb, hbr⟩ := paired_get h i rs[i] hr
  refine ⟨b, rs[i], ?_, hr, hbr⟩
  rw [List.getElem?_map, hb] at hx
  exact (Option.some.inj hx).symm
theorem flds_put {a b : Addr} : putF "_notes" (.ref b) (putF "_towns" (.ref a) []) = flds a b := by
  show (if ("_towns" : Str) = "_notes" then _ else (("_towns" : Str), V.ref a) :: putF "_notes" (.ref b) []) = _
  rw [if_neg (by decide +kernel)]
  rfl
section
variable {P : Program} {w : World} {K : PySem.W.Frag} {mg : Str → Option Value} {base : Heap}
def spInit (C : Addr) : Sp := fun vs H Q _ => ∃ (p dx t n : Addr) (ts ns : List (List V)), vs = [.ref p, .ref t, .ref n] ∧ H p = some (.ins C dx []) ∧ Rows H t ts ∧ Rows H n ns ∧
  (∀ r ∈ ts, TownR r) ∧ (ts.map nameOf).Nodup ∧ (∀ r ∈ ns, NoteR (ts.map nameOf) r) ∧ ts.length ≤ 100 ∧ ns.length ≤ 100 ∧
  ∀ a b H', H a = none → H b = none → DiaryAt C H' p dx a b ts ns → Keep p H H' → Q .non H'
theorem scInit : FnScope ["self", "towns", "notes", "names", "note", "town"] ["self", "towns", "notes"] (defScope sInit) := ⟨rfl, rfl, rfl, by decide +kernel, rfl, by decide +kernel, by decide +kernel⟩
theorem ok_init {f C fT fN : Addr} {fd fdT fdN : FuncData} {k : Nat} (F : Fun K "__init__" "Diary.__init__" sInit f fd) (cl : Cl K C) (B : Blt mg)
    (GT : FnOk P w K mg base CX0 (k + 2) fT fdT ["towns"] (spCheckTowns K)) (gT : mg "check_towns" = some (.ref fT)) (kT : PySem.W.keepIn K (.ref fT) = true) (bT : Binds K fdT ["towns"] [])
    (GN : FnOk P w K mg base CX0 (k + 2) fN fdN ["names", "note"] (spCheckNote K)) (gN : mg "check_note" = some (.ref fN)) (kN : PySem.W.keepIn K (.ref fN) = true) (bN : Binds K fdN ["names", "note"] []) :
    FnOk P w K mg base CX0 (k + 3) f fd ["self", "towns", "notes"] (spInit C) := by
  refine F.ok scInit (fun vs H Q E h => ?_) (fun cdv A outer s H vs Q E hr h => ?_)
  · obtain ⟨p, dx, t, n, ts, ns, rfl, _⟩ := h
    rfl
  · obtain ⟨p, dx, t, n, ts, ns, rfl, hp, ⟨tas, ht, hts⟩, ⟨nas, hn, hns⟩, goodT, nodup, goodN, fewT, fewN, q⟩ := h
    have nd := scInit.nd
    refine ⟨_, pss_cons (ps_expr (pe_call GT hr (by rfl) gT kT bT .nil pass0 (pa_cons (pv 1) pa_nil)))
      (pss_cons (ps_setLc (i := 3) (own := [("town", 5)]) (g := gName 5) (tt := tYes) rfl nd rfl rfl (sw_true rfl rfl rfl (by decide +kernel)) (pi_list (pv 1)) (blkOk_by (N := ["self", "towns", "notes", "names", "note", "town"]) (sc := defScope sInit) (by decide +kernel))
        (fun _ _ _ _ _ => pg_name (i := 5) nd rfl (.inl rfl)) (fun _ _ _ _ _ => pts_nil) (fun _ _ _ _ _ => pe_ix (r := rIxT K) ix_tup (pv 5) pe_int (fun _ _ => rfl)))
      (pss_cons (ps_for PassesOwn.never rfl (pi_list (pv 2)) (pg_name (i := 4) nd rfl (.inl rfl)) (pss_one (ps_expr (pe_call GN hr (by rfl) gN kN bN .nil pass0 (pa_cons (pv 3) (pa_cons (pv 4) pa_nil))))))
      (pss_cons (ps_fld (pv 0) (pe_callTy call_list_of (by rfl) B.list (by decide +kernel) (pa_cons (pv 1) pa_nil)) rfl)
      (pss_one (ps_fld (pv 0) (pe_callTy call_list_of (by rfl) B.list (by decide +kernel) (pa_cons (pv 2) pa_nil)) rfl))))), ?_⟩
    -- check_towns(towns)
    refine ⟨_, rfl, t, ts, rfl, ⟨tas, .inl (.inl ht), hts⟩, goodT, nodup, fewT, fun H1 s1 => ?_⟩
    -- names
    have ln : tas.length = ts.length := paired_len hts
    refine ⟨_, rfl, t, rfl, ⟨_, .inl (.inl (s1 _ _ ht))⟩, fun D nD => ?_⟩
    refine lcp_list (K := K) (a := t) (xs := tas.map V.ref) (ys := (ts.map nameOf).map V.str) (.inl (.inl (s1 _ _ ht))) nD (by rw [List.length_map, List.length_map, List.length_map, ln]) (by rw [List.length_map, ln]; exact small1000 (by omega)) (fun i x y R hx hy r => ?_) ?_
    · obtain ⟨b, rw_, ex, hr1, hb⟩ := rows_ref hts hx
      subst ex
      obtain ⟨z, lo, hi, er, _⟩ := goodT rw_ (List.mem_of_getElem? hr1)
      have ey : y = V.str z := by
        rw [List.getElem?_map, List.getElem?_map, hr1, er] at hy
        exact (Option.some.inj hy).symm
      subst ey
      subst er
      refine ⟨rfl, _, rfl, b, [.str z, .int lo, .int hi], 0, .str z, rfl, rfl, .inl (.inl ?_), atI_nat (j := 0) rfl, r⟩
      unfold grown
      rw [upd_ne (ne_of_none (s1 _ _ hb) nD)]
      exact s1 _ _ hb
    · -- each note
      have s2 : Same H (upd H1 D (.lst ((ts.map nameOf).map V.str))) := fun b o z => by
        rw [upd_ne (ne_of_none (s1 _ _ z) nD)]
        exact s1 _ _ z
      have ln2 : nas.length = ns.length := paired_len hns
      refine ⟨_, rfl, n, rfl, ⟨_, .inl (.inl (s2 _ _ hn))⟩, for_list (K := K) (a := n) (xs := nas.map V.ref) (fun i sl H2 => ∃ v4 v5, sl = [some (.ref p), some (.ref t), some (.ref n), some (.ref D), v4, v5] ∧ Same H H2 ∧ H2 D = some (.lst ((ts.map nameOf).map V.str)))
        ⟨none, none, rfl, s2, upd_same⟩ (fun i sl H2 _ ⟨_, _, _, sm, _⟩ => .inl (.inl (sm _ _ hn))) ?_ ?_⟩
      · rintro i x sl H2 hx ⟨v4, v5, rfl, sm, hD⟩
        obtain ⟨b, rw_, ex, hr1, hb⟩ := rows_ref hns hx
        subst ex
        exact ⟨_, rfl, _, rfl, D, b, _, rw_, rfl, .inl (.inl hD), sm _ _ hb, goodN rw_ (List.mem_of_getElem? hr1), fun H3 s3 => ⟨_, _, rfl, sm.trans s3, s3 _ _ hD⟩⟩
      · rintro sl H2 ⟨v4, v5, rfl, sm, hD⟩
        -- the two lists
        have hp2 := sm _ _ hp
        refine ⟨_, rfl, t, _, rfl, .inl (.inl (.inl (sm _ _ ht))), fun a na => ?_⟩
        have npa : p ≠ a := ne_of_none hp2 na
        refine ⟨_, rfl, p, C, dx, [], rfl, (by rw [upd_ne npa]; exact hp2), cl.cl, cl.nT, (by show 0 < 1000; decide), ?_⟩
        have hn2 := sm _ _ hn
        have h3 : ∀ (c : Addr) (o : HO), H2 c = some o → c ≠ p → upd (upd H2 a (.lst (tas.map V.ref))) p (.ins C dx (putF "_towns" (.ref a) [])) c = some o := fun c o z ne => by
          rw [upd_ne ne, upd_ne (ne_of_none z na)]
          exact z
        have nnp : n ≠ p := ne_of hn2 hp2 (by intro z; cases z)
        have nap : a ≠ p := fun e => npa e.symm
        refine ⟨_, rfl, n, _, rfl, .inl (.inl (.inl (h3 _ _ hn2 nnp))), fun b nb => ?_⟩
        have nbp : b ≠ p := fun e => by rw [e, upd_same] at nb; cases nb
        have nba : b ≠ a := fun e => by rw [e, upd_ne nap, upd_same] at nb; cases nb
        have nb2 : H2 b = none := by rw [upd_ne nbp, upd_ne nba] at nb; exact nb
        refine ⟨_, rfl, p, C, dx, putF "_towns" (.ref a) [], rfl, (by rw [upd_ne (fun e => nbp e.symm), upd_same]), cl.cl, cl.nN, (by show 1 < 1000; decide), ?_⟩
        rw [flds_put]
        refine q a b _ (sm.free na) (sm.free nb2) ⟨upd_same, ?_, ?_⟩ ?_
        · refine ⟨tas, ?_, paired_imp hts fun c r z => ?_⟩
          · rw [upd_ne nap, upd_ne (fun e => nba e.symm), upd_ne nap, upd_same]
          · have zp : c ≠ p := ne_of z hp (by intro z; cases z)
            rw [upd_ne zp, upd_ne (ne_of_none (h3 c _ (sm _ _ z) zp) nb)]
            exact h3 c _ (sm _ _ z) zp
        · refine ⟨nas, ?_, paired_imp hns fun c r z => ?_⟩
          · rw [upd_ne nbp, upd_same]
          · have zp : c ≠ p := ne_of z hp (by intro z; cases z)
            rw [upd_ne zp, upd_ne (ne_of_none (h3 c _ (sm _ _ z) zp) nb)]
            exact h3 c _ (sm _ _ z) zp
        · intro c o z ne
          rw [upd_ne ne, upd_ne (ne_of_none (h3 c _ (sm _ _ z) ne) nb)]
          exact h3 c _ (sm _ _ z) ne
end
end Md

namespace Md
open PySem PySem.Spec PyProof.Rows L2
theorem look_t {a b : Addr} : (flds a b).lookup ("_towns" : Str) = some (.ref a) := by rfl
theorem look_n {a b : Addr} : (flds a b).lookup ("_notes" : Str) = some (.ref b) := by rfl
section
variable {P : Program} {w : World} {K : PySem.W.Frag} {mg : Str → Option Value} {base : Heap}
def spTowns (C : Addr) : Sp := fun vs H Q _ => ∃ (m dx a b : Addr) (ts ns : List (List V)), vs = [.ref m] ∧ DiaryAt C H m dx a b ts ns ∧ ∀ q H', H q = none → Rows H' q ts → Same H H' → Q (.ref q) H'
def spNotes (C : Addr) : Sp := fun vs H Q _ => ∃ (m dx a b : Addr) (ts ns : List (List V)), vs = [.ref m] ∧ DiaryAt C H m dx a b ts ns ∧ ∀ q H', H q = none → Rows H' q ns → Same H H' → Q (.ref q) H'
def spNames (C : Addr) : Sp := fun vs H Q _ => ∃ (m dx a b : Addr) (ts ns : List (List V)), vs = [.ref m] ∧ DiaryAt C H m dx a b ts ns ∧ (∀ r ∈ ts, TownR r) ∧ ts.length ≤ 100 ∧
  ∀ q H', H q = none → H' q = some (.lst ((ts.map nameOf).map V.str)) → Same H H' → Q (.ref q) H'
def spLen (C : Addr) : Sp := fun vs H Q _ => ∃ (m dx a b : Addr) (ts ns : List (List V)), vs = [.ref m] ∧ DiaryAt C H m dx a b ts ns ∧ Q (.int ns.length) H
theorem sc1 {st : Stmt} (h : FnScope ["self"] ["self"] (defScope st)) : FnScope ["self"] ["self"] (defScope st) := h
theorem scGT : FnScope ["self"] ["self"] (defScope sGetTowns) := ⟨rfl, rfl, rfl, by decide +kernel, rfl, by decide +kernel, by decide +kernel⟩
theorem scGN : FnScope ["self"] ["self"] (defScope sGetNotes) := ⟨rfl, rfl, rfl, by decide +kernel, rfl, by decide +kernel, by decide +kernel⟩
theorem scNames : FnScope ["self", "town"] ["self"] (defScope sNames) := ⟨rfl, rfl, rfl, by decide +kernel, rfl, by decide +kernel, by decide +kernel⟩
theorem scLen : FnScope ["self"] ["self"] (defScope sLen) := ⟨rfl, rfl, rfl, by decide +kernel, rfl, by decide +kernel, by decide +kernel⟩
theorem ok_towns {f C : Addr} {fd : FuncData} {k : Nat} (F : Fun K "towns" "Diary.towns" sGetTowns f fd) (cl : Cl K C) (B : Blt mg) : FnOk P w K mg base CX0 (k + 1) f fd ["self"] (spTowns C) := by
  refine F.ok scGT (fun vs H Q E h => ?_) (fun cdv A outer s H vs Q E hr h => ?_)
  · obtain ⟨m, dx, a, b, ts, ns, rfl, _⟩ := h
    rfl
  · obtain ⟨m, dx, a, b, ts, ns, rfl, D, q⟩ := h
    obtain ⟨as, h1, h2⟩ := D.towns
    refine ⟨_, pss_one (ps_ret (pe_callTy call_list_of (by rfl) B.list (by decide +kernel) (pa_cons (pe_fld (pv 0) rfl) pa_nil))), ?_⟩
    refine ⟨_, rfl, m, C, dx, _, _, rfl, D.ob, cl.cl, cl.nT, look_t, a, _, rfl, .inl (.inl (.inl h1)), fun c nc => ?_⟩
    exact q c _ nc (rows_copy h2 nc) fun x o z => by rw [upd_ne (ne_of_none z nc)]; exact z
theorem ok_notes {f C : Addr} {fd : FuncData} {k : Nat} (F : Fun K "notes" "Diary.notes" sGetNotes f fd) (cl : Cl K C) (B : Blt mg) : FnOk P w K mg base CX0 (k + 1) f fd ["self"] (spNotes C) := by
  refine F.ok scGN (fun vs H Q E h => ?_) (fun cdv A outer s H vs Q E hr h => ?_)
  · obtain ⟨m, dx, a, b, ts, ns, rfl, _⟩ := h
    rfl
  · obtain ⟨m, dx, a, b, ts, ns, rfl, D, q⟩ := h
    obtain ⟨as, h1, h2⟩ := D.notes
    refine ⟨_, pss_one (ps_ret (pe_callTy call_list_of (by rfl) B.list (by decide +kernel) (pa_cons (pe_fld (pv 0) rfl) pa_nil))), ?_⟩
    refine ⟨_, rfl, m, C, dx, _, _, rfl, D.ob, cl.cl, cl.nN, look_n, b, _, rfl, .inl (.inl (.inl h1)), fun c nc => ?_⟩
    exact q c _ nc (rows_copy h2 nc) fun x o z => by rw [upd_ne (ne_of_none z nc)]; exact z
theorem ok_names {f C : Addr} {fd : FuncData} {k : Nat} (F : Fun K "names" "Diary.names" sNames f fd) (cl : Cl K C) (B : Blt mg) : FnOk P w K mg base CX0 (k + 1) f fd ["self"] (spNames C) := by
  refine F.ok scNames (fun vs H Q E h => ?_) (fun cdv A outer s H vs Q E hr h => ?_)
  · obtain ⟨m, dx, a, b, ts, ns, rfl, _⟩ := h
    rfl
  · obtain ⟨m, dx, a, b, ts, ns, rfl, D, good, few, q⟩ := h
    obtain ⟨as, h1, h2⟩ := D.towns
    have ln : as.length = ts.length := paired_len h2
    refine ⟨_, pss_one (ps_ret (pe_lc (own := [("town", 1)]) (g := gName 1) (tt := tYes) rfl scNames.nd (pi_list (pe_fld (pv 0) rfl)) (blkOk_by (N := ["self", "town"]) (sc := defScope sNames) (by decide +kernel))
        (fun _ _ _ _ _ => pg_name (i := 1) scNames.nd rfl (.inl rfl)) (fun _ _ _ _ _ => pts_nil) (fun _ _ _ _ _ => pe_ix (r := rIxT K) ix_tup (pv 1) pe_int (fun _ _ => rfl)))), ?_⟩
    refine ⟨_, rfl, m, C, dx, _, _, rfl, D.ob, cl.cl, cl.nT, look_t, a, rfl, ⟨_, .inl (.inl h1)⟩, fun c nc => ?_⟩
    refine lcp_list (K := K) (a := a) (xs := as.map V.ref) (ys := (ts.map nameOf).map V.str) (.inl (.inl h1)) nc (by rw [List.length_map, List.length_map, List.length_map, ln]) (by rw [List.length_map, ln]; exact small1000 (by omega)) (fun i x y R hx hy r => ?_) ?_
    · obtain ⟨b2, row, ex, hr1, hb⟩ := rows_ref h2 hx
      subst ex
      obtain ⟨z, lo, hi, er, _⟩ := good row (List.mem_of_getElem? hr1)
      have ey : y = V.str z := by
        rw [List.getElem?_map, List.getElem?_map, hr1, er] at hy
        exact (Option.some.inj hy).symm
      subst ey
      subst er
      refine ⟨rfl, _, rfl, b2, [.str z, .int lo, .int hi], 0, .str z, rfl, rfl, .inl (.inl ?_), atI_nat (j := 0) rfl, r⟩
      unfold grown
      rw [upd_ne (ne_of_none hb nc)]
      exact hb
    · exact q c _ nc upd_same fun x o z => by rw [upd_ne (ne_of_none z nc)]; exact z
theorem ok_len {f C : Addr} {fd : FuncData} {k : Nat} (F : Fun K "__len__" "Diary.__len__" sLen f fd) (cl : Cl K C) (B : Blt mg) : FnOk P w K mg base CX0 (k + 1) f fd ["self"] (spLen C) := by
  refine F.ok scLen (fun vs H Q E h => ?_) (fun cdv A outer s H vs Q E hr h => ?_)
  · obtain ⟨m, dx, a, b, ts, ns, rfl, _⟩ := h
    rfl
  · obtain ⟨m, dx, a, b, ts, ns, rfl, D, q⟩ := h
    obtain ⟨as, h1, h2⟩ := D.notes
    refine ⟨_, pss_one (ps_ret (pe_callB call_len_seq (by rfl) B.len PySem.boot_len (pa_cons (pe_fld (pv 0) rfl) pa_nil))), ?_⟩
    refine ⟨_, rfl, m, C, dx, _, _, rfl, D.ob, cl.cl, cl.nN, look_n, b, _, rfl, .inl (.inl (.inl h1)), ?_⟩
    rw [List.length_map, paired_len h2]
    exact q
end
end Md

namespace Md
open PySem PySem.Spec PyProof.Rows L2
abbrev sg (z : Str) : List Nat := z.cps.toList
theorem sg_len (z : Str) : (sg z).length = z.length := by
  show z.cps.toList.length = z.cps.size
  exact Array.length_toList
theorem str_ext {x y : Str} (h : sg x = sg y) : x = y := Str.ext' (Array.toList_inj.mp h)
theorem sg_app (x y : Str) : sg (x ++ y) = sg x ++ sg y := by
  show (x.cps ++ y.cps).toList = _
  simp
/-- nothing but letters -/
def LetS (z : Str) : Prop := ∀ c ∈ sg z, letB c = true
theorem LetS.name {z : Str} (h : LetS z) (h1 : 1 ≤ z.length) (h2 : z.length ≤ 8) : nameB z = true := by
  unfold nameB
  rw [decide_eq_true (show (1 : Int) ≤ z.length by omega), decide_eq_true (show (z.length : Int) ≤ 8 by omega)]
  have e : (z.cps.toList.map letB).all id = true := by
    rw [List.all_eq_true]
    intro b hb
    obtain ⟨c, hc, e⟩ := List.mem_map.mp hb
    rw [← e]
    exact h c hc
  rw [e]
  rfl
theorem LetS.app {x y : Str} (h : LetS x) (k : LetS y) : LetS (x ++ y) := by
  intro c hc
  rw [sg_app, List.mem_append] at hc
  exact hc.elim (h c) (k c)
theorem app_len (x y : Str) : (x ++ y).length = x.length + y.length := by
  rw [← sg_len, sg_app, List.length_append, sg_len, sg_len]
theorem LetS.cut {z : Str} (h : LetS z) (lo hi : Option Int) : LetS (cutS z lo hi) := by
  intro c hc
  have m : c ∈ (z.cps.toList.drop (HT.sIx z.length 0 lo)).take (HT.sIx z.length z.length hi - HT.sIx z.length 0 lo) := by
    unfold cutS at hc
    simpa using hc
  exact h c (List.mem_of_mem_drop (List.mem_of_mem_take m))
theorem sg_cut_to (z : Str) (n : Nat) (h : n ≤ z.length) : sg (cutS z none (some (n : Int))) = (sg z).take n := by
  show ((z.cps.toList.drop (HT.sIx z.length 0 none)).take (HT.sIx z.length z.length (some (n : Int)) - HT.sIx z.length 0 none)).toArray.toList = _
  rw [HT.sIx_none, HT.sIx_nat]
  simp [Nat.min_eq_left h]
theorem sg_cut_from (z : Str) (n : Nat) (h : n ≤ z.length) : sg (cutS z (some (n : Int)) none) = (sg z).drop n := by
  show ((z.cps.toList.drop (HT.sIx z.length 0 (some (n : Int)))).take (HT.sIx z.length z.length none - HT.sIx z.length 0 (some (n : Int)))).toArray.toList = _
  rw [HT.sIx_none, HT.sIx_nat, Nat.min_eq_left h]
  have e : (z.cps.toList.drop n).length = z.length - n := by rw [List.length_drop, ← sg_len]
  show (z.cps.toList.drop n).take (z.length - n) = z.cps.toList.drop n
  rw [← e, List.take_length]
theorem join_sg : ∀ ys : List Str, sg (Str.join Str.empty ys) = (ys.map sg).flatten
  | [] => rfl
  | [y] => by
    show sg y = [sg y].flatten
    simp
  | x :: y :: r => by
    have ih := join_sg (y :: r)
    have e : Str.join Str.empty (x :: y :: r) = x ++ Str.empty ++ Str.join Str.empty (y :: r) := rfl
    rw [e, sg_app, sg_app, ih]
    simp [Str.empty]
/-- one sign -/
abbrev one (c : Nat) : Str := ⟨#[c]⟩
theorem join_ones (cs : List Nat) : sg (Str.join Str.empty (cs.map one)) = cs := by
  rw [join_sg, List.map_map]
  induction cs with
  | nil => rfl
  | cons c r ih =>
    rw [List.map_cons, List.flatten_cons, ih]
    rfl
abbrev alphabet : Str := "abcdefghijklmnopqrstuvwxyz"
theorem alpha_len : (sg alphabet).length = 26 := by decide +kernel
theorem alpha_let {i c : Nat} (h : (sg alphabet)[i]? = some c) : letB c = true := decide_eq_true (List.mem_of_getElem? h)
theorem alpha_nodup : (sg alphabet).Nodup := by decide +kernel
end Md

namespace Md
open PySem PySem.Spec PyProof.Rows L2
/-- right names -/
def NamesR (zs : List Str) (m : Nat) : Prop := zs.length = m ∧ zs.Nodup ∧ ∀ z ∈ zs, nameB z = true ∧ z.length ≤ 8
abbrev menuS : List Str := ["market", "none", "one", "same", "by", "ulm", "wien", "bonn", "a", "b", "turn", "first", "town", "day"]
theorem ones_sum : ∀ cs : List Nat, (List.map (fun x => x.length) (List.map one cs)).sum = cs.length
  | [] => rfl
  | c :: r => by
    have ih := ones_sum r
    rw [List.map_cons, List.map_cons, List.sum_cons, ih, List.length_cons]
    show 1 + r.length = r.length + 1
    omega
theorem nodup_by {α β : Type} (f : α → β) {xs : List α} (h : (xs.map f).Nodup) : xs.Nodup := by
  unfold List.Nodup at h ⊢
  rw [List.pairwise_map] at h
  exact h.imp fun ne e => ne (by rw [e])
theorem range_nodup {β : Type} (f : Nat → β) (n : Nat) (h : ∀ i j, i < n → j < n → f i = f j → i = j) : ((List.range n).map f).Nodup := by
  unfold List.Nodup
  rw [List.pairwise_map, List.pairwise_iff_getElem]
  intro i j hi hj hij e
  rw [List.length_range] at hi hj
  rw [List.getElem_range, List.getElem_range] at e
  have z := h i j hi hj e
  omega
/-- the menu in steps of three -/
abbrev menuAt (s i : Nat) : Str := menuS.getD ((s + 3 * i) % 14) Str.empty
theorem menu_all : ∀ s, s < 14 → (∀ i, i < 14 → ∀ j, j < 14 → menuAt s i = menuAt s j → i = j) ∧ ∀ i, i < 14 → nameB (menuAt s i) = true ∧ (menuAt s i).length ≤ 8 := by decide +kernel
theorem names_menu {s m : Nat} (hs : s < 14) (hm : m ≤ 14) : NamesR ((List.range m).map (menuAt s)) m := by
  obtain ⟨h1, h2⟩ := menu_all s hs
  refine ⟨by rw [List.length_map, List.length_range], range_nodup _ _ fun i j hi hj e => h1 i (by omega) j (by omega) e, fun z hz => ?_⟩
  obtain ⟨i, hi, e⟩ := List.mem_map.mp hz
  rw [List.mem_range] at hi
  rw [← e]
  exact h2 i (by omega)
theorem menu_get {s i : Nat} : (menuS.map V.str)[(s + 3 * i) % 14]? = some (V.str (menuAt s i)) := by
  have h : (s + 3 * i) % 14 < menuS.length := Nat.mod_lt _ (by decide)
  rw [List.getElem?_map, List.getElem?_eq_getElem h]
  show _ = some (V.str (menuS.getD _ _))
  rw [List.getD_eq_getElem?_getD, List.getElem?_eq_getElem h]
  rfl
theorem menu_let : ∀ z ∈ menuS, LetS z := by
  have h : ∀ z ∈ menuS, ∀ c ∈ z.cps.toList, letB c = true := by decide +kernel
  exact h
theorem cut_to_len {z : Str} {n : Nat} (h : n ≤ z.length) : (cutS z none (some (n : Int))).length = n := by
  rw [← sg_len, sg_cut_to z n h, List.length_take, sg_len]
  omega
theorem cut_to_le (z : Str) (n : Nat) : (cutS z none (some (n : Int))).length ≤ n := by
  show ((z.cps.toList.drop (HT.sIx z.length 0 none)).take (HT.sIx z.length z.length (some (n : Int)) - HT.sIx z.length 0 none)).toArray.size ≤ n
  rw [HT.sIx_none, HT.sIx_nat]
  simp
  omega
/-- beginnings of one text -/
theorem names_stem {stem : Str} (h : LetS stem) (l8 : stem.length = 8) {s m : Nat} (hm : s + m ≤ 8) : NamesR ((List.range m).map fun i : Nat => cutS stem none (some ((s : Int) + (i : Nat) + 1))) m := by
  have e : ∀ i : Nat, ((s : Int) + i + 1) = ((s + i + 1 : Nat) : Int) := fun i => by omega
  refine ⟨by rw [List.length_map, List.length_range], nodup_by (fun z : Str => z.length) ?_, fun z hz => ?_⟩
  · rw [List.map_map]
    refine range_nodup _ _ fun i j hi hj q => ?_
    dsimp only [Function.comp] at q
    rw [e, e, cut_to_len (by omega), cut_to_len (by omega)] at q
    omega
  · obtain ⟨i, hi, q⟩ := List.mem_map.mp hz
    rw [List.mem_range] at hi
    subst q
    have l := @cut_to_len stem (s + i + 1) (by omega)
    rw [← e] at l
    exact ⟨(h.cut _ _).name (by omega) (by omega), by omega⟩
/-- the sign of the alphabet -/
abbrev alphaAt (i : Nat) : Nat := (sg alphabet).getD (i % 26) 0
theorem alphaAt_get (i : Nat) : (sg alphabet)[i % 26]? = some (alphaAt i) := by
  have h : i % 26 < (sg alphabet).length := by rw [alpha_len]; exact Nat.mod_lt _ (by decide)
  show _ = some ((sg alphabet).getD (i % 26) 0)
  rw [List.getD_eq_getElem?_getD, List.getElem?_eq_getElem h]
  rfl
theorem alphaAt_inj {i j : Nat} (h : alphaAt i = alphaAt j) : i % 26 = j % 26 := by
  have a := alphaAt_get i
  have b := alphaAt_get j
  rw [h] at a
  exact (List.getElem?_inj (by rw [alpha_len]; exact Nat.mod_lt _ (by decide)) alpha_nodup).mp (a.trans b.symm)
theorem LetS.one {i : Nat} : LetS (one (alphaAt i)) := fun c hc => by
  have e : c = alphaAt i := List.mem_singleton.mp hc
  rw [e]
  exact alpha_let (alphaAt_get i)
/-- one text, another letter in one place each time -/
abbrev spotted (tail : Str) (spot : Nat) (i : Nat) : Str := cutS tail none (some (spot : Int)) ++ one (alphaAt i) ++ cutS tail (some (spot : Int)) none
theorem spotted_sg {tail : Str} {spot i : Nat} (h : spot ≤ tail.length) : sg (spotted tail spot i) = (sg tail).take spot ++ [alphaAt i] ++ (sg tail).drop spot := by
  show sg (cutS tail none (some (spot : Int)) ++ one (alphaAt i) ++ cutS tail (some (spot : Int)) none) = _
  rw [sg_app, sg_app, sg_cut_to _ _ h, sg_cut_from _ _ h]
theorem names_spot {tail : Str} (ht : LetS tail) (l : tail.length ≤ 7) {spot s m : Nat} (h : spot ≤ tail.length) (hm : m ≤ 26) : NamesR ((List.range m).map fun i => spotted tail spot (s + i)) m := by
  refine ⟨by rw [List.length_map, List.length_range], nodup_by (fun z : Str => (sg z)[spot]?) ?_, fun z hz => ?_⟩
  · rw [List.map_map]
    refine range_nodup _ _ fun i j hi hj q => ?_
    dsimp only [Function.comp] at q
    rw [spotted_sg h, spotted_sg h] at q
    have lt : ((sg tail).take spot).length = spot := by rw [List.length_take, sg_len]; omega
    have g : ∀ c : Nat, ((sg tail).take spot ++ [c] ++ (sg tail).drop spot)[spot]? = some c := by
      intro c
      rw [List.append_assoc, List.getElem?_append_right (by omega), lt, Nat.sub_self]
      rfl
    rw [g, g] at q
    have z := alphaAt_inj (Option.some.inj q)
    omega
  · obtain ⟨i, hi, q⟩ := List.mem_map.mp hz
    subst q
    have e : (spotted tail spot (s + i)).length = tail.length + 1 := by
      rw [← sg_len, spotted_sg h, List.length_append, List.length_append, List.length_take, List.length_drop, sg_len]
      simp
      omega
    have ls : LetS (spotted tail spot (s + i)) := ((ht.cut _ _).app .one).app (ht.cut _ _)
    exact ⟨ls.name (by omega) (by omega), by show (spotted tail spot (s + i)).length ≤ 8; omega⟩
theorem names_met {zs : List Str} {m : Nat} (good : ∀ z ∈ zs, LetS z ∧ 1 ≤ z.length ∧ z.length ≤ 8) (le : zs.length ≤ m) (e : unlike zs zs.length = m) : NamesR zs m := by
  have l := unlike_le zs zs.length
  have nd := unlike_full zs zs.length (Nat.le_refl _) (by omega)
  rw [List.take_length] at nd
  exact ⟨by omega, nd, fun z hz => ⟨(good z hz).1.name (good z hz).2.1 (good z hz).2.2, (good z hz).2.2⟩⟩
end Md

namespace Md
open PySem PySem.Spec PyProof.Rows L2
abbrev sWords : Stmt := top 21
section
variable {P : Program} {w : World} {K : PySem.W.Frag} {mg : Str → Option Value} {base : Heap}
/-- what callers need of the draws' def -/
structure CoinAt (P : Program) (w : World) (K : PySem.W.Frag) (mg : Str → Option Value) (base : Heap) (f : Addr) (fd : FuncData) : Prop where
  ok : ∀ k, FnOk P w K mg base CX0 (k + 1) f fd ["purse", "many"] spCoin
  mg : mg "_law_coin" = some (.ref f)
  kp : PySem.W.keepIn K (.ref f) = true
  b : Binds K fd ["purse", "many"] []
def spWords : Sp := fun vs H Q _ => ∃ (p : Addr) (c m : Nat), vs = [.ref p, .int m] ∧ PurseAt H p c ∧ c ≤ 900000 ∧ m ≤ 20 ∧
  ∀ (zs : List Str) q H', NamesR zs m → H q = none → H' q = some (.lst (zs.map V.str)) → PurseAt H' p (c + 400) → Keep p H H' → Q (.ref q) H'
abbrev nWords : List Str := ["purse", "many", "letters", "sort_here", "menu", "stem", "start", "found", "size", "base", "word", "tail", "spot_here", "letter_here", "rank", "turn"]
theorem scWords : FnScope nWords ["purse", "many"] (defScope sWords) := ⟨rfl, rfl, rfl, by decide +kernel, rfl, by decide +kernel, by decide +kernel⟩
abbrev ws (p : Addr) (m : Nat) (d : Int) (N : Addr) (stem : Str) (v6 v7 v8 v9 v10 v11 v12 v13 v14 v15 : Option V) : L2.St :=
  [some (.ref p), some (.int m), some (.str alphabet), some (.int d), some (.ref N), some (.str stem), v6, v7, v8, v9, v10, v11, v12, v13, v14, v15]
theorem le1000 {n : Nat} (h : n ≤ 1000) : n ≤ sizeLine := Nat.le_trans h (by decide)
theorem Keep.fresh {p x : Addr} {H G : Hp} {c : Nat} (k : Keep p H G) (hp : PurseAt G p c) (n : G x = none) : H x = none := by
  cases e : H x with
  | none => rfl
  | some o =>
    exfalso
    by_cases hx : x = p
    · obtain ⟨p0, p1, p2, e1, _⟩ := hp
      rw [hx, e1] at n
      cases n
    · rw [k x o e hx] at n
      cases n
/-- what holds while words are drawn: the menu stands at N -/
structure Wd (H G : Hp) (p N : Addr) (n : Nat) : Prop where
  keep : Keep p H G
  purse : PurseAt G p n
  menu : G N = some (.lst (menuS.map V.str))
section
variable {H G G2 : Hp} {p N q : Addr} {n n2 : Nat} {o : HO}
theorem PurseAt.apart (hp : PurseAt G p n) {xs : List V} {q : Addr} (h : G q = some (.lst xs)) (ne : ∀ a b c : Int, xs ≠ [.int a, .int b, .int c]) : q ≠ p := by
  intro e
  obtain ⟨a, b, c, e1, _⟩ := hp
  rw [e, e1] at h
  exact ne a b c (HO.lst.inj (Option.some.inj h)).symm
theorem strs_ne (zs : List Str) : ∀ a b c : Int, zs.map V.str ≠ [.int a, .int b, .int c] := by
  intro a b c e
  cases zs with
  | nil => cases e
  | cons z r => cases e
theorem Wd.new (w : Wd H G p N n) (nq : G q = none) : Wd H (upd G q o) p N n := ⟨w.keep.new nq, w.purse.new nq, by rw [upd_ne (ne_of_none w.menu nq)]; exact w.menu⟩
theorem Wd.ne (w : Wd H G p N n) {zs : List Str} (h : G q = some (.lst (zs.map V.str))) : q ≠ p := w.purse.apart h (strs_ne zs)
theorem Wd.step (w : Wd H G p N n) (hp : PurseAt G2 p n2) (k : Keep p G G2) : Wd H G2 p N n2 := ⟨w.keep.trans k, hp, k _ _ w.menu (w.ne w.menu)⟩
theorem Wd.more (w : Wd H G p N n) (e : n ≤ n2) : Wd H G p N n2 := ⟨w.keep, w.purse.more e, w.menu⟩
/-- an address that is not the menu's and not the purse's -/
theorem Wd.other (w : Wd H G p N n) (nq : G q = none) : q ≠ N ∧ q ≠ p := by
  refine ⟨fun e => ?_, fun e => ?_⟩
  · rw [e, w.menu] at nq
    cases nq
  · obtain ⟨a, b, c, e1, _⟩ := w.purse
    rw [e, e1] at nq
    cases nq
theorem Wd.put (w : Wd H G p N n) (f : H q = none) (ne : q ≠ N ∧ q ≠ p) : Wd H (upd G q o) p N n := by
  refine ⟨fun b u h nb => ?_, ?_, ?_⟩
  · rw [upd_ne (ne_of_none h f)]
    exact w.keep b u h nb
  · obtain ⟨a, b, c, e1, r⟩ := w.purse
    exact ⟨a, b, c, by rw [upd_ne (fun e => ne.2 e.symm)]; exact e1, r⟩
  · rw [upd_ne (fun e => ne.1 e.symm)]
    exact w.menu
end
theorem ok_words {f fC : Addr} {fd fdC : FuncData} {k : Nat} (F : Fun K "_law_words" "_law_words" sWords f fd) (C : CoinAt P w K mg base fC fdC) (B : Blt mg) : FnOk P w K mg base CX0 (k + 2) f fd ["purse", "many"] spWords := by
  have GC := C.ok k
  refine F.ok scWords (fun vs H Q E h => ?_) (fun cdv A outer s H vs Q E hr h => ?_)
  · obtain ⟨p, c, m, rfl, _⟩ := h
    rfl
  · obtain ⟨p, c, m, rfl, hp, hc, hm, q⟩ := h
    have nd := scWords.nd
    refine ⟨_, pss_cons (ps_asg (pe_tup (pa_cons pe_str (pa_cons (pe_call GC hr (by rfl) C.mg C.kp C.b .nil pass0 (pa_cons (pv 0) (pa_cons pe_int pa_nil))) pa_nil))) (pg_tup (by rfl) (pgs_cons (pg_name (i := 2) nd rfl (.inr rfl)) (pgs_cons (pg_name (i := 3) nd rfl (.inl rfl)) pgs_nil))))
      (pss_cons (ps_set (i := 4) nd rfl (.inr rfl) (pe_lst (pa_cons pe_str (pa_cons pe_str (pa_cons pe_str (pa_cons pe_str (pa_cons pe_str (pa_cons pe_str (pa_cons pe_str pa_nil)))))))))
      (pss_cons (ps_set (i := 4) nd rfl (.inr rfl) (pe_op op_cat (pv 4) (pe_lst (pa_cons pe_str (pa_cons pe_str (pa_cons pe_str (pa_cons pe_str (pa_cons pe_str (pa_cons pe_str (pa_cons pe_str pa_nil))))))))))
      (pss_cons (ps_set (i := 5) nd rfl (.inr rfl) (pe_join pe_str (pe_lc (own := [("turn", 15)]) (g := gName 15) (tt := tYes) rfl nd (pi_range1 rfl B.range (pa_cons pe_int pa_nil)) (blkOk_by (N := nWords) (sc := defScope sWords) (by decide +kernel))
        (fun _ _ _ _ _ => pg_name (i := 15) nd rfl (.inl rfl)) (fun _ _ _ _ _ => pts_nil) (fun _ _ _ _ _ => pe_ix (r := rIxS) ix_str (pv 2) (pe_call GC hr (by rfl) C.mg C.kp C.b .nil pass0 (pa_cons (pv 0) (pa_cons pe_int pa_nil))) (fun _ _ => rfl)))))
      (C8.pss_cut (ps_if (PW.pt (pw_and (pt_cmpR op_eq (pv 3) pe_int (nomark _)) (pw_and1 (pt_cmpR op_lt (pv 1) pe_int (nomark _)))))
        (pss_cons (ps_set (i := 6) nd rfl (.inr rfl) (pe_call GC hr (by rfl) C.mg C.kp C.b .nil pass0 (pa_cons (pv 0) (pa_cons pe_int pa_nil))))
        (pss_one (ps_ret (pe_lc (own := [("rank", 14)]) (g := gName 14) (tt := tYes) rfl nd (pi_range1 rfl B.range (pa_cons (pv 1) pa_nil)) (blkOk_by (N := nWords) (sc := defScope sWords) (by decide +kernel))
          (fun _ _ _ _ _ => pg_name (i := 14) nd rfl (.inl rfl)) (fun _ _ _ _ _ => pts_nil) (fun _ _ _ _ _ => pe_ix (r := rIxL K) ix_list (pv 4) (pe_op op_mod (pe_callTy call_int1 (by rfl) B.int (by decide +kernel) (pa_cons (pe_op op_add (pv 6) (pe_op op_mul pe_int (pv 14))) pa_nil)) pe_int) (fun _ _ => rfl)))))) pss_nil)
      (C8.pss_cut (ps_if (PW.pt (pw_and (pt_cmpR op_eq (pv 3) pe_int (nomark _)) (pw_and1 (pt_cmpR op_lt (pv 1) pe_int (nomark _)))))
        (pss_cons (ps_set (i := 6) nd rfl (.inr rfl) (pe_call GC hr (by rfl) C.mg C.kp C.b .nil pass0 (pa_cons (pv 0) (pa_cons (pe_op op_sub pe_int (pv 1)) pa_nil))))
        (pss_one (ps_ret (pe_lc (own := [("rank", 14)]) (g := gName 14) (tt := tYes) rfl nd (pi_range1 rfl B.range (pa_cons (pv 1) pa_nil)) (blkOk_by (N := nWords) (sc := defScope sWords) (by decide +kernel))
          (fun _ _ _ _ _ => pg_name (i := 14) nd rfl (.inl rfl)) (fun _ _ _ _ _ => pts_nil) (fun _ _ _ _ _ => pe_slice (r := rSlS) sl_str (pv 5) po_none (po_some (pe_op op_add (pe_op op_add (pv 6) (pv 14)) pe_int))))))) pss_nil)
      (pss_cons (ps_set (i := 7) nd rfl (.inl rfl) (pe_lst pa_nil))
      (C8.pss_cut (ps_if (pt_cmpR op_eq (pv 3) pe_int (nomark _))
        (pss_one (ps_for PassesOwn.never rfl (pi_range1 rfl B.range (pa_cons (pv 1) pa_nil)) (pg_name (i := 14) nd rfl (.inl rfl))
          (pss_cons (ps_set (i := 8) nd rfl (.inl rfl) (pe_op op_add pe_int (pe_call GC hr (by rfl) C.mg C.kp C.b .nil pass0 (pa_cons (pv 0) (pa_cons pe_int pa_nil)))))
          (pss_one (ps_expr (pe_bm PySem.F.plainAttrs_list PySem.F.slot_list_append PySem.F.type_list_append mt_append (pv 7) (pa_cons (pe_join pe_str (pe_lc (own := [("turn", 15)]) (g := gName 15) (tt := tYes) rfl nd (pi_range1 rfl B.range (pa_cons (pv 8) pa_nil)) (blkOk_by (N := nWords) (sc := defScope sWords) (by decide +kernel))
            (fun _ _ _ _ _ => pg_name (i := 15) nd rfl (.inl rfl)) (fun _ _ _ _ _ => pts_nil) (fun _ _ _ _ _ => pe_ix (r := rIxS) ix_str (pv 2) (pe_call GC hr (by rfl) C.mg C.kp C.b .nil pass0 (pa_cons (pv 0) (pa_cons pe_int pa_nil))) (fun _ _ => rfl)))) pa_nil))))))) pss_nil)
      (C8.pss_cut (ps_if (pt_cmpR op_eq (pv 3) pe_int (nomark _))
        (pss_cons (ps_set (i := 9) nd rfl (.inl rfl) (pe_slice sl_str (pv 5) po_none (po_some (pe_op op_add pe_int (pe_call GC hr (by rfl) C.mg C.kp C.b .nil pass0 (pa_cons (pv 0) (pa_cons pe_int pa_nil)))))))
        (pss_cons (ps_set (i := 7) nd rfl (.inl rfl) (pe_lst (pa_cons (pv 9) pa_nil)))
        (pss_cons (ps_for PassesOwn.never rfl (pi_list (pv 4)) (pg_name (i := 10) nd rfl (.inl rfl))
          (pss_one (ps_expr (pe_bm PySem.F.plainAttrs_list PySem.F.slot_list_append PySem.F.type_list_append mt_append (pv 7) (pa_cons (pe_ix ix_list (pe_lst (pa_cons (pe_op op_add_str (pe_slice sl_str (pv 10) po_none (po_some pe_int)) (pv 9)) (pa_cons (pe_op op_add_str (pv 9) (pe_slice sl_str (pv 10) po_none (po_some pe_int))) pa_nil)))
            (pe_call GC hr (by rfl) C.mg C.kp C.b .nil pass0 (pa_cons (pv 0) (pa_cons pe_int pa_nil))) (fun _ _ => rfl)) pa_nil)))))
        (pss_one (ps_set (i := 7) nd rfl (.inl rfl) (pe_slice sl_list (pv 7) po_none (po_some (pv 1)))))))) pss_nil)
      (pss_cons (ps_if (pt_cmpR op_eq (pe_lenTexts (by rfl) B.len (by rfl) B.set (pv 7)) (pv 1) (nomark _)) (pss_one (ps_ret (pv 7))) pss_nil)
      (pss_cons (ps_asg (pe_tup (pa_cons (pe_call GC hr (by rfl) C.mg C.kp C.b .nil pass0 (pa_cons (pv 0) (pa_cons pe_int pa_nil))) (pa_cons (pe_slice sl_str (pv 5) po_none (po_some (pe_call GC hr (by rfl) C.mg C.kp C.b .nil pass0 (pa_cons (pv 0) (pa_cons pe_int pa_nil))))) pa_nil)))
        (pg_tup (by rfl) (pgs_cons (pg_name (i := 6) nd rfl (.inr rfl)) (pgs_cons (pg_name (i := 11) nd rfl (.inl rfl)) pgs_nil))))
      (pss_cons (ps_par (i := 12) (j := 7) rfl nd rfl rfl (by decide) rfl rfl (pa_cons (pe_call GC hr (by rfl) C.mg C.kp C.b .nil pass0 (pa_cons (pv 0) (pa_cons (pe_op op_add (pe_callB call_len_str (by rfl) B.len PySem.boot_len (pa_cons (pv 11) pa_nil)) pe_int) pa_nil))) (pa_cons (pe_lst pa_nil) pa_nil)) (by rfl))
      (pss_cons (ps_for PassesOwn.never rfl (pi_range1 rfl B.range (pa_cons (pv 1) pa_nil)) (pg_name (i := 14) nd rfl (.inl rfl))
        (pss_cons (ps_set (i := 13) nd rfl (.inl rfl) (pe_ix ix_str (pv 2) (pe_op op_mod (pe_callTy call_int1 (by rfl) B.int (by decide +kernel) (pa_cons (pe_op op_add (pv 6) (pv 14)) pa_nil)) pe_int) (fun _ _ => rfl)))
        (pss_one (ps_expr (pe_bm PySem.F.plainAttrs_list PySem.F.slot_list_append PySem.F.type_list_append mt_append (pv 7) (pa_cons (pe_op op_add_str (pe_op op_add_str (pe_slice sl_str (pv 11) po_none (po_some (pv 12))) (pv 13)) (pe_slice sl_str (pv 11) (po_some (pv 12)) po_none)) pa_nil))))))
      (pss_one (ps_ret (pv 7))))))))))))))), ?_⟩
    -- letters, sort_here
    refine ⟨_, rfl, p, c, 5, rfl, hp, by omega, by decide, by decide, fun d H1 d0 d1 hp1 k1 => ⟨by show 2 ≤ sizeLine; decide, fun T nT => ?_⟩⟩
    refine ⟨T, _, rfl, .inl (.inl upd_same), rfl, _, _, rfl, _, _, rfl, rfl, ?_⟩
    -- menu
    refine ⟨by show 7 ≤ sizeLine; decide, fun M nM => ?_⟩
    refine ⟨_, rfl, by show 7 ≤ sizeLine; decide, fun M2 nM2 => ?_⟩
    refine ⟨M, M2, _, _, rfl, rfl, (by rw [upd_ne (fun e => by rw [e, upd_same] at nM2; cases nM2), upd_same]), upd_same, by show 14 ≤ sizeLine; decide, fun N nN => ?_⟩
    -- stem
    refine ⟨⟨_, rfl⟩, 8, rfl, by decide, by decide, fun D nD => ?_⟩
    have w0 : Wd H _ p N (c + 1) := ⟨(((k1.new nT).new nM).new nM2).new nN, (((hp1.new nT).new nM).new nM2).new nN, upd_same⟩
    have fD := w0.keep.fresh w0.purse nD
    refine lc_range (lo := 0) (n := 8) (fun i G => ∃ cs : List Nat, cs.length = i ∧ (∀ x ∈ cs, letB x = true) ∧ G D = some (.lst ((cs.map one).map V.str)) ∧ Wd H G p N (c + 1 + i))
      ⟨[], rfl, (fun x hx => by cases hx), upd_same, w0.new nD⟩ ?_ ?_
    · rintro i G hi ⟨cs, lcs, acs, hD, wd⟩
      refine ⟨rfl, _, rfl, _, rfl, p, c + 1 + i, 26, rfl, wd.purse, by omega, by decide, by decide, fun x G2 x0 x1 hp2 k2 => ?_⟩
      have w2 := wd.step hp2 k2
      have hx : x.toNat < (sg alphabet).length := by rw [alpha_len]; omega
      have ex : x = ((x.toNat : Nat) : Int) := by omega
      obtain ⟨n, rfl⟩ : ∃ n : Nat, x = n := ⟨x.toNat, by omega⟩
      have hn : (n : Nat) % 26 = n := Nat.mod_eq_of_lt (by omega)
      have gn := alphaAt_get n
      rw [hn] at gn
      refine ⟨alphabet, n, alphaAt n, rfl, rfl, by decide, atI_nat gn, _, k2 _ _ hD (wd.ne hD), ?_, cs ++ [alphaAt n], ?_, ?_, ?_, ?_⟩
      · rw [List.length_map, List.length_map]
        exact small1000 (by omega)
      · rw [List.length_append, lcs]
        rfl
      · intro y hy
        rcases List.mem_append.mp hy with z | z
        · exact acs y z
        · rw [List.mem_singleton.mp z]
          exact alpha_let gn
      · rw [upd_same, List.map_append, List.map_append]
        rfl
      · exact (w2.put fD (w0.other nD)).more (by omega)
    · rintro G ⟨cs, lcs, acs, hD, wd⟩
      have ls : ∃ z : Str, Txt.join (Str.ofString "") (cs.map one) = z ∧ LetS z ∧ z.length = 8 := by
        refine ⟨_, rfl, ?_⟩
        rw [TL.join_eq]
        refine ⟨fun x hx => ?_, ?_⟩
        · have z : sg (Str.join Str.empty (cs.map one)) = cs := join_ones cs
          have z2 : x ∈ sg (Str.join Str.empty (cs.map one)) := hx
          rw [z] at z2
          exact acs x z2
        · show (Str.join Str.empty (cs.map one)).length = 8
          rw [← sg_len, join_ones, lcs]
      refine ⟨_, D, cs.map one, rfl, rfl, .inl (.inl (.inl hD)), ?_, ?_⟩
      · rw [ones_sum, lcs, List.length_map, lcs]
        decide
      obtain ⟨stem, est, hl, h8⟩ := ls
      rw [est]
      obtain ⟨d, rfl⟩ : ∃ n : Nat, d = n := ⟨d.toNat, by omega⟩
      have s8 : stem.length ≤ sizeLine := Nat.le_trans (show stem.length ≤ 1000 by omega) (by decide)
      -- a menu
      refine ⟨fun sl H' => sl = ws p m d N stem none none none none none none none none none none ∧ H' = G, ?_, ?_⟩
      · refine ⟨_, rfl, rfl, _, rfl, ite2 (fun e => ?_) (fun e => iteF ⟨rfl, rfl⟩)⟩
        refine ⟨_, rfl, _, _, rfl, rfl, _, rfl, ite2 (fun e2 => ?_) (fun e2 => ⟨rfl, rfl⟩)⟩
        have m15 : (m : Int) < 15 := of_decide_eq_true e2
        refine ⟨_, rfl, p, c + 1 + 8, 14, rfl, wd.purse, by omega, by decide, by decide, fun s G2 s0 s1 hp2 k2 => ?_⟩
        have w2 := wd.step hp2 k2
        obtain ⟨s, rfl⟩ : ∃ n : Nat, s = n := ⟨s.toNat, by omega⟩
        refine ⟨_, rfl, (m : Int), rfl, by omega, by omega, fun D2 nD2 => ?_⟩
        refine lcp_range (lo := 0) (n := m) (ys := ((List.range m).map (menuAt s)).map V.str) (by rw [List.length_map, List.length_map, List.length_range]) (small1000 (by omega)) (fun i y R hi hy r => ?_) ?_
        · have ey : y = V.str (menuAt s i) := by
            rw [List.getElem?_map, List.getElem?_map, List.getElem?_range hi] at hy
            exact (Option.some.inj hy).symm
          subst ey
          refine ⟨rfl, _, rfl, _, rfl, _, rfl, _, _, rfl, rfl, .inl ⟨by decide, by decide⟩, _, _, rfl, rfl, .inl ⟨_, rfl, _, _, rfl, rfl, (by show (0 : Int) < 14; decide), N, menuS.map V.str, _, _, rfl, rfl, .inl (.inl ?_), ?_, r⟩⟩
          · unfold grown
            rw [upd_ne (ne_of_none w2.menu nD2)]
            exact w2.menu
          · have e3 : ((s : Int) + 3 * (0 + (i : Int))) % 14 = (((s + 3 * i) % 14 : Nat) : Int) := by omega
            rw [e3]
            exact atI_nat menu_get
        · exact q _ D2 _ (names_menu (by omega) (by omega)) (w2.keep.fresh w2.purse nD2) upd_same ((w2.new nD2).more (by omega)).purse (w2.new nD2).keep
      rintro sl H' ⟨rfl, rfl⟩
      -- beginnings of the stem
      refine ⟨fun sl H2 => sl = ws p m d N stem none none none none none none none none none none ∧ H2 = H', ?_, ?_⟩
      · refine ⟨_, rfl, rfl, _, rfl, ite2 (fun e => ?_) (fun e => iteF ⟨rfl, rfl⟩)⟩
        refine ⟨_, rfl, _, _, rfl, rfl, _, rfl, ite2 (fun e2 => ?_) (fun e2 => ⟨rfl, rfl⟩)⟩
        have m9 : (m : Int) < 9 := of_decide_eq_true e2
        refine ⟨_, rfl, _, rfl, _, _, rfl, rfl, p, c + 1 + 8, 9 - m, rfl, wd.purse, by omega, by omega, by omega, fun s G2 s0 s1 hp2 k2 => ?_⟩
        have w2 := wd.step hp2 k2
        obtain ⟨s, rfl⟩ : ∃ n : Nat, s = n := ⟨s.toNat, by omega⟩
        refine ⟨_, rfl, (m : Int), rfl, by omega, by omega, fun D2 nD2 => ?_⟩
        refine lcp_range (lo := 0) (n := m) (ys := ((List.range m).map fun i : Nat => cutS stem none (some ((s : Int) + (i : Nat) + 1))).map V.str) (by rw [List.length_map, List.length_map, List.length_range]) (small1000 (by omega)) (fun i y R hi hy r => ?_) ?_
        · have ey : y = V.str (cutS stem none (some ((s : Int) + (0 + (i : Int)) + 1))) := by
            rw [List.getElem?_map, List.getElem?_map, List.getElem?_range hi] at hy
            rw [Int.zero_add]
            exact (Option.some.inj hy).symm
          subst ey
          exact ⟨rfl, _, rfl, _, rfl, _, rfl, _, _, rfl, rfl, _, _, rfl, rfl, _, rfl, stem, rfl, s8, r⟩
        · exact q _ D2 _ (names_stem hl h8 (by omega)) (w2.keep.fresh w2.purse nD2) upd_same ((w2.new nD2).more (by omega)).purse (w2.new nD2).keep
      rintro sl G ⟨rfl, rfl⟩
      refine ⟨Nat.zero_le _, fun F0 nF0 => ?_⟩
      have gd0 : ∀ z ∈ ([] : List Str), LetS z ∧ 1 ≤ z.length ∧ z.length ≤ 8 := fun z hz => by cases hz
      -- letters drawn freely
      refine ⟨fun sl G2 => ∃ (F : Addr) (zs : List Str) (v8 v14 : Option V), sl = ws p m d N stem none (some (.ref F)) v8 none none none none none v14 none ∧ H F = none ∧ (F ≠ N ∧ F ≠ p) ∧
        G2 F = some (.lst (zs.map V.str)) ∧ (∀ z ∈ zs, LetS z ∧ 1 ≤ z.length ∧ z.length ≤ 8) ∧ zs.length ≤ m ∧ Wd H G2 p N (c + 9 + 9 * m), ?_, ?_⟩
      · have wF := wd.new nF0 (o := .lst [])
        have fF := wd.keep.fresh wd.purse nF0
        refine ⟨_, rfl, rfl, _, rfl, ite2 (fun e => ?_) (fun e => ⟨F0, [], none, none, rfl, fF, wd.other nF0, upd_same, gd0, Nat.zero_le _, wF.more (by omega)⟩)⟩
        refine ⟨_, rfl, (m : Int), rfl, by omega, by omega, ?_⟩
        refine for_range (lo := 0) (n := m) (fun i sl G2 => ∃ (zs : List Str) (v8 v14 : Option V), sl = ws p m d N stem none (some (.ref F0)) v8 none none none none none v14 none ∧
          G2 F0 = some (.lst (zs.map V.str)) ∧ (∀ z ∈ zs, LetS z ∧ 1 ≤ z.length ∧ z.length ≤ 8) ∧ zs.length = i ∧ Wd H G2 p N (c + 9 + 9 * i)) ⟨[], none, none, rfl, upd_same, gd0, rfl, wF.more (by omega)⟩ ?_ ?_
        · rintro i sl G2 hi ⟨zs, v8, v14, rfl, hF, gd, lz, w2⟩
          refine ⟨_, rfl, p, c + 9 + 9 * i, 8, rfl, w2.purse, by omega, by decide, by decide, fun x G3 x0 x1 hp3 k3 => ⟨_, _, rfl, rfl, ?_⟩⟩
          have w3 := w2.step hp3 k3
          have hF3 := k3 _ _ hF (w2.ne hF)
          obtain ⟨x, rfl⟩ : ∃ n : Nat, x = n := ⟨x.toNat, by omega⟩
          refine ⟨_, rfl, .inl ⟨rfl, _, .inl (.inl hF3)⟩, ⟨_, rfl⟩, _, rfl, 1 + (x : Int), rfl, by omega, by omega, fun D2 nD2 => ?_⟩
          have fD2 := w3.keep.fresh w3.purse nD2
          refine lc_range (lo := 0) (n := (1 + (x : Int)).toNat) (fun k G4 => ∃ cs : List Nat, cs.length = k ∧ (∀ x ∈ cs, letB x = true) ∧ G4 D2 = some (.lst ((cs.map one).map V.str)) ∧ G4 F0 = some (.lst (zs.map V.str)) ∧ Wd H G4 p N (c + 9 + 9 * i + 1 + k))
            ⟨[], rfl, (fun x hx => by cases hx), upd_same, by rw [upd_ne (ne_of_none hF3 nD2)]; exact hF3, w3.new nD2⟩ ?_ ?_
          · rintro k G4 hk ⟨cs, lcs, acs, hD2, hF4, w4⟩
            refine ⟨rfl, _, rfl, _, rfl, p, _, 26, rfl, w4.purse, by omega, by decide, by decide, fun y G5 y0 y1 hp5 k5 => ?_⟩
            have w5 := w4.step hp5 k5
            obtain ⟨n, rfl⟩ : ∃ n : Nat, y = n := ⟨y.toNat, by omega⟩
            have hn : (n : Nat) % 26 = n := Nat.mod_eq_of_lt (by omega)
            have gn := alphaAt_get n
            rw [hn] at gn
            refine ⟨alphabet, n, alphaAt n, rfl, rfl, by decide, atI_nat gn, _, k5 _ _ hD2 (w4.ne hD2), ?_, cs ++ [alphaAt n], ?_, ?_, ?_, ?_, ?_⟩
            · rw [List.length_map, List.length_map]
              exact small1000 (by omega)
            · rw [List.length_append, lcs]
              rfl
            · intro y hy
              rcases List.mem_append.mp hy with z | z
              · exact acs y z
              · rw [List.mem_singleton.mp z]
                exact alpha_let gn
            · rw [upd_same, List.map_append, List.map_append]
              rfl
            · rw [upd_ne (ne_of_none hF3 nD2)]
              exact k5 _ _ hF4 (w4.ne hF4)
            · exact (w5.put fD2 (w3.other nD2)).more (by omega)
          · rintro G4 ⟨cs, lcs, acs, hD2, hF4, w4⟩
            have ls2 : ∃ z : Str, Txt.join (Str.ofString "") (cs.map one) = z ∧ LetS z ∧ z.length = x + 1 := by
              refine ⟨_, rfl, ?_⟩
              rw [TL.join_eq]
              refine ⟨fun x hx => ?_, ?_⟩
              · have z : sg (Str.join Str.empty (cs.map one)) = cs := join_ones cs
                have z2 : x ∈ sg (Str.join Str.empty (cs.map one)) := hx
                rw [z] at z2
                exact acs x z2
              · show (Str.join Str.empty (cs.map one)).length = x + 1
                rw [← sg_len, join_ones, lcs]
                omega
            refine ⟨_, D2, cs.map one, rfl, rfl, .inl (.inl (.inl hD2)), ?_, ?_⟩
            · rw [ones_sum, lcs, List.length_map, lcs]
              show (1 + (x : Int)).toNat + (1 + (x : Int)).toNat * 0 ≤ 16777216
              omega
            obtain ⟨z, ez, lz2, l2⟩ := ls2
            rw [ez]
            refine ⟨F0, _, _, rfl, rfl, hF4, ?_, zs ++ [z], _, _, rfl, ?_, ?_, ?_, ?_⟩
            · rw [List.length_map]
              exact small1000 (by omega)
            · rw [upd_same, List.map_append]
              rfl
            · intro y hy
              rcases List.mem_append.mp hy with h | h
              · exact gd y h
              · rw [List.mem_singleton.mp h]
                exact ⟨lz2, by omega, by omega⟩
            · rw [List.length_append, lz]
              rfl
            · exact (w4.put fF (wd.other nF0)).more (by omega)
        · rintro sl G2 ⟨zs, v8, v14, rfl, hF, gd, lz, w2⟩
          exact ⟨F0, zs, v8, v14, rfl, fF, wd.other nF0, hF, gd, by omega, w2⟩
      rintro sl G2 ⟨F1, zs1, v8, v14, rfl, fF1, oF1, hF1, gd1, le1, w1⟩
      -- one word, and the same with others beside it
      refine ⟨fun sl G3 => ∃ (F : Addr) (zs : List Str) (v8 v9 v10 v14 : Option V), sl = ws p m d N stem none (some (.ref F)) v8 v9 v10 none none none v14 none ∧ H F = none ∧
        G3 F = some (.lst (zs.map V.str)) ∧ (∀ z ∈ zs, LetS z ∧ 1 ≤ z.length ∧ z.length ≤ 8) ∧ zs.length ≤ m ∧ Wd H G3 p N (c + 9 + 9 * m + 20), ?_, ?_⟩
      · refine ⟨_, rfl, rfl, _, rfl, ite2 (fun e => ?_) (fun e => ⟨F1, zs1, v8, none, none, v14, rfl, fF1, hF1, gd1, le1, w1.more (by omega)⟩)⟩
        refine ⟨_, rfl, _, rfl, p, _, 5, rfl, w1.purse, by omega, by decide, by decide, fun x G3 x0 x1 hp3 k3 => ⟨_, _, rfl, rfl, _, rfl, stem, rfl, s8, ?_⟩⟩
        have w3 := w1.step hp3 k3
        obtain ⟨x, rfl⟩ : ∃ n : Nat, x = n := ⟨x.toNat, by omega⟩
        have eb : (1 + (x : Int)) = ((x + 1 : Nat) : Int) := by omega
        have lb := @cut_to_len stem (x + 1) (by omega)
        rw [← eb] at lb
        have hb := hl.cut none (some (1 + (x : Int)))
        generalize cutS stem none (some (1 + (x : Int))) = base at lb hb
        refine ⟨_, rfl, by show 1 ≤ sizeLine; decide, fun F2 nF2 => ?_⟩
        have fF2 := w3.keep.fresh w3.purse nF2
        have oF2 := w3.other nF2
        have wF2 := w3.new nF2 (o := .lst [.str base])
        refine ⟨_, rfl, N, rfl, ⟨_, .inl (.inl wF2.menu)⟩, for_list (K := K) (a := N) (xs := menuS.map V.str) (fun i sl G4 => ∃ (zs : List Str) (v10 : Option V), sl = ws p m d N stem none (some (.ref F2)) v8 (some (.str base)) v10 none none none v14 none ∧
          G4 F2 = some (.lst (zs.map V.str)) ∧ (∀ z ∈ zs, LetS z ∧ 1 ≤ z.length ∧ z.length ≤ 8) ∧ zs.length = i + 1 ∧ Wd H G4 p N (c + 9 + 9 * m + 1 + i))
          ⟨[base], none, rfl, upd_same, (fun z hz => by rw [List.mem_singleton.mp hz]; exact ⟨hb, by omega, by omega⟩), rfl, wF2⟩ (fun i sl G4 _ ⟨_, _, _, _, _, _, w4⟩ => .inl (.inl w4.menu)) ?_ ?_⟩
        · rintro i xw sl G4 hx ⟨zs, v10, rfl, hF2, gd2, lz2, w4⟩
          have hi : i < 14 := by
            have z := (List.getElem?_eq_some_iff.mp hx).1
            exact z
          obtain ⟨word, hw, ew⟩ : ∃ word, word ∈ menuS ∧ xw = V.str word := by
            rw [List.getElem?_map] at hx
            cases e : menuS[i]? with
            | none => rw [e] at hx; cases hx
            | some z => rw [e] at hx; exact ⟨z, List.mem_of_getElem? e, (Option.some.inj hx).symm⟩
          subst ew
          have lw : word.length ≤ 6 := by
            have z : ∀ z ∈ menuS, z.length ≤ 6 := by decide +kernel
            exact z word hw
          have sw : word.length ≤ sizeLine := le1000 (by omega)
          have hw3 := (menu_let word hw).cut none (some (3 : Int))
          have lw3 : (cutS word none (some (3 : Int))).length ≤ 3 := cut_to_le word 3
          refine ⟨_, rfl, .inl ⟨rfl, _, .inl (.inl hF2)⟩, _, rfl, _, rfl, word, rfl, sw, _, rfl, _, _, rfl, rfl, le1000 (by omega), _, rfl, _, rfl, _, rfl, word, rfl, sw, _, _, rfl, rfl, le1000 (by omega), by show 2 ≤ sizeLine; decide, fun L nL => ?_⟩
          have w5 := w4.new nL (o := .lst [.str (cutS word none (some (3 : Int)) ++ base), .str (base ++ cutS word none (some (3 : Int)))])
          refine ⟨_, rfl, p, _, 2, rfl, w5.purse, by omega, by decide, by decide, fun y G5 y0 y1 hp5 k5 => ?_⟩
          have w6 := w5.step hp5 k5
          have hL : G5 L = some (.lst ([cutS word none (some (3 : Int)) ++ base, base ++ cutS word none (some (3 : Int))].map V.str)) := k5 _ _ upd_same (w5.ne (zs := [_, _]) upd_same)
          have hF5 : G5 F2 = some (.lst (zs.map V.str)) := by
            refine k5 _ _ ?_ oF2.2
            rw [upd_ne (ne_of_none hF2 nL)]
            exact hF2
          obtain ⟨z, hz, gz⟩ : ∃ z : Str, atI ([cutS word none (some (3 : Int)) ++ base, base ++ cutS word none (some (3 : Int))].map V.str) y = some (V.str z) ∧ LetS z ∧ 1 ≤ z.length ∧ z.length ≤ 8 := by
            have y01 : y = 0 ∨ y = 1 := by omega
            rcases y01 with rfl | rfl
            · exact ⟨_, atI_nat (j := 0) rfl, hw3.app hb, by rw [app_len]; omega, by rw [app_len]; omega⟩
            · exact ⟨_, atI_nat (j := 1) rfl, hb.app hw3, by rw [app_len]; omega, by rw [app_len]; omega⟩
          refine ⟨L, _, y, _, rfl, rfl, .inl (.inl hL), hz, F2, _, _, rfl, rfl, hF5, ?_, zs ++ [z], _, rfl, ?_, ?_, ?_, ?_⟩
          · rw [List.length_map]
            exact small1000 (by omega)
          · rw [upd_same, List.map_append]
            rfl
          · intro y hy
            rcases List.mem_append.mp hy with h | h
            · exact gd2 y h
            · rw [List.mem_singleton.mp h]
              exact gz
          · rw [List.length_append, lz2]
            rfl
          · exact (w6.put fF2 oF2).more (by omega)
        · rintro sl G4 ⟨zs, v10, rfl, hF2, gd2, lz2, w4⟩
          refine ⟨_, rfl, _, rfl, _, rfl, F2, _, rfl, .inl (.inl hF2), fun F3 nF3 => ?_⟩
          have ec : cutV (zs.map V.str) none (some (m : Int)) = (zs.take m).map V.str := by
            unfold cutV
            rw [HT.sIx_none, HT.sIx_nat, List.drop_zero, Nat.sub_zero, List.length_map, ← List.map_take]
            rcases Nat.le_total m zs.length with h | h
            · rw [Nat.min_eq_left h]
            · rw [Nat.min_eq_right h, List.take_of_length_le (Nat.le_refl _), List.take_of_length_le h]
          refine ⟨F3, zs.take m, v8, _, v10, v14, rfl, w4.keep.fresh w4.purse nF3, by rw [upd_same, ec], fun z hz => gd2 z (List.mem_of_mem_take hz), by rw [List.length_take]; omega, (w4.new nF3).more ?_⟩
          have e14 : (menuS.map V.str).length = 14 := rfl
          omega
      rintro sl G3 ⟨F, zs, u8, u9, u10, u14, rfl, fF, hF, gd, le, w3⟩
      -- unlike enough
      refine ⟨_, rfl, F, zs, rfl, .inl (.inl hF), by omega, _, rfl, rfl, _, rfl, ite2 (fun e => ?_) (fun e => ?_)⟩
      · have e2 : unlike zs zs.length = m := by
          have z := V.int.inj (of_decide_eq_true e)
          omega
        exact ⟨_, rfl, q zs F G3 (names_met gd le e2) fF hF (w3.more (by omega)).purse w3.keep⟩
      -- one letter each time
      refine ⟨_, rfl, p, _, 26, rfl, w3.purse, by omega, by decide, by decide, fun s G4 s0 s1 hp4 k4 => ?_⟩
      have w4 := w3.step hp4 k4
      refine ⟨_, rfl, _, rfl, p, _, 8, rfl, w4.purse, by omega, by decide, by decide, fun t G5 t0 t1 hp5 k5 => ?_⟩
      have w5 := w4.step hp5 k5
      obtain ⟨s, rfl⟩ : ∃ n : Nat, s = n := ⟨s.toNat, by omega⟩
      obtain ⟨t, rfl⟩ : ∃ n : Nat, t = n := ⟨t.toNat, by omega⟩
      refine ⟨_, rfl, stem, rfl, s8, by show 2 ≤ sizeLine; decide, fun T2 nT2 => ?_⟩
      have ht := hl.cut none (some (t : Int))
      have lt := cut_to_le stem t
      generalize cutS stem none (some (t : Int)) = tail at ht lt
      have s7 : tail.length ≤ sizeLine := le1000 (by omega)
      have w6 := w5.new nT2 (o := .tup [.int s, .str tail])
      refine ⟨T2, _, rfl, .inl (.inl upd_same), rfl, _, _, rfl, _, _, rfl, rfl, ?_⟩
      refine ⟨_, rfl, _, rfl, tail, rfl, s7, _, _, rfl, rfl, p, _, _, rfl, w6.purse, by omega, by omega, by omega, fun spot G7 p0 p1 hp7 k7 => ⟨Nat.zero_le _, fun F4 nF4 => ⟨_, _, rfl, ?_⟩⟩⟩
      have w7 := w6.step hp7 k7
      have fF4 := w7.keep.fresh w7.purse nF4
      have oF4 := w7.other nF4
      obtain ⟨spot, rfl⟩ : ∃ n : Nat, spot = n := ⟨spot.toNat, by omega⟩
      refine ⟨_, rfl, (m : Int), rfl, by omega, by omega, ?_⟩
      refine for_range (lo := 0) (n := m) (fun i sl G8 => ∃ v13 v14 : Option V, sl = ws p m d N stem (some (.int s)) (some (.ref F4)) u8 u9 u10 (some (.str tail)) (some (.int spot)) v13 v14 none ∧
        G8 F4 = some (.lst (((List.range i).map fun i => spotted tail spot (s + i)).map V.str)) ∧ Wd H G8 p N (c + 9 + 9 * m + 20 + 1 + 1 + 1)) ⟨none, _, rfl, upd_same, w7.new nF4⟩ ?_ ?_
      · rintro i sl G8 hi ⟨v13, v14, rfl, hF8, w8⟩
        refine ⟨_, rfl, _, rfl, _, rfl, _, _, rfl, rfl, .inl ⟨_, rfl, _, _, rfl, rfl, (by show (0 : Int) < 26; decide), alphabet, _, alphaAt (s + i), rfl, rfl, by decide, ?_, ?_⟩⟩
        · have e3 : ((s : Int) + (0 + (i : Int))) % 26 = (((s + i) % 26 : Nat) : Int) := by omega
          rw [e3]
          exact atI_nat (alphaAt_get (s + i))
        · refine ⟨_, rfl, .inl ⟨rfl, _, .inl (.inl hF8)⟩, _, rfl, _, rfl, _, rfl, tail, rfl, s7, _, rfl, _, _, rfl, rfl, ?_, _, rfl, _, rfl, _, rfl, tail, rfl, s7, _, _, rfl, rfl, ?_, F4, _, _, rfl, rfl, hF8, ?_, _, _, rfl, ?_, w8.put fF4 oF4⟩
          · have a1 := cut_to_le tail spot
            exact le1000 (show (cutS tail none (some (spot : Int))).length + 1 ≤ 1000 by omega)
          · have a1 := cut_to_le tail spot
            have a3 : (cutS tail (some (spot : Int)) none).length ≤ tail.length := by
              rw [← sg_len, sg_cut_from _ _ (by omega), List.length_drop, sg_len]
              omega
            exact le1000 (by rw [app_len]; show (cutS tail none (some (spot : Int))).length + 1 + _ ≤ 1000; omega)
          · rw [List.length_map, List.length_map, List.length_range]
            exact small1000 (by omega)
          · rw [upd_same, List.range_succ, List.map_append, List.map_append]
            rfl
      · rintro sl G8 ⟨v13, v14, rfl, hF8, w8⟩
        exact ⟨_, rfl, q _ F4 G8 (names_spot ht (by omega) (by omega) (by omega)) fF4 hF8 (w8.more (by omega)).purse w8.keep⟩
end
end Md

namespace Md
open PySem PySem.Spec PyProof.Rows L2
abbrev sMoment : Stmt := top 22
abbrev sPlaces : Stmt := top 23
abbrev sPicks : Stmt := top 24
/-- a town's row, of drawn size -/
def TownB (r : List V) : Prop := ∃ (z : Str) (lo hi : Int), r = [.str z, .int lo, .int hi] ∧ nameB z = true ∧ z.length ≤ 8 ∧ 1 ≤ lo ∧ lo ≤ hi ∧ hi ≤ 10 ^ 6
theorem TownB.r {r : List V} (h : TownB r) : TownR r := by
  obtain ⟨z, lo, hi, a, b, c, d, e, f⟩ := h
  exact ⟨z, lo, hi, a, b, c, d, e⟩
def TownsB (rs : List (List V)) (m : Nat) : Prop := rs.length = m ∧ (rs.map nameOf).Nodup ∧ ∀ r ∈ rs, TownB r
/-- a choice -/
def PickR (r : List V) : Prop := ∃ t x : Int, r = [.int t, .int x] ∧ 1 ≤ t
theorem paired_snoc {α β : Type} {F : α → β → Prop} : ∀ {l : List α} {m : List β} {a : α} {b : β}, Paired F l m → F a b → Paired F (l ++ [a]) (m ++ [b])
  | _, _, _, _, .nil, h => .cons h .nil
  | _, _, _, _, .cons h t, g => .cons h (paired_snoc t g)
/-- a list of rows grows at F -/
structure Work (H G : Hp) (p F : Addr) (n : Nat) (rs : List (List V)) : Prop where
  keep : Keep p H G
  purse : PurseAt G p n
  rows : Rows G F rs
  fresh : H F = none
  ne : F ≠ p
section
variable {H G G2 : Hp} {p F q : Addr} {n n2 : Nat} {o : HO} {rs : List (List V)} {r : List V}
theorem Rows.new (h : Rows G F rs) (nq : G q = none) : Rows (upd G q o) F rs := h.same fun b u z => by rw [upd_ne (ne_of_none z nq)]; exact z
theorem Work.new (w : Work H G p F n rs) (nq : G q = none) : Work H (upd G q o) p F n rs := ⟨w.keep.new nq, w.purse.new nq, w.rows.new nq, w.fresh, w.ne⟩
theorem Work.step (w : Work H G p F n rs) (hp : PurseAt G2 p n2) (k : Keep p G G2) : Work H G2 p F n2 rs := ⟨w.keep.trans k, hp, w.rows.keep w.purse k, w.fresh, w.ne⟩
theorem Work.more (w : Work H G p F n rs) (e : n ≤ n2) : Work H G p F n2 rs := ⟨w.keep, w.purse.more e, w.rows, w.fresh, w.ne⟩
theorem PurseAt.ne_new (hp : PurseAt G p n) (nq : G q = none) : q ≠ p := by
  intro e
  obtain ⟨a, b, c, e1, _⟩ := hp
  rw [e, e1] at nq
  cases nq
/-- a list that was just made -/
theorem Work.start (hp : PurseAt G p n) (k : Keep p H G) (nq : G F = none) : Work H (upd G F (.lst [])) p F n [] :=
  ⟨k.new nq, hp.new nq, ⟨[], upd_same, .nil⟩, k.fresh hp nq, hp.ne_new nq⟩
theorem Work.push (w : Work H G p F n rs) {t : Addr} (ht : G t = some (.tup r)) : ∃ as : List Addr, G F = some (.lst (as.map V.ref)) ∧ as.length = rs.length ∧ Work H (upd G F (.lst (as.map V.ref ++ [.ref t]))) p F n (rs ++ [r]) := by
  obtain ⟨as, h1, h2⟩ := w.rows
  have ne : ∀ b u, G b = some (.tup u) → b ≠ F := fun b u z e => by
    rw [e, h1] at z
    cases z
  refine ⟨as, h1, paired_len h2, ⟨fun b u h nb => ?_, ?_, ⟨as ++ [t], ?_, ?_⟩, w.fresh, w.ne⟩⟩
  · rw [upd_ne (ne_of_none h w.fresh)]
    exact w.keep b u h nb
  · obtain ⟨a, b, c, e1, r⟩ := w.purse
    exact ⟨a, b, c, by rw [upd_ne (fun e => w.ne e.symm)]; exact e1, r⟩
  · rw [upd_same, List.map_append]
    rfl
  · exact paired_snoc (paired_imp h2 fun b u z => by rw [upd_ne (ne b u z)]; exact z) (by rw [upd_ne (ne t r ht)]; exact ht)
theorem Work.none_new (w : Work H G p F n rs) (nq : G q = none) : H q = none := w.keep.fresh w.purse nq
end
section
variable {P : Program} {w : World} {K : PySem.W.Frag} {mg : Str → Option Value} {base : Heap}
/-- a def of the law's text, as its callers see it -/
structure DefAt (P : Program) (w : World) (K : PySem.W.Frag) (mg : Str → Option Value) (base : Heap) (x : Str) (f : Addr) (fd : FuncData) (ps : List Str) (n : Nat) (sp : Sp) : Prop where
  ok : ∀ k, FnOk P w K mg base CX0 (k + n) f fd ps sp
  mg : mg x = some (.ref f)
  kp : PySem.W.keepIn K (.ref f) = true
  b : Binds K fd ps []
def spMoment : Sp := fun vs H Q _ => ∃ (p : Addr) (c : Nat), vs = [.ref p] ∧ PurseAt H p c ∧ c ≤ 990000 ∧ ∀ (d : Int) H', 0 ≤ d → d ≤ 10 ^ 30 → PurseAt H' p (c + 2) → Keep p H H' → Q (.int d) H'
theorem scMoment : FnScope ["purse", "way"] ["purse"] (defScope sMoment) := ⟨rfl, rfl, rfl, by decide +kernel, rfl, by decide +kernel, by decide +kernel⟩
theorem ok_moment {f fC : Addr} {fd fdC : FuncData} {k : Nat} (F : Fun K "_law_mk_moment" "_law_mk_moment" sMoment f fd) (C : CoinAt P w K mg base fC fdC) (B : Blt mg) : FnOk P w K mg base CX0 (k + 2) f fd ["purse"] spMoment := by
  have GC := C.ok k
  refine F.ok scMoment (fun vs H Q E h => ?_) (fun cdv A outer s H vs Q E hr h => ?_)
  · obtain ⟨p, c, rfl, _⟩ := h
    rfl
  · obtain ⟨p, c, rfl, hp, hc, q⟩ := h
    have nd := scMoment.nd
    refine ⟨_, pss_cons (ps_set (i := 1) nd rfl (.inl rfl) (pe_call GC hr (by rfl) C.mg C.kp C.b .nil pass0 (pa_cons (pv 0) (pa_cons pe_int pa_nil))))
      (pss_cons (ps_if (pt_cmpR op_eq (pv 1) pe_int (nomark _)) (pss_one (ps_ret (pe_op op_sub (pe_op op_pow pe_int pe_int) (pe_call GC hr (by rfl) C.mg C.kp C.b .nil pass0 (pa_cons (pv 0) (pa_cons pe_int pa_nil)))))) pss_nil)
      (pss_one (ps_ret (pe_call GC hr (by rfl) C.mg C.kp C.b .nil pass0 (pa_cons (pv 0) (pa_cons (pe_ix ix_list (pe_lst (pa_cons pe_int (pa_cons pe_int (pa_cons pe_int (pa_cons (pe_op op_add (pe_op op_pow pe_int pe_int) pe_int) pa_nil))))) (pv 1) (fun _ _ => rfl)) pa_nil)))))), ?_⟩
    refine ⟨_, rfl, p, c, 5, rfl, hp, by omega, by decide, by decide, fun way H1 a0 a1 hp1 k1 => ?_⟩
    refine ⟨_, rfl, rfl, _, rfl, ite2 (fun e => ?_) (fun e => ?_)⟩
    · refine ⟨_, _, rfl, rfl, ⟨by decide, by decide, by decide⟩, _, rfl, p, c + 1, 900, rfl, hp1, by omega, by decide, by decide, fun d H2 d0 d1 hp2 k2 => ⟨_, _, rfl, rfl, ?_⟩⟩
      refine q _ _ ?_ ?_ hp2 (k1.trans k2)
      · show (0 : Int) ≤ 10 ^ 30 - d
        omega
      · show (10 : Int) ^ 30 - d ≤ 10 ^ 30
        omega
    · have e4 : way ≠ 4 := fun z => e (by rw [z]; rfl)
      refine ⟨_, rfl, _, _, rfl, rfl, ⟨by decide, by decide, by decide⟩, _, _, rfl, rfl, by show 4 ≤ sizeLine; decide, fun L nL => ?_⟩
      obtain ⟨v, hv, v1, v2⟩ : ∃ v : Int, atI [V.int 9, V.int 40, V.int 1700, V.int (10 ^ 30 + 1)] way = some (V.int v) ∧ 1 ≤ v ∧ v ≤ 10 ^ 30 + 1 := by
        have h : way = 0 ∨ way = 1 ∨ way = 2 ∨ way = 3 := by omega
        rcases h with rfl | rfl | rfl | rfl
        · exact ⟨_, atI_nat (j := 0) rfl, by decide, by decide⟩
        · exact ⟨_, atI_nat (j := 1) rfl, by decide, by decide⟩
        · exact ⟨_, atI_nat (j := 2) rfl, by decide, by decide⟩
        · exact ⟨_, atI_nat (j := 3) rfl, by decide, by decide⟩
      refine ⟨_, rfl, L, _, way, _, rfl, rfl, .inl (.inl upd_same), hv, p, c + 1, v, rfl, hp1.new nL, by omega, v1, by omega, fun d H2 d0 d1 hp2 k2 => ?_⟩
      exact q _ _ d0 (by omega) hp2 ((k1.new nL).trans k2)

def spPlaces : Sp := fun vs H Q _ => ∃ (p : Addr) (c m : Nat) (t : Int), vs = [.ref p, .int m, .int t] ∧ PurseAt H p c ∧ c ≤ 890000 ∧ m ≤ 20 ∧ 1 ≤ t ∧ t ≤ 10 ^ 6 ∧
  ∀ rs q H', TownsB rs m → H q = none → Rows H' q rs → PurseAt H' p (c + 500) → Keep p H H' → Q (.ref q) H'
abbrev nPlaces : List Str := ["purse", "count", "top", "found", "label", "ends"]
theorem scPlaces : FnScope nPlaces ["purse", "count", "top"] (defScope sPlaces) := ⟨rfl, rfl, rfl, by decide +kernel, rfl, by decide +kernel, by decide +kernel⟩
theorem two_sorted {ns : List Int} {a b : Int} (h1 : ns.Perm [a, b]) (h2 : ns.Pairwise (· ≤ ·)) : ∃ x y : Int, ns = [x, y] ∧ x ≤ y ∧ (x = a ∨ x = b) ∧ (y = a ∨ y = b) := by
  have l := h1.length_eq
  match ns, l with
  | [x, y], _ =>
    refine ⟨x, y, rfl, ?_, ?_, ?_⟩
    · have z := List.pairwise_cons.mp h2
      exact z.1 y (List.mem_singleton.mpr rfl)
    · have z := h1.mem_iff.mp (show x ∈ [x, y] by simp)
      simpa using z
    · have z := h1.mem_iff.mp (show y ∈ [x, y] by simp)
      simpa using z
theorem ok_places {f fC fW : Addr} {fd fdC fdW : FuncData} {k : Nat} (F : Fun K "_law_mk_places" "_law_mk_places" sPlaces f fd) (C : CoinAt P w K mg base fC fdC) (W : DefAt P w K mg base "_law_words" fW fdW ["purse", "many"] 2 spWords) (B : Blt mg) :
    FnOk P w K mg base CX0 (k + 3) f fd ["purse", "count", "top"] spPlaces := by
  have GC := C.ok (k + 1)
  have GW := W.ok k
  refine F.ok scPlaces (fun vs H Q E h => ?_) (fun cdv A outer s H vs Q E hr h => ?_)
  · obtain ⟨p, c, m, t, rfl, _⟩ := h
    rfl
  · obtain ⟨p, c, m, t, rfl, hp, hc, hm, t1, t2, q⟩ := h
    have nd := scPlaces.nd
    refine ⟨_, pss_cons (ps_set (i := 3) nd rfl (.inl rfl) (pe_lst pa_nil))
      (pss_cons (ps_for PassesOwn.never rfl (pi_list (pe_call GW hr (by rfl) W.mg W.kp W.b .nil pass0 (pa_cons (pv 0) (pa_cons (pv 1) pa_nil)))) (pg_name (i := 4) nd rfl (.inl rfl))
        (pss_cons (ps_set (i := 5) nd rfl (.inl rfl) (pe_callB cr_sortedI (by rfl) B.sorted (by decide +kernel) (pa_cons (pe_lst (pa_cons (pe_op op_add pe_int (pe_call GC hr (by rfl) C.mg C.kp C.b .nil pass0 (pa_cons (pv 0) (pa_cons (pv 2) pa_nil)))) (pa_cons (pe_op op_add pe_int (pe_call GC hr (by rfl) C.mg C.kp C.b .nil pass0 (pa_cons (pv 0) (pa_cons (pv 2) pa_nil)))) pa_nil))) pa_nil)))
        (pss_one (ps_expr (pe_bm PySem.F.plainAttrs_list PySem.F.slot_list_append PySem.F.type_list_append mt_append (pv 3) (pa_cons (pe_tup (pa_cons (pv 4) (pa_cons (pe_ix ix_list (pv 5) pe_int (fun _ _ => rfl))
          (pa_cons (pe_ix ix_list (pv 5) (pe_callB (call_min2 rfl) (by rfl) B.min (by decide +kernel) (pa_cons pe_int (pa_cons (pe_call GC hr (by rfl) C.mg C.kp C.b .nil pass0 (pa_cons (pv 0) (pa_cons pe_int pa_nil))) pa_nil))) (fun _ _ => rfl)) pa_nil)))) pa_nil))))))
      (pss_one (ps_ret (pv 3)))), ?_⟩
    refine ⟨Nat.zero_le _, fun F0 nF0 => ?_⟩
    have w0 := Work.start hp (Keep.refl p H) nF0
    refine ⟨_, rfl, _, rfl, p, c, m, rfl, w0.purse, by omega, hm, fun zs W0 G nz nW hW hp1 k1 => ⟨W0, rfl, ⟨_, .inl (.inl hW)⟩, ?_⟩⟩
    have w1 := w0.step hp1 k1
    have neW : W0 ≠ F0 := fun e => by
      rw [e, upd_same] at nW
      cases nW
    refine for_list (K := K) (a := W0) (xs := zs.map V.str) (fun i sl G => ∃ (rs : List (List V)) (v4 v5 : Option V), sl = [some (.ref p), some (.int m), some (.int t), some (.ref F0), v4, v5] ∧
      G W0 = some (.lst (zs.map V.str)) ∧ rs.map nameOf = zs.take i ∧ (∀ r ∈ rs, TownB r) ∧ rs.length = i ∧ Work H G p F0 (c + 400 + 3 * i) rs) ⟨[], none, none, rfl, hW, rfl, (fun r hr => by cases hr), rfl, w1⟩
      (fun i sl G _ ⟨_, _, _, _, h, _⟩ => .inl (.inl h)) ?_ ?_
    · rintro i x sl G hx ⟨rs, v4, v5, rfl, hW2, names, good, lr, w2⟩
      have hi : i < zs.length := by
        have z := (List.getElem?_eq_some_iff.mp hx).1
        rw [List.length_map] at z
        exact z
      have hi20 : i < 20 := by
        have z := nz.1
        omega
      have ez : zs[i]? = some zs[i] := List.getElem?_eq_getElem hi
      have ex : x = V.str zs[i] := by
        rw [List.getElem?_map, ez] at hx
        exact (Option.some.inj hx).symm
      subst ex
      have gz := nz.2.2 zs[i] (List.getElem_mem hi)
      refine ⟨_, rfl, _, rfl, p, _, t, rfl, w2.purse, by omega, t1, by omega, fun a G3 a0 a1 hp3 k3 => ⟨_, _, rfl, rfl, ?_⟩⟩
      have w3 := w2.step hp3 k3
      refine ⟨_, rfl, _, rfl, p, _, t, rfl, w3.purse, by omega, t1, by omega, fun b G4 b0 b1 hp4 k4 => ⟨_, _, rfl, rfl, by show 2 ≤ sizeLine; decide, fun L nL => ?_⟩⟩
      have w4 := w3.step hp4 k4
      have w5 := w4.new nL (o := .lst [.int (1 + a), .int (1 + b)])
      refine ⟨L, [1 + a, 1 + b], rfl, .inl (.inl upd_same), fun ns S0 pm pw nS => ?_⟩
      obtain ⟨x, y, rfl, xy, hx1, hy1⟩ := two_sorted pm pw
      have w6 := w5.new nS (o := .lst ([x, y].map V.int))
      -- the row
      obtain ⟨as6, h6, _⟩ := w6.rows
      refine ⟨_, rfl, .inl ⟨rfl, _, .inl (.inl h6)⟩, _, rfl, _, rfl, S0, _, 0, .int x, rfl, rfl, .inl (.inl upd_same), atI_nat (j := 0) rfl, _, rfl, _, rfl, p, _, 5, rfl, w6.purse, by omega, by decide, by decide, fun d G7 d0 d1 hp7 k7 => ?_⟩
      have w7 := w6.step hp7 k7
      have hS : G7 S0 = some (.lst ([x, y].map V.int)) := k7 _ _ upd_same (w5.purse.ne_new nS)
      obtain ⟨v, j, ej, hv, v1, v2⟩ : ∃ (v : Int) (j : Nat), (if d < 1 then d else 1) = (j : Int) ∧ ([x, y].map V.int)[j]? = some (V.int v) ∧ x ≤ v ∧ v ≤ t := by
        by_cases hd : d < 1
        · exact ⟨x, 0, by rw [if_pos hd]; omega, rfl, by omega, by omega⟩
        · exact ⟨y, 1, by rw [if_neg hd]; rfl, rfl, by omega, by omega⟩
      refine ⟨_, _, rfl, S0, _, _, _, rfl, rfl, .inl (.inl hS), by rw [ej]; exact atI_nat hv, by show 3 ≤ sizeLine; decide, fun T nT => ?_⟩
      have w8 := w7.new nT (o := .tup [.str zs[i], .int x, .int v])
      obtain ⟨as, h8, l8, w9⟩ := w8.push upd_same
      refine ⟨F0, _, _, rfl, rfl, h8, ?_, rs ++ [[.str zs[i], .int x, .int v]], _, _, rfl, ?_, ?_, ?_, ?_, w9.more (by omega)⟩
      · rw [List.length_map]
        exact small1000 (by omega)
      · have r1 := k3 _ _ hW2 (w2.purse.apart hW2 (strs_ne zs))
        have r2 := k4 _ _ r1 (w3.purse.apart r1 (strs_ne zs))
        rw [upd_ne neW, upd_ne (ne_of_none (k7 _ _ (by rw [upd_ne (ne_of_none (by rw [upd_ne (ne_of_none r2 nL)]; exact r2) nS), upd_ne (ne_of_none r2 nL)]; exact r2) (fun e => w3.purse.apart r1 (strs_ne zs) e)) nT)]
        exact k7 _ _ (by rw [upd_ne (ne_of_none (by rw [upd_ne (ne_of_none r2 nL)]; exact r2) nS), upd_ne (ne_of_none r2 nL)]; exact r2) (fun e => w3.purse.apart r1 (strs_ne zs) e)
      · rw [List.map_append, names, List.take_add_one, ez]
        rfl
      · intro r hr
        rcases List.mem_append.mp hr with z | z
        · exact good r z
        · rw [List.mem_singleton.mp z]
          exact ⟨zs[i], x, v, rfl, gz.1, gz.2, by omega, v1, by omega⟩
      · rw [List.length_append, lr]
        rfl
    · rintro sl G ⟨rs, v4, v5, rfl, hW2, names, good, lr, w2⟩
      rw [List.length_map] at names lr
      rw [List.take_length] at names
      have l20 := nz.1
      exact ⟨_, rfl, q rs F0 G ⟨by omega, by rw [names]; exact nz.2.1, good⟩ w2.fresh w2.rows (w2.more (by rw [List.length_map]; omega)).purse w2.keep⟩
end
end Md

namespace Md
open PySem PySem.Spec PyProof.Rows L2
abbrev sPair : Stmt := top 25
abbrev sMarket : Stmt := top 26
section
variable {P : Program} {w : World} {K : PySem.W.Frag} {mg : Str → Option Value} {base : Heap}
def spPicks : Sp := fun vs H Q _ => ∃ (p a : Addr) (c m : Nat) (rs : List (List V)), vs = [.ref p, .ref a] ∧ PurseAt H p c ∧ c ≤ 990000 ∧ m ≤ 20 ∧ Rows H a rs ∧ TownsB rs m ∧
  ∀ ps q H', ps.length = m → (∀ r ∈ ps, PickR r) → H q = none → Rows H' q ps → PurseAt H' p (c + 40) → Keep p H H' → Q (.ref q) H'
abbrev nPicks : List Str := ["purse", "places", "found", "place", "turn"]
theorem scPicks : FnScope nPicks ["purse", "places"] (defScope sPicks) := ⟨rfl, rfl, rfl, by decide +kernel, rfl, by decide +kernel, by decide +kernel⟩
theorem ok_picks {f fC : Addr} {fd fdC : FuncData} {k : Nat} (F : Fun K "_law_mk_picks" "_law_mk_picks" sPicks f fd) (C : CoinAt P w K mg base fC fdC) : FnOk P w K mg base CX0 (k + 2) f fd ["purse", "places"] spPicks := by
  have GC := C.ok k
  refine F.ok scPicks (fun vs H Q E h => ?_) (fun cdv A outer s H vs Q E hr h => ?_)
  · obtain ⟨p, a, c, m, rs, rfl, _⟩ := h
    rfl
  · obtain ⟨p, a, c, m, rs, rfl, hp, hc, hm, hR, hT, q⟩ := h
    have nd := scPicks.nd
    refine ⟨_, pss_cons (ps_set (i := 2) nd rfl (.inl rfl) (pe_lst pa_nil))
      (pss_cons (ps_for PassesOwn.never rfl (pi_list (pv 1)) (pg_name (i := 3) nd rfl (.inl rfl))
        (pss_cons (ps_set (i := 4) nd rfl (.inl rfl) (pe_op op_add (pe_ix (r := rIxT K) ix_tup (pv 3) pe_int (fun _ _ => rfl)) (pe_call GC hr (by rfl) C.mg C.kp C.b .nil pass0 (pa_cons (pv 0) (pa_cons (pe_op op_add (pe_op op_sub (pe_ix (r := rIxT K) ix_tup (pv 3) pe_int (fun _ _ => rfl)) (pe_ix (r := rIxT K) ix_tup (pv 3) pe_int (fun _ _ => rfl))) pe_int) pa_nil)))))
        (pss_one (ps_expr (pe_bm PySem.F.plainAttrs_list PySem.F.slot_list_append PySem.F.type_list_append mt_append (pv 2) (pa_cons (pe_tup (pa_cons (pv 4) (pa_cons (pe_call GC hr (by rfl) C.mg C.kp C.b .nil pass0 (pa_cons (pv 0) (pa_cons (pv 4) pa_nil))) pa_nil))) pa_nil))))))
      (pss_one (ps_ret (pv 2)))), ?_⟩
    refine ⟨Nat.zero_le _, fun F0 nF0 => ?_⟩
    have w0 := Work.start hp (Keep.refl p H) nF0
    obtain ⟨as, hA, hP⟩ := hR
    have ln : as.length = m := by
      have z := paired_len hP
      have z2 := hT.1
      omega
    have pA : a ≠ p := by
      intro e
      obtain ⟨a1, a2, a3, e1, _⟩ := hp
      rw [e, e1] at hA
      cases as with
      | nil => cases hA
      | cons z r => cases hA
    refine ⟨_, rfl, a, rfl, ⟨_, .inl (.inl (w0.keep _ _ hA pA))⟩, ?_⟩
    refine for_list (K := K) (a := a) (xs := as.map V.ref) (fun i sl G => ∃ (ps : List (List V)) (v3 v4 : Option V), sl = [some (.ref p), some (.ref a), some (.ref F0), v3, v4] ∧
      (∀ r ∈ ps, PickR r) ∧ ps.length = i ∧ Work H G p F0 (c + 2 * i) ps) ⟨[], none, none, rfl, (fun r hr => by cases hr), rfl, w0⟩
      (fun i sl G _ ⟨_, _, _, _, _, _, w1⟩ => .inl (.inl (w1.keep _ _ hA pA))) ?_ ?_
    · rintro i x sl G hx ⟨ps, v3, v4, rfl, good, lp, w1⟩
      have hi : i < as.length := by
        have z := (List.getElem?_eq_some_iff.mp hx).1
        rw [List.length_map] at z
        exact z
      obtain ⟨b, row, ex, hr1, hb⟩ := rows_ref hP hx
      subst ex
      obtain ⟨z, lo, hi2, er, _, _, l1, l2, l3⟩ := hT.2.2 row (List.mem_of_getElem? hr1)
      subst er
      have hb2 : SqT K G b [.str z, .int lo, .int hi2] := .inl (.inl (w1.keep _ _ hb fun e => by
        obtain ⟨a1, a2, a3, e1, _⟩ := hp
        rw [e, e1] at hb
        cases hb))
      refine ⟨_, rfl, b, _, 1, .int lo, rfl, rfl, hb2, atI_nat (j := 1) rfl, _, rfl, _, rfl, b, _, 2, .int hi2, rfl, rfl, hb2, atI_nat (j := 2) rfl, _, rfl, b, _, 1, .int lo, rfl, rfl, hb2, atI_nat (j := 1) rfl, _, _, rfl, rfl, _, _, rfl, rfl,
        p, _, _, rfl, w1.purse, by omega, by omega, by omega, fun d G3 d0 d1 hp3 k3 => ⟨_, _, rfl, rfl, ?_⟩⟩
      have w3 := w1.step hp3 k3
      obtain ⟨as3, h3, _⟩ := w3.rows
      refine ⟨_, rfl, .inl ⟨rfl, _, .inl (.inl h3)⟩, _, rfl, _, rfl, _, rfl, p, _, _, rfl, w3.purse, by omega, by omega, by omega, fun e G4 e0 e1 hp4 k4 => ⟨by show 2 ≤ sizeLine; decide, fun T nT => ?_⟩⟩
      have w5 := (w3.step hp4 k4).new nT (o := .tup [.int (lo + d), .int e])
      obtain ⟨as5, h5, l5, w6⟩ := w5.push upd_same
      refine ⟨F0, _, _, rfl, rfl, h5, ?_, ps ++ [[.int (lo + d), .int e]], _, _, rfl, ?_, ?_, w6.more (by omega)⟩
      · rw [List.length_map]
        exact small1000 (by omega)
      · intro r hr
        rcases List.mem_append.mp hr with z | z
        · exact good r z
        · rw [List.mem_singleton.mp z]
          exact ⟨_, _, rfl, by omega⟩
      · rw [List.length_append, lp]
        rfl
    · rintro sl G ⟨ps, v3, v4, rfl, good, lp, w1⟩
      rw [List.length_map] at lp
      exact ⟨_, rfl, q ps F0 G (by omega) good w1.fresh w1.rows (w1.more (by rw [List.length_map]; omega)).purse w1.keep⟩

/-- two unlike indexes, or none -/
def PairI (is : List Int) (m : Nat) : Prop := is = [] ∨ ∃ x y : Nat, is = [(x : Int), (y : Int)] ∧ x < m ∧ y < m ∧ x ≠ y
def spPair : Sp := fun vs H Q _ => ∃ (p a : Addr) (c m : Nat) (as : List Addr), vs = [.ref p, .ref a] ∧ PurseAt H p c ∧ c ≤ 990000 ∧ 1 ≤ m ∧ m ≤ 20 ∧ H a = some (.lst (as.map V.ref)) ∧ as.length = m ∧
  ∀ is q H', PairI is m → H q = none → H' q = some (.lst (is.map V.int)) → PurseAt H' p (c + 3) → Keep p H H' → Q (.ref q) H'
abbrev nPair : List Str := ["purse", "places", "start", "gap"]
theorem scPair : FnScope nPair ["purse", "places"] (defScope sPair) := ⟨rfl, rfl, rfl, by decide +kernel, rfl, by decide +kernel, by decide +kernel⟩
theorem refs_ne {H : Hp} {a p : Addr} {c : Nat} {as : List Addr} (hp : PurseAt H p c) (hA : H a = some (.lst (as.map V.ref))) : a ≠ p := by
  intro e
  obtain ⟨a1, a2, a3, e1, _⟩ := hp
  rw [e, e1] at hA
  cases as with
  | nil => cases hA
  | cons z r => cases hA
theorem gap_ne {x g m : Nat} (h1 : x < m) (h2 : 1 ≤ g) (h3 : g < m) : ∃ y : Nat, ((x : Int) + g) % m = y ∧ y < m ∧ x ≠ y := by
  by_cases h : x + g < m
  · exact ⟨x + g, by rw [← Int.natCast_add, ← Int.natCast_emod, Nat.mod_eq_of_lt h], h, by omega⟩
  · refine ⟨x + g - m, ?_, by omega, by omega⟩
    rw [← Int.natCast_add, ← Int.natCast_emod, Nat.mod_eq_sub_mod (by omega), Nat.mod_eq_of_lt (by omega)]
theorem ok_pair {f fC : Addr} {fd fdC : FuncData} {k : Nat} (F : Fun K "_law_mk_pair" "_law_mk_pair" sPair f fd) (C : CoinAt P w K mg base fC fdC) (B : Blt mg) : FnOk P w K mg base CX0 (k + 2) f fd ["purse", "places"] spPair := by
  have GC := C.ok k
  refine F.ok scPair (fun vs H Q E h => ?_) (fun cdv A outer s H vs Q E hr h => ?_)
  · obtain ⟨p, a, c, m, as, rfl, _⟩ := h
    rfl
  · obtain ⟨p, a, c, m, as, rfl, hp, hc, hm1, hm, hA, la, q⟩ := h
    have nd := scPair.nd
    have lm : (as.map V.ref).length = m := by rw [List.length_map, la]
    refine ⟨_, C8.pss_cut (ps_if (PW.pt (pw_or (pt_cmpR op_lt (pe_callB call_len_seq (by rfl) B.len PySem.boot_len (pa_cons (pv 1) pa_nil)) pe_int (nomark _)) (pw_or1 (pt_cmpR op_eq (pe_call GC hr (by rfl) C.mg C.kp C.b .nil pass0 (pa_cons (pv 0) (pa_cons pe_int pa_nil))) pe_int (nomark _)))))
        (pss_one (ps_ret (pe_lst pa_nil))) pss_nil)
      (pss_cons (ps_par (i := 2) (j := 3) rfl nd rfl rfl (by decide) rfl rfl (pa_cons (pe_call GC hr (by rfl) C.mg C.kp C.b .nil pass0 (pa_cons (pv 0) (pa_cons (pe_callB call_len_seq (by rfl) B.len PySem.boot_len (pa_cons (pv 1) pa_nil)) pa_nil)))
        (pa_cons (pe_op op_add pe_int (pe_call GC hr (by rfl) C.mg C.kp C.b .nil pass0 (pa_cons (pv 0) (pa_cons (pe_op op_sub (pe_callB call_len_seq (by rfl) B.len PySem.boot_len (pa_cons (pv 1) pa_nil)) pe_int) pa_nil)))) pa_nil)) (by rfl))
      (pss_one (ps_ret (pe_lst (pa_cons (pv 2) (pa_cons (pe_op op_mod (pe_callTy call_int1 (by rfl) B.int (by decide +kernel) (pa_cons (pe_op op_add (pv 2) (pv 3)) pa_nil)) (pe_callB call_len_seq (by rfl) B.len PySem.boot_len (pa_cons (pv 1) pa_nil))) pa_nil)))))), ?_⟩
    have pA := refs_ne hp hA
    have none_ : ∀ (G : Hp) (n : Nat), PurseAt G p n → n ≤ c + 3 → Keep p H G → Nat.zero_le sizeLine = Nat.zero_le sizeLine ∧ ∀ l, G l = none → Q (.ref l) (upd G l (.lst [])) := fun G n hpG hn kG => ⟨rfl, fun l nl => q [] l _ (.inl rfl) (kG.fresh hpG nl) upd_same ((hpG.new nl).more hn) (kG.new nl)⟩
    refine ⟨fun sl G => sl = [some (.ref p), some (.ref a), none, none] ∧ 2 ≤ m ∧ PurseAt G p (c + 1) ∧ Keep p H G, ?_, ?_⟩
    · refine ⟨_, rfl, a, _, rfl, .inl (.inl (.inl hA)), _, _, rfl, rfl, _, rfl, ite2 (fun e => ?_) (fun e => ?_)⟩
      · refine iteT ⟨Nat.zero_le _, (none_ H c hp (by omega) (Keep.refl p H)).2⟩
      · have e2 : ¬ ((as.map V.ref).length : Int) < 2 := fun z => e (decide_eq_true z)
        refine ⟨_, rfl, p, c, 4, rfl, hp, by omega, by decide, by decide, fun d G d0 d1 hp1 k1 => ⟨rfl, _, rfl, ite2 (fun e3 => ⟨Nat.zero_le _, (none_ G _ hp1 (by omega) k1).2⟩) (fun e3 => ⟨rfl, by omega, hp1, k1⟩)⟩⟩
    · rintro sl G ⟨rfl, m2, hp1, k1⟩
      have hA1 := k1 _ _ hA pA
      refine ⟨_, rfl, _, rfl, a, _, rfl, .inl (.inl (.inl hA1)), p, _, _, rfl, hp1, by omega, by omega, by omega, fun x G2 x0 x1 hp2 k2 => ?_⟩
      have hA2 := k2 _ _ hA1 pA
      refine ⟨_, rfl, _, rfl, a, _, rfl, .inl (.inl (.inl hA2)), _, _, rfl, rfl, p, _, _, rfl, hp2, by omega, by omega, by omega, fun g G3 g0 g1 hp3 k3 => ⟨_, _, rfl, rfl, _, _, rfl, ?_⟩⟩
      have hA3 := k3 _ _ hA2 pA
      obtain ⟨x, rfl⟩ : ∃ n : Nat, x = n := ⟨x.toNat, by omega⟩
      obtain ⟨g, rfl⟩ : ∃ n : Nat, g = n := ⟨g.toNat, by omega⟩
      obtain ⟨y, ey, hy, xy⟩ := @gap_ne x (1 + g) m (by omega) (by omega) (by omega)
      refine ⟨_, rfl, _, rfl, _, rfl, _, _, rfl, rfl, .inl ⟨_, rfl, _, rfl, a, _, rfl, .inl (.inl (.inl hA3)), _, _, rfl, rfl, (by show (0 : Int) < ((as.map V.ref).length : Nat); omega), by show 2 ≤ sizeLine; decide, fun L nL => ?_⟩⟩
      have k123 := (k1.trans k2).trans k3
      refine q [x, y] L _ (.inr ⟨x, y, rfl, by omega, hy, xy⟩) (k123.fresh hp3 nL) ?_ (hp3.new nL) (k123.new nL)
      rw [upd_same]
      have e3 : ((x : Int) + (1 + (g : Int))) % ((as.map V.ref).length : Nat) = (y : Int) := by
        rw [lm, ← ey]
        congr 1
      rw [← e3]
      rfl
def spMarket : Sp := fun vs H Q _ => ∃ (b : Addr) (r : List V) (d : Int), vs = [.ref b, .int d] ∧ H b = some (.tup r) ∧ PickR r ∧ ∀ y : Bool, Q (.bl y) H
theorem scMarket : FnScope ["pick", "moment"] ["pick", "moment"] (defScope sMarket) := ⟨rfl, rfl, rfl, by decide +kernel, rfl, by decide +kernel, by decide +kernel⟩
theorem ok_market {f : Addr} {fd : FuncData} {k : Nat} (F : Fun K "_law_mk_market" "_law_mk_market" sMarket f fd) (B : Blt mg) : FnOk P w K mg base CX0 (k + 1) f fd ["pick", "moment"] spMarket := by
  refine F.ok scMarket (fun vs H Q E h => ?_) (fun cdv A outer s H vs Q E hr h => ?_)
  · obtain ⟨b, r, d, rfl, _⟩ := h
    rfl
  · obtain ⟨b, r, d, rfl, hb, ⟨t, x, rfl, t1⟩, q⟩ := h
    refine ⟨_, pss_one (ps_ret (pe_cmpR op_eq (pe_op op_mod (pe_callTy call_int1 (by rfl) B.int (by decide +kernel) (pa_cons (pv 1) pa_nil)) (pe_ix (r := rIxT K) ix_tup (pv 0) pe_int (fun _ _ => rfl))) (pe_ix (r := rIxT K) ix_tup (pv 0) pe_int (fun _ _ => rfl)) (nomark _))), ?_⟩
    exact ⟨_, rfl, .inl ⟨_, rfl, _, rfl, b, _, 0, .int t, rfl, rfl, .inl (.inl hb), atI_nat (j := 0) rfl, _, _, rfl, rfl, (by show 0 < t; omega), _, rfl, b, _, 1, .int x, rfl, rfl, .inl (.inl hb), atI_nat (j := 1) rfl, rfl, q _⟩⟩
end
end Md

namespace Md
open PySem PySem.Spec PyProof.Rows L2
/-- data that is laid, shown and small -/
structure Nice (d : PyData) (dep b : Nat) : Prop where
  lay : d.canLay0 = true
  show_ : d.showable = true
  nod : d.hasDict = false
  deep : d.depth ≤ dep
  leaf : d.leavesShort 32 = true
  bulk : d.bulk ≤ b
theorem Nice.more {d : PyData} {dep b dep2 b2 : Nat} (h : Nice d dep b) (e : dep ≤ dep2) (e2 : b ≤ b2) : Nice d dep2 b2 := ⟨h.lay, h.show_, h.nod, Nat.le_trans h.deep e, h.leaf, Nat.le_trans h.bulk e2⟩
structure NiceAll (ds : List PyData) (dep b : Nat) : Prop where
  lay : PyData.canLayAll0 ds = true
  show_ : PyData.showableAll ds = true
  nod : PyData.hasDictAll ds = false
  deep : PyData.depthAll ds ≤ dep
  leaf : PyData.leavesShortAll 32 ds = true
  bulk : PyData.bulkAll ds ≤ (b + 1) * ds.length
theorem nice_all {dep b : Nat} : ∀ {ds : List PyData}, (∀ d ∈ ds, Nice d dep b) → NiceAll ds dep b
  | [], _ => ⟨by simp [PyData.canLayAll0], by simp [PyData.showableAll], by simp [PyData.hasDictAll], by simp [PyData.depthAll], by simp [PyData.leavesShortAll], by simp [PyData.bulkAll]⟩
  | d :: ds, h => by
    have h1 := h d (List.mem_cons_self ..)
    have h2 := nice_all (ds := ds) fun x hx => h x (List.mem_cons_of_mem _ hx)
    refine ⟨by simp [PyData.canLayAll0, h1.lay, h2.lay], by simp [PyData.showableAll, h1.show_, h2.show_], by simp [PyData.hasDictAll, h1.nod, h2.nod], ?_, by simp [PyData.leavesShortAll, h1.leaf, h2.leaf], ?_⟩
    · unfold PyData.depthAll
      exact Nat.max_le.mpr ⟨h1.deep, h2.deep⟩
    · unfold PyData.bulkAll
      rw [List.length_cons, Nat.mul_succ]
      have a := h1.bulk
      have b := h2.bulk
      omega
theorem Nice.list {dep b : Nat} {ds : List PyData} (h : ∀ d ∈ ds, Nice d dep b) : Nice (.list ds) (dep + 1) ((b + 1) * ds.length) := by
  have a := nice_all h
  refine ⟨by simp [PyData.canLay0, a.lay], by simp [PyData.showable, a.show_], by simp [PyData.hasDict, a.nod], ?_, by simp [PyData.leavesShort, a.leaf], ?_⟩
  · unfold PyData.depth
    exact Nat.succ_le_succ a.deep
  · unfold PyData.bulk
    exact a.bulk
theorem Nice.tuple {dep b : Nat} {ds : List PyData} (h : ∀ d ∈ ds, Nice d dep b) : Nice (.tuple ds) (dep + 1) ((b + 1) * ds.length) := by
  have a := nice_all h
  refine ⟨by simp [PyData.canLay0, a.lay], by simp [PyData.showable, a.show_], by simp [PyData.hasDict, a.nod], ?_, by simp [PyData.leavesShort, a.leaf], ?_⟩
  · unfold PyData.depth
    exact Nat.succ_le_succ a.deep
  · unfold PyData.bulk
    exact a.bulk
theorem Nice.shaped {d : PyData} {dep b : Nat} (h : Nice d dep b) (e : dep ≤ 40) : SeqAt.shaped d = true := by
  unfold SeqAt.shaped
  rw [h.lay, decide_eq_true (show d.depth ≤ 64 from Nat.le_trans h.deep (by omega))]
  rfl
theorem Nice.short {d : PyData} {dep b : Nat} (h : Nice d dep b) (e : b ≤ 100000) : d.shown.length ≤ sizeLine := by
  have z := PyData.shown_le_bulk 32 (by decide) d h.leaf
  have z2 := h.bulk
  have z3 : 4000000 ≤ sizeLine := by decide
  omega
theorem nice_int {i : Int} (h0 : 0 ≤ i) (h1 : i ≤ 10 ^ 30) : Nice (.int i) 0 0 := by
  have z : i < 10 ^ 31 := by omega
  have e : (PyData.shown (.int i)).length ≤ 31 := PyProof.Rows.toString_length_le h0 (by decide) z
  refine ⟨by simp [PyData.canLay0], ?_, by simp [PyData.hasDict], by simp [PyData.depth], ?_, by simp [PyData.bulk]⟩
  · simp only [PyData.showable, decide_eq_true_eq]
    have w : i.natAbs < 2 ^ 200 := by
      have b : (10 : Nat) ^ 31 < 2 ^ 200 := by decide
      omega
    rcases Nat.eq_zero_or_pos i.natAbs with q | q
    · rw [q]
      decide
    · have l := (Nat.log2_lt (by omega)).mpr w
      omega
  · simp only [PyData.leavesShort, decide_eq_true_eq]
    omega
theorem nice_str {z : Str} (h : ∀ c ∈ z.cps.toList, c < 0x110000) (l : z.length ≤ 8) : Nice (.str z) 0 8 := by
  refine ⟨?_, by simp [PyData.showable], by simp [PyData.hasDict], by simp [PyData.depth], ?_, ?_⟩
  · simp only [PyData.canLay0]
    show z.cps.all (fun c => decide (c < 0x110000)) = true
    rw [← Array.all_toList, List.all_eq_true]
    intro c hc
    exact decide_eq_true (h c hc)
  · simp only [PyData.leavesShort, List.all_eq_true, decide_eq_true_eq]
    intro c hc
    have := h c hc
    omega
  · simp only [PyData.bulk]
    exact l
/-- a text of some letters -/
theorem name_letters {z : Str} (h : nameB z = true) : ∀ c ∈ z.cps.toList, letB c = true := by
  unfold nameB at h
  have e : (z.cps.toList.map letB).all id = true := by
    rw [Bool.and_eq_true] at h
    exact h.2
  rw [List.all_eq_true] at e
  intro c hc
  exact e _ (List.mem_map.mpr ⟨c, hc, rfl⟩)
theorem let_small {c : Nat} (h : letB c = true) : c < 0x110000 := by
  have z : c ∈ sg alphabet := of_decide_eq_true h
  have w : ∀ x ∈ sg alphabet, x < 0x110000 := by decide +kernel
  exact w c z
/-- plain things -/
def FlatV (v : V) : Prop := (∃ z : Str, v = .str z ∧ z.length ≤ 8 ∧ ∀ c ∈ z.cps.toList, c < 0x110000) ∨ ∃ i : Int, v = .int i ∧ 0 ≤ i ∧ i ≤ 10 ^ 30
def vD : V → PyData
  | .str z => .str z
  | .int i => .int i
  | _ => .none
theorem FlatV.nice {v : V} (h : FlatV v) : Nice (vD v) 0 8 := by
  rcases h with ⟨z, rfl, l, a⟩ | ⟨i, rfl, h0, h1⟩
  · exact nice_str a l
  · exact (nice_int h0 h1).more (Nat.le_refl _) (by omega)
theorem FlatV.dp {K : PySem.W.Frag} {H : Hp} {v : V} (h : FlatV v) : Dp K H v (vD v) := by
  rcases h with ⟨z, rfl, _⟩ | ⟨i, rfl, _⟩
  · exact .str z
  · exact .int i
theorem flats_dp {K : PySem.W.Frag} {H : Hp} : ∀ {r : List V}, (∀ v ∈ r, FlatV v) → DpAll K H r (r.map vD)
  | [], _ => .nil
  | v :: r, h => .cons (h v (List.mem_cons_self ..)).dp (flats_dp fun x hx => h x (List.mem_cons_of_mem _ hx))
def RowF (r : List V) : Prop := r.length ≤ 4 ∧ ∀ v ∈ r, FlatV v
def rowD (r : List V) : PyData := .tuple (r.map vD)
theorem RowF.nice {r : List V} (h : RowF r) : Nice (rowD r) 1 36 := by
  have z := Nice.tuple (ds := r.map vD) (dep := 0) (b := 8) fun d hd => by
    obtain ⟨v, hv, e⟩ := List.mem_map.mp hd
    rw [← e]
    exact (h.2 v hv).nice
  refine z.more (Nat.le_refl _) ?_
  rw [List.length_map]
  have := h.1
  omega
theorem rows_nice {rs : List (List V)} (h : ∀ r ∈ rs, RowF r) : Nice (.list (rs.map rowD)) 2 (37 * rs.length) := by
  have z := Nice.list (ds := rs.map rowD) (dep := 1) (b := 36) fun d hd => by
    obtain ⟨r, hr, e⟩ := List.mem_map.mp hd
    rw [← e]
    exact (h r hr).nice
  rw [List.length_map] at z
  exact z
theorem rows_dpAll {K : PySem.W.Frag} {H : Hp} : ∀ {as : List Addr} {rs : List (List V)}, Paired (fun b r => H b = some (.tup r)) as rs → (∀ r ∈ rs, RowF r) → DpAll K H (as.map V.ref) (rs.map rowD)
  | _, _, .nil, _ => .nil
  | _, _, .cons h t, f => .cons (.tup (.inl (.inl h)) (flats_dp (f _ (List.mem_cons_self ..)).2)) (rows_dpAll t fun x hx => f x (List.mem_cons_of_mem _ hx))
theorem rows_dp {K : PySem.W.Frag} {H : Hp} {a : Addr} {rs : List (List V)} (h : Rows H a rs) (f : ∀ r ∈ rs, RowF r) : Dp K H (.ref a) (.list (rs.map rowD)) := by
  obtain ⟨as, h1, h2⟩ := h
  exact .lst (.inl (.inl h1)) (rows_dpAll h2 f)
theorem name_flat {z : Str} (h : nameB z = true) (l : z.length ≤ 8) : FlatV (.str z) := .inl ⟨z, rfl, l, fun c hc => let_small (name_letters h c hc)⟩
theorem strs_dp {K : PySem.W.Frag} {H : Hp} : ∀ zs : List Str, DpAll K H (zs.map V.str) (zs.map PyData.str)
  | [] => .nil
  | z :: zs => .cons (.str z) (strs_dp zs)
theorem names_nice {zs : List Str} (h : ∀ z ∈ zs, nameB z = true ∧ z.length ≤ 8) : Nice (.list (zs.map PyData.str)) 1 (9 * zs.length) := by
  have z := Nice.list (ds := zs.map PyData.str) (dep := 0) (b := 8) fun d hd => by
    obtain ⟨z, hz, e⟩ := List.mem_map.mp hd
    rw [← e]
    exact (name_flat (h z hz).1 (h z hz).2).nice
  rw [List.length_map] at z
  exact z
theorem TownB.flat {r : List V} (h : TownB r) : RowF r := by
  obtain ⟨z, lo, hi, rfl, a, b, c, d, e⟩ := h
  refine ⟨by simp, fun v hv => ?_⟩
  have q : v = .str z ∨ v = .int lo ∨ v = .int hi := by simpa using hv
  rcases q with rfl | rfl | rfl
  · exact name_flat a b
  · exact .inr ⟨lo, rfl, by omega, by omega⟩
  · exact .inr ⟨hi, rfl, by omega, by omega⟩
theorem kind_flat {kind : Str} (h : (kind = "market" ∨ kind = "none") ∨ kind = "one" ∨ kind = "same") : FlatV (.str kind) := by
  have w : ∀ s : Str, s.length ≤ 8 → (∀ c ∈ s.cps.toList, c < 0x110000) → FlatV (.str s) := fun s a b => .inl ⟨s, rfl, a, b⟩
  rcases h with (rfl | rfl) | rfl | rfl
  · exact w _ (by decide +kernel) (by decide +kernel)
  · exact w _ (by decide +kernel) (by decide +kernel)
  · exact w _ (by decide +kernel) (by decide +kernel)
  · exact w _ (by decide +kernel) (by decide +kernel)
theorem NoteR.flat {ns : List Str} {r : List V} (g : ∀ z ∈ ns, nameB z = true ∧ z.length ≤ 8) (h : NoteR ns r) : RowF r := by
  rcases h with ⟨kind, z, day, rfl, hk, hz, d0, d1⟩ | ⟨kind, y, z, day, rfl, hk, hy, hz, hyz, d0, d1⟩
  · refine ⟨by simp, fun v hv => ?_⟩
    have q : v = .str kind ∨ v = .str z ∨ v = .int day := by simpa using hv
    rcases q with rfl | rfl | rfl
    · exact kind_flat (.inl hk)
    · exact name_flat (g z hz).1 (g z hz).2
    · exact .inr ⟨day, rfl, d0, d1⟩
  · refine ⟨by simp, fun v hv => ?_⟩
    have q : v = .str kind ∨ v = .str y ∨ v = .str z ∨ v = .int day := by simpa using hv
    rcases q with rfl | rfl | rfl | rfl
    · exact kind_flat (.inr hk)
    · exact name_flat (g y hy).1 (g y hy).2
    · exact name_flat (g z hz).1 (g z hz).2
    · exact .inr ⟨day, rfl, d0, d1⟩
theorem towns_names {rs : List (List V)} (h : ∀ r ∈ rs, TownB r) : ∀ z ∈ rs.map nameOf, nameB z = true ∧ z.length ≤ 8 := by
  intro z hz
  obtain ⟨r, hr, e⟩ := List.mem_map.mp hz
  obtain ⟨y, lo, hi, er, a, b, _⟩ := h r hr
  subst er
  subst e
  exact ⟨a, b⟩
end Md

namespace Md
open PySem PySem.Spec PyProof.Rows L2
abbrev sEntry : Stmt := top 27
/-- what a note is drawn from -/
structure Ent (H : Hp) (a b e : Addr) (rs : List (List V)) (is : List Int) (ps : List (List V)) (m : Nat) : Prop where
  rows : Rows H a rs
  towns : TownsB rs m
  ends : H b = some (.lst (is.map V.int))
  pair : PairI is m
  picks : Rows H e ps
  lp : ps.length = m
  good : ∀ r ∈ ps, PickR r
section
variable {H H' : Hp} {a b e p : Addr} {rs ps : List (List V)} {is : List Int} {m c i : Nat}
theorem Ent.keep (E : Ent H a b e rs is ps m) (hp : PurseAt H p c) (k : Keep p H H') : Ent H' a b e rs is ps m := by
  refine ⟨E.rows.keep hp k, E.towns, k _ _ E.ends fun z => ?_, E.pair, E.picks.keep hp k, E.lp, E.good⟩
  obtain ⟨x, y, w, e1, _⟩ := hp
  have q := E.ends
  rw [z, e1] at q
  rcases E.pair with rfl | ⟨u, v, rfl, _⟩
  · cases q
  · cases q
theorem Ent.new {q : Addr} {o : HO} (E : Ent H a b e rs is ps m) (n : H q = none) : Ent (upd H q o) a b e rs is ps m :=
  ⟨E.rows.new n, E.towns, by rw [upd_ne (ne_of_none E.ends n)]; exact E.ends, E.pair, E.picks.new n, E.lp, E.good⟩
theorem Ent.town (E : Ent H a b e rs is ps m) (hi : i < m) : ∃ (as : List Addr) (t : Addr) (z : Str) (lo hi : Int), H a = some (.lst (as.map V.ref)) ∧ as.length = m ∧ (as.map V.ref)[i]? = some (.ref t) ∧ H t = some (.tup [.str z, .int lo, .int hi]) ∧ (rs.map nameOf)[i]? = some z := by
  obtain ⟨as, h1, h2⟩ := E.rows
  have l := E.towns.1
  have hl : i < rs.length := by omega
  obtain ⟨t, ht, hb⟩ := paired_get h2 i rs[i] (List.getElem?_eq_getElem hl)
  obtain ⟨z, lo, hi, er, _⟩ := E.towns.2.2 rs[i] (List.getElem_mem hl)
  refine ⟨as, t, z, lo, hi, h1, by rw [paired_len h2, l], by rw [List.getElem?_map, ht]; rfl, by rw [← er]; exact hb, ?_⟩
  rw [List.getElem?_map, List.getElem?_eq_getElem hl, er]
  rfl
theorem Ent.pick (E : Ent H a b e rs is ps m) (hi : i < m) : ∃ (es : List Addr) (u : Addr) (r : List V), H e = some (.lst (es.map V.ref)) ∧ (es.map V.ref)[i]? = some (.ref u) ∧ H u = some (.tup r) ∧ PickR r := by
  obtain ⟨es, h1, h2⟩ := E.picks
  have l := E.lp
  have hl : i < ps.length := by omega
  obtain ⟨t, ht, hb⟩ := paired_get h2 i ps[i] (List.getElem?_eq_getElem hl)
  exact ⟨es, t, ps[i], h1, by rw [List.getElem?_map, ht]; rfl, hb, E.good _ (List.getElem_mem hl)⟩
end
section
variable {P : Program} {w : World} {K : PySem.W.Frag} {mg : Str → Option Value} {base : Heap}
def spEntry : Sp := fun vs H Q _ => ∃ (p a b e : Addr) (c m : Nat) (rs : List (List V)) (is : List Int) (ps : List (List V)), vs = [.ref p, .ref a, .ref b, .ref e, .bl false] ∧ PurseAt H p c ∧ c ≤ 980000 ∧ 1 ≤ m ∧ m ≤ 20 ∧ Ent H a b e rs is ps m ∧
  ∀ r q H', NoteR (rs.map nameOf) r → H q = none → H' q = some (.tup r) → PurseAt H' p (c + 10) → Keep p H H' → Q (.ref q) H'
abbrev nEntry : List Str := ["purse", "places", "pair", "picks", "is_true", "moment", "rank", "here", "turned", "ends"]
theorem scEntry : FnScope nEntry ["purse", "places", "pair", "picks", "is_true"] (defScope sEntry) := ⟨rfl, rfl, rfl, by decide +kernel, rfl, by decide +kernel, by decide +kernel⟩
abbrev es (p a b e : Addr) (mo : Int) (rk : Nat) (he tu : Bool) (v9 : Option V) : L2.St := [some (.ref p), some (.ref a), some (.ref b), some (.ref e), some (.bl false), some (.int mo), some (.int rk), some (.bl he), some (.bl tu), v9]
theorem ok_entry {f fC fM fK : Addr} {fd fdC fdM fdK : FuncData} {k : Nat} (F : Fun K "_law_mk_entry" "_law_mk_entry" sEntry f fd) (C : CoinAt P w K mg base fC fdC) (M : DefAt P w K mg base "_law_mk_moment" fM fdM ["purse"] 2 spMoment)
    (Mk : DefAt P w K mg base "_law_mk_market" fK fdK ["pick", "moment"] 1 spMarket) (B : Blt mg) : FnOk P w K mg base CX0 (k + 3) f fd ["purse", "places", "pair", "picks", "is_true"] spEntry := by
  have GC := C.ok (k + 1)
  have GM := M.ok k
  have GK := Mk.ok (k + 1)
  refine F.ok scEntry (fun vs H Q E h => ?_) (fun cdv A outer s H vs Q E hr h => ?_)
  · obtain ⟨p, a, b, e, c, m, rs, is, ps, rfl, _⟩ := h
    rfl
  · obtain ⟨p, a, b, e, c, m, rs, is, ps, rfl, hp, hc, hm1, hm, EN, q⟩ := h
    have nd := scEntry.nd
    refine ⟨_, pss_cons (ps_par (i := 5) (j := 6) rfl nd rfl rfl (by decide) rfl rfl (pa_cons (pe_call GM hr (by rfl) M.mg M.kp M.b .nil pass0 (pa_cons (pv 0) pa_nil))
        (pa_cons (pe_call GC hr (by rfl) C.mg C.kp C.b .nil pass0 (pa_cons (pv 0) (pa_cons (pe_callB call_len_seq (by rfl) B.len PySem.boot_len (pa_cons (pv 1) pa_nil)) pa_nil))) pa_nil)) (by rfl))
      (pss_cons (ps_set (i := 7) nd rfl (.inl rfl) (pe_call GK hr (by rfl) Mk.mg Mk.kp Mk.b .nil pass0 (pa_cons (pe_ix ix_list (pv 3) (pv 6) (fun _ _ => rfl)) (pa_cons (pv 5) pa_nil))))
      (pss_cons (ps_set (i := 8) nd rfl (.inl rfl) (pe_and (pe_not (pv 4)) (pe_one (pe_cmpR op_eq (pe_call GC hr (by rfl) C.mg C.kp C.b .nil pass0 (pa_cons (pv 0) (pa_cons pe_int pa_nil))) pe_int (nomark _)))))
      (C8.pss_cut (ps_if (PW.pt (pw_and (pt_cmpR (op_neD hr.units) (pv 2) (pe_lst pa_nil) (nomark _)) (pw_and1 (pt_cmpR op_eq (pe_call GC hr (by rfl) C.mg C.kp C.b .nil pass0 (pa_cons (pv 0) (pa_cons pe_int pa_nil))) pe_int (nomark _)))))
        (C8.pss_cut (ps_set (i := 9) nd rfl (.inl rfl) (pe_ifExp (pt_cmpR op_eq (pe_call GC hr (by rfl) C.mg C.kp C.b .nil pass0 (pa_cons (pv 0) (pa_cons pe_int pa_nil))) pe_int (nomark _)) (pe_revL (pv 2)) (pv 2)))
        (pss_cons (ps_set (i := 7) nd rfl (.inl rfl) (pe_cmpR op_eq
            (pe_call GK hr (by rfl) Mk.mg Mk.kp Mk.b .nil pass0 (pa_cons (pe_ix ix_list (pv 3) (pe_ix ix_list (pv 9) pe_int (fun _ _ => rfl)) (fun _ _ => rfl)) (pa_cons (pv 5) pa_nil)))
            (pe_call GK hr (by rfl) Mk.mg Mk.kp Mk.b .nil pass0 (pa_cons (pe_ix ix_list (pv 3) (pe_ix ix_list (pv 9) pe_int (fun _ _ => rfl)) (fun _ _ => rfl)) (pa_cons (pv 5) pa_nil))) (nomark _)))
        (pss_one (ps_ret (pe_tup (pa_cons (pe_ix ix_list (pe_lst (pa_cons pe_str (pa_cons pe_str pa_nil))) (pe_callTy call_int1 (by rfl) B.int (by decide +kernel) (pa_cons (pe_cmpR op_ne (pv 7) (pv 8) (nomark _)) pa_nil)) (fun _ _ => rfl))
          (pa_cons (pe_ix (r := rIxT K) ix_tup (pe_ix ix_list (pv 1) (pe_ix ix_list (pv 9) pe_int (fun _ _ => rfl)) (fun _ _ => rfl)) pe_int (fun _ _ => rfl))
          (pa_cons (pe_ix (r := rIxT K) ix_tup (pe_ix ix_list (pv 1) (pe_ix ix_list (pv 9) pe_int (fun _ _ => rfl)) (fun _ _ => rfl)) pe_int (fun _ _ => rfl))
          (pa_cons (pv 5) pa_nil))))))))) pss_nil)
      (pss_one (ps_ret (pe_tup (pa_cons (pe_ix ix_list (pe_lst (pa_cons pe_str (pa_cons pe_str pa_nil))) (pe_callTy call_int1 (by rfl) B.int (by decide +kernel) (pa_cons (pe_cmpR op_ne (pv 7) (pv 8) (nomark _)) pa_nil)) (fun _ _ => rfl))
          (pa_cons (pe_ix (r := rIxT K) ix_tup (pe_ix ix_list (pv 1) (pv 6) (fun _ _ => rfl)) pe_int (fun _ _ => rfl))
          (pa_cons (pv 5) pa_nil))))))))), ?_⟩
    -- moment, rank
    refine ⟨_, rfl, p, c, rfl, hp, by omega, fun mo G1 m0 m1 hp1 k1 => ?_⟩
    have E1 := EN.keep hp k1
    obtain ⟨as1, t1, z1, lo1, hi1, hA1, la1, _⟩ := E1.town (i := 0) (by omega)
    have lm1 : (as1.map V.ref).length = m := by rw [List.length_map, la1]
    refine ⟨_, rfl, _, rfl, a, _, rfl, .inl (.inl (.inl hA1)), p, _, _, rfl, hp1, by omega, by omega, by omega, fun rank G2 r0 r1 hp2 k2 => ⟨_, _, rfl, ?_⟩⟩
    have E2 := E1.keep hp1 k2
    have k12 := k1.trans k2
    obtain ⟨rk, rfl⟩ : ∃ n : Nat, rank = n := ⟨rank.toNat, by omega⟩
    have hrk : rk < m := by omega
    -- here
    obtain ⟨es2, u2, r2, hE2, gu2, hu2, pr2⟩ := E2.pick hrk
    refine ⟨_, rfl, _, rfl, e, _, _, _, rfl, rfl, .inl (.inl hE2), atI_nat gu2, _, rfl, u2, r2, mo, rfl, hu2, pr2, fun he => ?_⟩
    -- turned
    refine ⟨_, rfl, _, rfl, _, rfl, iteT ⟨_, rfl, p, _, 2, rfl, hp2, by omega, by decide, by decide, fun d G3 d0 d1 hp3 k3 => ⟨rfl, ?_⟩⟩⟩
    have E3 := E2.keep hp2 k3
    have k123 := k12.trans k3
    generalize decide (V.int d = V.int 0) = tu
    refine ⟨fun sl G => sl = es p a b e mo rk he tu none ∧ Ent G a b e rs is ps m ∧ PurseAt G p (c + 6) ∧ Keep p H G, ?_, ?_⟩
    · refine ⟨_, rfl, Nat.zero_le _, fun L nL => ?_⟩
      have E4 := E3.new nL (o := .lst [])
      have hp4 := hp3.new nL (o := .lst [])
      have k4 := k123.new nL (o := .lst [])
      rcases EN.pair with rfl | ⟨x, y, rfl, hx, hy, xy⟩
      · refine ⟨.list [], .list [], .lst (.inl (.inl E4.ends)) .nil, .lst (.inl (.inl upd_same)) .nil, by rfl, by rfl, _, rfl, iteF (iteF ⟨rfl, E4, hp4.more (by omega), k4⟩)⟩
      · refine ⟨.list [.int x, .int y], .list [], .lst (.inl (.inl E4.ends)) (.cons (.int _) (.cons (.int _) .nil)), .lst (.inl (.inl upd_same)) .nil, by rfl, by rfl, _, rfl, iteT ?_⟩
        refine ⟨_, rfl, p, _, 3, rfl, hp4, by omega, by decide, by decide, fun d2 G5 d0 d1 hp5 k5 => ⟨rfl, _, rfl, ite2 (fun _ => ?_) (fun _ => ⟨rfl, E4.keep hp4 k5, hp5.more (by omega), k4.trans k5⟩)⟩⟩
        have E5 := E4.keep hp4 k5
        have k45 := k4.trans k5
        refine ⟨fun sl G => ∃ (E9 : Addr) (u v : Nat), sl = es p a b e mo rk he tu (some (.ref E9)) ∧ G E9 = some (.lst [.int u, .int v]) ∧ u < m ∧ v < m ∧ u ≠ v ∧ Ent G a b e rs [x, y] ps m ∧ PurseAt G p (c + 6) ∧ Keep p H G, ?_, ?_⟩
        · refine ⟨_, rfl, p, _, 2, rfl, hp5, by omega, by decide, by decide, fun d3 G6 d0 d1 hp6 k6 => ⟨rfl, _, rfl, ite2 (fun _ => ?_) (fun _ => ?_)⟩⟩
          · have E6 := E5.keep hp5 k6
            exact ⟨_, rfl, b, _, rfl, .inl (.inl E6.ends), fun R nR => ⟨R, y, x, rfl, upd_same, hy, hx, fun z => xy z.symm, E6.new nR, (hp6.new nR).more (by omega), (k45.trans k6).new nR⟩⟩
          · have E6 := E5.keep hp5 k6
            exact ⟨_, rfl, b, x, y, rfl, E6.ends, hx, hy, xy, E6, hp6.more (by omega), k45.trans k6⟩
        · rintro sl G ⟨E9, u, v, rfl, h9, hu, hv, uv, E6, hp6, k6⟩
          obtain ⟨es6, b6, r6, hE6, g6, hb6, pr6⟩ := E6.pick hu
          obtain ⟨es7, b7, r7, hE7, g7, hb7, pr7⟩ := E6.pick hv
          refine ⟨_, rfl, _, rfl, E9, _, 0, .int u, rfl, rfl, .inl (.inl h9), atI_nat (j := 0) rfl, e, _, _, _, rfl, rfl, .inl (.inl hE6), atI_nat g6, _, rfl, b6, r6, mo, rfl, hb6, pr6, fun y1 => ?_⟩
          refine ⟨_, rfl, _, rfl, E9, _, 1, .int v, rfl, rfl, .inl (.inl h9), atI_nat (j := 1) rfl, e, _, _, _, rfl, rfl, .inl (.inl hE7), atI_nat g7, _, rfl, b7, r7, mo, rfl, hb7, pr7, fun y2 => ⟨rfl, ?_⟩⟩
          generalize decide (V.bl y1 = V.bl y2) = h2
          refine ⟨by show 2 ≤ sizeLine; decide, fun L2 nL2 => ⟨_, rfl, _, rfl, rfl, .inr ⟨_, rfl, ?_⟩⟩⟩
          generalize (!decide (V.bl h2 = V.bl tu)) = bb
          obtain ⟨kind, hk, ek⟩ : ∃ kind : Str, atI [V.str "one", V.str "same"] (if bb = true then 1 else 0) = some (.str kind) ∧ (kind = "one" ∨ kind = "same") := by
            cases bb
            · exact ⟨_, atI_nat (j := 0) rfl, .inl rfl⟩
            · exact ⟨_, atI_nat (j := 1) rfl, .inr rfl⟩
          have E8 := E6.new nL2 (o := .lst [.str "one", .str "same"])
          have hp8 := hp6.new nL2 (o := .lst [.str "one", .str "same"])
          have k8 := k6.new nL2 (o := .lst [.str "one", .str "same"])
          have h98 : upd G L2 (.lst [.str "one", .str "same"]) E9 = some (.lst [.int u, .int v]) := by
            rw [upd_ne (ne_of_none h9 nL2)]
            exact h9
          obtain ⟨as8, t8, z8, lo8, hi8, hA8, la8, gt8, ht8, gz8⟩ := E8.town hu
          obtain ⟨as9, t9, z9, lo9, hi9, hA9, la9, gt9, ht9, gz9⟩ := E8.town hv
          refine ⟨L2, _, _, _, rfl, rfl, .inl (.inl upd_same), hk, ?_⟩
          refine ⟨_, rfl, _, rfl, E9, _, 0, .int u, rfl, rfl, .inl (.inl h98), atI_nat (j := 0) rfl, a, _, _, _, rfl, rfl, .inl (.inl hA8), atI_nat gt8, t8, _, 0, .str z8, rfl, rfl, .inl (.inl ht8), atI_nat (j := 0) rfl, ?_⟩
          refine ⟨_, rfl, _, rfl, E9, _, 1, .int v, rfl, rfl, .inl (.inl h98), atI_nat (j := 1) rfl, a, _, _, _, rfl, rfl, .inl (.inl hA9), atI_nat gt9, t9, _, 0, .str z9, rfl, rfl, .inl (.inl ht9), atI_nat (j := 0) rfl, ?_⟩
          refine ⟨_, rfl, by show 4 ≤ sizeLine; decide, fun T nT => ?_⟩
          refine q [.str kind, .str z8, .str z9, .int mo] T _ (.inr ⟨kind, z8, z9, mo, rfl, ek, List.mem_of_getElem? gz8, List.mem_of_getElem? gz9, ?_, m0, m1⟩) (k8.fresh hp8 nT) upd_same ((hp8.new nT).more (by omega)) (k8.new nT)
          intro ez
          rw [ez] at gz8
          have l := EN.towns.1
          exact uv ((List.getElem?_inj (by rw [List.length_map]; omega) EN.towns.2.1).mp (gz8.trans gz9.symm))
    · rintro sl G ⟨rfl, E6, hp6, k6⟩
      refine ⟨by show 2 ≤ sizeLine; decide, fun L2 nL2 => ⟨_, rfl, _, rfl, rfl, .inr ⟨_, rfl, ?_⟩⟩⟩
      generalize (!decide (V.bl he = V.bl tu)) = bb
      obtain ⟨kind, hk, ek⟩ : ∃ kind : Str, atI [V.str "none", V.str "market"] (if bb = true then 1 else 0) = some (.str kind) ∧ (kind = "market" ∨ kind = "none") := by
        cases bb
        · exact ⟨_, atI_nat (j := 0) rfl, .inr rfl⟩
        · exact ⟨_, atI_nat (j := 1) rfl, .inl rfl⟩
      have E8 := E6.new nL2 (o := .lst [.str "none", .str "market"])
      have hp8 := hp6.new nL2 (o := .lst [.str "none", .str "market"])
      have k8 := k6.new nL2 (o := .lst [.str "none", .str "market"])
      obtain ⟨as8, t8, z8, lo8, hi8, hA8, la8, gt8, ht8, gz8⟩ := E8.town hrk
      refine ⟨L2, _, _, _, rfl, rfl, .inl (.inl upd_same), hk, ?_⟩
      refine ⟨_, rfl, _, rfl, a, _, _, _, rfl, rfl, .inl (.inl hA8), atI_nat gt8, t8, _, 0, .str z8, rfl, rfl, .inl (.inl ht8), atI_nat (j := 0) rfl, ?_⟩
      refine ⟨_, rfl, by show 3 ≤ sizeLine; decide, fun T nT => ?_⟩
      exact q [.str kind, .str z8, .int mo] T _ (.inl ⟨kind, z8, mo, rfl, ek, List.mem_of_getElem? gz8, m0, m1⟩) (k8.fresh hp8 nT) upd_same ((hp8.new nT).more (by omega)) (k8.new nT)
end
end Md

namespace Md
open PySem PySem.Spec PyProof.Rows L2
abbrev sWide : Stmt := top 28
theorem Rows.put {G : Hp} {a F : Addr} {rs : List (List V)} {xs : List V} {o : HO} (h : Rows G a rs) (hF : G F = some (.lst xs)) (ne : a ≠ F) : Rows (upd G F o) a rs := by
  obtain ⟨as, h1, h2⟩ := h
  refine ⟨as, by rw [upd_ne ne]; exact h1, paired_imp h2 fun b r z => ?_⟩
  rw [upd_ne fun e => by rw [e, hF] at z; cases z]
  exact z
/-- a drawn sheet -/
structure Sheet (ts ns : List (List V)) : Prop where
  towns : ∀ r ∈ ts, TownB r
  nodup : (ts.map nameOf).Nodup
  notes : ∀ r ∈ ns, NoteR (ts.map nameOf) r
  few : ts.length ≤ 20
  few2 : ns.length ≤ 60
section
variable {P : Program} {w : World} {K : PySem.W.Frag} {mg : Str → Option Value} {base : Heap}
def spWide : Sp := fun vs H Q _ => ∃ (p : Addr) (c : Nat), vs = [.ref p] ∧ PurseAt H p c ∧ c ≤ 800000 ∧
  ∀ (ts ns : List (List V)) q a b H', Sheet ts ns → H q = none → H' q = some (.tup [.ref a, .ref b]) → Rows H' a ts → Rows H' b ns → PurseAt H' p (c + 3000) → Keep p H H' → Q (.ref q) H'
abbrev nWide : List Str := ["purse", "places", "picks", "entries", "turn", "pair"]
theorem scWide : FnScope nWide ["purse"] (defScope sWide) := ⟨rfl, rfl, rfl, by decide +kernel, rfl, by decide +kernel, by decide +kernel⟩
theorem ok_wide {f fC fL fP fI fE : Addr} {fd fdC fdL fdP fdI fdE : FuncData} {k : Nat} (F : Fun K "_law_mk_wide" "_law_mk_wide" sWide f fd) (C : CoinAt P w K mg base fC fdC) (PL : DefAt P w K mg base "_law_mk_places" fL fdL ["purse", "count", "top"] 3 spPlaces)
    (PK : DefAt P w K mg base "_law_mk_picks" fP fdP ["purse", "places"] 2 spPicks) (PR : DefAt P w K mg base "_law_mk_pair" fI fdI ["purse", "places"] 2 spPair) (EN : DefAt P w K mg base "_law_mk_entry" fE fdE ["purse", "places", "pair", "picks", "is_true"] 3 spEntry) (B : Blt mg) :
    FnOk P w K mg base CX0 (k + 4) f fd ["purse"] spWide := by
  have GC := C.ok (k + 2)
  have GL := PL.ok k
  have GP := PK.ok (k + 1)
  have GI := PR.ok (k + 1)
  have GE := EN.ok k
  refine F.ok scWide (fun vs H Q E h => ?_) (fun cdv A outer s H vs Q E hr h => ?_)
  · obtain ⟨p, c, rfl, _⟩ := h
    rfl
  · obtain ⟨p, c, rfl, hp, hc, q⟩ := h
    have nd := scWide.nd
    refine ⟨_, pss_cons (ps_set (i := 1) nd rfl (.inl rfl) (pe_call GL hr (by rfl) PL.mg PL.kp PL.b .nil pass0 (pa_cons (pv 0) (pa_cons (pe_call GC hr (by rfl) C.mg C.kp C.b .nil pass0 (pa_cons (pv 0) (pa_cons pe_int pa_nil)))
        (pa_cons (pe_ix ix_list (pe_lst (pa_cons pe_int (pa_cons (pe_op op_pow pe_int pe_int) pa_nil))) (pe_call GC hr (by rfl) C.mg C.kp C.b .nil pass0 (pa_cons (pv 0) (pa_cons pe_int pa_nil))) (fun _ _ => rfl)) pa_nil)))))
      (pss_cons (ps_if (pt_cmpR (op_eqD hr.units) (pv 1) (pe_lst pa_nil) (nomark _)) (pss_one (ps_ret (pe_tup (pa_cons (pe_lst pa_nil) (pa_cons (pe_lst pa_nil) pa_nil))))) pss_nil)
      (pss_cons (ps_par (i := 2) (j := 3) rfl nd rfl rfl (by decide) rfl rfl (pa_cons (pe_call GP hr (by rfl) PK.mg PK.kp PK.b .nil pass0 (pa_cons (pv 0) (pa_cons (pv 1) pa_nil))) (pa_cons (pe_lst pa_nil) pa_nil)) (by rfl))
      (pss_cons (ps_for PassesOwn.never rfl (pi_range1 rfl B.range (pa_cons (pe_call GC hr (by rfl) C.mg C.kp C.b .nil pass0 (pa_cons (pv 0) (pa_cons (pe_ix ix_list (pe_lst (pa_cons pe_int (pa_cons pe_int pa_nil))) (pe_call GC hr (by rfl) C.mg C.kp C.b .nil pass0 (pa_cons (pv 0) (pa_cons pe_int pa_nil))) (fun _ _ => rfl)) pa_nil))) pa_nil)) (pg_name (i := 4) nd rfl (.inl rfl))
        (pss_cons (ps_set (i := 5) nd rfl (.inl rfl) (pe_call GI hr (by rfl) PR.mg PR.kp PR.b .nil pass0 (pa_cons (pv 0) (pa_cons (pv 1) pa_nil))))
        (pss_one (ps_expr (pe_bm PySem.F.plainAttrs_list PySem.F.slot_list_append PySem.F.type_list_append mt_append (pv 3) (pa_cons (pe_call GE hr (by rfl) EN.mg EN.kp EN.b .nil pass0 (pa_cons (pv 0) (pa_cons (pv 1) (pa_cons (pv 5) (pa_cons (pv 2) (pa_cons pe_bl pa_nil)))))) pa_nil))))))
      (pss_one (ps_ret (pe_tup (pa_cons (pv 1) (pa_cons (pv 3) pa_nil)))))))), ?_⟩
    refine ⟨_, rfl, _, rfl, p, c, 21, rfl, hp, by omega, by decide, by decide, fun m G1 m0 m1 hp1 k1 => ?_⟩
    obtain ⟨m, rfl⟩ : ∃ n : Nat, m = n := ⟨m.toNat, by omega⟩
    refine ⟨_, _, rfl, rfl, ⟨by decide, by decide, by decide⟩, by show 2 ≤ sizeLine; decide, fun L nL => ⟨_, rfl, p, _, 2, rfl, hp1.new nL, by omega, by decide, by decide, fun d G2 d0 d1 hp2 k2 => ?_⟩⟩
    obtain ⟨t, ht, t1, t2⟩ : ∃ t : Int, atI [V.int 8, V.int (10 ^ 6)] d = some (.int t) ∧ 1 ≤ t ∧ t ≤ 10 ^ 6 := by
      have d01 : d = 0 ∨ d = 1 := by omega
      rcases d01 with rfl | rfl
      · exact ⟨_, atI_nat (j := 0) rfl, by decide, by decide⟩
      · exact ⟨_, atI_nat (j := 1) rfl, by decide, by decide⟩
    have kk := (k1.new nL).trans k2
    refine ⟨L, _, d, _, rfl, rfl, .inl (.inl (k2 _ _ upd_same (hp1.ne_new nL))), ht, p, _, m, t, rfl, hp2, by omega, by omega, t1, t2, fun ts a G3 tT na3 hA hp3 k3 => ?_⟩
    have fa := kk.fresh hp2 na3
    have k4 := kk.trans k3
    have flat : ∀ r ∈ ts, RowF r := fun r hr => (tT.2.2 r hr).flat
    have few := tT.1
    -- none
    refine ⟨_, rfl, Nat.zero_le _, fun N nN => ⟨.list (ts.map rowD), .list [], rows_dp (hA.new nN) flat, .lst (.inl (.inl upd_same)) .nil, (rows_nice flat).shaped (by decide), by rfl, _, rfl, ite2 (fun e => ?_) (fun e => ?_)⟩⟩
    · have hp5 := hp3.new nN (o := .lst [])
      have k5 := k4.new nN (o := .lst [])
      refine ⟨Nat.zero_le _, fun a1 n1 => ⟨Nat.zero_le _, fun a2 n2 => ⟨by show 2 ≤ sizeLine; decide, fun T nT => ?_⟩⟩⟩
      have k8 := ((k5.new n1).new n2).new nT (o := .tup [.ref a1, .ref a2])
      have hp8 := ((hp5.new n1).new n2).new nT (o := .tup [.ref a1, .ref a2])
      refine q [] [] T a1 a2 _ ⟨(fun r hr => by cases hr), .nil, (fun r hr => by cases hr), by decide, by decide⟩ (((k5.new n1).new n2).fresh ((hp5.new n1).new n2) nT) upd_same ?_ ?_ (hp8.more (by omega)) k8
      · exact (Rows.new (Rows.new ⟨[], upd_same, .nil⟩ n2) nT)
      · exact Rows.new ⟨[], upd_same, .nil⟩ nT
    · have m1' : 1 ≤ m := by
        cases ts with
        | nil => exact absurd rfl e
        | cons r rs =>
          rw [List.length_cons] at few
          omega
      have hp5 := hp3.new nN (o := .lst [])
      have k5 := k4.new nN (o := .lst [])
      have hA5 := hA.new nN (o := .lst [])
      refine ⟨_, rfl, _, rfl, p, a, _, m, ts, rfl, hp5, by omega, by omega, hA5, tT, fun ps e G6 lp good ne hE hp6 k6 => ⟨Nat.zero_le _, fun F0 nF0 => ⟨_, _, rfl, ?_⟩⟩⟩
      have hA6 := hA5.keep hp5 k6
      have k56 := k5.trans k6
      have w0 := Work.start hp6 k56 nF0
      have hA7 := hA6.new nF0 (o := .lst [])
      have hE7 := hE.new nF0 (o := .lst [])
      have aF : a ≠ F0 := by
        obtain ⟨as, h, _⟩ := hA6
        exact ne_of_none h nF0
      have eF : e ≠ F0 := by
        obtain ⟨as, h, _⟩ := hE
        exact ne_of_none h nF0
      -- how many
      refine ⟨_, rfl, by show 2 ≤ sizeLine; decide, fun L2 nL2 => ⟨_, rfl, p, _, 2, rfl, w0.purse.new nL2, by omega, by decide, by decide, fun d2 G8 d0 d1 hp8 k8 => ?_⟩⟩
      obtain ⟨t2, ht2, t21, t22⟩ : ∃ t : Int, atI [V.int 7, V.int 61] d2 = some (.int t) ∧ 1 ≤ t ∧ t ≤ 61 := by
        have d01 : d2 = 0 ∨ d2 = 1 := by omega
        rcases d01 with rfl | rfl
        · exact ⟨_, atI_nat (j := 0) rfl, by decide, by decide⟩
        · exact ⟨_, atI_nat (j := 1) rfl, by decide, by decide⟩
      have w8 := (w0.new nL2 (o := .lst [.int 7, .int 61])).step hp8 k8
      have hA8 := (hA7.new nL2 (o := .lst [.int 7, .int 61])).keep (w0.purse.new nL2) k8
      have hE8 := (hE7.new nL2 (o := .lst [.int 7, .int 61])).keep (w0.purse.new nL2) k8
      refine ⟨L2, _, d2, _, rfl, rfl, .inl (.inl (k8 _ _ upd_same (w0.purse.ne_new nL2))), ht2, p, _, t2, rfl, hp8, by omega, t21, by omega, fun j G9 j0 j1 hp9 k9 => ?_⟩
      have w9 := w8.step hp9 k9
      have hA9 := hA8.keep hp8 k9
      have hE9 := hE8.keep hp8 k9
      obtain ⟨j, rfl⟩ : ∃ n : Nat, j = n := ⟨j.toNat, by omega⟩
      refine ⟨(j : Int), rfl, by omega, by omega, ?_⟩
      refine for_range (lo := 0) (n := j) (fun i sl G => ∃ (ns : List (List V)) (v4 v5 : Option V), sl = [some (.ref p), some (.ref a), some (.ref e), some (.ref F0), v4, v5] ∧
        (∀ r ∈ ns, NoteR (ts.map nameOf) r) ∧ ns.length = i ∧ Rows G a ts ∧ Rows G e ps ∧ Work H G p F0 (c + 600 + 13 * i) ns) ⟨[], none, none, rfl, (fun r hr => by cases hr), rfl, hA9, hE9, w9.more (by omega)⟩ ?_ ?_
      · rintro i sl G hi ⟨ns, v4, v5, rfl, gn, ln, hA10, hE10, w10⟩
        have hA10' := hA10
        obtain ⟨as, hAs, hPs⟩ := hA10'
        refine ⟨_, rfl, _, rfl, p, a, _, m, as, rfl, w10.purse, by omega, m1', by omega, hAs, by rw [paired_len hPs, few], fun is b G11 pi nb hB hp11 k11 => ?_⟩
        have w11 := w10.step hp11 k11
        have hA11 := hA10.keep w10.purse k11
        have hE11 := hE10.keep w10.purse k11
        obtain ⟨as11, h11, _⟩ := w11.rows
        refine ⟨_, rfl, .inl ⟨rfl, _, .inl (.inl h11)⟩, _, rfl, _, rfl, _, rfl, _, rfl, p, a, b, e, _, m, ts, is, ps, rfl, hp11, by omega, m1', by omega, ⟨hA11, tT, hB, pi, hE11, lp, good⟩, fun r T G12 nr nT hT hp12 k12 => ?_⟩
        have w12 := w11.step hp12 k12
        obtain ⟨as12, h12, l12, w13⟩ := w12.push hT
        refine ⟨F0, _, _, rfl, rfl, h12, ?_, ns ++ [r], _, _, rfl, ?_, ?_, (hA11.keep hp11 k12).put h12 aF, (hE11.keep hp11 k12).put h12 eF, w13.more (by omega)⟩
        · rw [List.length_map]
          exact small1000 (by omega)
        · intro x hx
          rcases List.mem_append.mp hx with z | z
          · exact gn x z
          · rw [List.mem_singleton.mp z]
            exact nr
        · rw [List.length_append, ln]
          rfl
      · rintro sl G ⟨ns, v4, v5, rfl, gn, ln, hA10, hE10, w10⟩
        refine ⟨_, rfl, _, rfl, by show 2 ≤ sizeLine; decide, fun T nT => ?_⟩
        exact q ts ns T a F0 _ ⟨tT.2.2, tT.2.1, gn, by omega, by omega⟩ (w10.none_new nT) upd_same (hA10.new nT) (w10.rows.new nT) ((w10.new nT).more (by omega)).purse (w10.new nT).keep
end
end Md

namespace Md
open PySem PySem.Spec PyProof.Rows L2
abbrev sTold : Stmt := top 29
section
variable {P : Program} {w : World} {K : PySem.W.Frag} {mg : Str → Option Value} {base : Heap}
/-- the class, as the law sees it -/
structure Dy (P : Program) (w : World) (K : PySem.W.Frag) (mg : Str → Option Value) (base : Heap) (C pT gT pN gN fA fL fI : Addr) (dT dN dA dL dI : FuncData) : Prop where
  cl : Cl K C
  name : mg "Diary" = some (.ref C)
  pT : PropOf K C "towns" pT gT
  oT : ∀ k, FnOk P w K mg base CX0 (k + 1) gT dT ["self"] (spTowns C)
  bT : Binds K dT ["self"] []
  pN : PropOf K C "notes" pN gN
  oN : ∀ k, FnOk P w K mg base CX0 (k + 1) gN dN ["self"] (spNotes C)
  bN : Binds K dN ["self"] []
  mA : Meth K C "names" fA
  oA : ∀ k, FnOk P w K mg base CX0 (k + 1) fA dA ["self"] (spNames C)
  bA : Binds K dA ["self"] []
  mL : Meth K C "__len__" fL
  oL : ∀ k, FnOk P w K mg base CX0 (k + 1) fL dL ["self"] (spLen C)
  bL : Binds K dL ["self"] []
  made : Mk K C fI
  oI : ∀ k, FnOk P w K mg base CX0 (k + 3) fI dI ["self", "towns", "notes"] (spInit C)
  bI : Binds K dI ["self", "towns", "notes"] []
def sheetD (ts ns : List (List V)) : PyData := .tuple [.list (ts.map rowD), .list (ns.map rowD)]
theorem Sheet.flatT {ts ns : List (List V)} (S : Sheet ts ns) : ∀ r ∈ ts, RowF r := fun r hr => (S.towns r hr).flat
theorem Sheet.flatN {ts ns : List (List V)} (S : Sheet ts ns) : ∀ r ∈ ns, RowF r := fun r hr => (S.notes r hr).flat (towns_names S.towns)
theorem Sheet.nice {ts ns : List (List V)} (S : Sheet ts ns) : Nice (sheetD ts ns) 3 5000 := by
  have a := (rows_nice S.flatT).more (Nat.le_refl 2) (show 37 * ts.length ≤ 2300 by have := S.few; omega)
  have b := (rows_nice S.flatN).more (Nat.le_refl 2) (show 37 * ns.length ≤ 2300 by have := S.few2; omega)
  refine (Nice.tuple (ds := [.list (ts.map rowD), .list (ns.map rowD)]) (dep := 2) (b := 2300) fun d hd => ?_).more (Nat.le_refl _) (by simp)
  have q : d = .list (ts.map rowD) ∨ d = .list (ns.map rowD) := by simpa using hd
  rcases q with rfl | rfl
  · exact a
  · exact b
theorem Sheet.names {ts ns : List (List V)} (S : Sheet ts ns) : Nice (.list ((ts.map nameOf).map PyData.str)) 1 200 :=
  (names_nice (towns_names S.towns)).more (Nat.le_refl _) (by rw [List.length_map]; have := S.few; omega)
theorem sheet_dp {H : Hp} {q a b : Addr} {ts ns : List (List V)} (S : Sheet ts ns) (hq : H q = some (.tup [.ref a, .ref b])) (ha : Rows H a ts) (hb : Rows H b ns) : Dp K H (.ref q) (sheetD ts ns) :=
  .tup (.inl (.inl hq)) (.cons (rows_dp ha S.flatT) (.cons (rows_dp hb S.flatN) .nil))
def spTold (C : Addr) : Sp := fun vs H Q _ => ∃ (m dx a b q a2 b2 : Addr) (ts ns : List (List V)), vs = [.ref m, .ref q] ∧ DiaryAt C H m dx a b ts ns ∧ H q = some (.tup [.ref a2, .ref b2]) ∧ Rows H a2 ts ∧ Rows H b2 ns ∧ Sheet ts ns ∧
  ∀ H', Same H H' → Q (.bl true) H'
abbrev nTold : List Str := ["made", "sheet", "place"]
theorem scTold : FnScope nTold ["made", "sheet"] (defScope sTold) := ⟨rfl, rfl, rfl, by decide +kernel, rfl, by decide +kernel, by decide +kernel⟩
theorem ok_told {f C pT gT pN gN fA fL fI : Addr} {fd dT dN dA dL dI : FuncData} {k : Nat} (F : Fun K "_law_mk_told_right" "_law_mk_told_right" sTold f fd) (D : Dy P w K mg base C pT gT pN gN fA fL fI dT dN dA dL dI) (B : Blt mg) :
    FnG P w K mg base CX0 (k + 3) f fd ["made", "sheet"] (spTold C) := by
  refine okG F scTold (fun vs H Q E h => ?_) (fun cdv A outer s H vs Q E g hr h => ?_)
  · obtain ⟨m, dx, a, b, q, a2, b2, ts, ns, rfl, _⟩ := h
    rfl
  · obtain ⟨m, dx, a, b, q, a2, b2, ts, ns, rfl, DA, hq, hA, hB, S, k0⟩ := h
    have nd := scTold.nd
    refine ⟨_, pss_cons (ps_if (PW.pt (pw_or (pt_not (pt_val (pe_callB RZ.call_isTy (by rfl) B.isi (by decide +kernel) (pa_cons (pe_prop (pv 0) D.cl.cl D.pT (D.oT k) hr D.bT .nil pass0 (by rfl)) (pa_cons (pe_bltn (v := .ty "list") (by rfl) B.list (by decide +kernel) rfl) pa_nil)))))
        (pw_or (pt_not (pt_val (pe_callB RZ.call_isTy (by rfl) B.isi (by decide +kernel) (pa_cons (pe_prop (pv 0) D.cl.cl D.pN (D.oN k) hr D.bN .nil pass0 (by rfl)) (pa_cons (pe_bltn (v := .ty "list") (by rfl) B.list (by decide +kernel) rfl) pa_nil)))))
        (pw_or1 (pt_not (pt_val (pe_callB RZ.call_isTy (by rfl) B.isi (by decide +kernel) (pa_cons (pe_meth0 (pv 0) D.cl.cl D.mA (D.oA (k + 1)) hr D.bA .nil pass0) (pa_cons (pe_bltn (v := .ty "list") (by rfl) B.list (by decide +kernel) rfl) pa_nil)))))))))
        (pss_one ps_never) pss_nil)
      (pss_cons (ps_if (PW.pt (pw_or (pt_cmpR op_ne (pe_callB (call_repr g hr.units) (by rfl) B.repr (by decide +kernel) (pa_cons (pe_tup (pa_cons (pe_prop (pv 0) D.cl.cl D.pT (D.oT k) hr D.bT .nil pass0 (by rfl)) (pa_cons (pe_prop (pv 0) D.cl.cl D.pN (D.oN k) hr D.bN .nil pass0 (by rfl)) pa_nil))) pa_nil))
            (pe_callB (call_repr g hr.units) (by rfl) B.repr (by decide +kernel) (pa_cons (pv 1) pa_nil)) (nomark _))
          (pw_or1 (pt_cmpR op_ne (pe_callB (call_lenOwn D.mL (D.oL k) hr D.bL) (by rfl) B.len PySem.boot_len (pa_cons (pv 0) pa_nil)) (pe_callB call_len_seq (by rfl) B.len PySem.boot_len (pa_cons (pe_ix (r := rIxT K) ix_tup (pv 1) pe_int (fun _ _ => rfl)) pa_nil)) (nomark _)))))
        (pss_one ps_never) pss_nil)
      (pss_one (ps_ret (pe_cmpR op_eq (pe_callB (call_repr g hr.units) (by rfl) B.repr (by decide +kernel) (pa_cons (pe_meth0 (pv 0) D.cl.cl D.mA (D.oA (k + 1)) hr D.bA .nil pass0) pa_nil))
        (pe_callB (call_repr g hr.units) (by rfl) B.repr (by decide +kernel) (pa_cons (pe_lc (own := [("place", 2)]) (g := gName 2) (tt := tYes) rfl nd (pi_list (pe_ix (r := rIxT K) ix_tup (pv 1) pe_int (fun _ _ => rfl))) (blkOk_by (N := nTold) (sc := defScope sTold) (by decide +kernel))
          (fun _ _ _ _ _ => pg_name (i := 2) nd rfl (.inl rfl)) (fun _ _ _ _ _ => pts_nil) (fun _ _ _ _ _ => pe_ix (r := rIxT K) ix_tup (pv 2) pe_int (fun _ _ => rfl))) pa_nil)) (nomark _))))), ?_⟩
    -- lists
    refine ⟨_, rfl, m, dx, _, rfl, DA.ob, m, dx, a, b, ts, ns, rfl, DA, fun x1 H1 n1 r1 s1 => ?_⟩
    have D1 := DA.same s1
    obtain ⟨_, e1, _⟩ := r1
    refine ⟨_, _, rfl, .lst e1, _, rfl, iteF ?_⟩
    refine ⟨_, rfl, m, dx, _, rfl, D1.ob, m, dx, a, b, ts, ns, rfl, D1, fun x2 H2 n2 r2 s2 => ?_⟩
    have D2 := D1.same s2
    obtain ⟨_, e2, _⟩ := r2
    refine ⟨_, _, rfl, .lst e2, _, rfl, iteF ?_⟩
    have fewT := S.few
    have fewN := S.few2
    refine ⟨_, rfl, m, dx, _, rfl, D2.ob, by rfl, m, dx, a, b, ts, ns, rfl, D2, (fun r hr => (S.towns r hr).r), by omega, fun x3 H3 n3 e3 s3 => ?_⟩
    have D3 := D2.same s3
    refine ⟨_, _, rfl, .lst e3, _, rfl, iteF ?_⟩
    have t3 : Same H H3 := (s1.trans s2).trans s3
    -- towns, notes
    refine ⟨_, rfl, m, dx, _, rfl, D3.ob, m, dx, a, b, ts, ns, rfl, D3, fun x4 H4 n4 r4 s4 => ?_⟩
    have D4 := D3.same s4
    refine ⟨_, rfl, m, dx, _, rfl, D4.ob, m, dx, a, b, ts, ns, rfl, D4, fun x5 H5 n5 r5 s5 => ?_⟩
    have D5 := D4.same s5
    refine ⟨by show 2 ≤ sizeLine; decide, fun T nT => ?_⟩
    have s6 : Same H5 (upd H5 T (.tup [.ref x4, .ref x5])) := fun b u z => by
      rw [upd_ne (ne_of_none z nT)]
      exact z
    have t6 : Same H (upd H5 T (.tup [.ref x4, .ref x5])) := ((t3.trans s4).trans s5).trans s6
    have D6 := D5.same s6
    refine ⟨_, sheetD ts ns, rfl, sheet_dp S upd_same ((r4.same s5).same s6) (r5.same s6), S.nice.show_, S.nice.nod, Nat.le_trans S.nice.deep (by decide), S.nice.short (by decide), ?_⟩
    refine ⟨_, rfl, _, sheetD ts ns, rfl, sheet_dp S (t6 _ _ hq) (hA.same t6) (hB.same t6), S.nice.show_, S.nice.nod, Nat.le_trans S.nice.deep (by decide), S.nice.short (by decide), rfl, _, rfl, iteNS rfl ?_⟩
    -- how many
    obtain ⟨bs, hb1, hb2⟩ := hB.same t6
    refine ⟨_, rfl, m, dx, _, rfl, D6.ob, m, dx, a, b, ts, ns, rfl, D6, _, rfl, by omega, ?_⟩
    refine ⟨_, rfl, q, _, 1, .ref b2, rfl, rfl, .inl (.inl (t6 _ _ hq)), atI_nat (j := 1) rfl, b2, _, rfl, .inl (.inl (.inl hb1)), rfl, _, rfl, iteNS (by rw [List.length_map, paired_len hb2]) ?_⟩
    -- names
    refine ⟨_, rfl, m, dx, _, rfl, D6.ob, by rfl, m, dx, a, b, ts, ns, rfl, D6, (fun r hr => (S.towns r hr).r), by omega, fun x7 H7 n7 e7 s7 => ?_⟩
    have t7 := t6.trans s7
    refine ⟨_, .list ((ts.map nameOf).map PyData.str), rfl, .lst (.inl (.inl e7)) (strs_dp _), S.names.show_, S.names.nod, Nat.le_trans S.names.deep (by decide), S.names.short (by decide), ?_⟩
    obtain ⟨as, ha1, ha2⟩ := hA.same t7
    refine ⟨_, rfl, q, _, 0, .ref a2, rfl, rfl, .inl (.inl (t7 _ _ hq)), atI_nat (j := 0) rfl, a2, rfl, ⟨_, .inl (.inl ha1)⟩, fun L nL => ?_⟩
    have ln : as.length = ts.length := paired_len ha2
    refine lcp_list (K := K) (a := a2) (xs := as.map V.ref) (ys := (ts.map nameOf).map V.str) (.inl (.inl ha1)) nL (by rw [List.length_map, List.length_map, List.length_map, ln]) (by rw [List.length_map, ln]; exact small1000 (by omega)) (fun i x y R hx hy r => ?_) ?_
    · obtain ⟨b3, row, ex, hr1, hb3⟩ := rows_ref ha2 hx
      subst ex
      obtain ⟨z, lo, hi, er, _⟩ := S.towns row (List.mem_of_getElem? hr1)
      have ey : y = V.str z := by
        rw [List.getElem?_map, List.getElem?_map, hr1, er] at hy
        exact (Option.some.inj hy).symm
      subst ey
      subst er
      refine ⟨rfl, _, rfl, b3, [.str z, .int lo, .int hi], 0, .str z, rfl, rfl, .inl (.inl ?_), atI_nat (j := 0) rfl, r⟩
      unfold grown
      rw [upd_ne (ne_of_none hb3 nL)]
      exact hb3
    · refine ⟨_, .list ((ts.map nameOf).map PyData.str), rfl, .lst (.inl (.inl upd_same)) (strs_dp _), S.names.show_, S.names.nod, Nat.le_trans S.names.deep (by decide), S.names.short (by decide), rfl, ?_⟩
      rw [decide_eq_true rfl]
      exact k0 _ (t7.trans fun b u z => by rw [upd_ne (ne_of_none z nL)]; exact z)
end
end Md

namespace Md
open PySem PySem.Spec PyProof.Rows L2
abbrev sRight : Stmt := top 30
/-- keywords written the other way about -/
def swap3 {α : Type} : List α → List α → List α
  | [x], [b, a] => [x, a, b]
  | us, _ => us
/-- all of before stands, but for the purse -/
structure Kp (H G : Hp) (p : Addr) : Prop where
  keep : Keep p H G
  purse : ∃ c, PurseAt G p c
section
variable {H G G2 : Hp} {p q x dx F : Addr} {c : Nat} {o o1 o2 : HO}
theorem PurseAt.same (h : PurseAt G p c) (s : Same G G2) : PurseAt G2 p c := by
  obtain ⟨x, y, z, e, r⟩ := h
  exact ⟨x, y, z, s _ _ e, r⟩
theorem Kp.same (k : Kp H G p) (s : Same G G2) : Kp H G2 p := by
  obtain ⟨c, h⟩ := k.purse
  exact ⟨fun b u e nb => s _ _ (k.keep b u e nb), c, h.same s⟩
theorem Kp.fresh (k : Kp H G p) (n : G q = none) : H q = none ∧ q ≠ p := by
  obtain ⟨c, h⟩ := k.purse
  exact ⟨k.keep.fresh h n, h.ne_new n⟩
theorem Kp.fresh_ne {xs : List V} (k : Kp H G p) (h : PurseAt G p c) (e : G q = some (.tup xs)) : q ≠ p := by
  intro z
  obtain ⟨a, b, d, e1, _⟩ := h
  rw [z, e1] at e
  cases e
theorem new_same (n : G q = none) : Same G (upd G q o) := fun b u z => by
  rw [upd_ne (ne_of_none z n)]
  exact z
theorem Kp.put (k : Kp H G p) (n : H F = none) (ne : F ≠ p) : Kp H (upd G F o) p := by
  obtain ⟨c, a, b, d, e1, r⟩ := k.purse
  refine ⟨fun b u h nb => ?_, c, a, b, d, ?_, r⟩
  · rw [upd_ne (ne_of_none h n)]
    exact k.keep b u h nb
  · rw [upd_ne (fun e => ne e.symm)]
    exact e1
theorem made_same (nx : G x = none) (nd : G dx = none) (kx : Keep x (upd (upd G dx o1) x o2) G2) : Same G G2 := fun b u z => by
  have h1 := ne_of_none z nx
  refine kx b u ?_ h1
  rw [upd_ne h1, upd_ne (ne_of_none z nd)]
  exact z
theorem made_none (h : upd (upd G dx o1) x o2 q = none) : G q = none := by
  by_cases h1 : q = x
  · rw [h1, upd_same] at h
    cases h
  · rw [upd_ne h1] at h
    by_cases h2 : q = dx
    · rw [h2, upd_same] at h
      cases h
    · rw [upd_ne h2] at h
      exact h
end
theorem made0 {G : Hp} {x dx : Addr} {o1 o2 : HO} (nx : G x = none) (nd : G dx = none) (ne : dx ≠ x) : Same G (upd (upd G dx o1) x o2) :=
  (new_same nd).trans (new_same (by rw [upd_ne (fun e => ne e.symm)]; exact nx))
theorem same_put {H0 G : Hp} {x : Addr} {o : HO} (s : Same H0 G) (n : H0 x = none) : Same H0 (upd G x o) := fun b u z => by
  rw [upd_ne (ne_of_none z n)]
  exact s b u z
theorem paired_left {α β : Type} {F : α → β → Prop} : ∀ {l : List α} {m : List β}, Paired F l m → ∀ (i : Nat) (a : α), l[i]? = some a → ∃ b, m[i]? = some b ∧ F a b
  | _, _, .nil, i, a, h => by simp at h
  | _, _, .cons h t, 0, a, e => ⟨_, rfl, by
    have e2 := Option.some.inj e
    subst e2
    exact h⟩
  | _, _, .cons h t, i + 1, a, e => paired_left t i a e
/-- a diary and the sheet it was made of -/
structure Now (C : Addr) (H : Hp) (m dx a b q a2 b2 : Addr) (ts ns : List (List V)) : Prop where
  dia : DiaryAt C H m dx a b ts ns
  sh : H q = some (.tup [.ref a2, .ref b2])
  ra : Rows H a2 ts
  rb : Rows H b2 ns
section
variable {C : Addr} {H G : Hp} {m dx a b q a2 b2 F : Addr} {ts ns : List (List V)} {xs : List V} {o : HO}
theorem Now.same (N : Now C H m dx a b q a2 b2 ts ns) (s : Same H G) : Now C G m dx a b q a2 b2 ts ns := ⟨N.dia.same s, s _ _ N.sh, N.ra.same s, N.rb.same s⟩
theorem Now.put (N : Now C H m dx a b q a2 b2 ts ns) (hF : H F = some (.lst xs)) (n1 : a ≠ F) (n2 : b ≠ F) (n3 : a2 ≠ F) (n4 : b2 ≠ F) : Now C (upd H F o) m dx a b q a2 b2 ts ns := by
  refine ⟨⟨?_, N.dia.towns.put hF n1, N.dia.notes.put hF n2⟩, ?_, N.ra.put hF n3, N.rb.put hF n4⟩
  · rw [upd_ne fun e => by have z := N.dia.ob; rw [e, hF] at z; cases z]
    exact N.dia.ob
  · rw [upd_ne fun e => by have z := N.sh; rw [e, hF] at z; cases z]
    exact N.sh
end
/-- lists that were handed out -/
structure Lists (H0 G : Hp) (L : List Addr) (n : List Nat) : Prop where
  same : Same H0 G
  fresh : ∀ x ∈ L, H0 x = none
  nodup : L.Nodup
  each : Paired (fun x m => ∃ ys : List V, G x = some (.lst ys) ∧ ys.length = m) L n
theorem Lists.add {H0 G G2 : Hp} {L : List Addr} {n : List Nat} {x : Addr} {ys : List V} {k : Nat} (h : Lists H0 G L n) (nx : G x = none) (s : Same G G2) (e : G2 x = some (.lst ys)) (l : ys.length = k) : Lists H0 G2 (L ++ [x]) (n ++ [k]) := by
  refine ⟨h.same.trans s, fun y hy => ?_, ?_, paired_snoc (paired_imp h.each fun a m ⟨zs, z, w⟩ => ⟨zs, s _ _ z, w⟩) ⟨ys, e, l⟩⟩
  · rcases List.mem_append.mp hy with z | z
    · exact h.fresh y z
    · rw [List.mem_singleton.mp z]
      exact h.same.free nx
  · rw [List.nodup_append]
    refine ⟨h.nodup, by simp, fun u hu v hv e => ?_⟩
    rw [List.mem_singleton.mp hv] at e
    obtain ⟨i, hi, ei⟩ := List.getElem_of_mem hu
    have ln := paired_len h.each
    have z : ∀ {L : List Addr} {n : List Nat}, Paired (fun x m => ∃ ys : List V, G x = some (.lst ys) ∧ ys.length = m) L n → ∀ u ∈ L, ∃ ys, G u = some (.lst ys) := by
      intro L n hp
      induction hp with
      | nil =>
        intro u hu
        cases hu
      | cons a t ih =>
        intro u hu
        rcases List.mem_cons.mp hu with w | w
        · rw [w]
          exact ⟨_, a.choose_spec.1⟩
        · exact ih u w
    obtain ⟨ys, w⟩ := z h.each u hu
    rw [e, nx] at w
    cases w
theorem Lists.nil {H0 : Hp} : Lists H0 H0 [] [] := ⟨Same.refl H0, (fun x hx => by cases hx), List.nodup_nil, .nil⟩
section
variable {P : Program} {w : World} {K : PySem.W.Frag} {mg : Str → Option Value} {base : Heap}
/-- a def that shows data, as its callers see it -/
structure GAt (P : Program) (w : World) (K : PySem.W.Frag) (mg : Str → Option Value) (base : Heap) (x : Str) (f : Addr) (fd : FuncData) (ps : List Str) (n : Nat) (sp : Sp) : Prop where
  ok : ∀ k, FnG P w K mg base CX0 (k + n) f fd ps sp
  mg : mg x = some (.ref f)
  kp : PySem.W.keepIn K (.ref f) = true
  b : Binds K fd ps []
def spRight : Sp := fun vs H Q _ => ∃ p : Addr, vs = [.ref p] ∧ PurseAt H p 0 ∧ ∀ H', Keep p H H' → Q (.bl true) H'
abbrev nRight : List Str := ["purse", "sheet", "handed", "made", "held", "rank", "due", "second"]
theorem scRight : FnScope nRight ["purse"] (defScope sRight) := ⟨rfl, rfl, rfl, by decide +kernel, rfl, by decide +kernel, by decide +kernel⟩
theorem ok_right {f fC fW fT C pT gT pN gN fA fL fI : Addr} {fd fdC fdW fdT dT dN dA dL dI : FuncData} {k : Nat} (F : Fun K "_law_right" "_law_right" sRight f fd) (CN : CoinAt P w K mg base fC fdC) (W : DefAt P w K mg base "_law_mk_wide" fW fdW ["purse"] 4 spWide)
    (T : GAt P w K mg base "_law_mk_told_right" fT fdT ["made", "sheet"] 3 (spTold C)) (D : Dy P w K mg base C pT gT pN gN fA fL fI dT dN dA dL dI) (KI : KBn K dI ["self", "towns", "notes"] 1 ["notes", "towns"] swap3 swap3) (B : Blt mg) :
    FnG P w K mg base CX0 (k + 5) f fd ["purse"] spRight := by
  have GC := CN.ok (k + 3)
  have GW := W.ok k
  have GT := T.ok (k + 1)
  refine okG F scRight (fun vs H Q E h => ?_) (fun cdv A outer s H vs Q E g hr h => ?_)
  · obtain ⟨p, rfl, _⟩ := h
    rfl
  · obtain ⟨p, rfl, hp, k0⟩ := h
    have nd := scRight.nd
    refine ⟨_, pss_cons (ps_set (i := 1) nd rfl (.inl rfl) (pe_call GW hr (by rfl) W.mg W.kp W.b .nil pass0 (pa_cons (pv 0) pa_nil)))
      (pss_cons (ps_set (i := 2) nd rfl (.inl rfl) (pe_lst (pa_cons (pe_callTy call_list_of (by rfl) B.list (by decide +kernel) (pa_cons (pe_ix (r := rIxT K) ix_tup (pv 1) pe_int (fun _ _ => rfl)) pa_nil)) (pa_cons (pe_callTy call_list_of (by rfl) B.list (by decide +kernel) (pa_cons (pe_ix (r := rIxT K) ix_tup (pv 1) pe_int (fun _ _ => rfl)) pa_nil)) pa_nil))))
      (C8.pss_cut (ps_if (pt_cmpR op_eq (pe_call GC hr (by rfl) CN.mg CN.kp CN.b .nil pass0 (pa_cons (pv 0) (pa_cons pe_int pa_nil))) pe_int (nomark _))
        (pss_one (ps_set (i := 3) nd rfl (.inl rfl) (pe_make D.made (D.oI k) hr (by rfl) D.name D.bI .nil pass0 (pa_cons (pe_ix ix_list (pv 2) pe_int (fun _ _ => rfl)) (pa_cons (pe_ix ix_list (pv 2) pe_int (fun _ _ => rfl)) pa_nil)))))
        (pss_one (ps_set (i := 3) nd rfl (.inl rfl) (pe_makeK0 D.made (D.oI k) hr (by rfl) D.name KI pass0 (pk_cons (pe_ix ix_list (pv 2) pe_int (fun _ _ => rfl)) (pk_cons (pe_ix ix_list (pv 2) pe_int (fun _ _ => rfl)) pk_nil))))))
      (pss_cons (ps_if (PW.pt (pw_or (pt_cmpR op_ne (pe_callB (call_repr g hr.units) (by rfl) B.repr (by decide +kernel) (pa_cons (pe_callTy call_tuple_of (by rfl) B.tuple (by decide +kernel) (pa_cons (pv 2) pa_nil)) pa_nil)) (pe_callB (call_repr g hr.units) (by rfl) B.repr (by decide +kernel) (pa_cons (pv 1) pa_nil)) (nomark _))
          (pw_or1 (pt_not (pt_val (pe_callG GT g hr (by rfl) T.mg T.kp T.b pass0 (pa_cons (pv 3) (pa_cons (pv 1) pa_nil)))))))) (pss_one ps_never) pss_nil)
      (pss_cons (ps_expr (pe_bm PySem.F.plainAttrs_list PySem.F.slot_list_append PySem.F.type_list_append mt_append (pe_ix ix_list (pv 2) pe_int (fun _ _ => rfl)) (pa_cons (pe_tup (pa_cons pe_str (pa_cons pe_int (pa_cons pe_int pa_nil)))) pa_nil)))
      (pss_cons (ps_expr (pe_bm0 PySem.F.plainAttrs_list PySem.F.slot_list_reverse PySem.F.type_list_reverse mt_reverse (pe_ix ix_list (pv 2) pe_int (fun _ _ => rfl))))
      (pss_cons (ps_expr (pe_bm PySem.F.plainAttrs_list PySem.F.slot_list_append PySem.F.type_list_append mt_append (pe_ix ix_list (pv 2) pe_int (fun _ _ => rfl)) (pa_cons (pe_tup (pa_cons pe_str (pa_cons pe_str (pa_cons pe_int pa_nil)))) pa_nil)))
      (pss_cons (ps_if (pt_not (pt_val (pe_callG GT g hr (by rfl) T.mg T.kp T.b pass0 (pa_cons (pv 3) (pa_cons (pv 1) pa_nil))))) (pss_one ps_never) pss_nil)
      (pss_cons (ps_set (i := 4) nd rfl (.inl rfl) (pe_lst (pa_cons (pe_prop (pv 3) D.cl.cl D.pT (D.oT (k + 2)) hr D.bT .nil pass0 (by rfl)) (pa_cons (pe_prop (pv 3) D.cl.cl D.pN (D.oN (k + 2)) hr D.bN .nil pass0 (by rfl)) (pa_cons (pe_meth0 (pv 3) D.cl.cl D.mA (D.oA (k + 3)) hr D.bA .nil pass0)
        (pa_cons (pe_prop (pv 3) D.cl.cl D.pT (D.oT (k + 2)) hr D.bT .nil pass0 (by rfl)) (pa_cons (pe_prop (pv 3) D.cl.cl D.pN (D.oN (k + 2)) hr D.bN .nil pass0 (by rfl)) (pa_cons (pe_meth0 (pv 3) D.cl.cl D.mA (D.oA (k + 3)) hr D.bA .nil pass0) pa_nil))))))))
      (pss_cons (ps_for PassesOwn.never rfl (pi_range1 rfl B.range (pa_cons pe_int pa_nil)) (pg_name (i := 5) nd rfl (.inl rfl))
        (pss_one (ps_expr (pe_bm PySem.F.plainAttrs_list PySem.F.slot_list_append PySem.F.type_list_append mt_append (pe_ix ix_list (pv 4) (pv 5) (fun _ _ => rfl)) (pa_cons (pv 5) pa_nil)))))
      (pss_cons (ps_for PassesOwn.never rfl (pi_range1 rfl B.range (pa_cons pe_int pa_nil)) (pg_name (i := 5) nd rfl (.inl rfl))
        (pss_cons (ps_set (i := 6) nd rfl (.inl rfl) (pe_op op_add pe_int (pe_callB call_len_seq (by rfl) B.len PySem.boot_len (pa_cons (pe_ix ix_list (pe_lst (pa_cons (pe_ix (r := rIxT K) ix_tup (pv 1) pe_int (fun _ _ => rfl)) (pa_cons (pe_ix (r := rIxT K) ix_tup (pv 1) pe_int (fun _ _ => rfl)) (pa_cons (pe_ix (r := rIxT K) ix_tup (pv 1) pe_int (fun _ _ => rfl)) pa_nil))))
            (pe_op op_mod (pe_callTy call_int1 (by rfl) B.int (by decide +kernel) (pa_cons (pv 5) pa_nil)) pe_int) (fun _ _ => rfl)) pa_nil))))
        (pss_one (ps_if (PW.pt (pw_or (pt_cmpR op_ne (pe_ix ix_list (pe_ix ix_list (pv 4) (pv 5) (fun _ _ => rfl)) (pe_un un_neg pe_int) (fun _ _ => rfl)) (pv 5) (nomark _))
            (pw_or1 (pt_cmpR op_ne (pe_callB call_len_seq (by rfl) B.len PySem.boot_len (pa_cons (pe_ix ix_list (pv 4) (pv 5) (fun _ _ => rfl)) pa_nil)) (pv 6) (nomark _))))) (pss_one ps_never) pss_nil))))
      (pss_cons (ps_if (pt_not (pt_val (pe_callG GT g hr (by rfl) T.mg T.kp T.b pass0 (pa_cons (pv 3) (pa_cons (pv 1) pa_nil))))) (pss_one ps_never) pss_nil)
      (pss_cons (ps_set (i := 7) nd rfl (.inl rfl) (pe_make D.made (D.oI k) hr (by rfl) D.name D.bI .nil pass0 (pa_cons (pe_callTy call_list_of (by rfl) B.list (by decide +kernel) (pa_cons (pe_ix (r := rIxT K) ix_tup (pv 1) pe_int (fun _ _ => rfl)) pa_nil)) (pa_cons (pe_lst pa_nil) pa_nil))))
      (pss_cons (ps_if (PW.pt (pw_or (pt_cmpR op_ne (pe_callB (call_lenOwn D.mL (D.oL (k + 2)) hr D.bL) (by rfl) B.len PySem.boot_len (pa_cons (pv 7) pa_nil)) pe_int (nomark _))
          (pw_or (pt_cmpR (op_neD hr.units) (pe_prop (pv 7) D.cl.cl D.pN (D.oN (k + 2)) hr D.bN .nil pass0 (by rfl)) (pe_lst pa_nil) (nomark _))
          (pw_or1 (pt_cmpR op_ne (pe_callB (call_repr g hr.units) (by rfl) B.repr (by decide +kernel) (pa_cons (pe_prop (pv 7) D.cl.cl D.pT (D.oT (k + 2)) hr D.bT .nil pass0 (by rfl)) pa_nil))
            (pe_callB (call_repr g hr.units) (by rfl) B.repr (by decide +kernel) (pa_cons (pe_ix (r := rIxT K) ix_tup (pv 1) pe_int (fun _ _ => rfl)) pa_nil)) (nomark _)))))) (pss_one ps_never) pss_nil)
      (pss_one (ps_ret (pe_callG GT g hr (by rfl) T.mg T.kp T.b pass0 (pa_cons (pv 3) (pa_cons (pv 1) pa_nil)))))))))))))))))), ?_⟩
    -- a sheet
    refine ⟨_, rfl, p, 0, rfl, hp, by decide, fun ts ns q a2 b2 H1 S nq hq hA hB hp1 k1 => ?_⟩
    have K1 : Kp H H1 p := ⟨k1, _, hp1⟩
    have Nq := S.nice
    have NT := (rows_nice S.flatT).more (Nat.le_refl 2) (show 37 * ts.length ≤ 2300 by have := S.few; omega)
    have few := S.few
    have few2 := S.few2
    have goodT : ∀ r ∈ ts, TownR r := fun r hr => (S.towns r hr).r
    obtain ⟨as, hA1, hA2⟩ := id hA
    -- handed
    refine ⟨_, rfl, q, _, 0, .ref a2, rfl, rfl, .inl (.inl hq), atI_nat (j := 0) rfl, a2, _, rfl, .inl (.inl (.inl hA1)), fun ha nha => ?_⟩
    have R2 := rows_copy hA2 nha
    have s2 := new_same nha (o := .lst (as.map V.ref))
    obtain ⟨bs, hB1, hB2⟩ := hB.same s2
    refine ⟨_, rfl, q, _, 1, .ref b2, rfl, rfl, .inl (.inl (s2 _ _ hq)), atI_nat (j := 1) rfl, b2, _, rfl, .inl (.inl (.inl hB1)), fun hb nhb => ?_⟩
    have R3 := rows_copy hB2 nhb
    have s3 := s2.trans (new_same nhb (o := .lst (bs.map V.ref)))
    have R2' := R2.same (new_same nhb (o := .lst (bs.map V.ref)))
    have hab : ha ≠ hb := by
      obtain ⟨_, z, _⟩ := R2
      exact ne_of_none z nhb
    refine ⟨by show 2 ≤ sizeLine; decide, fun h nh => ?_⟩
    have s4 := s3.trans (new_same nh (o := .lst [.ref ha, .ref hb]))
    have R4a := R2'.same (new_same nh (o := .lst [.ref ha, .ref hb]))
    have R4b := R3.same (new_same nh (o := .lst [.ref ha, .ref hb]))
    have K4 := K1.same s4
    have hh4 : upd (upd (upd H1 ha (.lst (as.map V.ref))) hb (.lst (bs.map V.ref))) h (.lst [.ref ha, .ref hb]) h = some (.lst [.ref ha, .ref hb]) := upd_same
    have fha := (K1.fresh nha)
    have fhb := ((K1.same s2).fresh nhb)
    have fh := ((K1.same s3).fresh nh)
    -- a diary
    refine ⟨fun sl G => ∃ m dx a b, sl = [some (.ref p), some (.ref q), some (.ref h), some (.ref m), none, none, none, none] ∧ Now C G m dx a b q a2 b2 ts ns ∧ G h = some (.lst [.ref ha, .ref hb]) ∧ Rows G ha ts ∧ Rows G hb ns ∧ (a ≠ ha ∧ a ≠ hb) ∧ (b ≠ ha ∧ b ≠ hb) ∧ Kp H G p, ?_, ?_⟩
    · refine ⟨_, rfl, p, _, 2, rfl, hp1.same s4, by decide, by decide, by decide, fun d G5 d0 d1 hp5 k5 => ?_⟩
      have hp4 := hp1.same s4
      have K5 : Kp H G5 p := ⟨K4.keep.trans k5, _, hp5⟩
      have R5a := R4a.keep hp4 k5
      have R5b := R4b.keep hp4 k5
      have hh5 := k5 _ _ hh4 fh.2
      have hq5 := k5 _ _ (s4 _ _ hq) (K1.fresh_ne hp1 hq)
      have hA5 := (hA.same s4).keep hp4 k5
      have hB5 := (hB.same s4).keep hp4 k5
      refine ⟨rfl, _, rfl, ?_⟩
      have fin : ∀ x dx a b (G6 : Hp), G5 x = none → G5 dx = none → upd (upd G5 dx (.own x)) x (.ins C dx []) a = none → upd (upd G5 dx (.own x)) x (.ins C dx []) b = none → DiaryAt C G6 x dx a b ts ns → Keep x (upd (upd G5 dx (.own x)) x (.ins C dx [])) G6 →
          Now C G6 x dx a b q a2 b2 ts ns ∧ G6 h = some (.lst [.ref ha, .ref hb]) ∧ Rows G6 ha ts ∧ Rows G6 hb ns ∧ (a ≠ ha ∧ a ≠ hb) ∧ (b ≠ ha ∧ b ≠ hb) ∧ Kp H G6 p := by
        intro x dx a b G6 nx ndx na nb DA kx
        have s := made_same nx ndx kx
        obtain ⟨_, ea, _⟩ := id R5a
        obtain ⟨_, eb, _⟩ := id R5b
        have na' := made_none na
        have nb' := made_none nb
        exact ⟨⟨DA, s _ _ hq5, hA5.same s, hB5.same s⟩, s _ _ hh5, R5a.same s, R5b.same s, ⟨fun e => ne_of_none ea na' e.symm, fun e => ne_of_none eb na' e.symm⟩, ⟨fun e => ne_of_none ea nb' e.symm, fun e => ne_of_none eb nb' e.symm⟩, K5.same s⟩
      refine ite2 (fun _ => ?_) (fun _ => ?_)
      · refine ⟨_, rfl, h, _, 0, .ref ha, rfl, rfl, .inl (.inl hh5), atI_nat (j := 0) rfl, _, rfl, h, _, 1, .ref hb, rfl, rfl, .inl (.inl hh5), atI_nat (j := 1) rfl, fun x dx nx ndx ne => ?_⟩
        have sm := made0 nx ndx ne (o1 := .own x) (o2 := .ins C dx [])
        exact ⟨x, dx, ha, hb, ts, ns, rfl, upd_same, R5a.same sm, R5b.same sm, goodT, S.nodup, S.notes, by omega, by omega, fun a b G6 na nb DA kx => ⟨rfl, x, dx, a, b, rfl, fin x dx a b G6 nx ndx na nb DA kx⟩⟩
      · refine ⟨_, rfl, h, _, 1, .ref hb, rfl, rfl, .inl (.inl hh5), atI_nat (j := 1) rfl, _, rfl, h, _, 0, .ref ha, rfl, rfl, .inl (.inl hh5), atI_nat (j := 0) rfl, rfl, rfl, fun x dx nx ndx ne => ?_⟩
        have sm := made0 nx ndx ne (o1 := .own x) (o2 := .ins C dx [])
        exact ⟨x, dx, ha, hb, ts, ns, rfl, upd_same, R5a.same sm, R5b.same sm, goodT, S.nodup, S.notes, by omega, by omega, fun a b G6 na nb DA kx => ⟨rfl, x, dx, a, b, rfl, fin x dx a b G6 nx ndx na nb DA kx⟩⟩
    rintro sl G6 ⟨m, dx, a, b, rfl, N6, hh6, R6a, R6b, nea, neb, K6⟩
    -- what was handed over stays
    refine ⟨_, rfl, h, _, rfl, .inl ⟨.inl (.inl hh6), fun l nl => ?_⟩⟩
    have s7 := new_same nl (o := .tup [.ref ha, .ref hb])
    refine ⟨_, sheetD ts ns, rfl, sheet_dp S upd_same (R6a.same s7) (R6b.same s7), Nq.show_, Nq.nod, Nat.le_trans Nq.deep (by decide), Nq.short (by decide), ?_⟩
    have N7 := N6.same s7
    refine ⟨_, rfl, _, sheetD ts ns, rfl, sheet_dp S N7.sh N7.ra N7.rb, Nq.show_, Nq.nod, Nat.le_trans Nq.deep (by decide), Nq.short (by decide), rfl, _, rfl, iteNS rfl ?_⟩
    refine ⟨_, rfl, _, rfl, m, dx, a, b, q, a2, b2, ts, ns, rfl, N7.dia, N7.sh, N7.ra, N7.rb, S, fun G8 s8 => ⟨_, rfl, iteF ?_⟩⟩
    have t8 := s7.trans s8
    have N8 := N6.same t8
    have K8 := K6.same t8
    have R8a := R6a.same t8
    have R8b := R6b.same t8
    have hh8 := t8 _ _ hh6
    have n3 : a2 ≠ ha := ne_of_none hA1 nha
    have n4 : b2 ≠ ha := by
      obtain ⟨_, z, _⟩ := id hB
      exact ne_of_none z nha
    have n5 : a2 ≠ hb := ne_of_none (s2 _ _ hA1) nhb
    have n6 : b2 ≠ hb := ne_of_none hB1 nhb
    have hha : h ≠ ha := by
      obtain ⟨_, z, _⟩ := id R2'
      exact fun e => ne_of_none z nh e.symm
    have hhb : h ≠ hb := by
      obtain ⟨_, z, _⟩ := id R3
      exact fun e => ne_of_none z nh e.symm
    -- it is changed
    obtain ⟨as8, e8a, p8a⟩ := R8a
    refine ⟨_, rfl, h, _, 0, .ref ha, rfl, rfl, .inl (.inl hh8), atI_nat (j := 0) rfl, .inl ⟨rfl, _, .inl (.inl e8a)⟩, by show 3 ≤ sizeLine; decide, fun T1 nT1 => ?_⟩
    have s9 := new_same nT1 (o := .tup [.str "ulm", .int 1, .int 1])
    refine ⟨ha, _, _, rfl, rfl, s9 _ _ e8a, ?_, ?_⟩
    · rw [List.length_map, paired_len p8a]
      exact small1000 (by omega)
    have N9 := (N8.same s9).put (o := .lst (as8.map V.ref ++ [.ref T1])) (s9 _ _ e8a) nea.1 neb.1 n3 n4
    have K9 := (K8.same s9).put (F := ha) (o := .lst (as8.map V.ref ++ [.ref T1])) fha.1 fha.2
    obtain ⟨bs8, e8b, p8b⟩ := R8b
    have e9b : upd (upd G8 T1 (.tup [.str "ulm", .int 1, .int 1])) ha (.lst (as8.map V.ref ++ [.ref T1])) hb = some (.lst (bs8.map V.ref)) := by
      rw [upd_ne (fun e => hab e.symm)]
      exact s9 _ _ e8b
    have hh9 : upd (upd G8 T1 (.tup [.str "ulm", .int 1, .int 1])) ha (.lst (as8.map V.ref ++ [.ref T1])) h = some (.lst [.ref ha, .ref hb]) := by
      rw [upd_ne hha]
      exact s9 _ _ hh8
    generalize upd (upd G8 T1 (.tup [.str "ulm", .int 1, .int 1])) ha (.lst (as8.map V.ref ++ [.ref T1])) = G9 at N9 K9 e9b hh9 ⊢
    refine ⟨_, rfl, h, _, 1, .ref hb, rfl, rfl, .inl (.inl hh9), atI_nat (j := 1) rfl, .inl ⟨rfl, _, .inl (.inl e9b)⟩, hb, _, rfl, rfl, e9b, ?_⟩
    have N10 := N9.put (o := .lst (bs8.map V.ref).reverse) e9b nea.2 neb.2 n5 n6
    have K10 := K9.put (F := hb) (o := .lst (bs8.map V.ref).reverse) fhb.1 fhb.2
    have hh10 : upd G9 hb (.lst (bs8.map V.ref).reverse) h = some (.lst [.ref ha, .ref hb]) := by
      rw [upd_ne hhb]
      exact hh9
    have e10b : upd G9 hb (.lst (bs8.map V.ref).reverse) hb = some (.lst (bs8.map V.ref).reverse) := upd_same
    generalize upd G9 hb (.lst (bs8.map V.ref).reverse) = G10 at N10 K10 hh10 e10b ⊢
    refine ⟨_, rfl, h, _, 1, .ref hb, rfl, rfl, .inl (.inl hh10), atI_nat (j := 1) rfl, .inl ⟨rfl, _, .inl (.inl e10b)⟩, by show 3 ≤ sizeLine; decide, fun T2 nT2 => ?_⟩
    have s11 := new_same nT2 (o := .tup [.str "market", .str "ulm", .int 3])
    refine ⟨hb, _, _, rfl, rfl, s11 _ _ e10b, ?_, ?_⟩
    · rw [List.length_reverse, List.length_map, paired_len p8b]
      exact small1000 (by omega)
    have N12 := (N10.same s11).put (o := .lst ((bs8.map V.ref).reverse ++ [.ref T2])) (s11 _ _ e10b) nea.2 neb.2 n5 n6
    have K12 := (K10.same s11).put (F := hb) (o := .lst ((bs8.map V.ref).reverse ++ [.ref T2])) fhb.1 fhb.2
    generalize upd (upd G10 T2 (.tup [.str "market", .str "ulm", .int 3])) hb (.lst ((bs8.map V.ref).reverse ++ [.ref T2])) = G12 at N12 K12 ⊢
    refine ⟨_, rfl, _, rfl, m, dx, a, b, q, a2, b2, ts, ns, rfl, N12.dia, N12.sh, N12.ra, N12.rb, S, fun H0 s13 => ⟨_, rfl, iteF ?_⟩⟩
    have N0 := N12.same s13
    have K0 := K12.same s13
    -- what is returned
    refine ⟨_, rfl, m, dx, _, rfl, N0.dia.ob, m, dx, a, b, ts, ns, rfl, N0.dia, fun x0 J0 n0 r0 z0 => ?_⟩
    obtain ⟨_, e0, p0⟩ := r0
    have L0 := (Lists.nil (H0 := H0)).add n0 z0 e0 (k := ts.length) (by rw [List.length_map, paired_len p0])
    have M0 := N0.same L0.same
    refine ⟨_, rfl, m, dx, _, rfl, M0.dia.ob, m, dx, a, b, ts, ns, rfl, M0.dia, fun x1 J1 n1 r1 z1 => ?_⟩
    obtain ⟨_, e1, p1⟩ := r1
    have L1 := L0.add n1 z1 e1 (k := ns.length) (by rw [List.length_map, paired_len p1])
    have M1 := N0.same L1.same
    refine ⟨_, rfl, m, dx, _, rfl, M1.dia.ob, by rfl, m, dx, a, b, ts, ns, rfl, M1.dia, goodT, by omega, fun x2 J2 n2 e2 z2 => ?_⟩
    have L2' := L1.add n2 z2 e2 (k := ts.length) (by rw [List.length_map, List.length_map])
    have M2 := N0.same L2'.same
    refine ⟨_, rfl, m, dx, _, rfl, M2.dia.ob, m, dx, a, b, ts, ns, rfl, M2.dia, fun x3 J3 n3 r3 z3 => ?_⟩
    obtain ⟨_, e3, p3⟩ := r3
    have L3 := L2'.add n3 z3 e3 (k := ts.length) (by rw [List.length_map, paired_len p3])
    have M3 := N0.same L3.same
    refine ⟨_, rfl, m, dx, _, rfl, M3.dia.ob, m, dx, a, b, ts, ns, rfl, M3.dia, fun x4 J4 n4 r4 z4 => ?_⟩
    obtain ⟨_, e4, p4⟩ := r4
    have L4 := L3.add n4 z4 e4 (k := ns.length) (by rw [List.length_map, paired_len p4])
    have M4 := N0.same L4.same
    refine ⟨_, rfl, m, dx, _, rfl, M4.dia.ob, by rfl, m, dx, a, b, ts, ns, rfl, M4.dia, goodT, by omega, fun x5 J5 n5 e5 z5 => ?_⟩
    have L5 : Lists H0 J5 [x0, x1, x2, x3, x4, x5] [ts.length, ns.length, ts.length, ts.length, ns.length, ts.length] := L4.add n5 z5 e5 (k := ts.length) (by rw [List.length_map, List.length_map])
    refine ⟨by show 6 ≤ sizeLine; decide, fun hd nhd => ?_⟩
    have hL : upd J5 hd (.lst [.ref x0, .ref x1, .ref x2, .ref x3, .ref x4, .ref x5]) hd = some (.lst ([x0, x1, x2, x3, x4, x5].map V.ref)) := upd_same
    have sL : Same H0 (upd J5 hd (.lst [.ref x0, .ref x1, .ref x2, .ref x3, .ref x4, .ref x5])) := L5.same.trans (new_same nhd)
    have each : ∀ (j : Nat) (x : Addr), ([x0, x1, x2, x3, x4, x5] : List Addr)[j]? = some x → x ≠ hd ∧ ∃ ys : List V, upd J5 hd (.lst [.ref x0, .ref x1, .ref x2, .ref x3, .ref x4, .ref x5]) x = some (.lst ys) ∧ [ts.length, ns.length, ts.length, ts.length, ns.length, ts.length][j]? = some ys.length := by
      intro j x hx
      obtain ⟨l, hl, ys, hy, ey⟩ := paired_left L5.each j x hx
      exact ⟨ne_of_none hy nhd, ys, (new_same nhd) _ _ hy, by rw [hl, ey]⟩
    have lens : ∀ (j l : Nat), [ts.length, ns.length, ts.length, ts.length, ns.length, ts.length][j]? = some l → l ≤ 60 := by
      intro j l hl
      have z := List.mem_of_getElem? hl
      have z2 : l = ts.length ∨ l = ns.length := by
        simp only [List.mem_cons, List.not_mem_nil, or_false] at z
        omega
      omega
    have chosen : ∀ j : Nat, j < 6 → ∃ (y : Addr) (l : Nat), atI [V.ref a2, V.ref b2, V.ref a2] ((0 + (j : Int)) % 3) = some (.ref y) ∧ [ts.length, ns.length, ts.length, ts.length, ns.length, ts.length][j]? = some l ∧ ∀ G, Rows G a2 ts → Rows G b2 ns → ∃ ys : List V, G y = some (.lst ys) ∧ ys.length = l := by
      intro j hj
      have ra : ∀ G, Rows G a2 ts → Rows G b2 ns → ∃ ys : List V, G a2 = some (.lst ys) ∧ ys.length = ts.length := fun G h1 _ => by
        obtain ⟨as, e, p⟩ := h1
        exact ⟨_, e, by rw [List.length_map, paired_len p]⟩
      have rb : ∀ G, Rows G a2 ts → Rows G b2 ns → ∃ ys : List V, G b2 = some (.lst ys) ∧ ys.length = ns.length := fun G _ h1 => by
        obtain ⟨as, e, p⟩ := h1
        exact ⟨_, e, by rw [List.length_map, paired_len p]⟩
      have w : j = 0 ∨ j = 1 ∨ j = 2 ∨ j = 3 ∨ j = 4 ∨ j = 5 := by omega
      rcases w with rfl | rfl | rfl | rfl | rfl | rfl
      · exact ⟨a2, _, atI_nat (j := 0) rfl, rfl, ra⟩
      · exact ⟨b2, _, atI_nat (j := 1) rfl, rfl, rb⟩
      · exact ⟨a2, _, atI_nat (j := 2) rfl, rfl, ra⟩
      · exact ⟨a2, _, atI_nat (j := 0) rfl, rfl, ra⟩
      · exact ⟨b2, _, atI_nat (j := 1) rfl, rfl, rb⟩
      · exact ⟨a2, _, atI_nat (j := 2) rfl, rfl, ra⟩
    have six : ([x0, x1, x2, x3, x4, x5] : List Addr).length = 6 := rfl
    have fresh6 := L5.fresh
    have nodup6 := L5.nodup
    have lsix : ([V.ref x0, V.ref x1, V.ref x2, V.ref x3, V.ref x4, V.ref x5] : List V) = [x0, x1, x2, x3, x4, x5].map V.ref := rfl
    rw [lsix] at hL sL each
    rw [lsix]
    generalize [ts.length, ns.length, ts.length, ts.length, ns.length, ts.length] = nn at each lens chosen
    generalize ([x0, x1, x2, x3, x4, x5] : List Addr) = LL at hL sL each six fresh6 nodup6 ⊢
    generalize upd J5 hd (.lst (LL.map V.ref)) = G0 at hL sL each ⊢
    clear L5 L4 L3 L2' L1 L0 M0 M1 M2 M3 M4
    -- each is changed
    refine ⟨6, rfl, by decide, by decide, for_range (lo := 0) (n := 6) (fun i sl G => ∃ v5, sl = [some (.ref p), some (.ref q), some (.ref h), some (.ref m), some (.ref hd), v5, none, none] ∧ Same H0 G ∧ G hd = some (.lst (LL.map V.ref)) ∧
      ∀ (j : Nat) (x : Addr), LL[j]? = some x → ∃ ys : List V, G x = some (.lst ys) ∧ (if j < i then ∃ zs : List V, ys = zs ++ [V.int (0 + (j : Int))] ∧ nn[j]? = some zs.length else nn[j]? = some ys.length)) ⟨none, rfl, sL, hL, fun j x hx => ?_⟩ ?_ ?_⟩
    · obtain ⟨_, ys, a1, a2⟩ := each j x hx
      exact ⟨ys, a1, by rw [if_neg (Nat.not_lt_zero _)]; exact a2⟩
    · rintro i sl G hi ⟨v5, rfl, sG, hG, ev⟩
      have hx : LL[i]? = some LL[i] := List.getElem?_eq_getElem (by omega)
      obtain ⟨ys, gy, ly⟩ := ev i _ hx
      rw [if_neg (Nat.lt_irrefl _)] at ly
      have nhx := (each i _ hx).1
      have fx := fresh6 _ (List.getElem_mem (show i < LL.length by omega))
      have l60 := lens i _ ly
      have ix : atI (LL.map V.ref) (0 + (i : Int)) = some (.ref LL[i]) := by
        rw [Int.zero_add]
        exact atI_nat (by rw [List.getElem?_map, hx]; rfl)
      generalize hxe : LL[i] = x at hx gy nhx fx ix
      refine ⟨_, rfl, _, rfl, hd, _, _, .ref x, rfl, rfl, .inl (.inl hG), ix, .inl ⟨rfl, _, .inl (.inl gy)⟩, _, rfl, x, ys, _, rfl, rfl, gy, small1000 (by omega), _, rfl, same_put sG fx, ?_, fun j y hy => ?_⟩
      · rw [upd_ne (fun e => nhx e.symm)]
        exact hG
      · by_cases hj : j = i
        · subst hj
          rw [hx] at hy
          have e := Option.some.inj hy
          subst e
          exact ⟨_, upd_same, by rw [if_pos (Nat.lt_succ_self _)]; exact ⟨ys, rfl, ly⟩⟩
        · have hne : y ≠ x := fun e => by
            subst e
            have hjl : j < LL.length := (List.getElem?_eq_some_iff.mp hy).1
            exact hj ((List.getElem?_inj hjl nodup6).mp (hy.trans hx.symm))
          obtain ⟨zs, gz, lz⟩ := ev j y hy
          refine ⟨zs, by rw [upd_ne hne]; exact gz, ?_⟩
          by_cases hlt : j < i
          · rw [if_pos hlt] at lz
            rw [if_pos (Nat.lt_succ_of_lt hlt)]
            exact lz
          · rw [if_neg hlt] at lz
            rw [if_neg (by omega)]
            exact lz
    rintro sl G1' ⟨v5, rfl, sG1, hG1, ev1⟩
    have ev : ∀ (j : Nat) (x : Addr), LL[j]? = some x → ∃ zs : List V, G1' x = some (.lst (zs ++ [V.int (0 + (j : Int))])) ∧ nn[j]? = some zs.length := by
      intro j x hx
      obtain ⟨ys, gy, ly⟩ := ev1 j x hx
      have hj : j < LL.length := (List.getElem?_eq_some_iff.mp hx).1
      rw [if_pos (by omega)] at ly
      obtain ⟨zs, e, l⟩ := ly
      exact ⟨zs, by rw [← e]; exact gy, l⟩
    -- each has one more
    refine ⟨6, rfl, by decide, by decide, for_range (lo := 0) (n := 6) (fun i sl G => ∃ v5 v6, sl = [some (.ref p), some (.ref q), some (.ref h), some (.ref m), some (.ref hd), v5, v6, none] ∧ Same G1' G) ⟨v5, none, rfl, Same.refl _⟩ ?_ ?_⟩
    · rintro i sl G hi ⟨w5, w6, rfl, sG⟩
      have NG := (N0.same sG1).same sG
      obtain ⟨y, l, hy, hl, rd⟩ := chosen i hi
      refine ⟨_, rfl, q, _, 0, .ref a2, rfl, rfl, .inl (.inl NG.sh), atI_nat (j := 0) rfl, _, rfl, q, _, 1, .ref b2, rfl, rfl, .inl (.inl NG.sh), atI_nat (j := 1) rfl, _, rfl, q, _, 0, .ref a2, rfl, rfl, .inl (.inl NG.sh), atI_nat (j := 0) rfl, by show 3 ≤ sizeLine; decide, fun U nU => ?_⟩
      have sU := new_same nU (o := .lst [.ref a2, .ref b2, .ref a2])
      have NU := NG.same sU
      obtain ⟨ys, gy, ey⟩ := rd _ NU.ra NU.rb
      refine ⟨_, rfl, .inl ⟨_, rfl, _, _, rfl, rfl, (by show (0 : Int) < 3; decide), U, _, _, .ref y, rfl, rfl, .inl (.inl upd_same), hy, y, _, rfl, .inl (.inl (.inl gy)), _, _, rfl, rfl, ?_⟩⟩
      have hx : LL[i]? = some LL[i] := List.getElem?_eq_getElem (by omega)
      obtain ⟨zs, gz, lz⟩ := ev i _ hx
      have ix : atI (LL.map V.ref) (0 + (i : Int)) = some (.ref LL[i]) := by
        rw [Int.zero_add]
        exact atI_nat (by rw [List.getElem?_map, hx]; rfl)
      generalize LL[i] = x at gz ix
      have gz2 := sU _ _ (sG _ _ gz)
      have hd2 := sU _ _ (sG _ _ hG1)
      refine ⟨_, rfl, _, rfl, hd, _, _, .ref x, rfl, rfl, .inl (.inl hd2), ix, _, rfl, x, _, -1, _, rfl, rfl, .inl (.inl gz2), atI_last _ _, _, rfl, rfl, _, rfl, iteNS rfl ?_⟩
      refine ⟨_, rfl, _, rfl, hd, _, _, .ref x, rfl, rfl, .inl (.inl hd2), ix, x, _, rfl, .inl (.inl (.inl gz2)), _, rfl, rfl, _, rfl, iteNS ?_ ?_⟩
      · rw [hl] at lz
        have e := Option.some.inj lz
        rw [List.length_append, ey, e]
        show V.int ((zs.length + 1 : Nat) : Int) = V.int (1 + (zs.length : Nat))
        congr 1
        omega
      · exact ⟨_, _, rfl, sG.trans sU⟩
    rintro sl G2' ⟨w5, w6, rfl, sG2⟩
    have s02 := sG1.trans sG2
    have N14 := N0.same s02
    refine ⟨_, rfl, _, rfl, m, dx, a, b, q, a2, b2, ts, ns, rfl, N14.dia, N14.sh, N14.ra, N14.rb, S, fun G15 s15 => ⟨_, rfl, iteF ?_⟩⟩
    have s05 := s02.trans s15
    have N15 := N0.same s05
    -- another one
    obtain ⟨as15, hA15, pA15⟩ := N15.ra
    refine ⟨_, rfl, q, _, 0, .ref a2, rfl, rfl, .inl (.inl N15.sh), atI_nat (j := 0) rfl, a2, _, rfl, .inl (.inl (.inl hA15)), fun l1 nl1 => ⟨Nat.zero_le _, fun l2 nl2 => fun x dx2 nx ndx ne => ?_⟩⟩
    have s16 := new_same nl1 (o := .lst (as15.map V.ref))
    have s17 := s16.trans (new_same nl2 (o := .lst []))
    have R16 := (rows_copy pA15 nl1).same (new_same nl2 (o := .lst []))
    have sm := made0 nx ndx ne (o1 := .own x) (o2 := .ins C dx2 [])
    refine ⟨x, dx2, l1, l2, ts, [], rfl, upd_same, R16.same sm, Rows.same ⟨[], upd_same, .nil⟩ sm, goodT, S.nodup, (fun r hr => by cases hr), by omega, by decide, fun a3 b3 G18 na nb DA kx => ⟨rfl, ?_⟩⟩
    have s18 := s17.trans (made_same nx ndx kx)
    have N18 := N15.same s18
    refine ⟨_, rfl, x, dx2, _, rfl, DA.ob, x, dx2, a3, b3, ts, [], rfl, DA, 0, rfl, by decide, rfl, _, rfl, iteNS rfl ?_⟩
    refine ⟨_, rfl, x, dx2, _, rfl, DA.ob, x, dx2, a3, b3, ts, [], rfl, DA, fun y1 G19 ny1 ry1 s19 => ⟨Nat.zero_le _, fun U nU => ?_⟩⟩
    refine ⟨.list [], .list [], rows_dp (ry1.new nU) (fun r hr => by cases hr), .lst (.inl (.inl upd_same)) .nil, by rfl, by rfl, _, rfl, iteF ?_⟩
    have s20 := s19.trans (new_same nU (o := .lst []))
    have D20 := DA.same s20
    refine ⟨_, rfl, x, dx2, _, rfl, D20.ob, x, dx2, a3, b3, ts, [], rfl, D20, fun y2 G21 ny2 ry2 s21 => ?_⟩
    have N21 := (N18.same s20).same s21
    refine ⟨_, .list (ts.map rowD), rfl, rows_dp ry2 S.flatT, NT.show_, NT.nod, Nat.le_trans NT.deep (by decide), NT.short (by decide), ?_⟩
    refine ⟨_, rfl, q, _, 0, .ref a2, rfl, rfl, .inl (.inl N21.sh), atI_nat (j := 0) rfl, _, .list (ts.map rowD), rfl, rows_dp N21.ra S.flatT, NT.show_, NT.nod, Nat.le_trans NT.deep (by decide), NT.short (by decide), rfl, _, rfl, iteNS rfl ?_⟩
    refine ⟨_, rfl, _, rfl, m, dx, a, b, q, a2, b2, ts, ns, rfl, N21.dia, N21.sh, N21.ra, N21.rb, S, fun G22 s22 => ?_⟩
    exact k0 _ ((((((K0.same s05).same s18).same s20).same s21).same s22)).keep
end
end Md

namespace Md
open PySem PySem.Spec PyProof.Rows L2
abbrev sLaw : Stmt := top 31
section
variable {P : Program} {w : World} {K : PySem.W.Frag} {mg : Str → Option Value} {base : Heap}
def spLaw (K : PySem.W.Frag) : Sp := fun vs H Q _ => ∃ (a : Addr) (ns : List Int), vs = [.ref a] ∧ SqL K H a (ns.map V.int) ∧ ns.length ≤ 63 ∧ ∀ H', Q (.bl true) H'
theorem scLaw : FnScope ["script", "spot", "purse"] ["script"] (defScope sLaw) := ⟨rfl, rfl, rfl, by decide +kernel, rfl, by decide +kernel, by decide +kernel⟩
theorem ok_law {f fP fR : Addr} {fd fdP fdR : FuncData} {k : Nat} (F : Fun K "law" "law" sLaw f fd) (PP : DefAt P w K mg base "_law_purse" fP fdP ["script", "place"] 1 (spPurse K)) (R : GAt P w K mg base "_law_right" fR fdR ["purse"] 5 spRight) (B : Blt mg) :
    FnG P w K mg base CX0 (k + 6) f fd ["script"] (spLaw K) := by
  have GP := PP.ok (k + 4)
  have GR := R.ok k
  refine okG F scLaw (fun vs H Q E h => ?_) (fun cdv A outer s H vs Q E g hr h => ?_)
  · obtain ⟨a, ns, rfl, _⟩ := h
    rfl
  · obtain ⟨a, ns, rfl, hS, few, k0⟩ := h
    have nd := scLaw.nd
    refine ⟨_, pss_cons (ps_for PassesOwn.never rfl (pi_range1 rfl B.range (pa_cons (pe_callB (call_max2 rfl) (by rfl) B.max (by decide +kernel) (pa_cons pe_int (pa_cons (pe_callB (call_min2 rfl) (by rfl) B.min (by decide +kernel) (pa_cons pe_int (pa_cons (pe_callB call_len_seq (by rfl) B.len PySem.boot_len (pa_cons (pv 0) pa_nil)) pa_nil))) pa_nil))) pa_nil)) (pg_name (i := 1) nd rfl (.inl rfl))
        (pss_cons (ps_set (i := 2) nd rfl (.inl rfl) (pe_call GP hr (by rfl) PP.mg PP.kp PP.b .nil pass0 (pa_cons (pv 0) (pa_cons (pv 1) pa_nil))))
        (pss_one (ps_if (pt_not (pt_val (pe_callG GR g hr (by rfl) R.mg R.kp R.b pass0 (pa_cons (pv 2) pa_nil)))) (pss_one ps_never) pss_nil))))
      (pss_one (ps_ret pe_bl)), ?_⟩
    refine ⟨_, rfl, a, _, rfl, .inl hS, _, _, rfl, _, _, rfl, ?_⟩
    obtain ⟨v, ev, v0, v1⟩ : ∃ v : Int, (if (if ((ns.map V.int).length : Int) < 8 then ((ns.map V.int).length : Int) else 8) > 1 then (if ((ns.map V.int).length : Int) < 8 then ((ns.map V.int).length : Int) else 8) else 1) = v ∧ 0 ≤ v ∧ v ≤ 8 := by
      refine ⟨_, rfl, ?_, ?_⟩ <;> split <;> (try split) <;> omega
    rw [ev]
    refine ⟨v, rfl, by omega, by omega, for_range (lo := 0) (n := v.toNat) (fun i sl G => ∃ v1 v2, sl = [some (.ref a), v1, v2] ∧ Same H G) ⟨none, none, rfl, Same.refl H⟩ ?_ ?_⟩
    · rintro i sl G hi ⟨v1, v2, rfl, sG⟩
      refine ⟨_, rfl, _, rfl, a, ns, i, ?_, sG.seq hS, fun p H1 np hp s1 => ?_⟩
      · rw [Int.zero_add]
        rfl
      refine ⟨_, rfl, p, rfl, hp, fun H2 k2 => ⟨_, rfl, iteF ?_⟩⟩
      exact ⟨_, _, rfl, fun b u z => k2 b u (s1 b u (sG b u z)) (ne_of_none (sG b u z) np)⟩
    · rintro sl G ⟨v1, v2, rfl, sG⟩
      exact k0 G
end
end Md

namespace Md
open PySem PySem.Spec PyProof.Rows L2
theorem init_kbn {K : PySem.W.Frag} {f : Addr} {fd : FuncData} (F : Fun K "__init__" "Diary.__init__" sInit f fd) : KBn K fd ["self", "towns", "notes"] 1 ["notes", "towns"] swap3 swap3 := by
  obtain ⟨oc, od, kV, doc, pm, an, cdv, ct, osl, rfl, lk, hcd⟩ := F.ex
  refine ⟨fun s us ws X l1 l2 => match us, ws, l1, l2 with | [x], [b, a], _, _ => .of_eq rfl, fun r1 r2 => ?_⟩
  cases r1 with
  | nil => exact .nil
  | cons h t =>
    cases t with
    | cons h2 t2 => exact .cons h (.cons h2 t2)
    | nil =>
      cases r2 with
      | nil => exact .cons h .nil
      | cons g1 u1 =>
        cases u1 with
        | nil => exact .cons h .nil
        | cons g2 u2 =>
          cases u2 with
          | nil => exact .cons h (.cons g2 (.cons g1 .nil))
          | cons g3 u3 => exact .cons h .nil

theorem all_mk {l : PySem.W.OpenLaw} {w : World} {K : PySem.W.Frag} {h : Heap} {mg : Str → Option Value} {fa C dT pm2 pm3 : Addr} {fn1 fn2 fn3 fn4 fd1 fd2 fd3 fd4 fd5 fd6 fd7 fd8 fd9 fdA fdB fdC fdD fm1 fm2 fm3 fm4 fm5 : Addr} {es : Array DictEntry} {n : Nat} {restm2 restm3 : List Value} {tk1 tk2 te0 te1 te2 te3 : Tok}
    (X : K.In h) (G : h.Ns mainGlobals mg) (hfa : mg "law" = some (.ref fa))
    {odn1 ann1 odn2 ann2 odn3 ann3 odn4 ann4 odd1 and1 odd2 and2 odd3 and3 odd4 and4 odd5 and5 odd6 and6 odd7 and7 odd8 and8 odd9 and9 oddA andA oddB andB oddC andC oddD andD odm1 anm1 odm2 anm2 odm3 anm3 odm4 anm4 odm5 anm5 : Option Addr} {sln1 sln2 sln3 sln4 sld1 sld2 sld3 sld4 sld5 sld6 sld7 sld8 sld9 sldA sldB sldC sldD slm1 slm2 slm3 slm4 slm5 : Array (Option Value)}
    {ocn1 kVn1 dcn1 pm_n1 cdn1 ctn1 ocn2 kVn2 dcn2 pm_n2 cdn2 ctn2 ocn3 kVn3 dcn3 pm_n3 cdn3 ctn3 ocn4 kVn4 dcn4 pm_n4 cdn4 ctn4 ocd1 kVd1 dcd1 pm_d1 cdd1 ctd1 ocd2 kVd2 dcd2 pm_d2 cdd2 ctd2 ocd3 kVd3 dcd3 pm_d3 cdd3 ctd3 ocd4 kVd4 dcd4 pm_d4 cdd4 ctd4 ocd5 kVd5 dcd5 pm_d5 cdd5 ctd5 ocd6 kVd6 dcd6 pm_d6 cdd6 ctd6 ocd7 kVd7 dcd7 pm_d7 cdd7 ctd7 ocd8 kVd8 dcd8 pm_d8 cdd8 ctd8 ocd9 kVd9 dcd9 pm_d9 cdd9 ctd9 ocdA kVdA dcdA pm_dA cddA ctdA ocdB kVdB dcdB pm_dB cddB ctdB ocdC kVdC dcdC pm_dC cddC ctdC ocdD kVdD dcdD pm_dD cddD ctdD ocm1 kVm1 dcm1 pm_m1 cdm1 ctm1 ocm2 kVm2 dcm2 pm_m2 cdm2 ctm2 ocm3 kVm3 dcm3 pm_m3 cdm3 ctm3 ocm4 kVm4 dcm4 pm_m4 cdm4 ctm4 ocm5 kVm5 dcm5 pm_m5 cdm5 ctm5 : Value}
    (an1 : PySem.W.nsIn K mainGlobals "is_name" = some (some (.ref fn1)))
    (ln1 : K.lookup fn1 = some ⟨ocn1, odn1, .func (PySem.W.fnOf "is_name" "is_name" (defArgs sIsName) (defBody sIsName) (defScope sIsName) .none kVn1 dcn1 pm_n1 ann1 cdn1 ctn1), sln1⟩)
    (cn1 : PySem.W.codeIn K cdn1 "is_name" = true)
    (kn1 : PySem.W.keepIn K (.ref fn1) = true)
    (an2 : PySem.W.nsIn K mainGlobals "check_towns" = some (some (.ref fn2)))
    (ln2 : K.lookup fn2 = some ⟨ocn2, odn2, .func (PySem.W.fnOf "check_towns" "check_towns" (defArgs sCheckTowns) (defBody sCheckTowns) (defScope sCheckTowns) .none kVn2 dcn2 pm_n2 ann2 cdn2 ctn2), sln2⟩)
    (cn2 : PySem.W.codeIn K cdn2 "check_towns" = true)
    (kn2 : PySem.W.keepIn K (.ref fn2) = true)
    (an3 : PySem.W.nsIn K mainGlobals "check_note" = some (some (.ref fn3)))
    (ln3 : K.lookup fn3 = some ⟨ocn3, odn3, .func (PySem.W.fnOf "check_note" "check_note" (defArgs sCheckNote) (defBody sCheckNote) (defScope sCheckNote) .none kVn3 dcn3 pm_n3 ann3 cdn3 ctn3), sln3⟩)
    (cn3 : PySem.W.codeIn K cdn3 "check_note" = true)
    (kn3 : PySem.W.keepIn K (.ref fn3) = true)
    (an4 : PySem.W.nsIn K mainGlobals "check_asked" = some (some (.ref fn4)))
    (ln4 : K.lookup fn4 = some ⟨ocn4, odn4, .func (PySem.W.fnOf "check_asked" "check_asked" (defArgs sCheckAsked) (defBody sCheckAsked) (defScope sCheckAsked) .none kVn4 dcn4 pm_n4 ann4 cdn4 ctn4), sln4⟩)
    (cn4 : PySem.W.codeIn K cdn4 "check_asked" = true)
    (kn4 : PySem.W.keepIn K (.ref fn4) = true)
    (ad1 : PySem.W.nsIn K mainGlobals "_law_purse" = some (some (.ref fd1)))
    (ld1 : K.lookup fd1 = some ⟨ocd1, odd1, .func (PySem.W.fnOf "_law_purse" "_law_purse" (defArgs sPurse) (defBody sPurse) (defScope sPurse) .none kVd1 dcd1 pm_d1 and1 cdd1 ctd1), sld1⟩)
    (cd1 : PySem.W.codeIn K cdd1 "_law_purse" = true)
    (kd1 : PySem.W.keepIn K (.ref fd1) = true)
    (ad2 : PySem.W.nsIn K mainGlobals "_law_coin" = some (some (.ref fd2)))
    (ld2 : K.lookup fd2 = some ⟨ocd2, odd2, .func (PySem.W.fnOf "_law_coin" "_law_coin" (defArgs sCoin) (defBody sCoin) (defScope sCoin) .none kVd2 dcd2 pm_d2 and2 cdd2 ctd2), sld2⟩)
    (cd2 : PySem.W.codeIn K cdd2 "_law_coin" = true)
    (kd2 : PySem.W.keepIn K (.ref fd2) = true)
    (ad3 : PySem.W.nsIn K mainGlobals "_law_words" = some (some (.ref fd3)))
    (ld3 : K.lookup fd3 = some ⟨ocd3, odd3, .func (PySem.W.fnOf "_law_words" "_law_words" (defArgs sWords) (defBody sWords) (defScope sWords) .none kVd3 dcd3 pm_d3 and3 cdd3 ctd3), sld3⟩)
    (cd3 : PySem.W.codeIn K cdd3 "_law_words" = true)
    (kd3 : PySem.W.keepIn K (.ref fd3) = true)
    (ad4 : PySem.W.nsIn K mainGlobals "_law_mk_moment" = some (some (.ref fd4)))
    (ld4 : K.lookup fd4 = some ⟨ocd4, odd4, .func (PySem.W.fnOf "_law_mk_moment" "_law_mk_moment" (defArgs sMoment) (defBody sMoment) (defScope sMoment) .none kVd4 dcd4 pm_d4 and4 cdd4 ctd4), sld4⟩)
    (cd4 : PySem.W.codeIn K cdd4 "_law_mk_moment" = true)
    (kd4 : PySem.W.keepIn K (.ref fd4) = true)
    (ad5 : PySem.W.nsIn K mainGlobals "_law_mk_places" = some (some (.ref fd5)))
    (ld5 : K.lookup fd5 = some ⟨ocd5, odd5, .func (PySem.W.fnOf "_law_mk_places" "_law_mk_places" (defArgs sPlaces) (defBody sPlaces) (defScope sPlaces) .none kVd5 dcd5 pm_d5 and5 cdd5 ctd5), sld5⟩)
    (cd5 : PySem.W.codeIn K cdd5 "_law_mk_places" = true)
    (kd5 : PySem.W.keepIn K (.ref fd5) = true)
    (ad6 : PySem.W.nsIn K mainGlobals "_law_mk_picks" = some (some (.ref fd6)))
    (ld6 : K.lookup fd6 = some ⟨ocd6, odd6, .func (PySem.W.fnOf "_law_mk_picks" "_law_mk_picks" (defArgs sPicks) (defBody sPicks) (defScope sPicks) .none kVd6 dcd6 pm_d6 and6 cdd6 ctd6), sld6⟩)
    (cd6 : PySem.W.codeIn K cdd6 "_law_mk_picks" = true)
    (kd6 : PySem.W.keepIn K (.ref fd6) = true)
    (ad7 : PySem.W.nsIn K mainGlobals "_law_mk_pair" = some (some (.ref fd7)))
    (ld7 : K.lookup fd7 = some ⟨ocd7, odd7, .func (PySem.W.fnOf "_law_mk_pair" "_law_mk_pair" (defArgs sPair) (defBody sPair) (defScope sPair) .none kVd7 dcd7 pm_d7 and7 cdd7 ctd7), sld7⟩)
    (cd7 : PySem.W.codeIn K cdd7 "_law_mk_pair" = true)
    (kd7 : PySem.W.keepIn K (.ref fd7) = true)
    (ad8 : PySem.W.nsIn K mainGlobals "_law_mk_market" = some (some (.ref fd8)))
    (ld8 : K.lookup fd8 = some ⟨ocd8, odd8, .func (PySem.W.fnOf "_law_mk_market" "_law_mk_market" (defArgs sMarket) (defBody sMarket) (defScope sMarket) .none kVd8 dcd8 pm_d8 and8 cdd8 ctd8), sld8⟩)
    (cd8 : PySem.W.codeIn K cdd8 "_law_mk_market" = true)
    (kd8 : PySem.W.keepIn K (.ref fd8) = true)
    (ad9 : PySem.W.nsIn K mainGlobals "_law_mk_entry" = some (some (.ref fd9)))
    (ld9 : K.lookup fd9 = some ⟨ocd9, odd9, .func (PySem.W.fnOf "_law_mk_entry" "_law_mk_entry" (defArgs sEntry) (defBody sEntry) (defScope sEntry) .none kVd9 dcd9 pm_d9 and9 cdd9 ctd9), sld9⟩)
    (cd9 : PySem.W.codeIn K cdd9 "_law_mk_entry" = true)
    (kd9 : PySem.W.keepIn K (.ref fd9) = true)
    (adA : PySem.W.nsIn K mainGlobals "_law_mk_wide" = some (some (.ref fdA)))
    (ldA : K.lookup fdA = some ⟨ocdA, oddA, .func (PySem.W.fnOf "_law_mk_wide" "_law_mk_wide" (defArgs sWide) (defBody sWide) (defScope sWide) .none kVdA dcdA pm_dA andA cddA ctdA), sldA⟩)
    (cdA : PySem.W.codeIn K cddA "_law_mk_wide" = true)
    (kdA : PySem.W.keepIn K (.ref fdA) = true)
    (adB : PySem.W.nsIn K mainGlobals "_law_mk_told_right" = some (some (.ref fdB)))
    (ldB : K.lookup fdB = some ⟨ocdB, oddB, .func (PySem.W.fnOf "_law_mk_told_right" "_law_mk_told_right" (defArgs sTold) (defBody sTold) (defScope sTold) .none kVdB dcdB pm_dB andB cddB ctdB), sldB⟩)
    (cdB : PySem.W.codeIn K cddB "_law_mk_told_right" = true)
    (kdB : PySem.W.keepIn K (.ref fdB) = true)
    (adC : PySem.W.nsIn K mainGlobals "_law_right" = some (some (.ref fdC)))
    (ldC : K.lookup fdC = some ⟨ocdC, oddC, .func (PySem.W.fnOf "_law_right" "_law_right" (defArgs sRight) (defBody sRight) (defScope sRight) .none kVdC dcdC pm_dC andC cddC ctdC), sldC⟩)
    (cdC : PySem.W.codeIn K cddC "_law_right" = true)
    (kdC : PySem.W.keepIn K (.ref fdC) = true)
    (adD : PySem.W.nsIn K mainGlobals "law" = some (some (.ref fdD)))
    (ldD : K.lookup fdD = some ⟨ocdD, oddD, .func (PySem.W.fnOf "law" "law" (defArgs sLaw) (defBody sLaw) (defScope sLaw) .none kVdD dcdD pm_dD andD cddD ctdD), sldD⟩)
    (cdD : PySem.W.codeIn K cddD "law" = true)
    (kdD : PySem.W.keepIn K (.ref fdD) = true)
    (aC : PySem.W.nsIn K mainGlobals "Diary" = some (some (.ref C)))
    (am1 : PySem.W.findIn K (.ref C) "__init__" = some (some (.ref fm1)))
    (im1 : PySem.W.isFn K (.ref fm1) = true)
    (lm1 : K.lookup fm1 = some ⟨ocm1, odm1, .func (PySem.W.fnOf "__init__" "Diary.__init__" (defArgs sInit) (defBody sInit) (defScope sInit) .none kVm1 dcm1 pm_m1 anm1 cdm1 ctm1), slm1⟩)
    (cm1 : PySem.W.codeIn K cdm1 "Diary.__init__" = true)
    (km1 : PySem.W.keepIn K (.ref fm1) = true)
    (am2 : PySem.W.findIn K (.ref C) "towns" = some (some (.ref pm2)))
    (gm2 : PySem.W.specialIn K (.ref pm2) "__get__" = some (some (.builtin "property.__get__")))
    (tm2 : PySem.W.takesIn K (.ref pm2) = some true)
    (rm2 : PySem.W.recIn K pm2 "property" = some (.ref fm2 :: restm2))
    (lm2 : K.lookup fm2 = some ⟨ocm2, odm2, .func (PySem.W.fnOf "towns" "Diary.towns" (defArgs sGetTowns) (defBody sGetTowns) (defScope sGetTowns) .none kVm2 dcm2 pm_m2 anm2 cdm2 ctm2), slm2⟩)
    (cm2 : PySem.W.codeIn K cdm2 "Diary.towns" = true)
    (km2 : PySem.W.keepIn K (.ref fm2) = true)
    (am3 : PySem.W.findIn K (.ref C) "notes" = some (some (.ref pm3)))
    (gm3 : PySem.W.specialIn K (.ref pm3) "__get__" = some (some (.builtin "property.__get__")))
    (tm3 : PySem.W.takesIn K (.ref pm3) = some true)
    (rm3 : PySem.W.recIn K pm3 "property" = some (.ref fm3 :: restm3))
    (lm3 : K.lookup fm3 = some ⟨ocm3, odm3, .func (PySem.W.fnOf "notes" "Diary.notes" (defArgs sGetNotes) (defBody sGetNotes) (defScope sGetNotes) .none kVm3 dcm3 pm_m3 anm3 cdm3 ctm3), slm3⟩)
    (cm3 : PySem.W.codeIn K cdm3 "Diary.notes" = true)
    (km3 : PySem.W.keepIn K (.ref fm3) = true)
    (am4 : PySem.W.findIn K (.ref C) "names" = some (some (.ref fm4)))
    (im4 : PySem.W.isFn K (.ref fm4) = true)
    (lm4 : K.lookup fm4 = some ⟨ocm4, odm4, .func (PySem.W.fnOf "names" "Diary.names" (defArgs sNames) (defBody sNames) (defScope sNames) .none kVm4 dcm4 pm_m4 anm4 cdm4 ctm4), slm4⟩)
    (cm4 : PySem.W.codeIn K cdm4 "Diary.names" = true)
    (km4 : PySem.W.keepIn K (.ref fm4) = true)
    (am5 : PySem.W.findIn K (.ref C) "__len__" = some (some (.ref fm5)))
    (im5 : PySem.W.isFn K (.ref fm5) = true)
    (lm5 : K.lookup fm5 = some ⟨ocm5, odm5, .func (PySem.W.fnOf "__len__" "Diary.__len__" (defArgs sLen) (defBody sLen) (defScope sLen) .none kVm5 dcm5 pm_m5 anm5 cdm5 ctm5), slm5⟩)
    (cm5 : PySem.W.codeIn K cdm5 "Diary.__len__" = true)
    (km5 : PySem.W.keepIn K (.ref fm5) = true)
    (pg : PySem.W.plainGet K C Str.empty = true)
    (hd : PySem.W.hasDictIn K C = true)
    (po : PySem.W.plainOver K C = true)
    (sa : PySem.W.findIn K (.ref C) "__setattr__" = some (some (.builtin "object.__setattr__")))
    (mk : PySem.W.makesIn K C = true)
    (kC : PySem.W.keepIn K (.ref C) = true)
    (nT : PySem.W.findIn K (.ref C) "_towns" = some none)
    (nN : PySem.W.findIn K (.ref C) "_notes" = some none)
    (tL : PySem.W.nsIn K mainGlobals "LETTERS" = some (some (.str "abcdefghijklmnopqrstuvwxyz" tk1)))
    (tM : PySem.W.nsIn K mainGlobals "MOST_LETTERS" = some (some (.int 8 tk2)))
    (tT : PySem.W.nsIn K mainGlobals "THINGS" = some (some (.ref dT)))
    (lT : K.lookup dT = some ⟨.type "dict", none, .dict es n, #[]⟩)
    (hT : PySem.W.KeysLit w.params es.toList)
    (oT : (dT == sysModules) = false)
    (e0 : PySem.W.nsIn K dT "market" = some (some (.int 3 te0)))
    (e1 : PySem.W.nsIn K dT "none" = some (some (.int 3 te1)))
    (e2 : PySem.W.nsIn K dT "one" = some (some (.int 4 te2)))
    (e3 : PySem.W.nsIn K dT "same" = some (some (.int 4 te3)))
    (z0 : PySem.W.nsIn K mainGlobals "len" = some none)
    (z1 : PySem.W.nsIn K mainGlobals "max" = some none)
    (z2 : PySem.W.nsIn K mainGlobals "min" = some none)
    (z3 : PySem.W.nsIn K mainGlobals "abs" = some none)
    (z4 : PySem.W.nsIn K mainGlobals "int" = some none)
    (z5 : PySem.W.nsIn K mainGlobals "list" = some none)
    (z6 : PySem.W.nsIn K mainGlobals "tuple" = some none)
    (z7 : PySem.W.nsIn K mainGlobals "set" = some none)
    (z8 : PySem.W.nsIn K mainGlobals "sorted" = some none)
    (z9 : PySem.W.nsIn K mainGlobals "range" = some none)
    (z10 : PySem.W.nsIn K mainGlobals "repr" = some none)
    (z11 : PySem.W.nsIn K mainGlobals "isinstance" = some none)
    (z12 : PySem.W.nsIn K mainGlobals "all" = some none) :
    ∃ fd : FuncData, (∀ (s : Shared) (v : Value), BindsTo s fd ⟨[v], []⟩ [("script", v)]) ∧ ∀ base : Heap, K.In base → base.Ns mainGlobals mg → FnG l.prog w K mg base CX0 6 fa fd ["script"] (spLaw K) := by
  have e := hfa.symm.trans (PySem.W.mg_of X G adD)
  cases e
  have B : Blt mg := ⟨PySem.W.mg_none_of X G z0, PySem.W.mg_none_of X G z1, PySem.W.mg_none_of X G z2, PySem.W.mg_none_of X G z3, PySem.W.mg_none_of X G z4, PySem.W.mg_none_of X G z5, PySem.W.mg_none_of X G z6, PySem.W.mg_none_of X G z7, PySem.W.mg_none_of X G z8, PySem.W.mg_none_of X G z9, PySem.W.mg_none_of X G z10, PySem.W.mg_none_of X G z11, PySem.W.mg_none_of X G z12⟩
  have T : Tops mg := ⟨⟨_, PySem.W.mg_of X G tL⟩, ⟨_, PySem.W.mg_of X G tM⟩⟩
  have TH : Things K w mg := ⟨dT, es, n, PySem.W.mg_of X G tT, ⟨lT, hT, oT⟩, ⟨_, e0⟩, ⟨_, e1⟩, ⟨_, e2⟩, ⟨_, e3⟩⟩
  have cl : Cl K C := ⟨⟨pg, hd, po, sa⟩, nT, nN⟩
  have Fn1 := fun_mk (st := sIsName) ln1 cn1 kn1
  have Fn2 := fun_mk (st := sCheckTowns) ln2 cn2 kn2
  have Fn3 := fun_mk (st := sCheckNote) ln3 cn3 kn3
  have Fn4 := fun_mk (st := sCheckAsked) ln4 cn4 kn4
  have Fd1 := fun_mk (st := sPurse) ld1 cd1 kd1
  have Fd2 := fun_mk (st := sCoin) ld2 cd2 kd2
  have Fd3 := fun_mk (st := sWords) ld3 cd3 kd3
  have Fd4 := fun_mk (st := sMoment) ld4 cd4 kd4
  have Fd5 := fun_mk (st := sPlaces) ld5 cd5 kd5
  have Fd6 := fun_mk (st := sPicks) ld6 cd6 kd6
  have Fd7 := fun_mk (st := sPair) ld7 cd7 kd7
  have Fd8 := fun_mk (st := sMarket) ld8 cd8 kd8
  have Fd9 := fun_mk (st := sEntry) ld9 cd9 kd9
  have FdA := fun_mk (st := sWide) ldA cdA kdA
  have FdB := fun_mk (st := sTold) ldB cdB kdB
  have FdC := fun_mk (st := sRight) ldC cdC kdC
  have FdD := fun_mk (st := sLaw) ldD cdD kdD
  have Fm1 := fun_mk (st := sInit) lm1 cm1 km1
  have Fm2 := fun_mk (st := sGetTowns) lm2 cm2 km2
  have Fm3 := fun_mk (st := sGetNotes) lm3 cm3 km3
  have Fm4 := fun_mk (st := sNames) lm4 cm4 km4
  have Fm5 := fun_mk (st := sLen) lm5 cm5 km5
  have bn1 := Fn1.binds (ps := ["name"]) fun _ _ _ _ _ _ us hl => match us, hl with | [_], _ => rfl
  have bn2 := Fn2.binds (ps := ["towns"]) fun _ _ _ _ _ _ us hl => match us, hl with | [_], _ => rfl
  have bn3 := Fn3.binds (ps := ["names", "note"]) fun _ _ _ _ _ _ us hl => match us, hl with | [_, _], _ => rfl
  have bn4 := Fn4.binds (ps := ["names", "asked"]) fun _ _ _ _ _ _ us hl => match us, hl with | [_, _], _ => rfl
  have bd1 := Fd1.binds (ps := ["script", "place"]) fun _ _ _ _ _ _ us hl => match us, hl with | [_, _], _ => rfl
  have bd2 := Fd2.binds (ps := ["purse", "many"]) fun _ _ _ _ _ _ us hl => match us, hl with | [_, _], _ => rfl
  have bd3 := Fd3.binds (ps := ["purse", "many"]) fun _ _ _ _ _ _ us hl => match us, hl with | [_, _], _ => rfl
  have bd4 := Fd4.binds (ps := ["purse"]) fun _ _ _ _ _ _ us hl => match us, hl with | [_], _ => rfl
  have bd5 := Fd5.binds (ps := ["purse", "count", "top"]) fun _ _ _ _ _ _ us hl => match us, hl with | [_, _, _], _ => rfl
  have bd6 := Fd6.binds (ps := ["purse", "places"]) fun _ _ _ _ _ _ us hl => match us, hl with | [_, _], _ => rfl
  have bd7 := Fd7.binds (ps := ["purse", "places"]) fun _ _ _ _ _ _ us hl => match us, hl with | [_, _], _ => rfl
  have bd8 := Fd8.binds (ps := ["pick", "moment"]) fun _ _ _ _ _ _ us hl => match us, hl with | [_, _], _ => rfl
  have bd9 := Fd9.binds (ps := ["purse", "places", "pair", "picks", "is_true"]) fun _ _ _ _ _ _ us hl => match us, hl with | [_, _, _, _, _], _ => rfl
  have bdA := FdA.binds (ps := ["purse"]) fun _ _ _ _ _ _ us hl => match us, hl with | [_], _ => rfl
  have bdB := FdB.binds (ps := ["made", "sheet"]) fun _ _ _ _ _ _ us hl => match us, hl with | [_, _], _ => rfl
  have bdC := FdC.binds (ps := ["purse"]) fun _ _ _ _ _ _ us hl => match us, hl with | [_], _ => rfl
  have bdD := FdD.binds (ps := ["script"]) fun _ _ _ _ _ _ us hl => match us, hl with | [_], _ => rfl
  have bm1 := Fm1.binds (ps := ["self", "towns", "notes"]) fun _ _ _ _ _ _ us hl => match us, hl with | [_, _, _], _ => rfl
  have bm2 := Fm2.binds (ps := ["self"]) fun _ _ _ _ _ _ us hl => match us, hl with | [_], _ => rfl
  have bm3 := Fm3.binds (ps := ["self"]) fun _ _ _ _ _ _ us hl => match us, hl with | [_], _ => rfl
  have bm4 := Fm4.binds (ps := ["self"]) fun _ _ _ _ _ _ us hl => match us, hl with | [_], _ => rfl
  have bm5 := Fm5.binds (ps := ["self"]) fun _ _ _ _ _ _ us hl => match us, hl with | [_], _ => rfl
  refine ⟨PySem.W.fnOf "law" "law" (defArgs sLaw) (defBody sLaw) (defScope sLaw) .none kVdD dcdD pm_dD andD cddD ctdD, fun s v => .of_eq rfl, fun base _ _ => ?_⟩
  have C2 : CoinAt l.prog w K mg base fd2 _ := ⟨fun k => ok_coin Fd2 B, PySem.W.mg_of X G ad2, kd2, bd2⟩
  have A1 : DefAt l.prog w K mg base "_law_purse" fd1 _ ["script", "place"] 1 (spPurse K) := ⟨fun k => ok_purse Fd1 B, PySem.W.mg_of X G ad1, kd1, bd1⟩
  have A3 : DefAt l.prog w K mg base "_law_words" fd3 _ ["purse", "many"] 2 spWords := ⟨fun k => ok_words Fd3 C2 B, PySem.W.mg_of X G ad3, kd3, bd3⟩
  have A4 : DefAt l.prog w K mg base "_law_mk_moment" fd4 _ ["purse"] 2 spMoment := ⟨fun k => ok_moment Fd4 C2 B, PySem.W.mg_of X G ad4, kd4, bd4⟩
  have A5 : DefAt l.prog w K mg base "_law_mk_places" fd5 _ ["purse", "count", "top"] 3 spPlaces := ⟨fun k => ok_places Fd5 C2 A3 B, PySem.W.mg_of X G ad5, kd5, bd5⟩
  have A6 : DefAt l.prog w K mg base "_law_mk_picks" fd6 _ ["purse", "places"] 2 spPicks := ⟨fun k => ok_picks Fd6 C2, PySem.W.mg_of X G ad6, kd6, bd6⟩
  have A7 : DefAt l.prog w K mg base "_law_mk_pair" fd7 _ ["purse", "places"] 2 spPair := ⟨fun k => ok_pair Fd7 C2 B, PySem.W.mg_of X G ad7, kd7, bd7⟩
  have A8 : DefAt l.prog w K mg base "_law_mk_market" fd8 _ ["pick", "moment"] 1 spMarket := ⟨fun k => ok_market Fd8 B, PySem.W.mg_of X G ad8, kd8, bd8⟩
  have A9 : DefAt l.prog w K mg base "_law_mk_entry" fd9 _ ["purse", "places", "pair", "picks", "is_true"] 3 spEntry := ⟨fun k => ok_entry Fd9 C2 A4 A8 B, PySem.W.mg_of X G ad9, kd9, bd9⟩
  have AA : DefAt l.prog w K mg base "_law_mk_wide" fdA _ ["purse"] 4 spWide := ⟨fun k => ok_wide FdA C2 A5 A6 A7 A9 B, PySem.W.mg_of X G adA, kdA, bdA⟩
  have DY : Dy l.prog w K mg base C pm2 fm2 pm3 fm3 fm4 fm5 fm1 _ _ _ _ _ := ⟨cl, PySem.W.mg_of X G aC, ⟨am2, gm2, tm2, _, rm2⟩, fun k => ok_towns Fm2 cl B, bm2, ⟨am3, gm3, tm3, _, rm3⟩, fun k => ok_notes Fm3 cl B, bm3, ⟨am4, im4, km4⟩, fun k => ok_names Fm4 cl B, bm4, ⟨am5, im5, km5⟩, fun k => ok_len Fm5 cl B, bm5, ⟨mk, am1, im1, kC⟩,
    fun k => ok_init Fm1 cl B (ok_checkTowns Fn2 Fn1 (PySem.W.mg_of X G an1) bn1 B T) (PySem.W.mg_of X G an2) kn2 bn2 (ok_checkNote Fn3 Fn4 (PySem.W.mg_of X G an4) bn4 B TH) (PySem.W.mg_of X G an3) kn3 bn3, bm1⟩
  have AB : GAt l.prog w K mg base "_law_mk_told_right" fdB _ ["made", "sheet"] 3 (spTold C) := ⟨fun k => ok_told FdB DY B, PySem.W.mg_of X G adB, kdB, bdB⟩
  have AC : GAt l.prog w K mg base "_law_right" fdC _ ["purse"] 5 spRight := ⟨fun k => ok_right FdC C2 AA AB DY (init_kbn Fm1) B, PySem.W.mg_of X G adC, kdC, bdC⟩
  exact ok_law FdD A1 AC B
end Md

open PySem PySem.W PyProof.Rows
set_option maxRecDepth 100000 in
set_option maxHeartbeats 0 in
theorem PySem.Challenge.cw_marketdays_k09_diaries_made_holds : PySem.Challenge.rw_marketdays_k09_diaries_made.Holds := by
  w_on; o_law; k_head; (case hw => w_witness2)
  k_fill
  refine Md.walk_g (l := PySem.Challenge.rw_marketdays_k09_diaries_made) (n := 63) (k := 6) (x := "script") (sp := Md.spLaw) rfl (by decide) rfl ⟨rfl, by decide, by decide⟩ (fun w h Y => PySem.W.kIn_of Y) ?F (fun _ _ a ns hl hS => ⟨a, ns, rfl, hS, hl, fun _ => rfl⟩)
  case F =>
    intro w mg fa h KX G hmg
    refine' Md.all_mk KX G hmg ?an1 ?ln1 ?cn1 ?kn1 ?an2 ?ln2 ?cn2 ?kn2 ?an3 ?ln3 ?cn3 ?kn3 ?an4 ?ln4 ?cn4 ?kn4 ?ad1 ?ld1 ?cd1 ?kd1 ?ad2 ?ld2 ?cd2 ?kd2 ?ad3 ?ld3 ?cd3 ?kd3 ?ad4 ?ld4 ?cd4 ?kd4 ?ad5 ?ld5 ?cd5 ?kd5 ?ad6 ?ld6 ?cd6 ?kd6 ?ad7 ?ld7 ?cd7 ?kd7 ?ad8 ?ld8 ?cd8 ?kd8 ?ad9 ?ld9 ?cd9 ?kd9 ?adA ?ldA ?cdA ?kdA ?adB ?ldB ?cdB ?kdB ?adC ?ldC ?cdC ?kdC ?adD ?ldD ?cdD ?kdD ?aC ?am1 ?im1 ?lm1 ?cm1 ?km1 ?am2 ?gm2 ?tm2 ?rm2 ?lm2 ?cm2 ?km2 ?am3 ?gm3 ?tm3 ?rm3 ?lm3 ?cm3 ?km3 ?am4 ?im4 ?lm4 ?cm4 ?km4 ?am5 ?im5 ?lm5 ?cm5 ?km5 ?pg ?hd ?po ?sa ?mk ?kC ?nT ?nN ?tL ?tM ?tT ?lT ?hT ?oT ?e0 ?e1 ?e2 ?e3 ?z0 ?z1 ?z2 ?z3 ?z4 ?z5 ?z6 ?z7 ?z8 ?z9 ?z10 ?z11 ?z12
    (case an1 => k_is); (case ln1 => k_is); (case cn1 => k_is); (case kn1 => k_is); (case an2 => k_is); (case ln2 => k_is)
    (case cn2 => k_is); (case kn2 => k_is); (case an3 => k_is); (case ln3 => k_is); (case cn3 => k_is); (case kn3 => k_is)
    (case an4 => k_is); (case ln4 => k_is); (case cn4 => k_is); (case kn4 => k_is); (case ad1 => k_is); (case ld1 => k_is)
    (case cd1 => k_is); (case kd1 => k_is); (case ad2 => k_is); (case ld2 => k_is); (case cd2 => k_is); (case kd2 => k_is)
    (case ad3 => k_is); (case ld3 => k_is); (case cd3 => k_is); (case kd3 => k_is); (case ad4 => k_is); (case ld4 => k_is)
    (case cd4 => k_is); (case kd4 => k_is); (case ad5 => k_is); (case ld5 => k_is); (case cd5 => k_is); (case kd5 => k_is)
    (case ad6 => k_is); (case ld6 => k_is); (case cd6 => k_is); (case kd6 => k_is); (case ad7 => k_is); (case ld7 => k_is)
    (case cd7 => k_is); (case kd7 => k_is); (case ad8 => k_is); (case ld8 => k_is); (case cd8 => k_is); (case kd8 => k_is)
    (case ad9 => k_is); (case ld9 => k_is); (case cd9 => k_is); (case kd9 => k_is); (case adA => k_is); (case ldA => k_is)
    (case cdA => k_is); (case kdA => k_is); (case adB => k_is); (case ldB => k_is); (case cdB => k_is); (case kdB => k_is)
    (case adC => k_is); (case ldC => k_is); (case cdC => k_is); (case kdC => k_is); (case adD => k_is); (case ldD => k_is)
    (case cdD => k_is); (case kdD => k_is); (case aC => k_is); (case am1 => k_is); (case im1 => k_is); (case lm1 => k_is)
    (case cm1 => k_is); (case km1 => k_is); (case am2 => k_is); (case gm2 => k_is); (case tm2 => k_is); (case rm2 => k_is)
    (case lm2 => k_is); (case cm2 => k_is); (case km2 => k_is); (case am3 => k_is); (case gm3 => k_is); (case tm3 => k_is)
    (case rm3 => k_is); (case lm3 => k_is); (case cm3 => k_is); (case km3 => k_is); (case am4 => k_is); (case im4 => k_is)
    (case lm4 => k_is); (case cm4 => k_is); (case km4 => k_is); (case am5 => k_is); (case im5 => k_is); (case lm5 => k_is)
    (case cm5 => k_is); (case km5 => k_is); (case pg => k_is); (case hd => k_is); (case po => k_is); (case sa => k_is)
    (case mk => k_is); (case kC => k_is); (case nT => k_is); (case nN => k_is); (case tL => k_is); (case tM => k_is)
    (case tT => k_is); (case lT => k_is); (case hT => exact ⟨⟨_, _, rfl, rfl⟩, ⟨_, _, rfl, rfl⟩, ⟨_, _, rfl, rfl⟩, ⟨_, _, rfl, rfl⟩, trivial⟩); (case oT => rfl); (case e0 => k_is); (case e1 => k_is)
    (case e2 => k_is); (case e3 => k_is); (case z0 => k_is); (case z1 => k_is); (case z2 => k_is); (case z3 => k_is)
    (case z4 => k_is); (case z5 => k_is); (case z6 => k_is); (case z7 => k_is); (case z8 => k_is); (case z9 => k_is)
    (case z10 => k_is); (case z11 => k_is); (case z12 => k_is)
