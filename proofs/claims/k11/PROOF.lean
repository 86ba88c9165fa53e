import PyProof.Rows.All
import Wide.All
import OpenK.AllK
import Wide.FinOn
import HandS.ForMost
import HandS.Strs
import HandS.SetFor
import HandS.SortInts
import HandS.Wide
import HandS.Property
import HandS.MakeKw
import HandS.More
import PyProof.Rows.SetFrom
import HandS.Zip
import PySem.Challenge.RW_marketdays_k11_notes_put_in_and_left_out
import HandS.Codes
import HandS.Style
import HandS.ExcInit
import HandS.WordsExc
import HandS.OwnEq
import HandS.TupAny
import HandS.TupMul
import HandS.ExcIs
import HandS.ExcField
import HandS.TryOnly
set_option Elab.async false
set_option linter.all false
set_option maxRecDepth 100000
/-! Defs whose bodies show data by repr: a promise under the fact that no shown thing stands on the stack. -/
namespace Md
open PySem PySem.Spec PyProof.Rows L2

/-- nothing that repr guards is running -/
abbrev NoG (A : Around) : Prop := A.guards = some []

structure FnG (P : Program) (w : World) (K : PySem.W.Frag) (mg : Str → Option Value) (base : Heap) (CX : CXT) (k : Nat) (f : Addr) (fd : FuncData) (ps : List Str) (sp : Sp) : Prop where
  many : ∀ vs H Q E, sp vs H Q E → vs.length = ps.length
  goes : ∀ (A : Around) (around : List Env) (st : Shared) (H : Hp) (ag : Args) (us : List Value) (vs : List V) (Q : VK) (E : XK),
    NoG A → Room k A → Env0 P w K mg base A around st H → BindsTo st fd ag (ps.zip us) → Vals vs us → sp vs H Q E →
    codeAny (model P w) A (.call (.ref f) ag) (CR CX around P w H st Q E) st

section
variable {X : Cx} {CX : CXT} {k : Nat} {f : Addr} {fd : FuncData} {ps : List Str} {sp : Sp} {E : XK} {x : Str} {p pos : Pos} {e : Expr} {es : List Expr} {t : TA}

theorem goes_fn {pins : List (Addr × Obj)} {sl : L2.St} {H : Hp} {st : Shared} {Q : VK} {us : List Value} {vs : List V}
    (F : FnG X.prog X.w X.K X.mg X.base CX k f fd ps sp) (g : NoG X.A) (hr : Room k X.A) (hb : Binds X.K fd ps []) (hx : Passes CX X E)
    (I : Inv X pins sl H st) (rv : Vals vs us) (h : sp vs H Q E) :
    wpAny (model X.prog X.w) X.A (call (.ref f) us) (EP X pins sl Q) X.xe st := by
  have same : us ++ [] = us := List.append_nil us
  have fits : (us ++ []).length = ps.length := by
    rw [same, ← rv.length]
    exact F.many _ _ _ _ h
  have bound := hb st us I.kIn fits
  rw [same] at bound
  refine wpAny_call (codeAny_mono (F.goes X.A X.stack st H ⟨us, []⟩ us vs Q E g hr I.env0 bound rv h) ?_)
  intro res st2 done
  match res, done with
  | .error er, done => exact hx pins sl H st er st2 I done
  | .ok (.ret u), done => exact I.after done

theorem pe_callG (F : FnG X.prog X.w X.K X.mg X.base CX k f fd ps sp) (g : NoG X.A) (hr : Room k X.A) (hg : Gl X x) (hm : X.mg x = some (.ref f)) (hk : PySem.W.keepIn X.K (.ref f) = true)
    (hb : Binds X.K fd ps []) (hx : Passes CX X E) (ha : PA X (e :: es) t) (hdb : (x == ("__debug__" : Str)) = false := by decide)
    (first : starEach (e :: es) X.env = (false, eval e X.env) :: starEach es X.env := by rfl) (flat : (backTo pos (starEach es X.env)).any (·.1) = false := by rfl) :
    PE X (.Call (.Name x p) (e :: es) [] pos) (tCall sp [] E t) := by
  constructor
  intro pins st sl H Q I h
  refine wpAny_Call_Name_kw (ld_glob I hg hm ?_ hdb)
  have args := thn (ha.run pos pins st sl H _ I h) (fun us st1 (w : AP X pins sl _ us st1) => w)
  refine PySem.W.callWith_K (h₀ := X.base) I.ok.mod.kin hk (thn args fun us st1 got => ?_) first flat
  obtain ⟨vs, H1, I1, rv, q⟩ := got
  have q' : sp vs H1 Q E := by
    have z : sp (vs ++ []) H1 Q E := q
    rwa [List.append_nil] at z
  exact ⟨I1.kIn, goes_fn F g hr hb hx I1 rv q'⟩
end

/-- a def of the text, by its body -/
theorem fn_g {CX : CXT} {P : Program} {w : World} {K : PySem.W.Frag} {mg : Str → Option Value} {base : Heap} {k : Nat} {f : Addr} {name qual : Str} {params : Arguments} {body : List Stmt} {scope : Scope}
    {dV kV doc pm cdv ct oc : Value} {an od : Option Addr} {osl : Array (Option Value)} {N ps : List Str} {sp : Sp}
    (lk : K.lookup f = some ⟨oc, od, .func (PySem.W.fnOf name qual params body scope dV kV doc pm an cdv ct), osl⟩) (hcd : PySem.W.codeIn K cdv qual = true) (S : FnScope N ps scope)
    (many : ∀ vs H Q E, sp vs H Q E → vs.length = ps.length)
    (inside : ∀ (A : Around) (around : List Env) (st : Shared) (H : Hp) (vs : List V) (Q : VK) (E : XK), NoG (A.deeper (envOfC qual scope st.heap.objs.size f cdv)) →
      Room k (A.deeper (envOfC qual scope st.heap.objs.size f cdv)) → sp vs H Q E →
      ∃ t, PSs (cxOf CX P w K mg base N qual scope f cdv A around st H E) body t ∧ t { nx := fun _ H' => Q .non H', rt := Q } (start N vs) H) :
    FnG P w K mg base CX (k + 1) f (PySem.W.fnOf name qual params body scope dV kV doc pm an cdv ct) ps sp := by
  constructor
  · exact many
  intro A around st H ag us vs Q E g hr e0 bound rv asked
  have stays : ∀ b o, base.get? b = some o → st.heap.get? b = some o := fun b o z => (e0.bs b o z).1
  have KX : K.In st.heap := e0.mod.kin.keeps stays
  have lim : st.heap.NoLimit := e0.mod.nolimit.keeps stays
  have kinds : ∀ y ∈ ps.zip us, scope.names.lookup y.1 = some .local ∨ (scope.names.lookup y.1 = some .cell ∧ ((cellsFrom (st.heap.objs.size + 1) scope.names []).lookup y.1).isSome = true) := by
    intro y hy
    have hm : y.1 ∈ ps := (List.of_mem_zip (a := y.1) (b := y.2) hy).1
    cases S.par y.1 hm with
    | inl q => exact Or.inl q
    | inr q => exact Or.inr ⟨q, PySem.W.cellsFrom_some _ _ _ (Or.inl q)⟩
  refine codeAny_call_function hr.depth (KX _ _ lk) rfl S.co S.gen rfl (PySem.W.codeRec_of KX hcd) (bound _ _ _ _ ?_)
  refine wpAny_newFunctionEnv_cells S.kind kinds ?_
  intro env he st1 entered
  subst he
  refine ⟨lim.keeps entered.toInCall.keep, codeAny_func ?_⟩
  obtain ⟨t, runs, wanted⟩ := inside A around st H vs Q E g (hr.deeper _) asked
  have I0 : Inv (cxOf CX P w K mg base N qual scope f cdv A around st H E) [] (start N vs) H st1 := inv_start S hr.hd e0 (many _ _ _ _ asked) rv entered
  refine wpAny_mono (runs.run [] st1 (start N vs) H _ I0 wanted) ?_ (fun er st2 z => z)
  intro fl st2 z
  cases fl with
  | ret u =>
    obtain ⟨v, sl', H', J, r, q⟩ := z
    exact ⟨v, H', J.os, J.bare, J.base, J.hok, r, q⟩
  | next =>
    obtain ⟨sl', H', J, q⟩ := z
    exact ⟨V.non, H', J.os, J.bare, J.base, J.hok, rfl, q⟩
  | brk =>
    obtain ⟨_, _, _, q⟩ := z
    exact False.elim q
  | cont =>
    obtain ⟨_, _, _, q⟩ := z
    exact False.elim q

/-- the same by the text's place -/
theorem okG {P : Program} {w : World} {K : PySem.W.Frag} {mg : Str → Option Value} {base : Heap} {x qual : Str} {st : Stmt} {f : Addr} {fd : FuncData} {N ps : List Str} {k : Nat} {sp : Sp}
    (F : Fun K x qual st f fd) (S : FnScope N ps (defScope st)) (many : ∀ vs H Q E, sp vs H Q E → vs.length = ps.length)
    (inside : ∀ (cdv : Value) (A : Around) (around : List Env) (s : Shared) (H : Hp) (vs : List V) (Q : VK) (E : XK), NoG (A.deeper (envOfC qual (defScope st) s.heap.objs.size f cdv)) →
      Room k (A.deeper (envOfC qual (defScope st) s.heap.objs.size f cdv)) → sp vs H Q E →
      ∃ t, PSs (cxOf CX0 P w K mg base N qual (defScope st) f cdv A around s H E).nox (defBody st) t ∧ t { nx := fun _ H' => Q .non H', rt := Q } (start N vs) H) :
    FnG P w K mg base CX0 (k + 1) f fd ps sp := by
  obtain ⟨oc, od, kV, doc, pm, an, cdv, ct, osl, same, lk, hcd⟩ := F.ex
  subst same
  refine fn_g lk hcd S many ?_
  intro A around s H vs Q E g hr asked
  obtain ⟨t, body, wanted⟩ := inside cdv A around s H vs Q E g hr asked
  exact ⟨t, body.nox, wanted⟩

/-- what callers that never show data may still use -/
theorem FnG.of {P : Program} {w : World} {K : PySem.W.Frag} {mg : Str → Option Value} {base : Heap} {CX : CXT} {k : Nat} {f : Addr} {fd : FuncData} {ps : List Str} {sp : Sp}
    (F : FnOk P w K mg base CX k f fd ps sp) : FnG P w K mg base CX k f fd ps sp :=
  ⟨F.len, fun A around st H ag us vs Q E _ => F.run A around st H ag us vs Q E⟩
end Md

namespace Md
open PySem PySem.Spec PyProof.Rows L2

/-- the heap that knows of the script alone -/
def lone (a : Addr) (o : Obj) (xs : List V) : Hp := fun b => if b = a then some (.frz o (.lst xs)) else none
theorem lone_self {a : Addr} {o : Obj} {xs : List V} : lone a o xs a = some (.frz o (.lst xs)) := by simp [lone]
theorem lone_else {a b : Addr} {o : Obj} {xs : List V} (h : b ≠ a) : lone a o xs b = none := by simp [lone, h]

/-- the call of the law's def, from an abstract heap that holds the script at most -/
theorem call_law_with {P : Program} {w : World} {K : PySem.W.Frag} {mg mb : Str → Option Value} {k : Nat} {fa a : Addr} {fd : FuncData} {x : Str} {sp : Sp} {s1 : Shared} {vs : List Value} {H : Hp}
    (KX : K.In s1.heap) (hns : s1.heap.Ns mainGlobals mg) (hb : s1.heap.Ns builtinsNs mb) (hbb : ∀ x : Str, x ≠ "__name__" → mb x = bootBuiltins x) (hlim : s1.heap.NoLimit) (hg : s1.gens = #[])
    (ha : s1.heap.get? a = some { cls := .type "list", data := .seq vs.toArray }) (hr : Room k callerA)
    (F : ∀ base : Heap, K.In base → base.Ns mainGlobals mg → FnG P w K mg base CX0 k fa fd [x] sp) (hbind : ∀ (s : Shared) (u : Value), BindsTo s fd ⟨[u], []⟩ [(x, u)])
    (asked : sp [.ref a] H (fun v _ => v = .bl true) fun _ _ _ => False) (hok : HOk P w H s1.heap) (few : ∀ b, H b ≠ none → b = a) (own : H a ≠ none → K.lookup a = none)
    (fro : ∀ b u, H b = some u → ∃ o v, u = .frz o v) :
    codeAny (model P w) callerA (.call (.ref fa) ⟨[.ref a], []⟩) (fun r s' => r = .ok (.ret (.bool true)) ∧ OldK s1.heap s'.heap ∧ s'.os = s1.os ∧ AllBare s'.gens) s1 := by
  have free : ∀ {b : Addr} {o : Obj}, s1.heap.get? b = some o → (b = a → K.lookup b ≠ none ∨ ∃ es ep, o.data = .dict es ep) → H b = none := by
    intro b o hb' hno
    cases q : H b with
    | none => rfl
    | some u =>
      exfalso
      have e : b = a := few b (by rw [q]; exact fun z => nomatch z)
      rcases hno e with n | ⟨es, ep, d⟩
      · exact n (by rw [e]; exact own (by rw [← e, q]; exact fun z => nomatch z))
      · rw [e, ha] at hb'
        have e2 := Option.some.inj hb'
        rw [← e2] at d
        exact nomatch d
  have inside : ∀ {b : Addr} {m : Str → Option Value}, s1.heap.Ns b m → (hidT s1.heap H).Ns b m := by
    intro b m ⟨o, es, ep, h1, h2, r⟩
    exact ⟨o, es, ep, hidT_get h1 (free h1 fun _ => .inr ⟨es, ep, h2⟩), h2, r⟩
  have KB : K.In (hidT s1.heap H) := by
    intro b o hk
    exact hidT_get (KX b o hk) (free (KX b o hk) fun _ => .inl (by rw [hk]; exact fun z => nomatch z))
  obtain ⟨mc, l1, l2⟩ := hlim
  have M : Mod K mg (hidT s1.heap H) := ⟨KB, inside hns, ⟨mb, inside hb, hbb⟩, ⟨mc, inside l1, l2⟩⟩
  have start0 : Env0 P w K mg (hidT s1.heap H) callerA [] s1 H :=
    ⟨rfl, M, fun b o h => of_hidT h, Nat.le_of_eq (hidT_size s1.heap H), trivial, fun b h => (List.not_mem_nil h).elim, hok, AllBare.of_eq hg⟩
  have ran := (F _ KB (inside hns)).goes callerA [] s1 H ⟨[.ref a], []⟩ [.ref a] [.ref a] _ _ rfl hr start0 (hbind s1 (.ref a)) (.cons rfl .nil) asked
  refine codeAny_mono ran ?_
  intro r s2 z
  match r, z with
  | .ok (.ret u), z =>
    obtain ⟨v, H2, h1, h2, h3, h4, h5, h6⟩ := z
    have ev : v = .bl true := h6
    rw [ev] at h5
    have eu : u = Value.bool true := h5
    rw [eu]
    refine ⟨rfl, OldK.of_keep ?_, h1, h2⟩
    intro b o hb'
    cases q : H b with
    | none => exact h3.keep b o hb' q (List.not_mem_nil) (List.not_mem_nil)
    | some u2 =>
      obtain ⟨ob, v2, e2⟩ := fro b u2 q
      rw [e2] at q
      have q2 := h3.frzs b ob v2 q
      have a1 := (hok b _ q).1
      have a2 := (h4 b _ q2).1
      rw [hb'] at a1
      rw [a2, ← Option.some.inj a1]

/-- what k_head leaves, for a law whose def is proved under NoG -/
theorem walk_g {l : PySem.W.OpenLaw} {n k : Nat} {q : Program} {loose : List Str} {XP : (Str → Option Value) → Heap → Prop} {YP : World → Heap → Prop} {d : DefRec} {K : Params → PySem.W.Frag} {sp : PySem.W.Frag → Sp} {x : Str}
    (hn : l.most = some n) (hn2 : n ≤ sizeLine) (hdf : d.params.defaults = []) (hr : Room k callerA) (hY : ∀ (w : World) (h : Heap), YP w h → (K w.params).In h)
    (F : ∀ (w : World) (mg : Str → Option Value) (fa : Addr) (h : Heap), (K w.params).In h → h.Ns mainGlobals mg → mg d.name = some (.ref fa) →
      ∃ fd : FuncData, (∀ (s : Shared) (u : Value), BindsTo s fd ⟨[u], []⟩ [(x, u)]) ∧
        ∀ base : Heap, (K w.params).In base → base.Ns mainGlobals mg → FnG l.prog w (K w.params) mg base CX0 k fa fd [x] (sp (K w.params)))
    (hsp : ∀ (K : PySem.W.Frag) (H : Hp) (a : Addr) (ns : List Int), ns.length ≤ n → SqL K H a (ns.map V.int) → sp K [.ref a] H (fun v _ => v = .bl true) fun _ _ _ => False) :
    PySem.W.WalkO q loose XP YP l.row.toRowW d [] (fun f vs => PySem.call f vs) := by
  refine Att.attach_call hn hdf ?_
  intro w s0 s1 mg mb fa o pm cd doc a vs ns G Y ho hd hcd hmg hobj hints hlen hg
  have KX := hY w _ Y
  obtain ⟨fd, hb, hF⟩ := F w mg fa _ KX G.T.g hmg
  have rv := L2.vals_ints hints
  have lenV := hints.length
  cases hk : (K w.params).lookup a with
  | some ob =>
    have e := (KX a ob hk).symm.trans hobj
    have e := Option.some.inj e
    subst e
    refine call_law_with (H := fun _ => none) KX G.T.g G.T.b G.T.builtins G.T.nolimit hg hobj hr hF hb (hsp _ _ a ns hlen (.inr ?_)) (fun b u z => nomatch z) (fun b z => absurd rfl z) (fun z => absurd rfl z) (fun b u z => nomatch z)
    refine ⟨_, vs.toArray, _, hk, rfl, rfl, rfl, ?_, ?_⟩
    · rw [List.size_toArray, lenV]
      exact Nat.le_trans hlen hn2
    · simpa using rv
  | none =>
    refine call_law_with (H := lone a { cls := .type "list", data := .seq vs.toArray } (ns.map V.int)) KX G.T.g G.T.b G.T.builtins G.T.nolimit hg hobj hr hF hb (hsp _ _ a ns hlen (.inl (.inr ⟨_, lone_self⟩))) ?_ ?_ (fun _ => hk) ?_
    · intro b u z
      by_cases hba : b = a
      · rw [hba, lone_self] at z
        have z := Option.some.inj z
        rw [← z, hba]
        exact ⟨hobj, by rw [List.length_map]; exact Nat.le_trans hlen hn2, vs, _, rv, hobj⟩
      · rw [lone_else hba] at z
        exact nomatch z
    · intro b z
      by_cases hba : b = a
      · exact hba
      · exact absurd (lone_else hba) z
    · intro b u z
      by_cases hba : b = a
      · rw [hba, lone_self] at z
        exact ⟨_, _, (Option.some.inj z).symm⟩
      · rw [lone_else hba] at z
        exact nomatch z
end Md

namespace Md
open PySem PySem.Spec PyProof.Rows L2

section
variable {X : Cx}
/-- repr of a thing that stands at an address -/
def rRepr (K : PySem.W.Frag) : List V → Hp → VK → Prop := fun xs H Q => ∃ (a : Addr) (d : PyData), xs = [.ref a] ∧ Dp K H (.ref a) d ∧ d.showable = true ∧ d.hasDict = false ∧ d.depth ≤ 40 ∧ d.shown.length ≤ sizeLine ∧ Q (.str d.shown) H
theorem call_repr (g : NoG X.A) (hu : X.A.units + 64 < cLine) : CallR X (.builtin "repr") (rRepr X.K) := by
  intro pins st sl H xs us Q I r h
  obtain ⟨a, d, rfl, dp, show1, nod, deep, small, q⟩ := h
  obtain ⟨u, rfl, e⟩ := vals1 r
  have eu : u = Value.ref a := e
  subst eu
  obtain ⟨as, rd⟩ := Dp.reads I d (.ref a) (.ref a) dp rfl
  refine repr_of_reads' rd show1 (fun z => ?_) g (by omega) (fun b o z => z) (fun h' tk t2 keep => ?_) small
  · rw [nod] at z
    exact nomatch z
  · exact ⟨.str d.shown, H, I.kept (t' := t2) keep, ⟨tk, rfl⟩, q⟩
end
end Md

namespace Md
open PySem PySem.Spec PyProof.Rows L2
section
variable {X : Cx} {C f : Addr} {fd : FuncData} {k : Nat} {sp : Sp}
/-- len(o), o an instance of a class of one's own with __len__ -/
def rLenOwn (C : Addr) (sp : Sp) : List V → Hp → VK → Prop := fun xs H Q => ∃ a dx fs, xs = [.ref a] ∧ H a = some (.ins C dx fs) ∧
  sp [.ref a] H (fun v H' => ∃ n : Nat, v = .int n ∧ n < 2 ^ 62 ∧ Q (.int n) H') E0
theorem call_lenOwn (m : Meth X.K C "__len__" f) (F : FnOk X.prog X.w X.K X.mg X.base CX0 k f fd ["self"] sp) (hr : Room (k + 1) X.A) (hb : Binds X.K fd ["self"] []) :
    CallR X (.builtin "len") (rLenOwn C sp) := by
  intro pins st sl H xs us Q I r h
  obtain ⟨a, dx, fs, rfl, ea, q⟩ := h
  obtain ⟨u, rfl, e⟩ := vals1 r
  have eu : u = Value.ref a := e
  subst eu
  obtain ⟨mA, O, _, _, _, _⟩ := ins_get I.hok ea
  obtain ⟨od, J, _⟩ := O.look
  obtain ⟨m0, F0⟩ := I.fr
  refine PySem.W.len_K F0 I.ok.mod.kin J m.at_ m.fn ?_
  have bound := hb st [.ref a] I.kIn rfl
  refine wpAny_call (codeAny_mono (F.run X.A.in1 X.stack st H ⟨[.ref a], []⟩ ([Value.ref a] ++ []) [V.ref a] _ E0 hr.in1 I.env0.in1 bound (.cons rfl .nil) q) ?_)
  intro res st2 done
  match res, done with
  | .ok (.ret u), done =>
    obtain ⟨v, H', I2, rv, n, ev, small, q2⟩ := I.after (Q := fun v H' => ∃ n : Nat, v = .int n ∧ n < 2 ^ 62 ∧ Q (.int n) H') done
    subst ev
    obtain ⟨t, et⟩ := rv
    subst et
    exact ⟨⟨by omega, by omega⟩, .int n, H', I2.tok _, ⟨_, rfl⟩, q2⟩
end
end Md

namespace Md
open PySem PySem.Spec PyProof.Rows L2
section
variable {X : Cx} {o e : Expr} {apos cpos : Pos} {td ty : TE} {d : Addr} {es : Array DictEntry} {n : Nat}
/-- THINGS.get(word), a dict of the module with keys that are texts -/
def tKGet (K : PySem.W.Frag) (d : Addr) (td ty : TE) : TE := fun sl H Q => td sl H fun x H1 => x = .ref d ∧ ty sl H1 fun y H2 => ∃ (z : Str) (r : Option Value), y = .str z ∧ PySem.W.nsIn K d z = some r ∧
  (r = none → Q .non H2) ∧ (∀ u0, r = some u0 → ∃ v0, RelV v0 u0 ∧ Q v0 H2)
theorem pe_kget (D : KDict X.K X.w d es n) (ho : PE X o td) (he : PE X e ty) (m : M1 X o "get" apos e cpos) : PE X (.Call (.Attribute o "get" apos) [e] [] cpos) (tKGet X.K d td ty) := by
  constructor
  intro pins st sl H Q I h
  refine wpAny_Call_method m.base m.few m.line PySem.F.plainAttrs_dict PySem.F.slot_dict_get PySem.F.type_dict_get (thn (ho.run pins st sl H _ I h) ?_)
  intro u s1 z
  obtain ⟨x, H1, I1, rx, ex, q1⟩ := z
  subst ex
  have eu : u = Value.ref d := rx
  subst eu
  have mo := PySem.W.mapOf_K (prog := X.prog) (w := X.w) I1.kIn D.at_ D.lit
  refine ⟨mo.typeIs, ?_, ?_⟩
  · intro b eb
    have eb := Value.ref.inj eb
    subst eb
    exact ⟨_, I1.kIn _ _ D.at_, rfl⟩
  rw [m.trees]
  refine Calls.callWith_builtin rfl (Calls.evalArgs_plain (Calls.spliced_cons (thn (he.run pins s1 sl H1 _ I1 q1) ?_)))
  intro iv s2 z
  obtain ⟨y, H2, I2, ry, zt, r, ey, hin, qn, qs⟩ := z
  subst ey
  obtain ⟨tk, et⟩ := ry
  subst et
  refine Calls.spliced_nil ?_
  have mo2 := PySem.W.mapOf_K (prog := X.prog) (w := X.w) I2.kIn D.at_ D.lit
  refine call_meetsIn PySem.F.slot_dict_get mo2.typeIs PySem.F.entry_dict_get (PySem.F.args_dict_get_2 _ _) (meets_dict_get (strKind X.prog X.w) d (strKind_is X.prog X.w zt tk) D.low) ⟨_, mo2, ?_⟩
  have f := PySem.W.find_K D.at_ hin
  cases r with
  | none =>
    refine ⟨.non, H2, I2.tok _, ?_, qn rfl⟩
    simp only [f]
    rfl
  | some u0 =>
    obtain ⟨v0, rv, q⟩ := qs u0 rfl
    refine ⟨v0, H2, I2.tok _, ?_, q⟩
    simp only [f]
    exact rv
end
end Md

/-! set(xs) of a list of texts (any keys that are carried by value and may be scanned) -/
namespace Md
open PySem PySem.Spec PyProof.Rows L2

/-- how many unlike ones stand among the first i -/
def unlike {κ : Type} [DecidableEq κ] (ks : List κ) : Nat → Nat
  | 0 => 0
  | i + 1 => match ks[i]? with
    | none => unlike ks i
    | some k => if (ks.take i).any (fun j => decide (j = k)) = true then unlike ks i else unlike ks i + 1
theorem unlike_le {κ : Type} [DecidableEq κ] (ks : List κ) : ∀ i, unlike ks i ≤ i
  | 0 => Nat.le_refl 0
  | i + 1 => by
    have ih := unlike_le ks i
    unfold unlike
    split
    · omega
    · split <;> omega
theorem unlike_full {κ : Type} [DecidableEq κ] (ks : List κ) : ∀ i, i ≤ ks.length → unlike ks i = i → (ks.take i).Nodup
  | 0, _, _ => by simp
  | i + 1, h, e => by
    have hi : i < ks.length := h
    have g : ks[i]? = some ks[i] := List.getElem?_eq_getElem hi
    have le := unlike_le ks i
    unfold unlike at e
    rw [g] at e
    dsimp only at e
    by_cases c : (ks.take i).any (fun j => decide (j = ks[i])) = true
    · rw [if_pos c] at e
      omega
    · rw [if_neg c] at e
      have ih := unlike_full ks i (Nat.le_of_lt hi) (by omega)
      rw [List.take_add_one, g, List.nodup_append]
      refine ⟨ih, by simp, ?_⟩
      intro a ha b hb
      have eb : b = ks[i] := by simpa using hb
      rw [eb]
      intro z
      exact c (List.any_eq_true.mpr ⟨a, ha, by simp [z]⟩)

abbrev noSet (led : Bool) : Obj := { cls := .type "set", dict := none, data := .set #[] 0 (.fresh 0 0 led) }

section
variable {prog : Program} {w : World} {A : Around} {κ : Type} [DecidableEq κ] {knd : PySem.KeyKind prog w κ}
/-- what is in the set behind i items -/
abbrev inFirst (ks : List κ) (i : Nat) : κ → Bool := fun k => (ks.take i).any fun j => decide (j = k)

section
variable {R : Result → Shared → Prop} {I : Addr} {fp wr : List Addr} {G : Array GenState → Array GenState → Prop} {n : Nat} {P : Nat → Value → Prop} {St : Nat → Shared → Prop}
theorem set_fill (W : WalksS prog w A.in1 I fp wr G n P St) (S : Addr) (away : S ∉ fp) (ks : List κ) (size : ks.length = n) (room : n + 1 < scanBound)
    (item : ∀ i v, P i v → ∃ k, ks[i]? = some k ∧ knd.is k v = true ∧ v.scannable = true) :
    ∀ (left i : Nat) (st : Shared), left + i = n → St i st → st.heap.SetOf knd S (inFirst ks i) (unlike ks i) →
      (∀ st', Moved (S :: wr) G st st' → st'.heap.SetOf knd S (inFirst ks n) (unlike ks n) → R (.ok (.ret .none)) st') →
      codeAny (model prog w) A (.builtin "set.update.loop" ⟨[.ref S, .ref I], []⟩) R st := by
  have out : S ∉ wr := fun z => away (W.sub _ z)
  have wider : ∀ b ∈ wr, b ∈ S :: wr := fun b z => List.mem_cons_of_mem _ z
  intro left
  induction left with
  | zero =>
    intro i st e at_ held done
    have e : i = n := by omega
    subst e
    refine codeAny_builtin PyProof.Rows.F.entry_set_update_loop ?_
    rw [Around.under_plainId PyProof.Rows.F.plain_set_update_loop _]
    show wpAny _ A.in1 (pyNext (.ref I) >>= _) _ _ st
    refine wpAny_bind (W.done st _ _ at_ ?_)
    intro st' moved
    show wpAny _ A.in1 (ret Value.none) _ _ st'
    obtain ⟨o, es, ep, tab, ho, more⟩ := held
    exact wpAny_pure (done st' (moved.mono wider) ⟨o, es, ep, tab, moved.heap S _ out ho, more⟩)
  | succ left ih =>
    intro i st e at_ held done
    have hi : i < n := by omega
    refine codeAny_builtin PyProof.Rows.F.entry_set_update_loop ?_
    rw [Around.under_plainId PyProof.Rows.F.plain_set_update_loop _]
    show wpAny _ A.in1 (pyNext (.ref I) >>= _) _ _ st
    refine wpAny_bind (W.item i st _ _ hi at_ ?_)
    intro v st1 hP at1 moved
    obtain ⟨k, hk, isk, sc⟩ := item i v hP
    have held1 : st1.heap.SetOf knd S (inFirst ks i) (unlike ks i) := by
      obtain ⟨o, es, ep, tab, ho, more⟩ := held
      exact ⟨o, es, ep, tab, moved.heap S _ out ho, more⟩
    show wpAny _ A.in1 (holding [v] (setAdd S v) >>= _) _ _ st1
    refine wpAny_bind (wpAny_holding ?_)
    unfold setAdd
    refine wpAny_holding ?_
    refine wpAny_bind (knd.pyHash isk ?_)
    have few : unlike ks i + 1 < scanBound := by
      have := unlike_le ks i
      omega
    refine wpAny_setAddHashed_of (knd := knd) (s := { st1 with toks := st1.toks + 1 }) isk sc held1 few ?_
    intro h2 same held2
    have next : h2.SetOf knd S (inFirst ks (i + 1)) (unlike ks (i + 1)) := by
      refine SetOf_congr held2 (fun j => ?_) ?_
      · show ((ks.take i).any (fun y => decide (y = j)) || decide (j = k)) = (ks.take (i + 1)).any fun y => decide (y = j)
        rw [List.take_add_one, hk]
        simp [eq_comm]
      · show (if (ks.take i).any (fun y => decide (y = k)) = true then unlike ks i else unlike ks i + 1) = unlike ks (i + 1)
        conv => rhs; unfold unlike
        rw [hk]
    have kept : ∀ b o, b ≠ S → st1.heap.get? b = some o → h2.get? b = some o := fun b o nb z => (same.2 b nb).trans z
    refine wpAny_pure ⟨plainId_quiet PyProof.Rows.F.plain_set_update_loop _, ih (i + 1) _ (by omega) (W.frame _ st1 _ _ at1 (Nat.le_succ _) ?_) next ?_⟩
    · intro b hb o z
      exact kept b o (fun q => away (q ▸ hb)) z
    · intro st3 moved3 held3
      refine done st3 (Moved.trans W.gtrans ((moved.mono wider).then_heap (Nat.le_succ _) ?_) moved3) held3
      intro b o hb z
      exact kept b o (fun q => hb (by rw [q]; exact List.mem_cons_self)) z
end

section
variable {E : Value → Shared → Prop} {st : Shared}
set_option maxHeartbeats 4000000 in
theorem set_of_list {l : Addr} {items : Array Value} {ks : List κ} {Q : Value → Shared → Prop} (hh : A.handled = none) (hl : st.heap.IsList l items) (size : ks.length = items.size) (room : items.size + 1 < scanBound)
    (item : ∀ (i : Nat) (v : Value), items[i]? = some v → ∃ k, ks[i]? = some k ∧ knd.is k v = true ∧ v.scannable = true)
    (h : ∀ (h' : Heap) (tk : Nat), h'.SetOf knd st.heap.objs.size (inFirst ks items.size) (unlike ks items.size) →
      (∀ b o, b < st.heap.objs.size → st.heap.get? b = some o → h'.get? b = some o) → Q (.ref st.heap.objs.size) { st with heap := h', toks := tk }) :
    wpAny (model prog w) A (call (.type "set") [.ref l]) Q E st := by
  obtain ⟨c, tl, hmro⟩ := F.called_set.mro
  have made := F.called_set.made
  have subs := F.called_set.sub
  have nt := F.called_set.notType
  have cc := F.called_set.canCreate
  have tc := F.typeCall_set_1 (.ref l)
  refine wpAny_call (codeAny_of_tree ?_)
  show wpAny _ _ (callAny (.type "set") _) _ _ _
  refine wpAny_pure ⟨Code.quiet_builtin _ (by decide +kernel), codeAny_builtin F.entry_type_call ?_⟩
  rw [Around.under_plain (weight_type_call_type "set" [.ref l] []) rfl]
  repeat (any_goals (first | assumption | wp_step))
  generalize eS : st.heap.objs.size = S at h
  have born : ∀ led, (st.heap.push (noSet led)).get? S = some (noSet led) := fun led => by
    rw [← eS]
    exact Heap.get?_push_size _ rfl
  refine codeAny_mono (code_set_new_1 (.ref l) (E := E) (Q₁ := fun obj st1 => ∃ led : Bool, obj = .ref S ∧ st1 = { st with heap := st.heap.push (noSet led) }) fun led => ⟨led, by rw [eS], rfl⟩) ?_
  intro r st1 hr
  match r, hr with
  | .error e, hr => exact hr
  | .ok (.ret obj), hr =>
    obtain ⟨led, e1, e2⟩ := hr
    subst e1 e2
    have there0 : (st.heap.push { cls := .type "set", dict := none, data := .set #[] 0 (.fresh 0 0 led) }).get? S = some { cls := .type "set", dict := none, data := .set #[] 0 (.fresh 0 0 led) } := born led
    have hT : Shared.TypeIs { st with heap := st.heap.push (noSet led) } (.ref S) "set" := ⟨_, born led, rfl⟩
    have li := F.called_set.init.lookup
    have bi := F.called_set.init.bind (.ref S)
    repeat (any_goals (first | assumption | wp_step))
    refine codeAny_mono (codeAny_call_builtin (R := wants (fun r st2 => r = .none ∧ ∃ h' tk, st2 = { st with heap := h', toks := tk } ∧ h'.SetOf knd S (inFirst ks items.size) (unlike ks items.size) ∧
      (∀ b o, b < S → st.heap.get? b = some o → h'.get? b = some o)) E) F.called_set.init.plain PySem.F.entry_set_init (check_set_init_1 hT ?_)) ?_
    · obtain ⟨ol, hol, hcl, nl, hdl⟩ := hl
      obtain ⟨ocls, odict, odata, oslots⟩ := ol
      simp only at hcl hdl
      subst hcl hdl
      have there : (st.heap.push (noSet led)).get? l = some { cls := .type "list", dict := odict, data := .seq items nl, slots := oslots } := Heap.get?_push_of_some _ hol
      have ns := F.sub_list_set
      have nf := F.sub_list_frozenset
      have nd : (Value.type "list" == Value.type "dict") = false := by decide
      have isl : (st.heap.push (noSet led)).IsList l items := ⟨_, there, rfl, nl, rfl⟩
      have wide1 : (st.heap.push (noSet led)).objs.size = S + 1 := by rw [Heap.size_push, eS]
      unfold Builtin.«set.__init__» noKeywords Builtin.Frozenset.updateFrom
      generalize same : pyIter = PI
      wp_walk
      subst same
      refine wpAny_pyIter_list isl ?_
      refine wpAny_bind (wpAny_runValue ?_)
      have lS : l < S := by
        rw [← eS]
        exact Heap.lt_size hol
      have calm3 : A.in1.in1.in1.handled = none := by simp [hh]
      have lI : l ≠ (st.heap.push (noSet led)).objs.size := by
        rw [wide1]
        exact Nat.ne_of_lt (Nat.lt_succ_of_lt lS)
      have away : S ∉ [(st.heap.push (noSet led)).objs.size, l] := by
        simp only [List.mem_cons, List.not_mem_nil, or_false, not_or]
        rw [wide1]
        exact ⟨Nat.ne_of_lt (Nat.lt_succ_self S), Nat.ne_of_gt lS⟩
      refine set_fill (knd := knd) ((Walks.list calm3 _ l lI items).toS) S away ks size room item items.size 0 _ (by omega) ⟨⟨_, Heap.get?_push_size _ rfl, rfl, rfl⟩, (isl.push _)⟩ ?_ ?_
      · have here : ((st.heap.push (noSet led)).push { cls := .type "list_iterator", data := .fields #[.ref l, .int 0 0] }).get? S = some (noSet led) := Heap.get?_push_of_some _ (born led)
        exact SetOf_congr ((setObjOf_fresh (knd := knd) led).setOf here (by unfold scanBound; omega)) (fun _ => rfl) rfl
      · intro st3 moved held
        obtain ⟨h3, g3, d3, t3, os3⟩ := st3
        have eg : g3 = st.gens := moved.gens
        have ed : d3 = st.drawn := moved.drawn
        have eo : os3 = st.os := moved.os
        subst eg ed eo
        show wpAny _ _ _ _ _ _
        refine wpAny_pure ?_
        show wpAny _ _ (ret Value.none) _ _ _
        refine wpAny_pure ⟨rfl, h3, t3, rfl, held, ?_⟩
        intro b o hb z
        refine moved.heap b o ?_ (Heap.get?_push_of_some _ (Heap.get?_push_of_some _ z))
        simp only [List.mem_cons, List.not_mem_nil, or_false, not_or]
        rw [wide1]
        exact ⟨Nat.ne_of_lt hb, Nat.ne_of_lt (Nat.lt_succ_of_lt hb)⟩
    · intro r2 st2 hr2
      match r2, hr2 with
      | .error e, hr2 => exact hr2
      | .ok (.ret v), hr2 =>
        obtain ⟨e3, h', tk, e4, held, keep⟩ := hr2
        subst e3 e4
        repeat (any_goals (first | assumption | wp_step))
        exact h _ _ held keep
end
end
end Md

namespace Md
open PySem PySem.Spec PyProof.Rows L2
/-- len(set(xs)), texts -/
def tLenTexts (K : PySem.W.Frag) (ta : TE) : TE := fun sl H Q => ta sl H fun x H1 => ∃ (l : Addr) (zs : List Str), x = .ref l ∧ SqL K H1 l (zs.map V.str) ∧ zs.length ≤ 1000 ∧ Q (.int (unlike zs zs.length : Nat)) H1
theorem str_item {zs : List Str} {us : List Value} (r : Vals (zs.map V.str) us) {i : Nat} {v : Value} (h : us[i]? = some v) : ∃ z t, zs[i]? = some z ∧ v = Value.str z t := by
  have hl : i < zs.length := by
    have e := r.length
    rw [List.length_map] at e
    rw [e]
    exact (List.getElem?_eq_some_iff.mp h).1
  have g : (zs.map V.str)[i]? = some (V.str zs[i]) := by rw [List.getElem?_map, List.getElem?_eq_getElem hl]; rfl
  obtain ⟨u, hu, t, e⟩ := r.get g
  rw [h] at hu
  exact ⟨zs[i], t, List.getElem?_eq_getElem hl, by rw [← e]; exact Option.some.inj hu⟩
section
variable {X : Cx} {a : Expr} {ta : TE} {p p2 q pos : Pos}
theorem pe_lenTexts (hg : Gl X "len") (hm : X.mg "len" = none) (hg2 : Gl X "set") (hm2 : X.mg "set" = none) (ha : PE X a ta) (hc : X.calm = true := by rfl)
    (na : starEach [a] X.env = (false, eval a X.env) :: starEach [] X.env := by rfl) : PE X (.Call (.Name "len" p) [.Call (.Name "set" p2) [a] [] q] [] pos) (tLenTexts X.K ta) := by
  constructor
  intro pins st sl H Q I h
  refine Call_ (ld_blt I hg hm boot_len (PyProof.Rows.callWith_builtin1 (PyProof.Rows.args_cons ?_ rfl) rfl rfl))
  refine Call_ (ld_blt I hg2 hm2 boot_set (PyProof.Rows.callWith_type1 (PyProof.Rows.args_cons (thn (ha.run pins st sl H _ I h) ?_) na) na rfl))
  intro v s1 got
  refine PyProof.Rows.args_nil ?_
  obtain ⟨x, H1, I1, r1, l, zs, ex, hq, few, q1⟩ := got
  subst ex
  have ev : v = Value.ref l := r1
  subst ev
  obtain ⟨its, r, pl, hz⟩ := I1.list hq
  have size : its.toArray.size = zs.length := by rw [List.size_toArray, ← r.length, List.length_map]
  refine set_of_list (knd := strKind X.prog X.w) (ks := zs) (I1.ok.hd hc) pl.isList size.symm (by rw [size]; unfold scanBound; omega) ?_ ?_
  · intro i v hv
    obtain ⟨z, t, e1, e2⟩ := str_item r (i := i) (v := v) (by simpa using hv)
    exact ⟨z, e1, by rw [e2]; exact strKind_is X.prog X.w z t, by rw [e2]; rfl⟩
  · intro h' tk held keep
    refine PyProof.Rows.args_nil ?_
    rw [size] at held
    obtain ⟨o, es, ep, t, ho, hex, hd, _, _, _, hf, hn⟩ := held
    have I2 : Inv X pins sl H1 { s1 with heap := h', toks := tk } := I1.kept fun b o z => keep b o (Heap.lt_size z) z
    have small := unlike_le zs zs.length
    exact call_len_set ho hex hd hf (by rw [hn]; omega) ⟨.int (unlike zs zs.length : Nat), H1, I2.tok _, ⟨_, by rw [hn]⟩, q1⟩
end
end Md

namespace Md
open PySem PySem.Spec PyProof.Rows L2
section
variable {X : Cx}
/-- ** of great numbers by a small exponent -/
def CPowW (i j : Int) : Prop := 0 ≤ j ∧ j ≤ 10 ∧ i.natAbs < 2 ^ 200
theorem bitsW {i : Int} (h : i.natAbs < 2 ^ 200) : Builtin.Int.intBits i ≤ 200 := by
  have z := PySem.Flt.log2_lt_of (by decide) h
  unfold Builtin.Int.intBits
  split <;> omega
theorem op_powW : OpR X (binaryOp .Pow) (rI CPowW fun i j => .int (i ^ j.toNat)) := opI fun i j t u s Q E hc q => by
  have b := bitsW hc.2.2
  refine pow_int hc.1 ?_ q
  have h : ((Builtin.Int.intBits i : Nat) : Int) * j ≤ 200 * 10 := Int.mul_le_mul (by omega) hc.2.1 hc.1 (by decide)
  omega
end
end Md

namespace Md
open PySem PySem.Spec PyProof.Rows L2
/-- the heap behind so many turns of a comprehension that changes nothing else -/
abbrev grown (H1 : Hp) (D : Addr) (ys : List V) (i : Nat) : Hp := upd H1 D (.lst (ys.take i))
theorem grown_next {H1 : Hp} {D : Addr} {ys : List V} {i : Nat} {y : V} (h : ys[i]? = some y) : upd (grown H1 D ys i) D (.lst (ys.take i ++ [y])) = grown H1 D ys (i + 1) := by
  unfold grown
  rw [upd_upd, List.take_add_one, h]
  rfl
section
variable {K : PySem.W.Frag} {g : TG} {te : TE} {vs : List Nat} {sl : L2.St} {H1 : Hp} {D : Addr} {Qd : Hp → Prop}
/-- [f(x) for x in xs] over a list, nothing else changed -/
theorem lcp_list {a : Addr} {xs ys : List V} (hS : SqL K H1 a xs) (fresh : H1 D = none) (len : ys.length = xs.length) (few : xs.length < sizeLine)
    (step : ∀ i x y (R : VK), xs[i]? = some x → ys[i]? = some y → R y (grown H1 D ys i) → g x (wipe sl vs) (grown H1 D ys i) fun sl2 H2 => wipe sl2 vs = wipe sl vs ∧ te sl2 H2 R)
    (done : Qd (upd H1 D (.lst ys))) :
    ∃ W : Nat → Nat → Hp → Prop, (∃ m, W 0 m (upd H1 D (.lst []))) ∧ ∀ i m H, W i m H →
      ((Itl K a).stop i H ∧ Qd H) ∨ ((Itl K a).go i H ∧ ∃ Nx : Hp → Prop, (∀ H', Nx H' → ∃ m', m' < m ∧ W (i + 1) m' H') ∧ ∀ x H', (Itl K a).yld i H x H' → g x (wipe sl vs) H' fun sl2 H2 => wipe sl2 vs = wipe sl vs ∧ tYes sl2 H2 fun b H3 =>
        if b = true then te sl2 H3 fun y H4 => ∃ acc, H4 D = some (.lst acc) ∧ acc.length < sizeLine ∧ Nx (upd H4 D (.lst (acc ++ [y]))) else Nx H3) := by
  have same : ∀ i, Same H1 (grown H1 D ys i) := fun i b o z => by
    unfold grown
    rw [upd_ne (ne_of_none z fresh)]
    exact z
  refine lc_list (K := K) (a := a) (xs := xs) (fun i H => H = grown H1 D ys i) rfl (fun i H _ e => by rw [e]; exact (same i).seq hS) (fun i x H hx e => ?_) (fun H e => ?_)
  · subst e
    have hi : i < ys.length := by rw [len]; exact (List.getElem?_eq_some_iff.mp hx).1
    have hy : ys[i]? = some ys[i] := List.getElem?_eq_getElem hi
    refine step i x ys[i] _ hx hy ⟨ys.take i, upd_same, ?_, grown_next hy⟩
    rw [List.length_take]
    omega
  · rw [e, ← len]
    show Qd (upd H1 D (.lst (ys.take ys.length)))
    rw [List.take_length]
    exact done
/-- over a range -/
theorem lcp_range {lo : Int} {n : Nat} {ys : List V} (len : ys.length = n) (few : n < sizeLine)
    (step : ∀ i y (R : VK), i < n → ys[i]? = some y → R y (grown H1 D ys i) → g (.int (lo + i)) (wipe sl vs) (grown H1 D ys i) fun sl2 H2 => wipe sl2 vs = wipe sl vs ∧ te sl2 H2 R)
    (done : Qd (upd H1 D (.lst ys))) :
    ∃ W : Nat → Nat → Hp → Prop, (∃ m, W 0 m (upd H1 D (.lst []))) ∧ ∀ i m H, W i m H →
      ((Itr lo n).stop i H ∧ Qd H) ∨ ((Itr lo n).go i H ∧ ∃ Nx : Hp → Prop, (∀ H', Nx H' → ∃ m', m' < m ∧ W (i + 1) m' H') ∧ ∀ x H', (Itr lo n).yld i H x H' → g x (wipe sl vs) H' fun sl2 H2 => wipe sl2 vs = wipe sl vs ∧ tYes sl2 H2 fun b H3 =>
        if b = true then te sl2 H3 fun y H4 => ∃ acc, H4 D = some (.lst acc) ∧ acc.length < sizeLine ∧ Nx (upd H4 D (.lst (acc ++ [y]))) else Nx H3) := by
  refine lc_range (lo := lo) (n := n) (fun i H => H = grown H1 D ys i) rfl (fun i H hi e => ?_) (fun H e => ?_)
  · subst e
    have hl : i < ys.length := by omega
    have hy : ys[i]? = some ys[i] := List.getElem?_eq_getElem hl
    refine step i ys[i] _ hi hy ⟨ys.take i, upd_same, ?_, grown_next hy⟩
    rw [List.length_take]
    omega
  · rw [e, ← len]
    show Qd (upd H1 D (.lst (ys.take ys.length)))
    rw [List.take_length]
    exact done
/-- over a text's signs -/
theorem lcp_str {x : Str} {ys : List V} (len : ys.length = x.cps.size) (few : x.cps.size < sizeLine)
    (step : ∀ i c y (R : VK), x.cps[i]? = some c → ys[i]? = some y → R y (grown H1 D ys i) → g (.str ⟨#[c]⟩) (wipe sl vs) (grown H1 D ys i) fun sl2 H2 => wipe sl2 vs = wipe sl vs ∧ te sl2 H2 R)
    (done : Qd (upd H1 D (.lst ys))) :
    ∃ W : Nat → Nat → Hp → Prop, (∃ m, W 0 m (upd H1 D (.lst []))) ∧ ∀ i m H, W i m H →
      ((Its x).stop i H ∧ Qd H) ∨ ((Its x).go i H ∧ ∃ Nx : Hp → Prop, (∀ H', Nx H' → ∃ m', m' < m ∧ W (i + 1) m' H') ∧ ∀ v H', (Its x).yld i H v H' → g v (wipe sl vs) H' fun sl2 H2 => wipe sl2 vs = wipe sl vs ∧ tYes sl2 H2 fun b H3 =>
        if b = true then te sl2 H3 fun y H4 => ∃ acc, H4 D = some (.lst acc) ∧ acc.length < sizeLine ∧ Nx (upd H4 D (.lst (acc ++ [y]))) else Nx H3) := by
  refine ⟨fun i m H => i + m = x.cps.size ∧ H = grown H1 D ys i, ⟨x.cps.size, Nat.zero_add _, rfl⟩, ?_⟩
  intro i m H z
  obtain ⟨hm, e⟩ := z
  subst e
  by_cases hi : i < x.cps.size
  · refine .inr ⟨hi, fun H' => H' = grown H1 D ys (i + 1), fun H' e => ⟨m - 1, by omega, by omega, e⟩, fun v H' yl => ?_⟩
    obtain ⟨e1, c, hc, e2⟩ := yl
    subst e1 e2
    have hl : i < ys.length := by omega
    have hy : ys[i]? = some ys[i] := List.getElem?_eq_getElem hl
    refine step i c ys[i] _ hc hy ⟨ys.take i, upd_same, ?_, grown_next hy⟩
    rw [List.length_take]
    omega
  · have e : i = ys.length := by omega
    refine .inl ⟨by show x.cps.size ≤ i; omega, ?_⟩
    rw [e]
    show Qd (upd H1 D (.lst (ys.take ys.length)))
    rw [List.take_length]
    exact done
end
end Md

namespace Md
open PySem PySem.Spec PyProof.Rows L2
def top (i : Nat) : Stmt := PySem.Challenge.pw_marketdays_k11_notes_put_in_and_left_out.main.body.getD i (.Pass ⟨0, 0, 0, 0⟩)
abbrev sPurse : Stmt := top 19
abbrev sCoin : Stmt := top 20
/-- the built-in names that stay so -/
structure Blt (mg : Str → Option Value) : Prop where
  len : mg "len" = none
  max : mg "max" = none
  min : mg "min" = none
  abs : mg "abs" = none
  int : mg "int" = none
  list : mg "list" = none
  tuple : mg "tuple" = none
  set : mg "set" = none
  sorted : mg "sorted" = none
  range : mg "range" = none
  repr : mg "repr" = none
  isi : mg "isinstance" = none
  all : mg "all" = none
/-- where draws come from: so many draws at most so far -/
def PurseAt (H : Hp) (p : Addr) (c : Nat) : Prop := ∃ p0 p1 p2 : Int, H p = some (.lst [.int p0, .int p1, .int p2]) ∧ 0 ≤ p0 ∧ 0 ≤ p1 ∧ p1 < 10 ^ 24 + 7 ∧ 0 ≤ p2 ∧ p2 ≤ c
/-- all but the object at p is as it was -/
def Keep (p : Addr) (H H' : Hp) : Prop := ∀ b o, H b = some o → b ≠ p → H' b = some o
theorem Keep.refl (p : Addr) (H : Hp) : Keep p H H := fun _ _ h _ => h
theorem Keep.trans {p : Addr} {H H1 H2 : Hp} (a : Keep p H H1) (b : Keep p H1 H2) : Keep p H H2 := fun c o h n => b c o (a c o h n) n
theorem Keep.of {p : Addr} {H H' : Hp} (h : Same H H') : Keep p H H' := fun b o e _ => h b o e
theorem Keep.new {p q : Addr} {H H1 : Hp} {o : HO} (a : Keep p H H1) (n : H1 q = none) : Keep p H (upd H1 q o) := fun b u h ne => by
  have e := a b u h ne
  rw [upd_ne (ne_of_none e n)]
  exact e
theorem PurseAt.more {H : Hp} {p : Addr} {c d : Nat} (h : PurseAt H p c) (e : c ≤ d) : PurseAt H p d := by
  obtain ⟨p0, p1, p2, a, b, c1, c2, c3, c4⟩ := h
  exact ⟨p0, p1, p2, a, b, c1, c2, c3, by omega⟩
theorem PurseAt.new {H : Hp} {p q : Addr} {c : Nat} {o : HO} (h : PurseAt H p c) (n : H q = none) : PurseAt (upd H q o) p c := by
  obtain ⟨p0, p1, p2, a, b⟩ := h
  exact ⟨p0, p1, p2, by rw [upd_ne (ne_of_none a n)]; exact a, b⟩
section
variable {P : Program} {w : World} {K : PySem.W.Frag} {mg : Str → Option Value} {base : Heap}
def spPurse (K : PySem.W.Frag) : Sp := fun vs H Q _ => ∃ (a : Addr) (ns : List Int) (i : Nat), vs = [.ref a, .int i] ∧ SqL K H a (ns.map V.int) ∧ ∀ p H', H p = none → PurseAt H' p 0 → Same H H' → Q (.ref p) H'
theorem scPurse : FnScope ["script", "place", "cell"] ["script", "place"] (defScope sPurse) := ⟨rfl, rfl, rfl, by decide +kernel, rfl, by decide +kernel, by decide +kernel⟩
theorem ok_purse {f : Addr} {fd : FuncData} {k : Nat} (F : Fun K "_law_purse" "_law_purse" sPurse f fd) (B : Blt mg) : FnOk P w K mg base CX0 (k + 1) f fd ["script", "place"] (spPurse K) := by
  refine F.ok scPurse (fun vs H Q E h => ?_) (fun cdv A outer s H vs Q E hr h => ?_)
  · obtain ⟨a, ns, i, rfl, _⟩ := h
    rfl
  · obtain ⟨a, ns, i, rfl, hS, q⟩ := h
    refine ⟨_, pss_cons (ps_set (i := 2) scPurse.nd rfl (.inl rfl) (pe_ifExp (pt_cmpR op_lt (pv 1) (pe_callB call_len_seq (by rfl) B.len PySem.boot_len (pa_cons (pv 0) pa_nil)) (nomark _)) (pe_ix ix_list (pv 0) (pv 1) (fun _ _ => rfl)) pe_int))
      (pss_one (ps_ret (pe_lst (pa_cons (pe_callB (call_max2 rfl) (by rfl) B.max (by decide +kernel) (pa_cons pe_int (pa_cons (pe_op op_sub (pe_callB call_abs (by rfl) B.abs (by decide +kernel) (pa_cons (pv 2) pa_nil)) (pe_op op_pow pe_int pe_int)) pa_nil)))
        (pa_cons (pe_op op_mod (pe_callTy call_int1 (by rfl) B.int (by decide +kernel) (pa_cons (pe_op op_add (pe_op op_add (pe_op op_mul (pv 2) pe_int) (pe_op op_mul (pv 1) pe_int)) pe_int) pa_nil)) (pe_op op_add (pe_op op_pow pe_int pe_int) pe_int)) (pa_cons pe_int pa_nil)))))), ?_⟩
    -- cell
    refine ⟨_, rfl, .ref a, rfl, a, _, rfl, .inl hS, _, _, rfl, rfl, _, rfl, ?_⟩
    refine ite2 (fun e => ?_) (fun e => ?_)
    · have e1 : (i : Int) < ((ns.map V.int).length : Nat) := of_decide_eq_true e
      rw [List.length_map] at e1
      have e2 : i < ns.length := by omega
      refine ⟨_, rfl, _, rfl, a, _, _, .int ns[i], rfl, rfl, hS, atI_nat (by rw [List.getElem?_map, List.getElem?_eq_getElem e2]; rfl), ?_⟩
      generalize ns[i] = cell
      refine ⟨_, rfl, _, rfl, _, _, rfl, rfl, ⟨by decide, by decide, by decide⟩, _, _, rfl, rfl, _, _, rfl, ?_⟩
      refine ⟨_, rfl, _, _, rfl, rfl, .inr ⟨by decide, by decide⟩, _, rfl, _, _, rfl, rfl, .inr ⟨by decide, by decide⟩, _, _, rfl, rfl, _, _, rfl, rfl, .inl ⟨_, rfl, ?_⟩⟩
      refine ⟨_, _, rfl, rfl, ⟨by decide, by decide, by decide⟩, _, _, rfl, rfl, _, _, rfl, rfl, (by show (0 : Int) < 10 ^ 24 + 7; decide), by show 3 ≤ sizeLine; decide, fun p np => ?_⟩
      refine q p _ np ⟨_, _, 0, upd_same, ?_, ?_, ?_, by decide, by decide⟩ fun b o z => by rw [upd_ne (ne_of_none z np)]; exact z
      · split <;> omega
      · exact Int.emod_nonneg _ (by decide)
      · exact Int.emod_lt_of_pos _ (by decide)
    · refine ⟨_, rfl, _, rfl, _, _, rfl, rfl, ⟨by decide, by decide, by decide⟩, _, _, rfl, rfl, _, _, rfl, ?_⟩
      refine ⟨_, rfl, _, _, rfl, rfl, .inr ⟨by decide, by decide⟩, _, rfl, _, _, rfl, rfl, .inr ⟨by decide, by decide⟩, _, _, rfl, rfl, _, _, rfl, rfl, .inl ⟨_, rfl, ?_⟩⟩
      refine ⟨_, _, rfl, rfl, ⟨by decide, by decide, by decide⟩, _, _, rfl, rfl, _, _, rfl, rfl, (by show (0 : Int) < 10 ^ 24 + 7; decide), by show 3 ≤ sizeLine; decide, fun p np => ?_⟩
      refine q p _ np ⟨_, _, 0, upd_same, ?_, ?_, ?_, by decide, by decide⟩ fun b o z => by rw [upd_ne (ne_of_none z np)]; exact z
      · split <;> omega
      · exact Int.emod_nonneg _ (by decide)
      · exact Int.emod_lt_of_pos _ (by decide)

/-- a draw: the next number from 0 to many - 1 -/
def spCoin : Sp := fun vs H Q _ => ∃ (p : Addr) (c : Nat) (m : Int), vs = [.ref p, .int m] ∧ PurseAt H p c ∧ c ≤ 1000000 ∧ 1 ≤ m ∧ m ≤ 10 ^ 31 ∧
  ∀ (d : Int) H', 0 ≤ d → d < m → PurseAt H' p (c + 1) → Keep p H H' → Q (.int d) H'
theorem scCoin : FnScope ["purse", "many", "drawn", "stirred"] ["purse", "many"] (defScope sCoin) := ⟨rfl, rfl, rfl, by decide +kernel, rfl, by decide +kernel, by decide +kernel⟩
theorem bound31 {m : Int} (h : 1 ≤ m) (h2 : m ≤ 10 ^ 31) : CDivW 0 m := by
  have e : (10 : Int) ^ 31 < 2 ^ 200 := by decide
  have z : m.natAbs < 2 ^ 200 := by omega
  exact wide_div (by omega) z (by decide) (by decide)
theorem put_keep {p : Addr} {H : Hp} {o : HO} : Keep p H (upd H p o) := fun b u h ne => by rw [upd_ne ne]; exact h
theorem put_free {p : Addr} {H : Hp} {o u : HO} (hp : H p = some u) : ∀ b, H b = none → upd H p o b = none := fun b h => by
  rw [upd_ne (fun e => by rw [e, hp] at h; cases h)]
  exact h
theorem big1 {a b : Int} (h : 0 ≤ a) (h2 : 0 ≤ b) (h3 : a < 10 ^ 24 + 7 := by assumption) (h4 : b ≤ 1000000 := by omega) : (a + 2038074743 * (b + 1)).natAbs < 2 ^ 200 := by
  have e : (10 : Nat) ^ 40 < 2 ^ 200 := by decide
  omega
theorem big2 {a b : Int} (h : 0 ≤ a) (h3 : a < 10 ^ 25 + 13) (h2 : 0 ≤ b) (h4 : b ≤ 1000001) : (a + 982451653 * b).natAbs < 2 ^ 200 := by
  have e : (10 : Nat) ^ 40 < 2 ^ 200 := by decide
  omega
theorem ok_coin {f : Addr} {fd : FuncData} {k : Nat} (F : Fun K "_law_coin" "_law_coin" sCoin f fd) (B : Blt mg) : FnOk P w K mg base CX0 (k + 1) f fd ["purse", "many"] spCoin := by
  refine F.ok scCoin (fun vs H Q E h => ?_) (fun cdv A outer s H vs Q E hr h => ?_)
  · obtain ⟨p, c, m, rfl, _⟩ := h
    rfl
  · obtain ⟨p, c, m, rfl, ⟨p0, p1, p2, hp, h0, h1, h2, h3, h4⟩, hc, hm, hm2, q⟩ := h
    refine ⟨_, pss_cons (ps_if (pt_cmpR op_gt (pe_ix ix_list (pv 0) pe_int (fun _ _ => rfl)) pe_int (nomark _))
        (pss_cons (ps_set (i := 2) scCoin.nd rfl (.inl rfl) (pe_op op_mod (pe_callTy call_int1 (by rfl) B.int (by decide +kernel) (pa_cons (pe_ix ix_list (pv 0) pe_int (fun _ _ => rfl)) pa_nil)) (pv 1)))
        (pss_cons (ps_asg (pe_op op_fdivW (pe_ix ix_list (pv 0) pe_int (fun _ _ => rfl)) (pv 1)) (pg_sub (pv 0) pe_int set_list))
        (pss_one (ps_ret (pv 2))))) pss_nil)
      (pss_cons (ps_asg (pe_op op_add (pe_ix ix_list (pv 0) pe_int (fun _ _ => rfl)) pe_int) (pg_sub (pv 0) pe_int set_list))
      (pss_cons (ps_set (i := 3) scCoin.nd rfl (.inl rfl) (pe_op op_mod (pe_op op_powW (pe_callTy call_int1 (by rfl) B.int (by decide +kernel) (pa_cons (pe_op op_add (pe_ix ix_list (pv 0) pe_int (fun _ _ => rfl)) (pe_op op_mul pe_int (pe_ix ix_list (pv 0) pe_int (fun _ _ => rfl)))) pa_nil)) pe_int) (pe_op op_add (pe_op op_pow pe_int pe_int) pe_int)))
      (pss_cons (ps_set (i := 3) scCoin.nd rfl (.inl rfl) (pe_op op_mod (pe_op op_powW (pe_callTy call_int1 (by rfl) B.int (by decide +kernel) (pa_cons (pe_op op_add (pv 3) (pe_op op_mul pe_int (pe_ix ix_list (pv 0) pe_int (fun _ _ => rfl)))) pa_nil)) pe_int) (pe_op op_add (pe_op op_pow pe_int pe_int) pe_int)))
      (pss_one (ps_ret (pe_op op_mod (pe_callTy call_int1 (by rfl) B.int (by decide +kernel) (pa_cons (pe_op op_fdiv (pv 3) pe_int) pa_nil)) (pv 1))))))), ?_⟩
    have hS : SqL K H p [.int p0, .int p1, .int p2] := .inl (.inl hp)
    refine ⟨.ref p, rfl, p, _, 0, .int p0, rfl, rfl, hS, atI_nat (j := 0) rfl, _, _, rfl, rfl, _, rfl, ite2 (fun e => ?_) (fun e => ?_)⟩
    · -- the next figure
      have e1 : 0 < p0 := of_decide_eq_true e
      refine ⟨.ref p, rfl, p, _, 0, .int p0, rfl, rfl, hS, atI_nat (j := 0) rfl, .inl ⟨_, rfl, _, rfl, _, _, rfl, rfl, (by show 0 < m; omega), ?_⟩⟩
      refine ⟨.ref p, rfl, p, _, 0, .int p0, rfl, rfl, hS, atI_nat (j := 0) rfl, _, rfl, _, _, rfl, rfl, bound31 hm hm2, .ref p, rfl, p, _, 0, 0, rfl, rfl, hp, rfl, ?_⟩
      refine ⟨_, rfl, q _ _ (Int.emod_nonneg _ (by omega)) (Int.emod_lt_of_pos _ (by omega)) ⟨p0 / m, p1, p2, upd_same, Int.ediv_nonneg h0 (by omega), h1, h2, h3, by omega⟩ put_keep⟩
    · -- a stirred one
      have hT : SqL K (upd H p (.lst [.int p0, .int p1, .int (p2 + 1)])) p [.int p0, .int p1, .int (p2 + 1)] := .inl (.inl upd_same)
      refine ⟨.ref p, rfl, p, _, 2, .int p2, rfl, rfl, hS, atI_nat (j := 2) rfl, _, _, rfl, rfl, .ref p, rfl, p, _, 2, 2, rfl, rfl, hp, rfl, ?_⟩
      refine ⟨.ref p, rfl, p, _, 1, .int p1, rfl, rfl, hT, atI_nat (j := 1) rfl, .ref p, rfl, p, _, 2, .int (p2 + 1), rfl, rfl, hT, atI_nat (j := 2) rfl, _, _, rfl, rfl, .inl ⟨by decide, by decide⟩, _, _, rfl, rfl, .inl ⟨_, rfl, ?_⟩⟩
      refine ⟨_, _, rfl, rfl, ⟨by decide, by decide, big1 (by omega) (by omega)⟩, _, _, rfl, rfl, ⟨by decide, by decide, by decide⟩, _, _, rfl, rfl, _, _, rfl, rfl, (by show (0 : Int) < 10 ^ 25 + 13; decide), ?_⟩
      have s1 : ∀ x : Int, 0 ≤ x % (10 ^ 25 + 13) ∧ x % (10 ^ 25 + 13) < 10 ^ 25 + 13 := fun x => ⟨Int.emod_nonneg _ (by decide), Int.emod_lt_of_pos _ (by decide)⟩
      have s2 := s1 ((p1 + 2038074743 * (p2 + 1)) ^ 3)
      refine ⟨_, rfl, .ref p, rfl, p, _, 2, .int (p2 + 1), rfl, rfl, hT, atI_nat (j := 2) rfl, _, _, rfl, rfl, .inl ⟨by decide, by decide⟩, _, _, rfl, rfl, .inl ⟨_, rfl, ?_⟩⟩
      refine ⟨_, _, rfl, rfl, ⟨by decide, by decide, big2 s2.1 s2.2 (by omega) (by omega)⟩, _, _, rfl, rfl, ⟨by decide, by decide, by decide⟩, _, _, rfl, rfl, _, _, rfl, rfl, (by show (0 : Int) < 10 ^ 24 + 7; decide), ?_⟩
      refine ⟨_, rfl, _, _, rfl, rfl, ⟨by decide, by decide⟩, .inl ⟨_, rfl, _, rfl, _, _, rfl, rfl, (by show 0 < m; omega), ?_⟩⟩
      exact q _ _ (Int.emod_nonneg _ (by omega)) (Int.emod_lt_of_pos _ (by omega)) ⟨p0, p1, p2 + 1, upd_same, h0, h1, h2, by omega, by omega⟩ put_keep
end
end Md

namespace Md
open PySem PySem.Spec PyProof.Rows L2
abbrev sDiary : Stmt := top 13
abbrev sCheckTowns : Stmt := top 14
abbrev sIsName : Stmt := top 15
abbrev sCheckNote : Stmt := top 16
/-- the sign is a letter from a to z -/
def letB (c : Nat) : Bool := decide (c ∈ (("abcdefghijklmnopqrstuvwxyz" : Str)).cps.toList)
/-- whether a text is a town's name -/
def nameB (z : Str) : Bool := (decide ((1 : Int) ≤ z.length) && decide ((z.length : Int) ≤ 8)) && (z.cps.toList.map letB).all id
/-- the names of the program's top -/
structure Tops (mg : Str → Option Value) : Prop where
  letters : ∃ t, mg "LETTERS" = some (.str "abcdefghijklmnopqrstuvwxyz" t)
  most : ∃ t, mg "MOST_LETTERS" = some (.int 8 t)
section
variable {P : Program} {w : World} {K : PySem.W.Frag} {mg : Str → Option Value} {base : Heap}
def spIsName : Sp := fun vs H Q _ => ∃ z : Str, vs = [.str z] ∧ z.length ≤ 1000 ∧ ∀ H', Same H H' → Q (.bl (nameB z)) H'
theorem scIsName : FnScope ["name", "letter"] ["name"] (defScope sIsName) := ⟨rfl, rfl, rfl, by decide +kernel, rfl, by decide +kernel, by decide +kernel⟩
theorem ok_isName {f : Addr} {fd : FuncData} {k : Nat} (F : Fun K "is_name" "is_name" sIsName f fd) (B : Blt mg) (T : Tops mg) : FnOk P w K mg base CX0 (k + 1) f fd ["name"] spIsName := by
  refine F.ok scIsName (fun vs H Q E h => ?_) (fun cdv A outer s H vs Q E hr h => ?_)
  · obtain ⟨z, rfl, _⟩ := h
    rfl
  · obtain ⟨z, rfl, hz, q⟩ := h
    obtain ⟨t1, m1⟩ := T.letters
    obtain ⟨t2, m2⟩ := T.most
    refine ⟨_, pss_one (ps_ret (pe_and (pe_chain op_le op_le pe_int (pe_callB call_len_str (by rfl) B.len PySem.boot_len (pa_cons (pv 0) pa_nil)) (pe_glob (v := .int 8) rfl m2 ⟨_, rfl⟩))
      (pe_one (pe_callB (cr_all rfl) (by rfl) B.all (by decide +kernel) (pa_cons (pe_lc (own := [("letter", 1)]) (g := gName 1) (tt := tYes) rfl scIsName.nd (pi_str (pv 0)) (blkOk_by (N := ["name", "letter"]) (sc := defScope sIsName) (by decide +kernel))
        (fun _ _ _ _ _ => pg_name (i := 1) scIsName.nd rfl (.inl rfl)) (fun _ _ _ _ _ => pts_nil) (fun _ _ _ _ _ => pe_cmpR op_in_sign (pv 1) (pe_glob (v := .str "abcdefghijklmnopqrstuvwxyz") rfl m1 ⟨_, rfl⟩) (by rfl))) pa_nil))))), ?_⟩
    have hz2 : z.length ≤ sizeLine := Nat.le_of_lt (small1000 hz)
    refine ⟨_, rfl, _, rfl, hz2, _, _, rfl, rfl, _, rfl, ite2 (fun e1 => ?_) (fun e1 => ?_)⟩
    · refine ⟨_, _, rfl, rfl, _, rfl, ite2 (fun e2 => ?_) (fun e2 => ?_)⟩
      · -- all letters are of the alphabet
        refine ⟨_, rfl, _, rfl, fun D nD => ?_⟩
        have hl : (z.cps.toList.map letB).length = z.cps.size := by rw [List.length_map, Array.length_toList]
        refine lcp_str (x := z) (ys := (z.cps.toList.map letB).map V.bl) (by rw [List.length_map, hl]) (small1000 hz) (fun i c y R hc hy r => ?_) ?_
        · refine ⟨rfl, _, rfl, c, _, rfl, rfl, ?_⟩
          have e : y = V.bl (letB c) := by
            rw [List.getElem?_map, List.getElem?_map, Array.getElem?_toList, hc] at hy
            exact (Option.some.inj hy).symm
          rw [e] at r
          exact r
        · refine ⟨D, z.cps.toList.map letB, rfl, .inl (.inl upd_same), ?_⟩
          have en : nameB z = (z.cps.toList.map letB).all id := by
            unfold nameB
            rw [e1, e2]
            rfl
          rw [← en]
          exact q _ fun b o h => by rw [upd_ne (ne_of_none h nD)]; exact h
      · have en : nameB z = false := by
          unfold nameB
          rw [Bool.eq_false_iff.mpr e2]
          simp
        rw [← en]
        exact q _ (Same.refl H)
    · refine ⟨_, rfl, iteF ?_⟩
      have en : nameB z = false := by
        unfold nameB
        rw [Bool.eq_false_iff.mpr e1]
        rfl
      rw [← en]
      exact q _ (Same.refl H)
end
end Md

namespace Md
open PySem PySem.Spec PyProof.Rows L2
/-- a list of tuples whose things are flat -/
def Rows (H : Hp) (a : Addr) (rs : List (List V)) : Prop := ∃ as : List Addr, H a = some (.lst (as.map V.ref)) ∧ Paired (fun b r => H b = some (.tup r)) as rs
/-- the same, to be read -/
def RowsK (K : PySem.W.Frag) (H : Hp) (a : Addr) (rs : List (List V)) : Prop := ∃ as : List Addr, SqL K H a (as.map V.ref) ∧ Paired (fun b r => H b = some (.tup r)) as rs
theorem paired_imp {α β : Type} {F G : α → β → Prop} : ∀ {l : List α} {m : List β}, Paired F l m → (∀ a b, F a b → G a b) → Paired G l m
  | _, _, .nil, _ => .nil
  | _, _, .cons h t, f => .cons (f _ _ h) (paired_imp t f)
theorem paired_get {α β : Type} {F : α → β → Prop} : ∀ {l : List α} {m : List β}, Paired F l m → ∀ (i : Nat) (b : β), m[i]? = some b → ∃ a, l[i]? = some a ∧ F a b
  | _, _, .nil, i, b, h => by simp at h
  | _, _, .cons h t, 0, b, e => ⟨_, rfl, by
    have e2 := Option.some.inj e
    subst e2
    exact h⟩
  | _, _, .cons h t, i + 1, b, e => paired_get t i b e
theorem paired_len {α β : Type} {F : α → β → Prop} {l : List α} {m : List β} (h : Paired F l m) : l.length = m.length := Paired.length h
theorem Rows.k {K : PySem.W.Frag} {H : Hp} {a : Addr} {rs : List (List V)} (h : Rows H a rs) : RowsK K H a rs := by
  obtain ⟨as, h1, h2⟩ := h
  exact ⟨as, .inl (.inl h1), h2⟩
theorem Rows.same {H H' : Hp} {a : Addr} {rs : List (List V)} (h : Rows H a rs) (s : Same H H') : Rows H' a rs := by
  obtain ⟨as, h1, h2⟩ := h
  exact ⟨as, s _ _ h1, paired_imp h2 fun b r z => s _ _ z⟩
/-- a purse is no list of tuples: it may change -/
theorem Rows.keep {H H' : Hp} {a p : Addr} {rs : List (List V)} {c : Nat} (h : Rows H a rs) (hp : PurseAt H p c) (s : Keep p H H') : Rows H' a rs := by
  obtain ⟨as, h1, h2⟩ := h
  obtain ⟨p0, p1, p2, e, _⟩ := hp
  refine ⟨as, s _ _ h1 fun z => ?_, paired_imp h2 fun b r z => s _ _ z fun y => ?_⟩
  · rw [z, e] at h1
    have e2 := Option.some.inj h1
    cases as with
    | nil => cases e2
    | cons b bs => cases e2
  · rw [y, e] at z
    cases z
theorem Rows.length {H : Hp} {a : Addr} {rs : List (List V)} (h : Rows H a rs) : ∃ as : List Addr, as.length = rs.length ∧ H a = some (.lst (as.map V.ref)) := by
  obtain ⟨as, h1, h2⟩ := h
  exact ⟨as, paired_len h2, h1⟩
/-- a town's row, right -/
def TownR (r : List V) : Prop := ∃ (z : Str) (lo hi : Int), r = [.str z, .int lo, .int hi] ∧ nameB z = true ∧ z.length ≤ 8 ∧ 1 ≤ lo ∧ lo ≤ hi
/-- the name in a row of a town -/
def nameOf : List V → Str
  | .str z :: _ => z
  | _ => Str.empty
theorem inV_str (x : Str) : ∀ zs : List Str, inV (V.str x) (zs.map V.str) = decide (x ∈ zs)
  | [] => by simp [inV]
  | z :: zs => by
    have ih := inV_str x zs
    unfold inV at ih ⊢
    rw [List.map_cons, List.any_cons, ih]
    by_cases h : z = x
    · subst h
      simp [eqV]
    · have h2 : ¬ x = z := fun e => h e.symm
      simp [eqV, h, h2]
theorem flat_strs : ∀ zs : List Str, (zs.map V.str).all flatV = true
  | [] => rfl
  | z :: zs => by
    rw [List.map_cons, List.all_cons, flat_strs zs]
    rfl
theorem fresh_name {rs : List (List V)} (h : (rs.map nameOf).Nodup) {i : Nat} (hi : i < rs.length) : nameOf rs[i] ∉ (rs.take i).map nameOf := by
  intro m
  obtain ⟨r, hr, e⟩ := List.mem_map.mp m
  obtain ⟨j, hj, ej⟩ := List.getElem_of_mem hr
  have hj2 : j < i := by
    rw [List.length_take] at hj
    omega
  rw [List.getElem_take] at ej
  have z := (List.pairwise_iff_getElem.mp h) j i (by rw [List.length_map]; omega) (by rw [List.length_map]; exact hi) hj2
  rw [List.getElem_map, List.getElem_map, ej, e] at z
  exact z rfl
section
variable {P : Program} {w : World} {K : PySem.W.Frag} {mg : Str → Option Value} {base : Heap}
def spCheckTowns (K : PySem.W.Frag) : Sp := fun vs H Q _ => ∃ (a : Addr) (rs : List (List V)), vs = [.ref a] ∧ RowsK K H a rs ∧ (∀ r ∈ rs, TownR r) ∧ (rs.map nameOf).Nodup ∧ rs.length ≤ 100 ∧ ∀ H', Same H H' → Q .non H'
theorem scCheckTowns : FnScope ["towns", "names", "town", "name", "low", "high"] ["towns"] (defScope sCheckTowns) := ⟨rfl, rfl, rfl, by decide +kernel, rfl, by decide +kernel, by decide +kernel⟩
theorem ok_checkTowns {f fN : Addr} {fd fdN : FuncData} {k : Nat} (F : Fun K "check_towns" "check_towns" sCheckTowns f fd) (FN : Fun K "is_name" "is_name" sIsName fN fdN) (gN : mg "is_name" = some (.ref fN))
    (bN : Binds K fdN ["name"] []) (B : Blt mg) (T : Tops mg) : FnOk P w K mg base CX0 (k + 2) f fd ["towns"] (spCheckTowns K) := by
  have GN : FnOk P w K mg base CX0 (k + 1) fN fdN ["name"] spIsName := ok_isName FN B T
  refine F.ok scCheckTowns (fun vs H Q E h => ?_) (fun cdv A outer s H vs Q E hr h => ?_)
  · obtain ⟨a, rs, rfl, _⟩ := h
    rfl
  · obtain ⟨a, rs, rfl, ⟨as, hS, hR⟩, good, nodup, few, q⟩ := h
    have nd := scCheckTowns.nd
    refine ⟨_, pss_cons (ps_set (i := 1) nd rfl (.inl rfl) (pe_lst pa_nil))
      (pss_one (ps_for PassesOwn.never rfl (pi_list (pv 0)) (pg_name (i := 2) nd rfl (.inl rfl))
        (pss_cons (ps_asg (pv 2) (pg_tup (by rfl) (pgs_cons (pg_name (i := 3) nd rfl (.inl rfl)) (pgs_cons (pg_name (i := 4) nd rfl (.inl rfl)) (pgs_cons (pg_name (i := 5) nd rfl (.inl rfl)) pgs_nil)))))
        (pss_cons (ps_if (pt_not (pt_val (pe_call GN hr (by rfl) gN FN.kp bN .nil pass0 (pa_cons (pv 3) pa_nil)))) (pss_one ps_never) pss_nil)
        (pss_cons (ps_if (pt_cmpR op_in_seq (pv 3) (pv 1) (by rfl)) (pss_one ps_never) pss_nil)
        (pss_cons (ps_if (PW.pt (pw_or (pt_cmpR op_lt (pv 4) pe_int (nomark _)) (pw_or1 (pt_cmpR op_lt (pv 5) (pv 4) (nomark _))))) (pss_one ps_never) pss_nil)
        (pss_one (ps_expr (pe_bm PySem.F.plainAttrs_list PySem.F.slot_list_append PySem.F.type_list_append mt_append (pv 1) (pa_cons (pv 3) pa_nil)))))))))), ?_⟩
    refine ⟨Nat.zero_le _, fun l nl => ?_⟩
    have s0 : ∀ (H2 : Hp) (o : HO), Same H H2 → Same H (upd H2 l o) := fun H2 o sm b u z => by
      rw [upd_ne (ne_of_none z nl)]
      exact sm b u z
    have ln : as.length = rs.length := paired_len hR
    refine ⟨_, rfl, a, rfl, ⟨_, (s0 H _ (Same.refl H)).seq hS⟩, for_list (K := K) (a := a) (xs := as.map V.ref) (fun i sl H2 => ∃ v2 v3 v4 v5, sl = [some (.ref a), some (.ref l), v2, v3, v4, v5] ∧ Same H H2 ∧ H2 l = some (.lst (((rs.take i).map nameOf).map V.str)))
      ⟨none, none, none, none, rfl, s0 H _ (Same.refl H), upd_same⟩ (fun i sl H2 _ ⟨_, _, _, _, _, sm, _⟩ => sm.seq hS) ?_ ?_⟩
    · rintro i x sl H2 hx ⟨v2, v3, v4, v5, rfl, sm, hl⟩
      have hi : i < rs.length := by
        have z := (List.getElem?_eq_some_iff.mp hx).1
        rw [List.length_map] at z
        omega
      have hr0 : rs[i]? = some rs[i] := List.getElem?_eq_getElem hi
      obtain ⟨b, hb, hbr⟩ := paired_get hR i rs[i] hr0
      have ex : x = V.ref b := by
        rw [List.getElem?_map, hb] at hx
        exact (Option.some.inj hx).symm
      subst ex
      obtain ⟨z, lo, hi2, er, gz, z8, l1, l2⟩ := good rs[i] (List.getElem_mem hi)
      rw [er] at hbr
      have ez : nameOf rs[i] = z := by rw [er]; rfl
      -- name, low, high = town
      refine ⟨_, rfl, b, _, rfl, .inl (.inl (sm _ _ hbr)), rfl, _, _, rfl, _, _, rfl, _, _, rfl, rfl, ?_⟩
      -- the name is good
      refine ⟨_, rfl, z, rfl, by omega, fun H3 s3 => ⟨_, rfl, ?_⟩⟩
      rw [gz]
      refine iteF ?_
      -- it stood not before
      have hl3 : H3 l = some (.lst (((rs.take i).map nameOf).map V.str)) := s3 _ _ hl
      refine ⟨_, rfl, _, rfl, l, _, rfl, .inl (.inl (.inl hl3)), rfl, flat_strs _, _, rfl, ?_⟩
      have nin : inV (V.str z) (((rs.take i).map nameOf).map V.str) = false := by
        rw [inV_str]
        refine decide_eq_false fun m => ?_
        rw [← ez] at m
        exact fresh_name nodup hi m
      rw [nin]
      refine iteF ?_
      refine ⟨_, rfl, _, _, rfl, rfl, _, rfl, ?_⟩
      rw [decide_eq_false (show ¬ lo < 1 by omega)]
      refine iteF ⟨_, rfl, _, rfl, _, _, rfl, rfl, _, rfl, ?_⟩
      rw [decide_eq_false (show ¬ hi2 < lo by omega)]
      refine iteF ?_
      refine ⟨_, rfl, .inl ⟨rfl, _, .inl (.inl hl3)⟩, _, rfl, l, _, _, rfl, rfl, hl3, ?_, ?_⟩
      · rw [List.length_map, List.length_map, List.length_take]
        exact small1000 (by omega)
      · refine ⟨_, _, _, _, rfl, s0 H3 _ (sm.trans s3), ?_⟩
        rw [upd_same, List.take_add_one, hr0, Option.toList_some, List.map_append, List.map_append]
        show some (HO.lst (_ ++ [V.str z])) = some (HO.lst (_ ++ [V.str (nameOf rs[i])]))
        rw [ez]
    · rintro sl H2 ⟨v2, v3, v4, v5, rfl, sm, hl⟩
      exact q H2 sm
end
end Md

namespace Md
open PySem PySem.Spec PyProof.Rows L2
/-- a note's row, right where the towns have these names -/
def NoteR (ns : List Str) (r : List V) : Prop :=
  (∃ (kind z : Str) (day : Int), r = [.str kind, .str z, .int day] ∧ (kind = "market" ∨ kind = "none") ∧ z ∈ ns ∧ 0 ≤ day ∧ day ≤ 10 ^ 30) ∨
  (∃ (kind y z : Str) (day : Int), r = [.str kind, .str y, .str z, .int day] ∧ (kind = "one" ∨ kind = "same") ∧ y ∈ ns ∧ z ∈ ns ∧ y ≠ z ∧ 0 ≤ day ∧ day ≤ 10 ^ 30)
/-- the module's table of the numbers of things -/
structure Things (K : PySem.W.Frag) (w : World) (mg : Str → Option Value) : Prop where
  at_ : ∃ d es n, mg "THINGS" = some (.ref d) ∧ KDict K w d es n ∧ (∃ t, PySem.W.nsIn K d "market" = some (some (.int 3 t))) ∧ (∃ t, PySem.W.nsIn K d "none" = some (some (.int 3 t))) ∧
    (∃ t, PySem.W.nsIn K d "one" = some (some (.int 4 t))) ∧ ∃ t, PySem.W.nsIn K d "same" = some (some (.int 4 t))
section
variable {P : Program} {w : World} {K : PySem.W.Frag} {mg : Str → Option Value} {base : Heap}
abbrev sCheckAsked : Stmt := top 17
def spAsked0 (K : PySem.W.Frag) : Sp := fun vs H Q _ => ∃ (a c : Addr) (zs ys : List Str), vs = [.ref a, .ref c] ∧ SqL K H a (zs.map V.str) ∧ SqT K H c (ys.map V.str) ∧ (∀ y ∈ ys, y ∈ zs) ∧ ∀ H', Same H H' → Q .non H'
theorem scAsked : FnScope ["names", "asked", "name"] ["names", "asked"] (defScope sCheckAsked) := ⟨rfl, rfl, rfl, by decide +kernel, rfl, by decide +kernel, by decide +kernel⟩
theorem strs_at {ys : List Str} {i : Nat} {x : V} (hx : (ys.map V.str)[i]? = some x) : ∃ z, ys[i]? = some z ∧ x = V.str z := by
  rw [List.getElem?_map] at hx
  cases e : ys[i]? with
  | none => rw [e] at hx; cases hx
  | some z => rw [e] at hx; exact ⟨z, rfl, (Option.some.inj hx).symm⟩
theorem ok_asked0 {f : Addr} {fd : FuncData} {k : Nat} (F : Fun K "check_asked" "check_asked" sCheckAsked f fd) : FnOk P w K mg base CX0 (k + 1) f fd ["names", "asked"] (spAsked0 K) := by
  refine F.ok scAsked (fun vs H Q E h => ?_) (fun cdv A outer s H vs Q E hr h => ?_)
  · obtain ⟨a, c, zs, ys, rfl, _⟩ := h
    rfl
  · obtain ⟨a, c, zs, ys, rfl, hS, hc, good, q⟩ := h
    refine ⟨_, pss_one (ps_for PassesOwn.never rfl (pi_tup (pv 1)) (pg_name (i := 2) scAsked.nd rfl (.inl rfl)) (pss_one (ps_if (pt_cmpR op_notIn_seq (pv 2) (pv 0) (by rfl)) (pss_one ps_never) pss_nil))), ?_⟩
    refine ⟨_, rfl, c, rfl, ⟨_, hc⟩, for_tup (K := K) (a := c) (xs := ys.map V.str) (fun i sl H2 => ∃ v2, sl = [some (.ref a), some (.ref c), v2] ∧ H2 = H)
      ⟨none, rfl, rfl⟩ (fun i sl H2 _ ⟨_, _, e⟩ => by rw [e]; exact hc) ?_ ?_⟩
    · rintro i x sl H2 hx ⟨v3, rfl, rfl⟩
      obtain ⟨z, hz, rfl⟩ := strs_at hx
      refine ⟨_, rfl, _, rfl, a, _, rfl, .inl hS, rfl, flat_strs _, _, rfl, ?_⟩
      rw [inV_str, decide_eq_true (good z (List.mem_of_getElem? hz))]
      exact iteF ⟨_, rfl, rfl⟩
    · rintro sl H2 ⟨v3, rfl, rfl⟩
      exact q _ (Same.refl _)
def spCheckNote (K : PySem.W.Frag) : Sp := fun vs H Q _ => ∃ (a t : Addr) (zs : List Str) (r : List V), vs = [.ref a, .ref t] ∧ SqL K H a (zs.map V.str) ∧ H t = some (.tup r) ∧ NoteR zs r ∧ ∀ H', Same H H' → Q .non H'
theorem scCheckNote : FnScope ["names", "note", "asked"] ["names", "note"] (defScope sCheckNote) := ⟨rfl, rfl, rfl, by decide +kernel, rfl, by decide +kernel, by decide +kernel⟩
theorem ok_checkNote {f fA : Addr} {fd fdA : FuncData} {k : Nat} (F : Fun K "check_note" "check_note" sCheckNote f fd) (FA : Fun K "check_asked" "check_asked" sCheckAsked fA fdA) (gA : mg "check_asked" = some (.ref fA)) (bA : Binds K fdA ["names", "asked"] []) (B : Blt mg) (TH : Things K w mg) : FnOk P w K mg base CX0 (k + 2) f fd ["names", "note"] (spCheckNote K) := by
  have GA : FnOk P w K mg base CX0 (k + 1) fA fdA ["names", "asked"] (spAsked0 K) := ok_asked0 FA
  refine F.ok scCheckNote (fun vs H Q E h => ?_) (fun cdv A outer s H vs Q E hr h => ?_)
  · obtain ⟨a, t, zs, r, rfl, _⟩ := h
    rfl
  · obtain ⟨a, t, zs, r, rfl, hS, hT, good, q⟩ := h
    obtain ⟨d, es, n, mT, D, ⟨t1, k1⟩, ⟨t2, k2⟩, ⟨t3, k3⟩, t4, k4⟩ := TH.at_
    have nd := scCheckNote.nd
    refine ⟨_, pss_cons (ps_if (PW.pt (pw_or (pt_not (pt_truth (pv 1) (by intro _; rfl))) (pw_or1 (pt_cmpR op_ne (pe_callB call_len_seq (by rfl) B.len PySem.boot_len (pa_cons (pv 1) pa_nil))
        (pe_kget D (pe_glob (v := .ref d) rfl mT rfl) (pe_ix ix_tup (pv 1) pe_int (fun _ _ => rfl)) ⟨by rfl, by rfl, by rfl, by rfl⟩) (nomark _))))) (pss_one ps_never) pss_nil)
      (pss_cons (ps_set (i := 2) nd rfl (.inl rfl) (pe_slice sl_tup (pv 1) (po_some pe_int) (po_some (pe_un un_neg pe_int))))
      (pss_cons (ps_expr (pe_call GA hr (by rfl) gA FA.kp bA .nil pass0 (pa_cons (pv 0) (pa_cons (pv 2) pa_nil))))
      (pss_cons (ps_if (PW.pt (pw_and (pt_cmpR op_eq (pe_callB call_len_seq (by rfl) B.len PySem.boot_len (pa_cons (pv 2) pa_nil)) pe_int (nomark _))
        (pw_and1 (pt_cmpR op_eq (pe_ix ix_tup (pv 2) pe_int (fun _ _ => rfl)) (pe_ix ix_tup (pv 2) pe_int (fun _ _ => rfl)) (nomark _))))) (pss_one ps_never) pss_nil)
      (pss_one (ps_if (pt_cmpR op_lt (pe_ix ix_tup (pv 1) (pe_un un_neg pe_int) (fun _ _ => rfl)) pe_int (nomark _)) (pss_one ps_never) pss_nil))))), ?_⟩
    have hq : SqT K H t r := .inl (.inl hT)
    have same : ∀ (c : Addr) (o : HO), H c = none → Same H (upd H c o) := fun c o nc b u z => by
      rw [upd_ne (ne_of_none z nc)]
      exact z
    rcases good with ⟨kind, z, day, er, hk, hz, d0, d1⟩ | ⟨kind, y, z, day, er, hk, hy, hz, hyz, d0, d1⟩
    · -- a note of one town
      subst er
      have hget : ∃ tk, PySem.W.nsIn K d kind = some (some (.int 3 tk)) := by
        rcases hk with e | e
        · exact ⟨t1, by rw [e]; exact k1⟩
        · exact ⟨t2, by rw [e]; exact k2⟩
      obtain ⟨tk, hget⟩ := hget
      refine ⟨_, rfl, true, .inr (.inl ⟨_, hq, rfl⟩), iteF ?_⟩
      refine ⟨_, rfl, t, _, rfl, .inr hq, rfl, _, rfl, t, _, 0, .str kind, rfl, rfl, hq, atI_nat (j := 0) rfl, kind, _, rfl, hget, (fun e => nomatch e), fun u0 e => ⟨.int 3, ⟨tk, (Option.some.inj e).symm⟩, rfl, _, rfl, iteNS rfl ?_⟩⟩
      refine ⟨_, rfl, 1, rfl, _, rfl, -1, rfl, t, _, rfl, hq, (by simp only [List.length_cons, List.length_nil]; decide), fun c nc => ?_⟩
      have s1 := same c (.tup (cutV [.str kind, .str z, .int day] (some 1) (some (-1)))) nc
      have hcT : (upd H c (.tup (cutV [.str kind, .str z, .int day] (some 1) (some (-1))))) c = some (.tup [.str z]) := by rw [upd_same]; rfl
      have hc : SqT K (upd H c (.tup (cutV [.str kind, .str z, .int day] (some 1) (some (-1))))) c [.str z] := .inl (.inl hcT)
      refine ⟨_, rfl, _, rfl, a, c, zs, [z], rfl, s1.seq hS, hc, fun y hy => by rw [List.mem_singleton.mp hy]; exact hz, fun H2 s2 => ?_⟩
      have hc : SqT K H2 c [.str z] := .inl (.inl (s2 _ _ hcT))
      have s1 := s1.trans s2
      · refine ⟨_, rfl, c, _, rfl, .inr hc, rfl, _, rfl, ?_⟩
        refine iteF ?_
        refine ⟨_, rfl, _, rfl, t, _, -1, .int day, rfl, rfl, .inl (.inl (s1 _ _ hT)), rfl, _, _, rfl, rfl, _, rfl, ?_⟩
        rw [decide_eq_false (show ¬ day < 0 by omega)]
        exact iteF (q _ s1)
    · -- a note of two
      subst er
      have hget : ∃ tk, PySem.W.nsIn K d kind = some (some (.int 4 tk)) := by
        rcases hk with e | e
        · exact ⟨t3, by rw [e]; exact k3⟩
        · exact ⟨t4, by rw [e]; exact k4⟩
      obtain ⟨tk, hget⟩ := hget
      refine ⟨_, rfl, true, .inr (.inl ⟨_, hq, rfl⟩), iteF ?_⟩
      refine ⟨_, rfl, t, _, rfl, .inr hq, rfl, _, rfl, t, _, 0, .str kind, rfl, rfl, hq, atI_nat (j := 0) rfl, kind, _, rfl, hget, (fun e => nomatch e), fun u0 e => ⟨.int 4, ⟨tk, (Option.some.inj e).symm⟩, rfl, _, rfl, iteNS rfl ?_⟩⟩
      refine ⟨_, rfl, 1, rfl, _, rfl, -1, rfl, t, _, rfl, hq, (by simp only [List.length_cons, List.length_nil]; decide), fun c nc => ?_⟩
      have s1 := same c (.tup (cutV [.str kind, .str y, .str z, .int day] (some 1) (some (-1)))) nc
      have hcT : (upd H c (.tup (cutV [.str kind, .str y, .str z, .int day] (some 1) (some (-1))))) c = some (.tup [.str y, .str z]) := by rw [upd_same]; rfl
      have hc : SqT K (upd H c (.tup (cutV [.str kind, .str y, .str z, .int day] (some 1) (some (-1))))) c [.str y, .str z] := .inl (.inl hcT)
      refine ⟨_, rfl, _, rfl, a, c, zs, [y, z], rfl, s1.seq hS, hc, fun x hx => ?_, fun H2 s2 => ?_⟩
      · rcases List.mem_cons.mp hx with e | e
        · rw [e]; exact hy
        · rw [List.mem_singleton.mp e]; exact hz
      have hc : SqT K H2 c [.str y, .str z] := .inl (.inl (s2 _ _ hcT))
      have s1 := s1.trans s2
      · refine ⟨_, rfl, c, _, rfl, .inr hc, rfl, _, rfl, ?_⟩
        refine iteT ?_
        refine ⟨_, rfl, c, _, 0, .str y, rfl, rfl, hc, atI_nat (j := 0) rfl, _, rfl, c, _, 1, .str z, rfl, rfl, hc, atI_nat (j := 1) rfl, rfl, _, rfl, ?_⟩
        rw [decide_eq_false (show ¬ V.str y = V.str z from fun e => hyz (V.str.inj e))]
        refine iteF ?_
        refine ⟨_, rfl, _, rfl, t, _, -1, .int day, rfl, rfl, .inl (.inl (s1 _ _ hT)), rfl, _, _, rfl, rfl, _, rfl, ?_⟩
        rw [decide_eq_false (show ¬ day < 0 by omega)]
        exact iteF (q _ s1)
end
end Md

namespace Md
open PySem PySem.Spec PyProof.Rows L2
abbrev sInit : Stmt := inClass sDiary 0
abbrev sGetTowns : Stmt := inClass sDiary 1
abbrev sGetNotes : Stmt := inClass sDiary 2
abbrev sNames : Stmt := inClass sDiary 3
abbrev sLen : Stmt := inClass sDiary 6
/-- a diary's attributes -/
def flds (a b : Addr) : List (Str × V) := [("_towns", .ref a), ("_notes", .ref b)]
/-- a diary stands at m, its own lists at a and b -/
structure DiaryAt (C : Addr) (H : Hp) (m dx a b : Addr) (ts ns : List (List V)) : Prop where
  ob : H m = some (.ins C dx (flds a b))
  towns : Rows H a ts
  notes : Rows H b ns
theorem DiaryAt.same {C : Addr} {H H' : Hp} {m dx a b : Addr} {ts ns : List (List V)} (D : DiaryAt C H m dx a b ts ns) (s : Same H H') : DiaryAt C H' m dx a b ts ns :=
  ⟨s _ _ D.ob, D.towns.same s, D.notes.same s⟩
theorem DiaryAt.keep {C : Addr} {H H' : Hp} {m dx a b p : Addr} {ts ns : List (List V)} {c : Nat} (D : DiaryAt C H m dx a b ts ns) (hp : PurseAt H p c) (s : Keep p H H') : DiaryAt C H' m dx a b ts ns :=
  ⟨s _ _ D.ob (fun e => by
    obtain ⟨p0, p1, p2, e1, _⟩ := hp
    have z := D.ob
    rw [e, e1] at z
    cases z), D.towns.keep hp s, D.notes.keep hp s⟩
/-- what is asked of the class -/
structure Cl (K : PySem.W.Frag) (C : Addr) : Prop where
  cl : Cls K C
  nT : NoAttr K C "_towns"
  nN : NoAttr K C "_notes"
theorem rows_copy {H : Hp} {as : List Addr} {rs : List (List V)} {q : Addr} (h : Paired (fun b r => H b = some (.tup r)) as rs) (n : H q = none) : Rows (upd H q (.lst (as.map V.ref))) q rs :=
  ⟨as, upd_same, paired_imp h fun b r z => by rw [upd_ne (ne_of_none z n)]; exact z⟩
theorem rows_ref {as : List Addr} {rs : List (List V)} {H : Hp} (h : Paired (fun b r => H b = some (.tup r)) as rs) {i : Nat} {x : V} (hx : (as.map V.ref)[i]? = some x) : ∃ b r, x = .ref b ∧ rs[i]? = some r ∧ H b = some (.tup r) := by
  have hi : i < rs.length := by
    have z := (List.getElem?_eq_some_iff.mp hx).1
    rw [List.length_map, paired_len h] at z
    exact z
  have hr : rs[i]? = some rs[i] := List.getElem?_eq_getElem hi
  obtain ⟨b, hb, hbr⟩ := paired_get h i rs[i] hr
  refine ⟨b, rs[i], ?_, hr, hbr⟩
  rw [List.getElem?_map, hb] at hx
  exact (Option.some.inj hx).symm
theorem flds_put {a b : Addr} : putF "_notes" (.ref b) (putF "_towns" (.ref a) []) = flds a b := by
  show (if ("_towns" : Str) = "_notes" then _ else (("_towns" : Str), V.ref a) :: putF "_notes" (.ref b) []) = _
  rw [if_neg (by decide +kernel)]
  rfl
section
variable {P : Program} {w : World} {K : PySem.W.Frag} {mg : Str → Option Value} {base : Heap}
def spInit (C : Addr) : Sp := fun vs H Q _ => ∃ (p dx t n : Addr) (ts ns : List (List V)), vs = [.ref p, .ref t, .ref n] ∧ H p = some (.ins C dx []) ∧ Rows H t ts ∧ Rows H n ns ∧
  (∀ r ∈ ts, TownR r) ∧ (ts.map nameOf).Nodup ∧ (∀ r ∈ ns, NoteR (ts.map nameOf) r) ∧ ts.length ≤ 100 ∧ ns.length ≤ 100 ∧
  ∀ a b H', H a = none → H b = none → DiaryAt C H' p dx a b ts ns → Keep p H H' → Q .non H'
theorem scInit : FnScope ["self", "towns", "notes", "names", "note", "town"] ["self", "towns", "notes"] (defScope sInit) := ⟨rfl, rfl, rfl, by decide +kernel, rfl, by decide +kernel, by decide +kernel⟩
theorem ok_init {f C fT fN : Addr} {fd fdT fdN : FuncData} {k : Nat} (F : Fun K "__init__" "Diary.__init__" sInit f fd) (cl : Cl K C) (B : Blt mg)
    (GT : FnOk P w K mg base CX0 (k + 2) fT fdT ["towns"] (spCheckTowns K)) (gT : mg "check_towns" = some (.ref fT)) (kT : PySem.W.keepIn K (.ref fT) = true) (bT : Binds K fdT ["towns"] [])
    (GN : FnOk P w K mg base CX0 (k + 2) fN fdN ["names", "note"] (spCheckNote K)) (gN : mg "check_note" = some (.ref fN)) (kN : PySem.W.keepIn K (.ref fN) = true) (bN : Binds K fdN ["names", "note"] []) :
    FnOk P w K mg base CX0 (k + 3) f fd ["self", "towns", "notes"] (spInit C) := by
  refine F.ok scInit (fun vs H Q E h => ?_) (fun cdv A outer s H vs Q E hr h => ?_)
  · obtain ⟨p, dx, t, n, ts, ns, rfl, _⟩ := h
    rfl
  · obtain ⟨p, dx, t, n, ts, ns, rfl, hp, ⟨tas, ht, hts⟩, ⟨nas, hn, hns⟩, goodT, nodup, goodN, fewT, fewN, q⟩ := h
    have nd := scInit.nd
    refine ⟨_, pss_cons (ps_expr (pe_call GT hr (by rfl) gT kT bT .nil pass0 (pa_cons (pv 1) pa_nil)))
      (pss_cons (ps_setLc (i := 3) (own := [("town", 5)]) (g := gName 5) (tt := tYes) rfl nd rfl rfl (sw_true rfl rfl rfl (by decide +kernel)) (pi_list (pv 1)) (blkOk_by (N := ["self", "towns", "notes", "names", "note", "town"]) (sc := defScope sInit) (by decide +kernel))
        (fun _ _ _ _ _ => pg_name (i := 5) nd rfl (.inl rfl)) (fun _ _ _ _ _ => pts_nil) (fun _ _ _ _ _ => pe_ix (r := rIxT K) ix_tup (pv 5) pe_int (fun _ _ => rfl)))
      (pss_cons (ps_for PassesOwn.never rfl (pi_list (pv 2)) (pg_name (i := 4) nd rfl (.inl rfl)) (pss_one (ps_expr (pe_call GN hr (by rfl) gN kN bN .nil pass0 (pa_cons (pv 3) (pa_cons (pv 4) pa_nil))))))
      (pss_cons (ps_fld (pv 0) (pe_callTy call_list_of (by rfl) B.list (by decide +kernel) (pa_cons (pv 1) pa_nil)) rfl)
      (pss_one (ps_fld (pv 0) (pe_callTy call_list_of (by rfl) B.list (by decide +kernel) (pa_cons (pv 2) pa_nil)) rfl))))), ?_⟩
    -- check_towns(towns)
    refine ⟨_, rfl, t, ts, rfl, ⟨tas, .inl (.inl ht), hts⟩, goodT, nodup, fewT, fun H1 s1 => ?_⟩
    -- names
    have ln : tas.length = ts.length := paired_len hts
    refine ⟨_, rfl, t, rfl, ⟨_, .inl (.inl (s1 _ _ ht))⟩, fun D nD => ?_⟩
    refine lcp_list (K := K) (a := t) (xs := tas.map V.ref) (ys := (ts.map nameOf).map V.str) (.inl (.inl (s1 _ _ ht))) nD (by rw [List.length_map, List.length_map, List.length_map, ln]) (by rw [List.length_map, ln]; exact small1000 (by omega)) (fun i x y R hx hy r => ?_) ?_
    · obtain ⟨b, rw_, ex, hr1, hb⟩ := rows_ref hts hx
      subst ex
      obtain ⟨z, lo, hi, er, _⟩ := goodT rw_ (List.mem_of_getElem? hr1)
      have ey : y = V.str z := by
        rw [List.getElem?_map, List.getElem?_map, hr1, er] at hy
        exact (Option.some.inj hy).symm
      subst ey
      subst er
      refine ⟨rfl, _, rfl, b, [.str z, .int lo, .int hi], 0, .str z, rfl, rfl, .inl (.inl ?_), atI_nat (j := 0) rfl, r⟩
      unfold grown
      rw [upd_ne (ne_of_none (s1 _ _ hb) nD)]
      exact s1 _ _ hb
    · -- each note
      have s2 : Same H (upd H1 D (.lst ((ts.map nameOf).map V.str))) := fun b o z => by
        rw [upd_ne (ne_of_none (s1 _ _ z) nD)]
        exact s1 _ _ z
      have ln2 : nas.length = ns.length := paired_len hns
      refine ⟨_, rfl, n, rfl, ⟨_, .inl (.inl (s2 _ _ hn))⟩, for_list (K := K) (a := n) (xs := nas.map V.ref) (fun i sl H2 => ∃ v4 v5, sl = [some (.ref p), some (.ref t), some (.ref n), some (.ref D), v4, v5] ∧ Same H H2 ∧ H2 D = some (.lst ((ts.map nameOf).map V.str)))
        ⟨none, none, rfl, s2, upd_same⟩ (fun i sl H2 _ ⟨_, _, _, sm, _⟩ => .inl (.inl (sm _ _ hn))) ?_ ?_⟩
      · rintro i x sl H2 hx ⟨v4, v5, rfl, sm, hD⟩
        obtain ⟨b, rw_, ex, hr1, hb⟩ := rows_ref hns hx
        subst ex
        exact ⟨_, rfl, _, rfl, D, b, _, rw_, rfl, .inl (.inl hD), sm _ _ hb, goodN rw_ (List.mem_of_getElem? hr1), fun H3 s3 => ⟨_, _, rfl, sm.trans s3, s3 _ _ hD⟩⟩
      · rintro sl H2 ⟨v4, v5, rfl, sm, hD⟩
        -- the two lists
        have hp2 := sm _ _ hp
        refine ⟨_, rfl, t, _, rfl, .inl (.inl (.inl (sm _ _ ht))), fun a na => ?_⟩
        have npa : p ≠ a := ne_of_none hp2 na
        refine ⟨_, rfl, p, C, dx, [], rfl, (by rw [upd_ne npa]; exact hp2), cl.cl, cl.nT, (by show 0 < 1000; decide), ?_⟩
        have hn2 := sm _ _ hn
        have h3 : ∀ (c : Addr) (o : HO), H2 c = some o → c ≠ p → upd (upd H2 a (.lst (tas.map V.ref))) p (.ins C dx (putF "_towns" (.ref a) [])) c = some o := fun c o z ne => by
          rw [upd_ne ne, upd_ne (ne_of_none z na)]
          exact z
        have nnp : n ≠ p := ne_of hn2 hp2 (by intro z; cases z)
        have nap : a ≠ p := fun e => npa e.symm
        refine ⟨_, rfl, n, _, rfl, .inl (.inl (.inl (h3 _ _ hn2 nnp))), fun b nb => ?_⟩
        have nbp : b ≠ p := fun e => by rw [e, upd_same] at nb; cases nb
        have nba : b ≠ a := fun e => by rw [e, upd_ne nap, upd_same] at nb; cases nb
        have nb2 : H2 b = none := by rw [upd_ne nbp, upd_ne nba] at nb; exact nb
        refine ⟨_, rfl, p, C, dx, putF "_towns" (.ref a) [], rfl, (by rw [upd_ne (fun e => nbp e.symm), upd_same]), cl.cl, cl.nN, (by show 1 < 1000; decide), ?_⟩
        rw [flds_put]
        refine q a b _ (sm.free na) (sm.free nb2) ⟨upd_same, ?_, ?_⟩ ?_
        · refine ⟨tas, ?_, paired_imp hts fun c r z => ?_⟩
          · rw [upd_ne nap, upd_ne (fun e => nba e.symm), upd_ne nap, upd_same]
          · have zp : c ≠ p := ne_of z hp (by intro z; cases z)
            rw [upd_ne zp, upd_ne (ne_of_none (h3 c _ (sm _ _ z) zp) nb)]
            exact h3 c _ (sm _ _ z) zp
        · refine ⟨nas, ?_, paired_imp hns fun c r z => ?_⟩
          · rw [upd_ne nbp, upd_same]
          · have zp : c ≠ p := ne_of z hp (by intro z; cases z)
            rw [upd_ne zp, upd_ne (ne_of_none (h3 c _ (sm _ _ z) zp) nb)]
            exact h3 c _ (sm _ _ z) zp
        · intro c o z ne
          rw [upd_ne ne, upd_ne (ne_of_none (h3 c _ (sm _ _ z) ne) nb)]
          exact h3 c _ (sm _ _ z) ne
end
end Md

namespace Md
open PySem PySem.Spec PyProof.Rows L2
theorem look_t {a b : Addr} : (flds a b).lookup ("_towns" : Str) = some (.ref a) := by rfl
theorem look_n {a b : Addr} : (flds a b).lookup ("_notes" : Str) = some (.ref b) := by rfl
section
variable {P : Program} {w : World} {K : PySem.W.Frag} {mg : Str → Option Value} {base : Heap}
def spTowns (C : Addr) : Sp := fun vs H Q _ => ∃ (m dx a b : Addr) (ts ns : List (List V)), vs = [.ref m] ∧ DiaryAt C H m dx a b ts ns ∧ ∀ q H', H q = none → Rows H' q ts → Same H H' → Q (.ref q) H'
def spNotes (C : Addr) : Sp := fun vs H Q _ => ∃ (m dx a b : Addr) (ts ns : List (List V)), vs = [.ref m] ∧ DiaryAt C H m dx a b ts ns ∧ ∀ q H', H q = none → Rows H' q ns → Same H H' → Q (.ref q) H'
def spNames (C : Addr) : Sp := fun vs H Q _ => ∃ (m dx a b : Addr) (ts ns : List (List V)), vs = [.ref m] ∧ DiaryAt C H m dx a b ts ns ∧ (∀ r ∈ ts, TownR r) ∧ ts.length ≤ 100 ∧
  ∀ q H', H q = none → H' q = some (.lst ((ts.map nameOf).map V.str)) → Same H H' → Q (.ref q) H'
def spLen (C : Addr) : Sp := fun vs H Q _ => ∃ (m dx a b : Addr) (ts ns : List (List V)), vs = [.ref m] ∧ DiaryAt C H m dx a b ts ns ∧ Q (.int ns.length) H
theorem sc1 {st : Stmt} (h : FnScope ["self"] ["self"] (defScope st)) : FnScope ["self"] ["self"] (defScope st) := h
theorem scGT : FnScope ["self"] ["self"] (defScope sGetTowns) := ⟨rfl, rfl, rfl, by decide +kernel, rfl, by decide +kernel, by decide +kernel⟩
theorem scGN : FnScope ["self"] ["self"] (defScope sGetNotes) := ⟨rfl, rfl, rfl, by decide +kernel, rfl, by decide +kernel, by decide +kernel⟩
theorem scNames : FnScope ["self", "town"] ["self"] (defScope sNames) := ⟨rfl, rfl, rfl, by decide +kernel, rfl, by decide +kernel, by decide +kernel⟩
theorem scLen : FnScope ["self"] ["self"] (defScope sLen) := ⟨rfl, rfl, rfl, by decide +kernel, rfl, by decide +kernel, by decide +kernel⟩
theorem ok_towns {f C : Addr} {fd : FuncData} {k : Nat} (F : Fun K "towns" "Diary.towns" sGetTowns f fd) (cl : Cl K C) (B : Blt mg) : FnOk P w K mg base CX0 (k + 1) f fd ["self"] (spTowns C) := by
  refine F.ok scGT (fun vs H Q E h => ?_) (fun cdv A outer s H vs Q E hr h => ?_)
  · obtain ⟨m, dx, a, b, ts, ns, rfl, _⟩ := h
    rfl
  · obtain ⟨m, dx, a, b, ts, ns, rfl, D, q⟩ := h
    obtain ⟨as, h1, h2⟩ := D.towns
    refine ⟨_, pss_one (ps_ret (pe_callTy call_list_of (by rfl) B.list (by decide +kernel) (pa_cons (pe_fld (pv 0) rfl) pa_nil))), ?_⟩
    refine ⟨_, rfl, m, C, dx, _, _, rfl, D.ob, cl.cl, cl.nT, look_t, a, _, rfl, .inl (.inl (.inl h1)), fun c nc => ?_⟩
    exact q c _ nc (rows_copy h2 nc) fun x o z => by rw [upd_ne (ne_of_none z nc)]; exact z
theorem ok_notes {f C : Addr} {fd : FuncData} {k : Nat} (F : Fun K "notes" "Diary.notes" sGetNotes f fd) (cl : Cl K C) (B : Blt mg) : FnOk P w K mg base CX0 (k + 1) f fd ["self"] (spNotes C) := by
  refine F.ok scGN (fun vs H Q E h => ?_) (fun cdv A outer s H vs Q E hr h => ?_)
  · obtain ⟨m, dx, a, b, ts, ns, rfl, _⟩ := h
    rfl
  · obtain ⟨m, dx, a, b, ts, ns, rfl, D, q⟩ := h
    obtain ⟨as, h1, h2⟩ := D.notes
    refine ⟨_, pss_one (ps_ret (pe_callTy call_list_of (by rfl) B.list (by decide +kernel) (pa_cons (pe_fld (pv 0) rfl) pa_nil))), ?_⟩
    refine ⟨_, rfl, m, C, dx, _, _, rfl, D.ob, cl.cl, cl.nN, look_n, b, _, rfl, .inl (.inl (.inl h1)), fun c nc => ?_⟩
    exact q c _ nc (rows_copy h2 nc) fun x o z => by rw [upd_ne (ne_of_none z nc)]; exact z
theorem ok_names {f C : Addr} {fd : FuncData} {k : Nat} (F : Fun K "names" "Diary.names" sNames f fd) (cl : Cl K C) (B : Blt mg) : FnOk P w K mg base CX0 (k + 1) f fd ["self"] (spNames C) := by
  refine F.ok scNames (fun vs H Q E h => ?_) (fun cdv A outer s H vs Q E hr h => ?_)
  · obtain ⟨m, dx, a, b, ts, ns, rfl, _⟩ := h
    rfl
  · obtain ⟨m, dx, a, b, ts, ns, rfl, D, good, few, q⟩ := h
    obtain ⟨as, h1, h2⟩ := D.towns
    have ln : as.length = ts.length := paired_len h2
    refine ⟨_, pss_one (ps_ret (pe_lc (own := [("town", 1)]) (g := gName 1) (tt := tYes) rfl scNames.nd (pi_list (pe_fld (pv 0) rfl)) (blkOk_by (N := ["self", "town"]) (sc := defScope sNames) (by decide +kernel))
        (fun _ _ _ _ _ => pg_name (i := 1) scNames.nd rfl (.inl rfl)) (fun _ _ _ _ _ => pts_nil) (fun _ _ _ _ _ => pe_ix (r := rIxT K) ix_tup (pv 1) pe_int (fun _ _ => rfl)))), ?_⟩
    refine ⟨_, rfl, m, C, dx, _, _, rfl, D.ob, cl.cl, cl.nT, look_t, a, rfl, ⟨_, .inl (.inl h1)⟩, fun c nc => ?_⟩
    refine lcp_list (K := K) (a := a) (xs := as.map V.ref) (ys := (ts.map nameOf).map V.str) (.inl (.inl h1)) nc (by rw [List.length_map, List.length_map, List.length_map, ln]) (by rw [List.length_map, ln]; exact small1000 (by omega)) (fun i x y R hx hy r => ?_) ?_
    · obtain ⟨b2, row, ex, hr1, hb⟩ := rows_ref h2 hx
      subst ex
      obtain ⟨z, lo, hi, er, _⟩ := good row (List.mem_of_getElem? hr1)
      have ey : y = V.str z := by
        rw [List.getElem?_map, List.getElem?_map, hr1, er] at hy
        exact (Option.some.inj hy).symm
      subst ey
      subst er
      refine ⟨rfl, _, rfl, b2, [.str z, .int lo, .int hi], 0, .str z, rfl, rfl, .inl (.inl ?_), atI_nat (j := 0) rfl, r⟩
      unfold grown
      rw [upd_ne (ne_of_none hb nc)]
      exact hb
    · exact q c _ nc upd_same fun x o z => by rw [upd_ne (ne_of_none z nc)]; exact z
theorem ok_len {f C : Addr} {fd : FuncData} {k : Nat} (F : Fun K "__len__" "Diary.__len__" sLen f fd) (cl : Cl K C) (B : Blt mg) : FnOk P w K mg base CX0 (k + 1) f fd ["self"] (spLen C) := by
  refine F.ok scLen (fun vs H Q E h => ?_) (fun cdv A outer s H vs Q E hr h => ?_)
  · obtain ⟨m, dx, a, b, ts, ns, rfl, _⟩ := h
    rfl
  · obtain ⟨m, dx, a, b, ts, ns, rfl, D, q⟩ := h
    obtain ⟨as, h1, h2⟩ := D.notes
    refine ⟨_, pss_one (ps_ret (pe_callB call_len_seq (by rfl) B.len PySem.boot_len (pa_cons (pe_fld (pv 0) rfl) pa_nil))), ?_⟩
    refine ⟨_, rfl, m, C, dx, _, _, rfl, D.ob, cl.cl, cl.nN, look_n, b, _, rfl, .inl (.inl (.inl h1)), ?_⟩
    rw [List.length_map, paired_len h2]
    exact q
end
end Md

namespace Md
open PySem PySem.Spec PyProof.Rows L2
abbrev sg (z : Str) : List Nat := z.cps.toList
theorem sg_len (z : Str) : (sg z).length = z.length := by
  show z.cps.toList.length = z.cps.size
  exact Array.length_toList
theorem str_ext {x y : Str} (h : sg x = sg y) : x = y := Str.ext' (Array.toList_inj.mp h)
theorem sg_app (x y : Str) : sg (x ++ y) = sg x ++ sg y := by
  show (x.cps ++ y.cps).toList = _
  simp
/-- nothing but letters -/
def LetS (z : Str) : Prop := ∀ c ∈ sg z, letB c = true
theorem LetS.name {z : Str} (h : LetS z) (h1 : 1 ≤ z.length) (h2 : z.length ≤ 8) : nameB z = true := by
  unfold nameB
  rw [decide_eq_true (show (1 : Int) ≤ z.length by omega), decide_eq_true (show (z.length : Int) ≤ 8 by omega)]
  have e : (z.cps.toList.map letB).all id = true := by
    rw [List.all_eq_true]
    intro b hb
    obtain ⟨c, hc, e⟩ := List.mem_map.mp hb
    rw [← e]
    exact h c hc
  rw [e]
  rfl
theorem LetS.app {x y : Str} (h : LetS x) (k : LetS y) : LetS (x ++ y) := by
  intro c hc
  rw [sg_app, List.mem_append] at hc
  exact hc.elim (h c) (k c)
theorem app_len (x y : Str) : (x ++ y).length = x.length + y.length := by
  rw [← sg_len, sg_app, List.length_append, sg_len, sg_len]
theorem LetS.cut {z : Str} (h : LetS z) (lo hi : Option Int) : LetS (cutS z lo hi) := by
  intro c hc
  have m : c ∈ (z.cps.toList.drop (HT.sIx z.length 0 lo)).take (HT.sIx z.length z.length hi - HT.sIx z.length 0 lo) := by
    unfold cutS at hc
    simpa using hc
  exact h c (List.mem_of_mem_drop (List.mem_of_mem_take m))
theorem sg_cut_to (z : Str) (n : Nat) (h : n ≤ z.length) : sg (cutS z none (some (n : Int))) = (sg z).take n := by
  show ((z.cps.toList.drop (HT.sIx z.length 0 none)).take (HT.sIx z.length z.length (some (n : Int)) - HT.sIx z.length 0 none)).toArray.toList = _
  rw [HT.sIx_none, HT.sIx_nat]
  simp [Nat.min_eq_left h]
theorem sg_cut_from (z : Str) (n : Nat) (h : n ≤ z.length) : sg (cutS z (some (n : Int)) none) = (sg z).drop n := by
  show ((z.cps.toList.drop (HT.sIx z.length 0 (some (n : Int)))).take (HT.sIx z.length z.length none - HT.sIx z.length 0 (some (n : Int)))).toArray.toList = _
  rw [HT.sIx_none, HT.sIx_nat, Nat.min_eq_left h]
  have e : (z.cps.toList.drop n).length = z.length - n := by rw [List.length_drop, ← sg_len]
  show (z.cps.toList.drop n).take (z.length - n) = z.cps.toList.drop n
  rw [← e, List.take_length]
theorem join_sg : ∀ ys : List Str, sg (Str.join Str.empty ys) = (ys.map sg).flatten
  | [] => rfl
  | [y] => by
    show sg y = [sg y].flatten
    simp
  | x :: y :: r => by
    have ih := join_sg (y :: r)
    have e : Str.join Str.empty (x :: y :: r) = x ++ Str.empty ++ Str.join Str.empty (y :: r) := rfl
    rw [e, sg_app, sg_app, ih]
    simp [Str.empty]
/-- one sign -/
abbrev one (c : Nat) : Str := ⟨#[c]⟩
theorem join_ones (cs : List Nat) : sg (Str.join Str.empty (cs.map one)) = cs := by
  rw [join_sg, List.map_map]
  induction cs with
  | nil => rfl
  | cons c r ih =>
    rw [List.map_cons, List.flatten_cons, ih]
    rfl
abbrev alphabet : Str := "abcdefghijklmnopqrstuvwxyz"
theorem alpha_len : (sg alphabet).length = 26 := by decide +kernel
theorem alpha_let {i c : Nat} (h : (sg alphabet)[i]? = some c) : letB c = true := decide_eq_true (List.mem_of_getElem? h)
theorem alpha_nodup : (sg alphabet).Nodup := by decide +kernel
end Md

namespace Md
open PySem PySem.Spec PyProof.Rows L2
/-- right names -/
def NamesR (zs : List Str) (m : Nat) : Prop := zs.length = m ∧ zs.Nodup ∧ ∀ z ∈ zs, nameB z = true ∧ z.length ≤ 8
abbrev menuS : List Str := ["market", "none", "one", "same", "by", "ulm", "wien", "bonn", "a", "b", "turn", "first", "town", "day"]
theorem ones_sum : ∀ cs : List Nat, (List.map (fun x => x.length) (List.map one cs)).sum = cs.length
  | [] => rfl
  | c :: r => by
    have ih := ones_sum r
    rw [List.map_cons, List.map_cons, List.sum_cons, ih, List.length_cons]
    show 1 + r.length = r.length + 1
    omega
theorem nodup_by {α β : Type} (f : α → β) {xs : List α} (h : (xs.map f).Nodup) : xs.Nodup := by
  unfold List.Nodup at h ⊢
  rw [List.pairwise_map] at h
  exact h.imp fun ne e => ne (by rw [e])
theorem range_nodup {β : Type} (f : Nat → β) (n : Nat) (h : ∀ i j, i < n → j < n → f i = f j → i = j) : ((List.range n).map f).Nodup := by
  unfold List.Nodup
  rw [List.pairwise_map, List.pairwise_iff_getElem]
  intro i j hi hj hij e
  rw [List.length_range] at hi hj
  rw [List.getElem_range, List.getElem_range] at e
  have z := h i j hi hj e
  omega
/-- the menu in steps of three -/
abbrev menuAt (s i : Nat) : Str := menuS.getD ((s + 3 * i) % 14) Str.empty
theorem menu_all : ∀ s, s < 14 → (∀ i, i < 14 → ∀ j, j < 14 → menuAt s i = menuAt s j → i = j) ∧ ∀ i, i < 14 → nameB (menuAt s i) = true ∧ (menuAt s i).length ≤ 8 := by decide +kernel
theorem names_menu {s m : Nat} (hs : s < 14) (hm : m ≤ 14) : NamesR ((List.range m).map (menuAt s)) m := by
  obtain ⟨h1, h2⟩ := menu_all s hs
  refine ⟨by rw [List.length_map, List.length_range], range_nodup _ _ fun i j hi hj e => h1 i (by omega) j (by omega) e, fun z hz => ?_⟩
  obtain ⟨i, hi, e⟩ := List.mem_map.mp hz
  rw [List.mem_range] at hi
  rw [← e]
  exact h2 i (by omega)
theorem menu_get {s i : Nat} : (menuS.map V.str)[(s + 3 * i) % 14]? = some (V.str (menuAt s i)) := by
  have h : (s + 3 * i) % 14 < menuS.length := Nat.mod_lt _ (by decide)
  rw [List.getElem?_map, List.getElem?_eq_getElem h]
  show _ = some (V.str (menuS.getD _ _))
  rw [List.getD_eq_getElem?_getD, List.getElem?_eq_getElem h]
  rfl
theorem menu_let : ∀ z ∈ menuS, LetS z := by
  have h : ∀ z ∈ menuS, ∀ c ∈ z.cps.toList, letB c = true := by decide +kernel
  exact h
theorem cut_to_len {z : Str} {n : Nat} (h : n ≤ z.length) : (cutS z none (some (n : Int))).length = n := by
  rw [← sg_len, sg_cut_to z n h, List.length_take, sg_len]
  omega
theorem cut_to_le (z : Str) (n : Nat) : (cutS z none (some (n : Int))).length ≤ n := by
  show ((z.cps.toList.drop (HT.sIx z.length 0 none)).take (HT.sIx z.length z.length (some (n : Int)) - HT.sIx z.length 0 none)).toArray.size ≤ n
  rw [HT.sIx_none, HT.sIx_nat]
  simp
  omega
/-- beginnings of one text -/
theorem names_stem {stem : Str} (h : LetS stem) (l8 : stem.length = 8) {s m : Nat} (hm : s + m ≤ 8) : NamesR ((List.range m).map fun i : Nat => cutS stem none (some ((s : Int) + (i : Nat) + 1))) m := by
  have e : ∀ i : Nat, ((s : Int) + i + 1) = ((s + i + 1 : Nat) : Int) := fun i => by omega
  refine ⟨by rw [List.length_map, List.length_range], nodup_by (fun z : Str => z.length) ?_, fun z hz => ?_⟩
  · rw [List.map_map]
    refine range_nodup _ _ fun i j hi hj q => ?_
    dsimp only [Function.comp] at q
    rw [e, e, cut_to_len (by omega), cut_to_len (by omega)] at q
    omega
  · obtain ⟨i, hi, q⟩ := List.mem_map.mp hz
    rw [List.mem_range] at hi
    subst q
    have l := @cut_to_len stem (s + i + 1) (by omega)
    rw [← e] at l
    exact ⟨(h.cut _ _).name (by omega) (by omega), by omega⟩
/-- the sign of the alphabet -/
abbrev alphaAt (i : Nat) : Nat := (sg alphabet).getD (i % 26) 0
theorem alphaAt_get (i : Nat) : (sg alphabet)[i % 26]? = some (alphaAt i) := by
  have h : i % 26 < (sg alphabet).length := by rw [alpha_len]; exact Nat.mod_lt _ (by decide)
  show _ = some ((sg alphabet).getD (i % 26) 0)
  rw [List.getD_eq_getElem?_getD, List.getElem?_eq_getElem h]
  rfl
theorem alphaAt_inj {i j : Nat} (h : alphaAt i = alphaAt j) : i % 26 = j % 26 := by
  have a := alphaAt_get i
  have b := alphaAt_get j
  rw [h] at a
  exact (List.getElem?_inj (by rw [alpha_len]; exact Nat.mod_lt _ (by decide)) alpha_nodup).mp (a.trans b.symm)
theorem LetS.one {i : Nat} : LetS (one (alphaAt i)) := fun c hc => by
  have e : c = alphaAt i := List.mem_singleton.mp hc
  rw [e]
  exact alpha_let (alphaAt_get i)
/-- one text, another letter in one place each time -/
abbrev spotted (tail : Str) (spot : Nat) (i : Nat) : Str := cutS tail none (some (spot : Int)) ++ one (alphaAt i) ++ cutS tail (some (spot : Int)) none
theorem spotted_sg {tail : Str} {spot i : Nat} (h : spot ≤ tail.length) : sg (spotted tail spot i) = (sg tail).take spot ++ [alphaAt i] ++ (sg tail).drop spot := by
  show sg (cutS tail none (some (spot : Int)) ++ one (alphaAt i) ++ cutS tail (some (spot : Int)) none) = _
  rw [sg_app, sg_app, sg_cut_to _ _ h, sg_cut_from _ _ h]
theorem names_spot {tail : Str} (ht : LetS tail) (l : tail.length ≤ 7) {spot s m : Nat} (h : spot ≤ tail.length) (hm : m ≤ 26) : NamesR ((List.range m).map fun i => spotted tail spot (s + i)) m := by
  refine ⟨by rw [List.length_map, List.length_range], nodup_by (fun z : Str => (sg z)[spot]?) ?_, fun z hz => ?_⟩
  · rw [List.map_map]
    refine range_nodup _ _ fun i j hi hj q => ?_
    dsimp only [Function.comp] at q
    rw [spotted_sg h, spotted_sg h] at q
    have lt : ((sg tail).take spot).length = spot := by rw [List.length_take, sg_len]; omega
    have g : ∀ c : Nat, ((sg tail).take spot ++ [c] ++ (sg tail).drop spot)[spot]? = some c := by
      intro c
      rw [List.append_assoc, List.getElem?_append_right (by omega), lt, Nat.sub_self]
      rfl
    rw [g, g] at q
    have z := alphaAt_inj (Option.some.inj q)
    omega
  · obtain ⟨i, hi, q⟩ := List.mem_map.mp hz
    subst q
    have e : (spotted tail spot (s + i)).length = tail.length + 1 := by
      rw [← sg_len, spotted_sg h, List.length_append, List.length_append, List.length_take, List.length_drop, sg_len]
      simp
      omega
    have ls : LetS (spotted tail spot (s + i)) := ((ht.cut _ _).app .one).app (ht.cut _ _)
    exact ⟨ls.name (by omega) (by omega), by show (spotted tail spot (s + i)).length ≤ 8; omega⟩
theorem names_met {zs : List Str} {m : Nat} (good : ∀ z ∈ zs, LetS z ∧ 1 ≤ z.length ∧ z.length ≤ 8) (le : zs.length ≤ m) (e : unlike zs zs.length = m) : NamesR zs m := by
  have l := unlike_le zs zs.length
  have nd := unlike_full zs zs.length (Nat.le_refl _) (by omega)
  rw [List.take_length] at nd
  exact ⟨by omega, nd, fun z hz => ⟨(good z hz).1.name (good z hz).2.1 (good z hz).2.2, (good z hz).2.2⟩⟩
end Md

namespace Md
open PySem PySem.Spec PyProof.Rows L2
abbrev sWords : Stmt := top 21
section
variable {P : Program} {w : World} {K : PySem.W.Frag} {mg : Str → Option Value} {base : Heap}
/-- what callers need of the draws' def -/
structure CoinAt (P : Program) (w : World) (K : PySem.W.Frag) (mg : Str → Option Value) (base : Heap) (f : Addr) (fd : FuncData) : Prop where
  ok : ∀ k, FnOk P w K mg base CX0 (k + 1) f fd ["purse", "many"] spCoin
  mg : mg "_law_coin" = some (.ref f)
  kp : PySem.W.keepIn K (.ref f) = true
  b : Binds K fd ["purse", "many"] []
def spWords : Sp := fun vs H Q _ => ∃ (p : Addr) (c m : Nat), vs = [.ref p, .int m] ∧ PurseAt H p c ∧ c ≤ 900000 ∧ m ≤ 20 ∧
  ∀ (zs : List Str) q H', NamesR zs m → H q = none → H' q = some (.lst (zs.map V.str)) → PurseAt H' p (c + 400) → Keep p H H' → Q (.ref q) H'
abbrev nWords : List Str := ["purse", "many", "letters", "sort_here", "menu", "stem", "start", "found", "size", "base", "word", "tail", "spot_here", "letter_here", "rank", "turn"]
theorem scWords : FnScope nWords ["purse", "many"] (defScope sWords) := ⟨rfl, rfl, rfl, by decide +kernel, rfl, by decide +kernel, by decide +kernel⟩
abbrev ws (p : Addr) (m : Nat) (d : Int) (N : Addr) (stem : Str) (v6 v7 v8 v9 v10 v11 v12 v13 v14 v15 : Option V) : L2.St :=
  [some (.ref p), some (.int m), some (.str alphabet), some (.int d), some (.ref N), some (.str stem), v6, v7, v8, v9, v10, v11, v12, v13, v14, v15]
theorem le1000 {n : Nat} (h : n ≤ 1000) : n ≤ sizeLine := Nat.le_trans h (by decide)
theorem Keep.fresh {p x : Addr} {H G : Hp} {c : Nat} (k : Keep p H G) (hp : PurseAt G p c) (n : G x = none) : H x = none := by
  cases e : H x with
  | none => rfl
  | some o =>
    exfalso
    by_cases hx : x = p
    · obtain ⟨p0, p1, p2, e1, _⟩ := hp
      rw [hx, e1] at n
      cases n
    · rw [k x o e hx] at n
      cases n
/-- what holds while words are drawn: the menu stands at N -/
structure Wd (H G : Hp) (p N : Addr) (n : Nat) : Prop where
  keep : Keep p H G
  purse : PurseAt G p n
  menu : G N = some (.lst (menuS.map V.str))
section
variable {H G G2 : Hp} {p N q : Addr} {n n2 : Nat} {o : HO}
theorem PurseAt.apart (hp : PurseAt G p n) {xs : List V} {q : Addr} (h : G q = some (.lst xs)) (ne : ∀ a b c : Int, xs ≠ [.int a, .int b, .int c]) : q ≠ p := by
  intro e
  obtain ⟨a, b, c, e1, _⟩ := hp
  rw [e, e1] at h
  exact ne a b c (HO.lst.inj (Option.some.inj h)).symm
theorem strs_ne (zs : List Str) : ∀ a b c : Int, zs.map V.str ≠ [.int a, .int b, .int c] := by
  intro a b c e
  cases zs with
  | nil => cases e
  | cons z r => cases e
theorem Wd.new (w : Wd H G p N n) (nq : G q = none) : Wd H (upd G q o) p N n := ⟨w.keep.new nq, w.purse.new nq, by rw [upd_ne (ne_of_none w.menu nq)]; exact w.menu⟩
theorem Wd.ne (w : Wd H G p N n) {zs : List Str} (h : G q = some (.lst (zs.map V.str))) : q ≠ p := w.purse.apart h (strs_ne zs)
theorem Wd.step (w : Wd H G p N n) (hp : PurseAt G2 p n2) (k : Keep p G G2) : Wd H G2 p N n2 := ⟨w.keep.trans k, hp, k _ _ w.menu (w.ne w.menu)⟩
theorem Wd.more (w : Wd H G p N n) (e : n ≤ n2) : Wd H G p N n2 := ⟨w.keep, w.purse.more e, w.menu⟩
/-- an address that is not the menu's and not the purse's -/
theorem Wd.other (w : Wd H G p N n) (nq : G q = none) : q ≠ N ∧ q ≠ p := by
  refine ⟨fun e => ?_, fun e => ?_⟩
  · rw [e, w.menu] at nq
    cases nq
  · obtain ⟨a, b, c, e1, _⟩ := w.purse
    rw [e, e1] at nq
    cases nq
theorem Wd.put (w : Wd H G p N n) (f : H q = none) (ne : q ≠ N ∧ q ≠ p) : Wd H (upd G q o) p N n := by
  refine ⟨fun b u h nb => ?_, ?_, ?_⟩
  · rw [upd_ne (ne_of_none h f)]
    exact w.keep b u h nb
  · obtain ⟨a, b, c, e1, r⟩ := w.purse
    exact ⟨a, b, c, by rw [upd_ne (fun e => ne.2 e.symm)]; exact e1, r⟩
  · rw [upd_ne (fun e => ne.1 e.symm)]
    exact w.menu
end
theorem ok_words {f fC : Addr} {fd fdC : FuncData} {k : Nat} (F : Fun K "_law_words" "_law_words" sWords f fd) (C : CoinAt P w K mg base fC fdC) (B : Blt mg) : FnOk P w K mg base CX0 (k + 2) f fd ["purse", "many"] spWords := by
  have GC := C.ok k
  refine F.ok scWords (fun vs H Q E h => ?_) (fun cdv A outer s H vs Q E hr h => ?_)
  · obtain ⟨p, c, m, rfl, _⟩ := h
    rfl
  · obtain ⟨p, c, m, rfl, hp, hc, hm, q⟩ := h
    have nd := scWords.nd
    refine ⟨_, pss_cons (ps_asg (pe_tup (pa_cons pe_str (pa_cons (pe_call GC hr (by rfl) C.mg C.kp C.b .nil pass0 (pa_cons (pv 0) (pa_cons pe_int pa_nil))) pa_nil))) (pg_tup (by rfl) (pgs_cons (pg_name (i := 2) nd rfl (.inr rfl)) (pgs_cons (pg_name (i := 3) nd rfl (.inl rfl)) pgs_nil))))
      (pss_cons (ps_set (i := 4) nd rfl (.inr rfl) (pe_lst (pa_cons pe_str (pa_cons pe_str (pa_cons pe_str (pa_cons pe_str (pa_cons pe_str (pa_cons pe_str (pa_cons pe_str pa_nil)))))))))
      (pss_cons (ps_set (i := 4) nd rfl (.inr rfl) (pe_op op_cat (pv 4) (pe_lst (pa_cons pe_str (pa_cons pe_str (pa_cons pe_str (pa_cons pe_str (pa_cons pe_str (pa_cons pe_str (pa_cons pe_str pa_nil))))))))))
      (pss_cons (ps_set (i := 5) nd rfl (.inr rfl) (pe_join pe_str (pe_lc (own := [("turn", 15)]) (g := gName 15) (tt := tYes) rfl nd (pi_range1 rfl B.range (pa_cons pe_int pa_nil)) (blkOk_by (N := nWords) (sc := defScope sWords) (by decide +kernel))
        (fun _ _ _ _ _ => pg_name (i := 15) nd rfl (.inl rfl)) (fun _ _ _ _ _ => pts_nil) (fun _ _ _ _ _ => pe_ix (r := rIxS) ix_str (pv 2) (pe_call GC hr (by rfl) C.mg C.kp C.b .nil pass0 (pa_cons (pv 0) (pa_cons pe_int pa_nil))) (fun _ _ => rfl)))))
      (C8.pss_cut (ps_if (PW.pt (pw_and (pt_cmpR op_eq (pv 3) pe_int (nomark _)) (pw_and1 (pt_cmpR op_lt (pv 1) pe_int (nomark _)))))
        (pss_cons (ps_set (i := 6) nd rfl (.inr rfl) (pe_call GC hr (by rfl) C.mg C.kp C.b .nil pass0 (pa_cons (pv 0) (pa_cons pe_int pa_nil))))
        (pss_one (ps_ret (pe_lc (own := [("rank", 14)]) (g := gName 14) (tt := tYes) rfl nd (pi_range1 rfl B.range (pa_cons (pv 1) pa_nil)) (blkOk_by (N := nWords) (sc := defScope sWords) (by decide +kernel))
          (fun _ _ _ _ _ => pg_name (i := 14) nd rfl (.inl rfl)) (fun _ _ _ _ _ => pts_nil) (fun _ _ _ _ _ => pe_ix (r := rIxL K) ix_list (pv 4) (pe_op op_mod (pe_callTy call_int1 (by rfl) B.int (by decide +kernel) (pa_cons (pe_op op_add (pv 6) (pe_op op_mul pe_int (pv 14))) pa_nil)) pe_int) (fun _ _ => rfl)))))) pss_nil)
      (C8.pss_cut (ps_if (PW.pt (pw_and (pt_cmpR op_eq (pv 3) pe_int (nomark _)) (pw_and1 (pt_cmpR op_lt (pv 1) pe_int (nomark _)))))
        (pss_cons (ps_set (i := 6) nd rfl (.inr rfl) (pe_call GC hr (by rfl) C.mg C.kp C.b .nil pass0 (pa_cons (pv 0) (pa_cons (pe_op op_sub pe_int (pv 1)) pa_nil))))
        (pss_one (ps_ret (pe_lc (own := [("rank", 14)]) (g := gName 14) (tt := tYes) rfl nd (pi_range1 rfl B.range (pa_cons (pv 1) pa_nil)) (blkOk_by (N := nWords) (sc := defScope sWords) (by decide +kernel))
          (fun _ _ _ _ _ => pg_name (i := 14) nd rfl (.inl rfl)) (fun _ _ _ _ _ => pts_nil) (fun _ _ _ _ _ => pe_slice (r := rSlS) sl_str (pv 5) po_none (po_some (pe_op op_add (pe_op op_add (pv 6) (pv 14)) pe_int))))))) pss_nil)
      (pss_cons (ps_set (i := 7) nd rfl (.inl rfl) (pe_lst pa_nil))
      (C8.pss_cut (ps_if (pt_cmpR op_eq (pv 3) pe_int (nomark _))
        (pss_one (ps_for PassesOwn.never rfl (pi_range1 rfl B.range (pa_cons (pv 1) pa_nil)) (pg_name (i := 14) nd rfl (.inl rfl))
          (pss_cons (ps_set (i := 8) nd rfl (.inl rfl) (pe_op op_add pe_int (pe_call GC hr (by rfl) C.mg C.kp C.b .nil pass0 (pa_cons (pv 0) (pa_cons pe_int pa_nil)))))
          (pss_one (ps_expr (pe_bm PySem.F.plainAttrs_list PySem.F.slot_list_append PySem.F.type_list_append mt_append (pv 7) (pa_cons (pe_join pe_str (pe_lc (own := [("turn", 15)]) (g := gName 15) (tt := tYes) rfl nd (pi_range1 rfl B.range (pa_cons (pv 8) pa_nil)) (blkOk_by (N := nWords) (sc := defScope sWords) (by decide +kernel))
            (fun _ _ _ _ _ => pg_name (i := 15) nd rfl (.inl rfl)) (fun _ _ _ _ _ => pts_nil) (fun _ _ _ _ _ => pe_ix (r := rIxS) ix_str (pv 2) (pe_call GC hr (by rfl) C.mg C.kp C.b .nil pass0 (pa_cons (pv 0) (pa_cons pe_int pa_nil))) (fun _ _ => rfl)))) pa_nil))))))) pss_nil)
      (C8.pss_cut (ps_if (pt_cmpR op_eq (pv 3) pe_int (nomark _))
        (pss_cons (ps_set (i := 9) nd rfl (.inl rfl) (pe_slice sl_str (pv 5) po_none (po_some (pe_op op_add pe_int (pe_call GC hr (by rfl) C.mg C.kp C.b .nil pass0 (pa_cons (pv 0) (pa_cons pe_int pa_nil)))))))
        (pss_cons (ps_set (i := 7) nd rfl (.inl rfl) (pe_lst (pa_cons (pv 9) pa_nil)))
        (pss_cons (ps_for PassesOwn.never rfl (pi_list (pv 4)) (pg_name (i := 10) nd rfl (.inl rfl))
          (pss_one (ps_expr (pe_bm PySem.F.plainAttrs_list PySem.F.slot_list_append PySem.F.type_list_append mt_append (pv 7) (pa_cons (pe_ix ix_list (pe_lst (pa_cons (pe_op op_add_str (pe_slice sl_str (pv 10) po_none (po_some pe_int)) (pv 9)) (pa_cons (pe_op op_add_str (pv 9) (pe_slice sl_str (pv 10) po_none (po_some pe_int))) pa_nil)))
            (pe_call GC hr (by rfl) C.mg C.kp C.b .nil pass0 (pa_cons (pv 0) (pa_cons pe_int pa_nil))) (fun _ _ => rfl)) pa_nil)))))
        (pss_one (ps_set (i := 7) nd rfl (.inl rfl) (pe_slice sl_list (pv 7) po_none (po_some (pv 1)))))))) pss_nil)
      (pss_cons (ps_if (pt_cmpR op_eq (pe_lenTexts (by rfl) B.len (by rfl) B.set (pv 7)) (pv 1) (nomark _)) (pss_one (ps_ret (pv 7))) pss_nil)
      (pss_cons (ps_asg (pe_tup (pa_cons (pe_call GC hr (by rfl) C.mg C.kp C.b .nil pass0 (pa_cons (pv 0) (pa_cons pe_int pa_nil))) (pa_cons (pe_slice sl_str (pv 5) po_none (po_some (pe_call GC hr (by rfl) C.mg C.kp C.b .nil pass0 (pa_cons (pv 0) (pa_cons pe_int pa_nil))))) pa_nil)))
        (pg_tup (by rfl) (pgs_cons (pg_name (i := 6) nd rfl (.inr rfl)) (pgs_cons (pg_name (i := 11) nd rfl (.inl rfl)) pgs_nil))))
      (pss_cons (ps_par (i := 12) (j := 7) rfl nd rfl rfl (by decide) rfl rfl (pa_cons (pe_call GC hr (by rfl) C.mg C.kp C.b .nil pass0 (pa_cons (pv 0) (pa_cons (pe_op op_add (pe_callB call_len_str (by rfl) B.len PySem.boot_len (pa_cons (pv 11) pa_nil)) pe_int) pa_nil))) (pa_cons (pe_lst pa_nil) pa_nil)) (by rfl))
      (pss_cons (ps_for PassesOwn.never rfl (pi_range1 rfl B.range (pa_cons (pv 1) pa_nil)) (pg_name (i := 14) nd rfl (.inl rfl))
        (pss_cons (ps_set (i := 13) nd rfl (.inl rfl) (pe_ix ix_str (pv 2) (pe_op op_mod (pe_callTy call_int1 (by rfl) B.int (by decide +kernel) (pa_cons (pe_op op_add (pv 6) (pv 14)) pa_nil)) pe_int) (fun _ _ => rfl)))
        (pss_one (ps_expr (pe_bm PySem.F.plainAttrs_list PySem.F.slot_list_append PySem.F.type_list_append mt_append (pv 7) (pa_cons (pe_op op_add_str (pe_op op_add_str (pe_slice sl_str (pv 11) po_none (po_some (pv 12))) (pv 13)) (pe_slice sl_str (pv 11) (po_some (pv 12)) po_none)) pa_nil))))))
      (pss_one (ps_ret (pv 7))))))))))))))), ?_⟩
    -- letters, sort_here
    refine ⟨_, rfl, p, c, 5, rfl, hp, by omega, by decide, by decide, fun d H1 d0 d1 hp1 k1 => ⟨by show 2 ≤ sizeLine; decide, fun T nT => ?_⟩⟩
    refine ⟨T, _, rfl, .inl (.inl upd_same), rfl, _, _, rfl, _, _, rfl, rfl, ?_⟩
    -- menu
    refine ⟨by show 7 ≤ sizeLine; decide, fun M nM => ?_⟩
    refine ⟨_, rfl, by show 7 ≤ sizeLine; decide, fun M2 nM2 => ?_⟩
    refine ⟨M, M2, _, _, rfl, rfl, (by rw [upd_ne (fun e => by rw [e, upd_same] at nM2; cases nM2), upd_same]), upd_same, by show 14 ≤ sizeLine; decide, fun N nN => ?_⟩
    -- stem
    refine ⟨⟨_, rfl⟩, 8, rfl, by decide, by decide, fun D nD => ?_⟩
    have w0 : Wd H _ p N (c + 1) := ⟨(((k1.new nT).new nM).new nM2).new nN, (((hp1.new nT).new nM).new nM2).new nN, upd_same⟩
    have fD := w0.keep.fresh w0.purse nD
    refine lc_range (lo := 0) (n := 8) (fun i G => ∃ cs : List Nat, cs.length = i ∧ (∀ x ∈ cs, letB x = true) ∧ G D = some (.lst ((cs.map one).map V.str)) ∧ Wd H G p N (c + 1 + i))
      ⟨[], rfl, (fun x hx => by cases hx), upd_same, w0.new nD⟩ ?_ ?_
    · rintro i G hi ⟨cs, lcs, acs, hD, wd⟩
      refine ⟨rfl, _, rfl, _, rfl, p, c + 1 + i, 26, rfl, wd.purse, by omega, by decide, by decide, fun x G2 x0 x1 hp2 k2 => ?_⟩
      have w2 := wd.step hp2 k2
      have hx : x.toNat < (sg alphabet).length := by rw [alpha_len]; omega
      have ex : x = ((x.toNat : Nat) : Int) := by omega
      obtain ⟨n, rfl⟩ : ∃ n : Nat, x = n := ⟨x.toNat, by omega⟩
      have hn : (n : Nat) % 26 = n := Nat.mod_eq_of_lt (by omega)
      have gn := alphaAt_get n
      rw [hn] at gn
      refine ⟨alphabet, n, alphaAt n, rfl, rfl, by decide, atI_nat gn, _, k2 _ _ hD (wd.ne hD), ?_, cs ++ [alphaAt n], ?_, ?_, ?_, ?_⟩
      · rw [List.length_map, List.length_map]
        exact small1000 (by omega)
      · rw [List.length_append, lcs]
        rfl
      · intro y hy
        rcases List.mem_append.mp hy with z | z
        · exact acs y z
        · rw [List.mem_singleton.mp z]
          exact alpha_let gn
      · rw [upd_same, List.map_append, List.map_append]
        rfl
      · exact (w2.put fD (w0.other nD)).more (by omega)
    · rintro G ⟨cs, lcs, acs, hD, wd⟩
      have ls : ∃ z : Str, Txt.join (Str.ofString "") (cs.map one) = z ∧ LetS z ∧ z.length = 8 := by
        refine ⟨_, rfl, ?_⟩
        rw [TL.join_eq]
        refine ⟨fun x hx => ?_, ?_⟩
        · have z : sg (Str.join Str.empty (cs.map one)) = cs := join_ones cs
          have z2 : x ∈ sg (Str.join Str.empty (cs.map one)) := hx
          rw [z] at z2
          exact acs x z2
        · show (Str.join Str.empty (cs.map one)).length = 8
          rw [← sg_len, join_ones, lcs]
      refine ⟨_, D, cs.map one, rfl, rfl, .inl (.inl (.inl hD)), ?_, ?_⟩
      · rw [ones_sum, lcs, List.length_map, lcs]
        decide
      obtain ⟨stem, est, hl, h8⟩ := ls
      rw [est]
      obtain ⟨d, rfl⟩ : ∃ n : Nat, d = n := ⟨d.toNat, by omega⟩
      have s8 : stem.length ≤ sizeLine := Nat.le_trans (show stem.length ≤ 1000 by omega) (by decide)
      -- a menu
      refine ⟨fun sl H' => sl = ws p m d N stem none none none none none none none none none none ∧ H' = G, ?_, ?_⟩
      · refine ⟨_, rfl, rfl, _, rfl, ite2 (fun e => ?_) (fun e => iteF ⟨rfl, rfl⟩)⟩
        refine ⟨_, rfl, _, _, rfl, rfl, _, rfl, ite2 (fun e2 => ?_) (fun e2 => ⟨rfl, rfl⟩)⟩
        have m15 : (m : Int) < 15 := of_decide_eq_true e2
        refine ⟨_, rfl, p, c + 1 + 8, 14, rfl, wd.purse, by omega, by decide, by decide, fun s G2 s0 s1 hp2 k2 => ?_⟩
        have w2 := wd.step hp2 k2
        obtain ⟨s, rfl⟩ : ∃ n : Nat, s = n := ⟨s.toNat, by omega⟩
        refine ⟨_, rfl, (m : Int), rfl, by omega, by omega, fun D2 nD2 => ?_⟩
        refine lcp_range (lo := 0) (n := m) (ys := ((List.range m).map (menuAt s)).map V.str) (by rw [List.length_map, List.length_map, List.length_range]) (small1000 (by omega)) (fun i y R hi hy r => ?_) ?_
        · have ey : y = V.str (menuAt s i) := by
            rw [List.getElem?_map, List.getElem?_map, List.getElem?_range hi] at hy
            exact (Option.some.inj hy).symm
          subst ey
          refine ⟨rfl, _, rfl, _, rfl, _, rfl, _, _, rfl, rfl, .inl ⟨by decide, by decide⟩, _, _, rfl, rfl, .inl ⟨_, rfl, _, _, rfl, rfl, (by show (0 : Int) < 14; decide), N, menuS.map V.str, _, _, rfl, rfl, .inl (.inl ?_), ?_, r⟩⟩
          · unfold grown
            rw [upd_ne (ne_of_none w2.menu nD2)]
            exact w2.menu
          · have e3 : ((s : Int) + 3 * (0 + (i : Int))) % 14 = (((s + 3 * i) % 14 : Nat) : Int) := by omega
            rw [e3]
            exact atI_nat menu_get
        · exact q _ D2 _ (names_menu (by omega) (by omega)) (w2.keep.fresh w2.purse nD2) upd_same ((w2.new nD2).more (by omega)).purse (w2.new nD2).keep
      rintro sl H' ⟨rfl, rfl⟩
      -- beginnings of the stem
      refine ⟨fun sl H2 => sl = ws p m d N stem none none none none none none none none none none ∧ H2 = H', ?_, ?_⟩
      · refine ⟨_, rfl, rfl, _, rfl, ite2 (fun e => ?_) (fun e => iteF ⟨rfl, rfl⟩)⟩
        refine ⟨_, rfl, _, _, rfl, rfl, _, rfl, ite2 (fun e2 => ?_) (fun e2 => ⟨rfl, rfl⟩)⟩
        have m9 : (m : Int) < 9 := of_decide_eq_true e2
        refine ⟨_, rfl, _, rfl, _, _, rfl, rfl, p, c + 1 + 8, 9 - m, rfl, wd.purse, by omega, by omega, by omega, fun s G2 s0 s1 hp2 k2 => ?_⟩
        have w2 := wd.step hp2 k2
        obtain ⟨s, rfl⟩ : ∃ n : Nat, s = n := ⟨s.toNat, by omega⟩
        refine ⟨_, rfl, (m : Int), rfl, by omega, by omega, fun D2 nD2 => ?_⟩
        refine lcp_range (lo := 0) (n := m) (ys := ((List.range m).map fun i : Nat => cutS stem none (some ((s : Int) + (i : Nat) + 1))).map V.str) (by rw [List.length_map, List.length_map, List.length_range]) (small1000 (by omega)) (fun i y R hi hy r => ?_) ?_
        · have ey : y = V.str (cutS stem none (some ((s : Int) + (0 + (i : Int)) + 1))) := by
            rw [List.getElem?_map, List.getElem?_map, List.getElem?_range hi] at hy
            rw [Int.zero_add]
            exact (Option.some.inj hy).symm
          subst ey
          exact ⟨rfl, _, rfl, _, rfl, _, rfl, _, _, rfl, rfl, _, _, rfl, rfl, _, rfl, stem, rfl, s8, r⟩
        · exact q _ D2 _ (names_stem hl h8 (by omega)) (w2.keep.fresh w2.purse nD2) upd_same ((w2.new nD2).more (by omega)).purse (w2.new nD2).keep
      rintro sl G ⟨rfl, rfl⟩
      refine ⟨Nat.zero_le _, fun F0 nF0 => ?_⟩
      have gd0 : ∀ z ∈ ([] : List Str), LetS z ∧ 1 ≤ z.length ∧ z.length ≤ 8 := fun z hz => by cases hz
      -- letters drawn freely
      refine ⟨fun sl G2 => ∃ (F : Addr) (zs : List Str) (v8 v14 : Option V), sl = ws p m d N stem none (some (.ref F)) v8 none none none none none v14 none ∧ H F = none ∧ (F ≠ N ∧ F ≠ p) ∧
        G2 F = some (.lst (zs.map V.str)) ∧ (∀ z ∈ zs, LetS z ∧ 1 ≤ z.length ∧ z.length ≤ 8) ∧ zs.length ≤ m ∧ Wd H G2 p N (c + 9 + 9 * m), ?_, ?_⟩
      · have wF := wd.new nF0 (o := .lst [])
        have fF := wd.keep.fresh wd.purse nF0
        refine ⟨_, rfl, rfl, _, rfl, ite2 (fun e => ?_) (fun e => ⟨F0, [], none, none, rfl, fF, wd.other nF0, upd_same, gd0, Nat.zero_le _, wF.more (by omega)⟩)⟩
        refine ⟨_, rfl, (m : Int), rfl, by omega, by omega, ?_⟩
        refine for_range (lo := 0) (n := m) (fun i sl G2 => ∃ (zs : List Str) (v8 v14 : Option V), sl = ws p m d N stem none (some (.ref F0)) v8 none none none none none v14 none ∧
          G2 F0 = some (.lst (zs.map V.str)) ∧ (∀ z ∈ zs, LetS z ∧ 1 ≤ z.length ∧ z.length ≤ 8) ∧ zs.length = i ∧ Wd H G2 p N (c + 9 + 9 * i)) ⟨[], none, none, rfl, upd_same, gd0, rfl, wF.more (by omega)⟩ ?_ ?_
        · rintro i sl G2 hi ⟨zs, v8, v14, rfl, hF, gd, lz, w2⟩
          refine ⟨_, rfl, p, c + 9 + 9 * i, 8, rfl, w2.purse, by omega, by decide, by decide, fun x G3 x0 x1 hp3 k3 => ⟨_, _, rfl, rfl, ?_⟩⟩
          have w3 := w2.step hp3 k3
          have hF3 := k3 _ _ hF (w2.ne hF)
          obtain ⟨x, rfl⟩ : ∃ n : Nat, x = n := ⟨x.toNat, by omega⟩
          refine ⟨_, rfl, .inl ⟨rfl, _, .inl (.inl hF3)⟩, ⟨_, rfl⟩, _, rfl, 1 + (x : Int), rfl, by omega, by omega, fun D2 nD2 => ?_⟩
          have fD2 := w3.keep.fresh w3.purse nD2
          refine lc_range (lo := 0) (n := (1 + (x : Int)).toNat) (fun k G4 => ∃ cs : List Nat, cs.length = k ∧ (∀ x ∈ cs, letB x = true) ∧ G4 D2 = some (.lst ((cs.map one).map V.str)) ∧ G4 F0 = some (.lst (zs.map V.str)) ∧ Wd H G4 p N (c + 9 + 9 * i + 1 + k))
            ⟨[], rfl, (fun x hx => by cases hx), upd_same, by rw [upd_ne (ne_of_none hF3 nD2)]; exact hF3, w3.new nD2⟩ ?_ ?_
          · rintro k G4 hk ⟨cs, lcs, acs, hD2, hF4, w4⟩
            refine ⟨rfl, _, rfl, _, rfl, p, _, 26, rfl, w4.purse, by omega, by decide, by decide, fun y G5 y0 y1 hp5 k5 => ?_⟩
            have w5 := w4.step hp5 k5
            obtain ⟨n, rfl⟩ : ∃ n : Nat, y = n := ⟨y.toNat, by omega⟩
            have hn : (n : Nat) % 26 = n := Nat.mod_eq_of_lt (by omega)
            have gn := alphaAt_get n
            rw [hn] at gn
            refine ⟨alphabet, n, alphaAt n, rfl, rfl, by decide, atI_nat gn, _, k5 _ _ hD2 (w4.ne hD2), ?_, cs ++ [alphaAt n], ?_, ?_, ?_, ?_, ?_⟩
            · rw [List.length_map, List.length_map]
              exact small1000 (by omega)
            · rw [List.length_append, lcs]
              rfl
            · intro y hy
              rcases List.mem_append.mp hy with z | z
              · exact acs y z
              · rw [List.mem_singleton.mp z]
                exact alpha_let gn
            · rw [upd_same, List.map_append, List.map_append]
              rfl
            · rw [upd_ne (ne_of_none hF3 nD2)]
              exact k5 _ _ hF4 (w4.ne hF4)
            · exact (w5.put fD2 (w3.other nD2)).more (by omega)
          · rintro G4 ⟨cs, lcs, acs, hD2, hF4, w4⟩
            have ls2 : ∃ z : Str, Txt.join (Str.ofString "") (cs.map one) = z ∧ LetS z ∧ z.length = x + 1 := by
              refine ⟨_, rfl, ?_⟩
              rw [TL.join_eq]
              refine ⟨fun x hx => ?_, ?_⟩
              · have z : sg (Str.join Str.empty (cs.map one)) = cs := join_ones cs
                have z2 : x ∈ sg (Str.join Str.empty (cs.map one)) := hx
                rw [z] at z2
                exact acs x z2
              · show (Str.join Str.empty (cs.map one)).length = x + 1
                rw [← sg_len, join_ones, lcs]
                omega
            refine ⟨_, D2, cs.map one, rfl, rfl, .inl (.inl (.inl hD2)), ?_, ?_⟩
            · rw [ones_sum, lcs, List.length_map, lcs]
              show (1 + (x : Int)).toNat + (1 + (x : Int)).toNat * 0 ≤ 16777216
              omega
            obtain ⟨z, ez, lz2, l2⟩ := ls2
            rw [ez]
            refine ⟨F0, _, _, rfl, rfl, hF4, ?_, zs ++ [z], _, _, rfl, ?_, ?_, ?_, ?_⟩
            · rw [List.length_map]
              exact small1000 (by omega)
            · rw [upd_same, List.map_append]
              rfl
            · intro y hy
              rcases List.mem_append.mp hy with h | h
              · exact gd y h
              · rw [List.mem_singleton.mp h]
                exact ⟨lz2, by omega, by omega⟩
            · rw [List.length_append, lz]
              rfl
            · exact (w4.put fF (wd.other nF0)).more (by omega)
        · rintro sl G2 ⟨zs, v8, v14, rfl, hF, gd, lz, w2⟩
          exact ⟨F0, zs, v8, v14, rfl, fF, wd.other nF0, hF, gd, by omega, w2⟩
      rintro sl G2 ⟨F1, zs1, v8, v14, rfl, fF1, oF1, hF1, gd1, le1, w1⟩
      -- one word, and the same with others beside it
      refine ⟨fun sl G3 => ∃ (F : Addr) (zs : List Str) (v8 v9 v10 v14 : Option V), sl = ws p m d N stem none (some (.ref F)) v8 v9 v10 none none none v14 none ∧ H F = none ∧
        G3 F = some (.lst (zs.map V.str)) ∧ (∀ z ∈ zs, LetS z ∧ 1 ≤ z.length ∧ z.length ≤ 8) ∧ zs.length ≤ m ∧ Wd H G3 p N (c + 9 + 9 * m + 20), ?_, ?_⟩
      · refine ⟨_, rfl, rfl, _, rfl, ite2 (fun e => ?_) (fun e => ⟨F1, zs1, v8, none, none, v14, rfl, fF1, hF1, gd1, le1, w1.more (by omega)⟩)⟩
        refine ⟨_, rfl, _, rfl, p, _, 5, rfl, w1.purse, by omega, by decide, by decide, fun x G3 x0 x1 hp3 k3 => ⟨_, _, rfl, rfl, _, rfl, stem, rfl, s8, ?_⟩⟩
        have w3 := w1.step hp3 k3
        obtain ⟨x, rfl⟩ : ∃ n : Nat, x = n := ⟨x.toNat, by omega⟩
        have eb : (1 + (x : Int)) = ((x + 1 : Nat) : Int) := by omega
        have lb := @cut_to_len stem (x + 1) (by omega)
        rw [← eb] at lb
        have hb := hl.cut none (some (1 + (x : Int)))
        generalize cutS stem none (some (1 + (x : Int))) = base at lb hb
        refine ⟨_, rfl, by show 1 ≤ sizeLine; decide, fun F2 nF2 => ?_⟩
        have fF2 := w3.keep.fresh w3.purse nF2
        have oF2 := w3.other nF2
        have wF2 := w3.new nF2 (o := .lst [.str base])
        refine ⟨_, rfl, N, rfl, ⟨_, .inl (.inl wF2.menu)⟩, for_list (K := K) (a := N) (xs := menuS.map V.str) (fun i sl G4 => ∃ (zs : List Str) (v10 : Option V), sl = ws p m d N stem none (some (.ref F2)) v8 (some (.str base)) v10 none none none v14 none ∧
          G4 F2 = some (.lst (zs.map V.str)) ∧ (∀ z ∈ zs, LetS z ∧ 1 ≤ z.length ∧ z.length ≤ 8) ∧ zs.length = i + 1 ∧ Wd H G4 p N (c + 9 + 9 * m + 1 + i))
          ⟨[base], none, rfl, upd_same, (fun z hz => by rw [List.mem_singleton.mp hz]; exact ⟨hb, by omega, by omega⟩), rfl, wF2⟩ (fun i sl G4 _ ⟨_, _, _, _, _, _, w4⟩ => .inl (.inl w4.menu)) ?_ ?_⟩
        · rintro i xw sl G4 hx ⟨zs, v10, rfl, hF2, gd2, lz2, w4⟩
          have hi : i < 14 := by
            have z := (List.getElem?_eq_some_iff.mp hx).1
            exact z
          obtain ⟨word, hw, ew⟩ : ∃ word, word ∈ menuS ∧ xw = V.str word := by
            rw [List.getElem?_map] at hx
            cases e : menuS[i]? with
            | none => rw [e] at hx; cases hx
            | some z => rw [e] at hx; exact ⟨z, List.mem_of_getElem? e, (Option.some.inj hx).symm⟩
          subst ew
          have lw : word.length ≤ 6 := by
            have z : ∀ z ∈ menuS, z.length ≤ 6 := by decide +kernel
            exact z word hw
          have sw : word.length ≤ sizeLine := le1000 (by omega)
          have hw3 := (menu_let word hw).cut none (some (3 : Int))
          have lw3 : (cutS word none (some (3 : Int))).length ≤ 3 := cut_to_le word 3
          refine ⟨_, rfl, .inl ⟨rfl, _, .inl (.inl hF2)⟩, _, rfl, _, rfl, word, rfl, sw, _, rfl, _, _, rfl, rfl, le1000 (by omega), _, rfl, _, rfl, _, rfl, word, rfl, sw, _, _, rfl, rfl, le1000 (by omega), by show 2 ≤ sizeLine; decide, fun L nL => ?_⟩
          have w5 := w4.new nL (o := .lst [.str (cutS word none (some (3 : Int)) ++ base), .str (base ++ cutS word none (some (3 : Int)))])
          refine ⟨_, rfl, p, _, 2, rfl, w5.purse, by omega, by decide, by decide, fun y G5 y0 y1 hp5 k5 => ?_⟩
          have w6 := w5.step hp5 k5
          have hL : G5 L = some (.lst ([cutS word none (some (3 : Int)) ++ base, base ++ cutS word none (some (3 : Int))].map V.str)) := k5 _ _ upd_same (w5.ne (zs := [_, _]) upd_same)
          have hF5 : G5 F2 = some (.lst (zs.map V.str)) := by
            refine k5 _ _ ?_ oF2.2
            rw [upd_ne (ne_of_none hF2 nL)]
            exact hF2
          obtain ⟨z, hz, gz⟩ : ∃ z : Str, atI ([cutS word none (some (3 : Int)) ++ base, base ++ cutS word none (some (3 : Int))].map V.str) y = some (V.str z) ∧ LetS z ∧ 1 ≤ z.length ∧ z.length ≤ 8 := by
            have y01 : y = 0 ∨ y = 1 := by omega
            rcases y01 with rfl | rfl
            · exact ⟨_, atI_nat (j := 0) rfl, hw3.app hb, by rw [app_len]; omega, by rw [app_len]; omega⟩
            · exact ⟨_, atI_nat (j := 1) rfl, hb.app hw3, by rw [app_len]; omega, by rw [app_len]; omega⟩
          refine ⟨L, _, y, _, rfl, rfl, .inl (.inl hL), hz, F2, _, _, rfl, rfl, hF5, ?_, zs ++ [z], _, rfl, ?_, ?_, ?_, ?_⟩
          · rw [List.length_map]
            exact small1000 (by omega)
          · rw [upd_same, List.map_append]
            rfl
          · intro y hy
            rcases List.mem_append.mp hy with h | h
            · exact gd2 y h
            · rw [List.mem_singleton.mp h]
              exact gz
          · rw [List.length_append, lz2]
            rfl
          · exact (w6.put fF2 oF2).more (by omega)
        · rintro sl G4 ⟨zs, v10, rfl, hF2, gd2, lz2, w4⟩
          refine ⟨_, rfl, _, rfl, _, rfl, F2, _, rfl, .inl (.inl hF2), fun F3 nF3 => ?_⟩
          have ec : cutV (zs.map V.str) none (some (m : Int)) = (zs.take m).map V.str := by
            unfold cutV
            rw [HT.sIx_none, HT.sIx_nat, List.drop_zero, Nat.sub_zero, List.length_map, ← List.map_take]
            rcases Nat.le_total m zs.length with h | h
            · rw [Nat.min_eq_left h]
            · rw [Nat.min_eq_right h, List.take_of_length_le (Nat.le_refl _), List.take_of_length_le h]
          refine ⟨F3, zs.take m, v8, _, v10, v14, rfl, w4.keep.fresh w4.purse nF3, by rw [upd_same, ec], fun z hz => gd2 z (List.mem_of_mem_take hz), by rw [List.length_take]; omega, (w4.new nF3).more ?_⟩
          have e14 : (menuS.map V.str).length = 14 := rfl
          omega
      rintro sl G3 ⟨F, zs, u8, u9, u10, u14, rfl, fF, hF, gd, le, w3⟩
      -- unlike enough
      refine ⟨_, rfl, F, zs, rfl, .inl (.inl hF), by omega, _, rfl, rfl, _, rfl, ite2 (fun e => ?_) (fun e => ?_)⟩
      · have e2 : unlike zs zs.length = m := by
          have z := V.int.inj (of_decide_eq_true e)
          omega
        exact ⟨_, rfl, q zs F G3 (names_met gd le e2) fF hF (w3.more (by omega)).purse w3.keep⟩
      -- one letter each time
      refine ⟨_, rfl, p, _, 26, rfl, w3.purse, by omega, by decide, by decide, fun s G4 s0 s1 hp4 k4 => ?_⟩
      have w4 := w3.step hp4 k4
      refine ⟨_, rfl, _, rfl, p, _, 8, rfl, w4.purse, by omega, by decide, by decide, fun t G5 t0 t1 hp5 k5 => ?_⟩
      have w5 := w4.step hp5 k5
      obtain ⟨s, rfl⟩ : ∃ n : Nat, s = n := ⟨s.toNat, by omega⟩
      obtain ⟨t, rfl⟩ : ∃ n : Nat, t = n := ⟨t.toNat, by omega⟩
      refine ⟨_, rfl, stem, rfl, s8, by show 2 ≤ sizeLine; decide, fun T2 nT2 => ?_⟩
      have ht := hl.cut none (some (t : Int))
      have lt := cut_to_le stem t
      generalize cutS stem none (some (t : Int)) = tail at ht lt
      have s7 : tail.length ≤ sizeLine := le1000 (by omega)
      have w6 := w5.new nT2 (o := .tup [.int s, .str tail])
      refine ⟨T2, _, rfl, .inl (.inl upd_same), rfl, _, _, rfl, _, _, rfl, rfl, ?_⟩
      refine ⟨_, rfl, _, rfl, tail, rfl, s7, _, _, rfl, rfl, p, _, _, rfl, w6.purse, by omega, by omega, by omega, fun spot G7 p0 p1 hp7 k7 => ⟨Nat.zero_le _, fun F4 nF4 => ⟨_, _, rfl, ?_⟩⟩⟩
      have w7 := w6.step hp7 k7
      have fF4 := w7.keep.fresh w7.purse nF4
      have oF4 := w7.other nF4
      obtain ⟨spot, rfl⟩ : ∃ n : Nat, spot = n := ⟨spot.toNat, by omega⟩
      refine ⟨_, rfl, (m : Int), rfl, by omega, by omega, ?_⟩
      refine for_range (lo := 0) (n := m) (fun i sl G8 => ∃ v13 v14 : Option V, sl = ws p m d N stem (some (.int s)) (some (.ref F4)) u8 u9 u10 (some (.str tail)) (some (.int spot)) v13 v14 none ∧
        G8 F4 = some (.lst (((List.range i).map fun i => spotted tail spot (s + i)).map V.str)) ∧ Wd H G8 p N (c + 9 + 9 * m + 20 + 1 + 1 + 1)) ⟨none, _, rfl, upd_same, w7.new nF4⟩ ?_ ?_
      · rintro i sl G8 hi ⟨v13, v14, rfl, hF8, w8⟩
        refine ⟨_, rfl, _, rfl, _, rfl, _, _, rfl, rfl, .inl ⟨_, rfl, _, _, rfl, rfl, (by show (0 : Int) < 26; decide), alphabet, _, alphaAt (s + i), rfl, rfl, by decide, ?_, ?_⟩⟩
        · have e3 : ((s : Int) + (0 + (i : Int))) % 26 = (((s + i) % 26 : Nat) : Int) := by omega
          rw [e3]
          exact atI_nat (alphaAt_get (s + i))
        · refine ⟨_, rfl, .inl ⟨rfl, _, .inl (.inl hF8)⟩, _, rfl, _, rfl, _, rfl, tail, rfl, s7, _, rfl, _, _, rfl, rfl, ?_, _, rfl, _, rfl, _, rfl, tail, rfl, s7, _, _, rfl, rfl, ?_, F4, _, _, rfl, rfl, hF8, ?_, _, _, rfl, ?_, w8.put fF4 oF4⟩
          · have a1 := cut_to_le tail spot
            exact le1000 (show (cutS tail none (some (spot : Int))).length + 1 ≤ 1000 by omega)
          · have a1 := cut_to_le tail spot
            have a3 : (cutS tail (some (spot : Int)) none).length ≤ tail.length := by
              rw [← sg_len, sg_cut_from _ _ (by omega), List.length_drop, sg_len]
              omega
            exact le1000 (by rw [app_len]; show (cutS tail none (some (spot : Int))).length + 1 + _ ≤ 1000; omega)
          · rw [List.length_map, List.length_map, List.length_range]
            exact small1000 (by omega)
          · rw [upd_same, List.range_succ, List.map_append, List.map_append]
            rfl
      · rintro sl G8 ⟨v13, v14, rfl, hF8, w8⟩
        exact ⟨_, rfl, q _ F4 G8 (names_spot ht (by omega) (by omega) (by omega)) fF4 hF8 (w8.more (by omega)).purse w8.keep⟩
end
end Md

namespace Md
open PySem PySem.Spec PyProof.Rows L2
abbrev sMoment : Stmt := top 22
abbrev sPlaces : Stmt := top 23
abbrev sPicks : Stmt := top 24
/-- a town's row, of drawn size -/
def TownB (r : List V) : Prop := ∃ (z : Str) (lo hi : Int), r = [.str z, .int lo, .int hi] ∧ nameB z = true ∧ z.length ≤ 8 ∧ 1 ≤ lo ∧ lo ≤ hi ∧ hi ≤ 10 ^ 6
theorem TownB.r {r : List V} (h : TownB r) : TownR r := by
  obtain ⟨z, lo, hi, a, b, c, d, e, f⟩ := h
  exact ⟨z, lo, hi, a, b, c, d, e⟩
def TownsB (rs : List (List V)) (m : Nat) : Prop := rs.length = m ∧ (rs.map nameOf).Nodup ∧ ∀ r ∈ rs, TownB r
/-- a choice -/
def PickR (r : List V) : Prop := ∃ t x : Int, r = [.int t, .int x] ∧ 1 ≤ t
theorem paired_snoc {α β : Type} {F : α → β → Prop} : ∀ {l : List α} {m : List β} {a : α} {b : β}, Paired F l m → F a b → Paired F (l ++ [a]) (m ++ [b])
  | _, _, _, _, .nil, h => .cons h .nil
  | _, _, _, _, .cons h t, g => .cons h (paired_snoc t g)
/-- a list of rows grows at F -/
structure Work (H G : Hp) (p F : Addr) (n : Nat) (rs : List (List V)) : Prop where
  keep : Keep p H G
  purse : PurseAt G p n
  rows : Rows G F rs
  fresh : H F = none
  ne : F ≠ p
section
variable {H G G2 : Hp} {p F q : Addr} {n n2 : Nat} {o : HO} {rs : List (List V)} {r : List V}
theorem Rows.new (h : Rows G F rs) (nq : G q = none) : Rows (upd G q o) F rs := h.same fun b u z => by rw [upd_ne (ne_of_none z nq)]; exact z
theorem Work.new (w : Work H G p F n rs) (nq : G q = none) : Work H (upd G q o) p F n rs := ⟨w.keep.new nq, w.purse.new nq, w.rows.new nq, w.fresh, w.ne⟩
theorem Work.step (w : Work H G p F n rs) (hp : PurseAt G2 p n2) (k : Keep p G G2) : Work H G2 p F n2 rs := ⟨w.keep.trans k, hp, w.rows.keep w.purse k, w.fresh, w.ne⟩
theorem Work.more (w : Work H G p F n rs) (e : n ≤ n2) : Work H G p F n2 rs := ⟨w.keep, w.purse.more e, w.rows, w.fresh, w.ne⟩
theorem PurseAt.ne_new (hp : PurseAt G p n) (nq : G q = none) : q ≠ p := by
  intro e
  obtain ⟨a, b, c, e1, _⟩ := hp
  rw [e, e1] at nq
  cases nq
/-- a list that was just made -/
theorem Work.start (hp : PurseAt G p n) (k : Keep p H G) (nq : G F = none) : Work H (upd G F (.lst [])) p F n [] :=
  ⟨k.new nq, hp.new nq, ⟨[], upd_same, .nil⟩, k.fresh hp nq, hp.ne_new nq⟩
theorem Work.push (w : Work H G p F n rs) {t : Addr} (ht : G t = some (.tup r)) : ∃ as : List Addr, G F = some (.lst (as.map V.ref)) ∧ as.length = rs.length ∧ Work H (upd G F (.lst (as.map V.ref ++ [.ref t]))) p F n (rs ++ [r]) := by
  obtain ⟨as, h1, h2⟩ := w.rows
  have ne : ∀ b u, G b = some (.tup u) → b ≠ F := fun b u z e => by
    rw [e, h1] at z
    cases z
  refine ⟨as, h1, paired_len h2, ⟨fun b u h nb => ?_, ?_, ⟨as ++ [t], ?_, ?_⟩, w.fresh, w.ne⟩⟩
  · rw [upd_ne (ne_of_none h w.fresh)]
    exact w.keep b u h nb
  · obtain ⟨a, b, c, e1, r⟩ := w.purse
    exact ⟨a, b, c, by rw [upd_ne (fun e => w.ne e.symm)]; exact e1, r⟩
  · rw [upd_same, List.map_append]
    rfl
  · exact paired_snoc (paired_imp h2 fun b u z => by rw [upd_ne (ne b u z)]; exact z) (by rw [upd_ne (ne t r ht)]; exact ht)
theorem Work.none_new (w : Work H G p F n rs) (nq : G q = none) : H q = none := w.keep.fresh w.purse nq
end
section
variable {P : Program} {w : World} {K : PySem.W.Frag} {mg : Str → Option Value} {base : Heap}
/-- a def of the law's text, as its callers see it -/
structure DefAt (P : Program) (w : World) (K : PySem.W.Frag) (mg : Str → Option Value) (base : Heap) (x : Str) (f : Addr) (fd : FuncData) (ps : List Str) (n : Nat) (sp : Sp) : Prop where
  ok : ∀ k, FnOk P w K mg base CX0 (k + n) f fd ps sp
  mg : mg x = some (.ref f)
  kp : PySem.W.keepIn K (.ref f) = true
  b : Binds K fd ps []
def spMoment : Sp := fun vs H Q _ => ∃ (p : Addr) (c : Nat), vs = [.ref p] ∧ PurseAt H p c ∧ c ≤ 990000 ∧ ∀ (d : Int) H', 0 ≤ d → d ≤ 10 ^ 30 → PurseAt H' p (c + 2) → Keep p H H' → Q (.int d) H'
theorem scMoment : FnScope ["purse", "way"] ["purse"] (defScope sMoment) := ⟨rfl, rfl, rfl, by decide +kernel, rfl, by decide +kernel, by decide +kernel⟩
theorem ok_moment {f fC : Addr} {fd fdC : FuncData} {k : Nat} (F : Fun K "_law_mk_moment" "_law_mk_moment" sMoment f fd) (C : CoinAt P w K mg base fC fdC) (B : Blt mg) : FnOk P w K mg base CX0 (k + 2) f fd ["purse"] spMoment := by
  have GC := C.ok k
  refine F.ok scMoment (fun vs H Q E h => ?_) (fun cdv A outer s H vs Q E hr h => ?_)
  · obtain ⟨p, c, rfl, _⟩ := h
    rfl
  · obtain ⟨p, c, rfl, hp, hc, q⟩ := h
    have nd := scMoment.nd
    refine ⟨_, pss_cons (ps_set (i := 1) nd rfl (.inl rfl) (pe_call GC hr (by rfl) C.mg C.kp C.b .nil pass0 (pa_cons (pv 0) (pa_cons pe_int pa_nil))))
      (pss_cons (ps_if (pt_cmpR op_eq (pv 1) pe_int (nomark _)) (pss_one (ps_ret (pe_op op_sub (pe_op op_pow pe_int pe_int) (pe_call GC hr (by rfl) C.mg C.kp C.b .nil pass0 (pa_cons (pv 0) (pa_cons pe_int pa_nil)))))) pss_nil)
      (pss_one (ps_ret (pe_call GC hr (by rfl) C.mg C.kp C.b .nil pass0 (pa_cons (pv 0) (pa_cons (pe_ix ix_list (pe_lst (pa_cons pe_int (pa_cons pe_int (pa_cons pe_int (pa_cons (pe_op op_add (pe_op op_pow pe_int pe_int) pe_int) pa_nil))))) (pv 1) (fun _ _ => rfl)) pa_nil)))))), ?_⟩
    refine ⟨_, rfl, p, c, 5, rfl, hp, by omega, by decide, by decide, fun way H1 a0 a1 hp1 k1 => ?_⟩
    refine ⟨_, rfl, rfl, _, rfl, ite2 (fun e => ?_) (fun e => ?_)⟩
    · refine ⟨_, _, rfl, rfl, ⟨by decide, by decide, by decide⟩, _, rfl, p, c + 1, 900, rfl, hp1, by omega, by decide, by decide, fun d H2 d0 d1 hp2 k2 => ⟨_, _, rfl, rfl, ?_⟩⟩
      refine q _ _ ?_ ?_ hp2 (k1.trans k2)
      · show (0 : Int) ≤ 10 ^ 30 - d
        omega
      · show (10 : Int) ^ 30 - d ≤ 10 ^ 30
        omega
    · have e4 : way ≠ 4 := fun z => e (by rw [z]; rfl)
      refine ⟨_, rfl, _, _, rfl, rfl, ⟨by decide, by decide, by decide⟩, _, _, rfl, rfl, by show 4 ≤ sizeLine; decide, fun L nL => ?_⟩
      obtain ⟨v, hv, v1, v2⟩ : ∃ v : Int, atI [V.int 9, V.int 40, V.int 1700, V.int (10 ^ 30 + 1)] way = some (V.int v) ∧ 1 ≤ v ∧ v ≤ 10 ^ 30 + 1 := by
        have h : way = 0 ∨ way = 1 ∨ way = 2 ∨ way = 3 := by omega
        rcases h with rfl | rfl | rfl | rfl
        · exact ⟨_, atI_nat (j := 0) rfl, by decide, by decide⟩
        · exact ⟨_, atI_nat (j := 1) rfl, by decide, by decide⟩
        · exact ⟨_, atI_nat (j := 2) rfl, by decide, by decide⟩
        · exact ⟨_, atI_nat (j := 3) rfl, by decide, by decide⟩
      refine ⟨_, rfl, L, _, way, _, rfl, rfl, .inl (.inl upd_same), hv, p, c + 1, v, rfl, hp1.new nL, by omega, v1, by omega, fun d H2 d0 d1 hp2 k2 => ?_⟩
      exact q _ _ d0 (by omega) hp2 ((k1.new nL).trans k2)

def spPlaces : Sp := fun vs H Q _ => ∃ (p : Addr) (c m : Nat) (t : Int), vs = [.ref p, .int m, .int t] ∧ PurseAt H p c ∧ c ≤ 890000 ∧ m ≤ 20 ∧ 1 ≤ t ∧ t ≤ 10 ^ 6 ∧
  ∀ rs q H', TownsB rs m → H q = none → Rows H' q rs → PurseAt H' p (c + 500) → Keep p H H' → Q (.ref q) H'
abbrev nPlaces : List Str := ["purse", "count", "top", "found", "label", "ends"]
theorem scPlaces : FnScope nPlaces ["purse", "count", "top"] (defScope sPlaces) := ⟨rfl, rfl, rfl, by decide +kernel, rfl, by decide +kernel, by decide +kernel⟩
theorem two_sorted {ns : List Int} {a b : Int} (h1 : ns.Perm [a, b]) (h2 : ns.Pairwise (· ≤ ·)) : ∃ x y : Int, ns = [x, y] ∧ x ≤ y ∧ (x = a ∨ x = b) ∧ (y = a ∨ y = b) := by
  have l := h1.length_eq
  match ns, l with
  | [x, y], _ =>
    refine ⟨x, y, rfl, ?_, ?_, ?_⟩
    · have z := List.pairwise_cons.mp h2
      exact z.1 y (List.mem_singleton.mpr rfl)
    · have z := h1.mem_iff.mp (show x ∈ [x, y] by simp)
      simpa using z
    · have z := h1.mem_iff.mp (show y ∈ [x, y] by simp)
      simpa using z
theorem ok_places {f fC fW : Addr} {fd fdC fdW : FuncData} {k : Nat} (F : Fun K "_law_mk_places" "_law_mk_places" sPlaces f fd) (C : CoinAt P w K mg base fC fdC) (W : DefAt P w K mg base "_law_words" fW fdW ["purse", "many"] 2 spWords) (B : Blt mg) :
    FnOk P w K mg base CX0 (k + 3) f fd ["purse", "count", "top"] spPlaces := by
  have GC := C.ok (k + 1)
  have GW := W.ok k
  refine F.ok scPlaces (fun vs H Q E h => ?_) (fun cdv A outer s H vs Q E hr h => ?_)
  · obtain ⟨p, c, m, t, rfl, _⟩ := h
    rfl
  · obtain ⟨p, c, m, t, rfl, hp, hc, hm, t1, t2, q⟩ := h
    have nd := scPlaces.nd
    refine ⟨_, pss_cons (ps_set (i := 3) nd rfl (.inl rfl) (pe_lst pa_nil))
      (pss_cons (ps_for PassesOwn.never rfl (pi_list (pe_call GW hr (by rfl) W.mg W.kp W.b .nil pass0 (pa_cons (pv 0) (pa_cons (pv 1) pa_nil)))) (pg_name (i := 4) nd rfl (.inl rfl))
        (pss_cons (ps_set (i := 5) nd rfl (.inl rfl) (pe_callB cr_sortedI (by rfl) B.sorted (by decide +kernel) (pa_cons (pe_lst (pa_cons (pe_op op_add pe_int (pe_call GC hr (by rfl) C.mg C.kp C.b .nil pass0 (pa_cons (pv 0) (pa_cons (pv 2) pa_nil)))) (pa_cons (pe_op op_add pe_int (pe_call GC hr (by rfl) C.mg C.kp C.b .nil pass0 (pa_cons (pv 0) (pa_cons (pv 2) pa_nil)))) pa_nil))) pa_nil)))
        (pss_one (ps_expr (pe_bm PySem.F.plainAttrs_list PySem.F.slot_list_append PySem.F.type_list_append mt_append (pv 3) (pa_cons (pe_tup (pa_cons (pv 4) (pa_cons (pe_ix ix_list (pv 5) pe_int (fun _ _ => rfl))
          (pa_cons (pe_ix ix_list (pv 5) (pe_callB (call_min2 rfl) (by rfl) B.min (by decide +kernel) (pa_cons pe_int (pa_cons (pe_call GC hr (by rfl) C.mg C.kp C.b .nil pass0 (pa_cons (pv 0) (pa_cons pe_int pa_nil))) pa_nil))) (fun _ _ => rfl)) pa_nil)))) pa_nil))))))
      (pss_one (ps_ret (pv 3)))), ?_⟩
    refine ⟨Nat.zero_le _, fun F0 nF0 => ?_⟩
    have w0 := Work.start hp (Keep.refl p H) nF0
    refine ⟨_, rfl, _, rfl, p, c, m, rfl, w0.purse, by omega, hm, fun zs W0 G nz nW hW hp1 k1 => ⟨W0, rfl, ⟨_, .inl (.inl hW)⟩, ?_⟩⟩
    have w1 := w0.step hp1 k1
    have neW : W0 ≠ F0 := fun e => by
      rw [e, upd_same] at nW
      cases nW
    refine for_list (K := K) (a := W0) (xs := zs.map V.str) (fun i sl G => ∃ (rs : List (List V)) (v4 v5 : Option V), sl = [some (.ref p), some (.int m), some (.int t), some (.ref F0), v4, v5] ∧
      G W0 = some (.lst (zs.map V.str)) ∧ rs.map nameOf = zs.take i ∧ (∀ r ∈ rs, TownB r) ∧ rs.length = i ∧ Work H G p F0 (c + 400 + 3 * i) rs) ⟨[], none, none, rfl, hW, rfl, (fun r hr => by cases hr), rfl, w1⟩
      (fun i sl G _ ⟨_, _, _, _, h, _⟩ => .inl (.inl h)) ?_ ?_
    · rintro i x sl G hx ⟨rs, v4, v5, rfl, hW2, names, good, lr, w2⟩
      have hi : i < zs.length := by
        have z := (List.getElem?_eq_some_iff.mp hx).1
        rw [List.length_map] at z
        exact z
      have hi20 : i < 20 := by
        have z := nz.1
        omega
      have ez : zs[i]? = some zs[i] := List.getElem?_eq_getElem hi
      have ex : x = V.str zs[i] := by
        rw [List.getElem?_map, ez] at hx
        exact (Option.some.inj hx).symm
      subst ex
      have gz := nz.2.2 zs[i] (List.getElem_mem hi)
      refine ⟨_, rfl, _, rfl, p, _, t, rfl, w2.purse, by omega, t1, by omega, fun a G3 a0 a1 hp3 k3 => ⟨_, _, rfl, rfl, ?_⟩⟩
      have w3 := w2.step hp3 k3
      refine ⟨_, rfl, _, rfl, p, _, t, rfl, w3.purse, by omega, t1, by omega, fun b G4 b0 b1 hp4 k4 => ⟨_, _, rfl, rfl, by show 2 ≤ sizeLine; decide, fun L nL => ?_⟩⟩
      have w4 := w3.step hp4 k4
      have w5 := w4.new nL (o := .lst [.int (1 + a), .int (1 + b)])
      refine ⟨L, [1 + a, 1 + b], rfl, .inl (.inl upd_same), fun ns S0 pm pw nS => ?_⟩
      obtain ⟨x, y, rfl, xy, hx1, hy1⟩ := two_sorted pm pw
      have w6 := w5.new nS (o := .lst ([x, y].map V.int))
      -- the row
      obtain ⟨as6, h6, _⟩ := w6.rows
      refine ⟨_, rfl, .inl ⟨rfl, _, .inl (.inl h6)⟩, _, rfl, _, rfl, S0, _, 0, .int x, rfl, rfl, .inl (.inl upd_same), atI_nat (j := 0) rfl, _, rfl, _, rfl, p, _, 5, rfl, w6.purse, by omega, by decide, by decide, fun d G7 d0 d1 hp7 k7 => ?_⟩
      have w7 := w6.step hp7 k7
      have hS : G7 S0 = some (.lst ([x, y].map V.int)) := k7 _ _ upd_same (w5.purse.ne_new nS)
      obtain ⟨v, j, ej, hv, v1, v2⟩ : ∃ (v : Int) (j : Nat), (if d < 1 then d else 1) = (j : Int) ∧ ([x, y].map V.int)[j]? = some (V.int v) ∧ x ≤ v ∧ v ≤ t := by
        by_cases hd : d < 1
        · exact ⟨x, 0, by rw [if_pos hd]; omega, rfl, by omega, by omega⟩
        · exact ⟨y, 1, by rw [if_neg hd]; rfl, rfl, by omega, by omega⟩
      refine ⟨_, _, rfl, S0, _, _, _, rfl, rfl, .inl (.inl hS), by rw [ej]; exact atI_nat hv, by show 3 ≤ sizeLine; decide, fun T nT => ?_⟩
      have w8 := w7.new nT (o := .tup [.str zs[i], .int x, .int v])
      obtain ⟨as, h8, l8, w9⟩ := w8.push upd_same
      refine ⟨F0, _, _, rfl, rfl, h8, ?_, rs ++ [[.str zs[i], .int x, .int v]], _, _, rfl, ?_, ?_, ?_, ?_, w9.more (by omega)⟩
      · rw [List.length_map]
        exact small1000 (by omega)
      · have r1 := k3 _ _ hW2 (w2.purse.apart hW2 (strs_ne zs))
        have r2 := k4 _ _ r1 (w3.purse.apart r1 (strs_ne zs))
        rw [upd_ne neW, upd_ne (ne_of_none (k7 _ _ (by rw [upd_ne (ne_of_none (by rw [upd_ne (ne_of_none r2 nL)]; exact r2) nS), upd_ne (ne_of_none r2 nL)]; exact r2) (fun e => w3.purse.apart r1 (strs_ne zs) e)) nT)]
        exact k7 _ _ (by rw [upd_ne (ne_of_none (by rw [upd_ne (ne_of_none r2 nL)]; exact r2) nS), upd_ne (ne_of_none r2 nL)]; exact r2) (fun e => w3.purse.apart r1 (strs_ne zs) e)
      · rw [List.map_append, names, List.take_add_one, ez]
        rfl
      · intro r hr
        rcases List.mem_append.mp hr with z | z
        · exact good r z
        · rw [List.mem_singleton.mp z]
          exact ⟨zs[i], x, v, rfl, gz.1, gz.2, by omega, v1, by omega⟩
      · rw [List.length_append, lr]
        rfl
    · rintro sl G ⟨rs, v4, v5, rfl, hW2, names, good, lr, w2⟩
      rw [List.length_map] at names lr
      rw [List.take_length] at names
      have l20 := nz.1
      exact ⟨_, rfl, q rs F0 G ⟨by omega, by rw [names]; exact nz.2.1, good⟩ w2.fresh w2.rows (w2.more (by rw [List.length_map]; omega)).purse w2.keep⟩
end
end Md

namespace Md
open PySem PySem.Spec PyProof.Rows L2
abbrev sPair : Stmt := top 25
abbrev sMarket : Stmt := top 26
section
variable {P : Program} {w : World} {K : PySem.W.Frag} {mg : Str → Option Value} {base : Heap}
def spPicks : Sp := fun vs H Q _ => ∃ (p a : Addr) (c m : Nat) (rs : List (List V)), vs = [.ref p, .ref a] ∧ PurseAt H p c ∧ c ≤ 990000 ∧ m ≤ 20 ∧ Rows H a rs ∧ TownsB rs m ∧
  ∀ ps q H', ps.length = m → (∀ r ∈ ps, PickR r) → H q = none → Rows H' q ps → PurseAt H' p (c + 40) → Keep p H H' → Q (.ref q) H'
abbrev nPicks : List Str := ["purse", "places", "found", "place", "turn"]
theorem scPicks : FnScope nPicks ["purse", "places"] (defScope sPicks) := ⟨rfl, rfl, rfl, by decide +kernel, rfl, by decide +kernel, by decide +kernel⟩
theorem ok_picks {f fC : Addr} {fd fdC : FuncData} {k : Nat} (F : Fun K "_law_mk_picks" "_law_mk_picks" sPicks f fd) (C : CoinAt P w K mg base fC fdC) : FnOk P w K mg base CX0 (k + 2) f fd ["purse", "places"] spPicks := by
  have GC := C.ok k
  refine F.ok scPicks (fun vs H Q E h => ?_) (fun cdv A outer s H vs Q E hr h => ?_)
  · obtain ⟨p, a, c, m, rs, rfl, _⟩ := h
    rfl
  · obtain ⟨p, a, c, m, rs, rfl, hp, hc, hm, hR, hT, q⟩ := h
    have nd := scPicks.nd
    refine ⟨_, pss_cons (ps_set (i := 2) nd rfl (.inl rfl) (pe_lst pa_nil))
      (pss_cons (ps_for PassesOwn.never rfl (pi_list (pv 1)) (pg_name (i := 3) nd rfl (.inl rfl))
        (pss_cons (ps_set (i := 4) nd rfl (.inl rfl) (pe_op op_add (pe_ix (r := rIxT K) ix_tup (pv 3) pe_int (fun _ _ => rfl)) (pe_call GC hr (by rfl) C.mg C.kp C.b .nil pass0 (pa_cons (pv 0) (pa_cons (pe_op op_add (pe_op op_sub (pe_ix (r := rIxT K) ix_tup (pv 3) pe_int (fun _ _ => rfl)) (pe_ix (r := rIxT K) ix_tup (pv 3) pe_int (fun _ _ => rfl))) pe_int) pa_nil)))))
        (pss_one (ps_expr (pe_bm PySem.F.plainAttrs_list PySem.F.slot_list_append PySem.F.type_list_append mt_append (pv 2) (pa_cons (pe_tup (pa_cons (pv 4) (pa_cons (pe_call GC hr (by rfl) C.mg C.kp C.b .nil pass0 (pa_cons (pv 0) (pa_cons (pv 4) pa_nil))) pa_nil))) pa_nil))))))
      (pss_one (ps_ret (pv 2)))), ?_⟩
    refine ⟨Nat.zero_le _, fun F0 nF0 => ?_⟩
    have w0 := Work.start hp (Keep.refl p H) nF0
    obtain ⟨as, hA, hP⟩ := hR
    have ln : as.length = m := by
      have z := paired_len hP
      have z2 := hT.1
      omega
    have pA : a ≠ p := by
      intro e
      obtain ⟨a1, a2, a3, e1, _⟩ := hp
      rw [e, e1] at hA
      cases as with
      | nil => cases hA
      | cons z r => cases hA
    refine ⟨_, rfl, a, rfl, ⟨_, .inl (.inl (w0.keep _ _ hA pA))⟩, ?_⟩
    refine for_list (K := K) (a := a) (xs := as.map V.ref) (fun i sl G => ∃ (ps : List (List V)) (v3 v4 : Option V), sl = [some (.ref p), some (.ref a), some (.ref F0), v3, v4] ∧
      (∀ r ∈ ps, PickR r) ∧ ps.length = i ∧ Work H G p F0 (c + 2 * i) ps) ⟨[], none, none, rfl, (fun r hr => by cases hr), rfl, w0⟩
      (fun i sl G _ ⟨_, _, _, _, _, _, w1⟩ => .inl (.inl (w1.keep _ _ hA pA))) ?_ ?_
    · rintro i x sl G hx ⟨ps, v3, v4, rfl, good, lp, w1⟩
      have hi : i < as.length := by
        have z := (List.getElem?_eq_some_iff.mp hx).1
        rw [List.length_map] at z
        exact z
      obtain ⟨b, row, ex, hr1, hb⟩ := rows_ref hP hx
      subst ex
      obtain ⟨z, lo, hi2, er, _, _, l1, l2, l3⟩ := hT.2.2 row (List.mem_of_getElem? hr1)
      subst er
      have hb2 : SqT K G b [.str z, .int lo, .int hi2] := .inl (.inl (w1.keep _ _ hb fun e => by
        obtain ⟨a1, a2, a3, e1, _⟩ := hp
        rw [e, e1] at hb
        cases hb))
      refine ⟨_, rfl, b, _, 1, .int lo, rfl, rfl, hb2, atI_nat (j := 1) rfl, _, rfl, _, rfl, b, _, 2, .int hi2, rfl, rfl, hb2, atI_nat (j := 2) rfl, _, rfl, b, _, 1, .int lo, rfl, rfl, hb2, atI_nat (j := 1) rfl, _, _, rfl, rfl, _, _, rfl, rfl,
        p, _, _, rfl, w1.purse, by omega, by omega, by omega, fun d G3 d0 d1 hp3 k3 => ⟨_, _, rfl, rfl, ?_⟩⟩
      have w3 := w1.step hp3 k3
      obtain ⟨as3, h3, _⟩ := w3.rows
      refine ⟨_, rfl, .inl ⟨rfl, _, .inl (.inl h3)⟩, _, rfl, _, rfl, _, rfl, p, _, _, rfl, w3.purse, by omega, by omega, by omega, fun e G4 e0 e1 hp4 k4 => ⟨by show 2 ≤ sizeLine; decide, fun T nT => ?_⟩⟩
      have w5 := (w3.step hp4 k4).new nT (o := .tup [.int (lo + d), .int e])
      obtain ⟨as5, h5, l5, w6⟩ := w5.push upd_same
      refine ⟨F0, _, _, rfl, rfl, h5, ?_, ps ++ [[.int (lo + d), .int e]], _, _, rfl, ?_, ?_, w6.more (by omega)⟩
      · rw [List.length_map]
        exact small1000 (by omega)
      · intro r hr
        rcases List.mem_append.mp hr with z | z
        · exact good r z
        · rw [List.mem_singleton.mp z]
          exact ⟨_, _, rfl, by omega⟩
      · rw [List.length_append, lp]
        rfl
    · rintro sl G ⟨ps, v3, v4, rfl, good, lp, w1⟩
      rw [List.length_map] at lp
      exact ⟨_, rfl, q ps F0 G (by omega) good w1.fresh w1.rows (w1.more (by rw [List.length_map]; omega)).purse w1.keep⟩

/-- two unlike indexes, or none -/
def PairI (is : List Int) (m : Nat) : Prop := is = [] ∨ ∃ x y : Nat, is = [(x : Int), (y : Int)] ∧ x < m ∧ y < m ∧ x ≠ y
def spPair : Sp := fun vs H Q _ => ∃ (p a : Addr) (c m : Nat) (as : List Addr), vs = [.ref p, .ref a] ∧ PurseAt H p c ∧ c ≤ 990000 ∧ 1 ≤ m ∧ m ≤ 20 ∧ H a = some (.lst (as.map V.ref)) ∧ as.length = m ∧
  ∀ is q H', PairI is m → H q = none → H' q = some (.lst (is.map V.int)) → PurseAt H' p (c + 3) → Keep p H H' → Q (.ref q) H'
abbrev nPair : List Str := ["purse", "places", "start", "gap"]
theorem scPair : FnScope nPair ["purse", "places"] (defScope sPair) := ⟨rfl, rfl, rfl, by decide +kernel, rfl, by decide +kernel, by decide +kernel⟩
theorem refs_ne {H : Hp} {a p : Addr} {c : Nat} {as : List Addr} (hp : PurseAt H p c) (hA : H a = some (.lst (as.map V.ref))) : a ≠ p := by
  intro e
  obtain ⟨a1, a2, a3, e1, _⟩ := hp
  rw [e, e1] at hA
  cases as with
  | nil => cases hA
  | cons z r => cases hA
theorem gap_ne {x g m : Nat} (h1 : x < m) (h2 : 1 ≤ g) (h3 : g < m) : ∃ y : Nat, ((x : Int) + g) % m = y ∧ y < m ∧ x ≠ y := by
  by_cases h : x + g < m
  · exact ⟨x + g, by rw [← Int.natCast_add, ← Int.natCast_emod, Nat.mod_eq_of_lt h], h, by omega⟩
  · refine ⟨x + g - m, ?_, by omega, by omega⟩
    rw [← Int.natCast_add, ← Int.natCast_emod, Nat.mod_eq_sub_mod (by omega), Nat.mod_eq_of_lt (by omega)]
theorem ok_pair {f fC : Addr} {fd fdC : FuncData} {k : Nat} (F : Fun K "_law_mk_pair" "_law_mk_pair" sPair f fd) (C : CoinAt P w K mg base fC fdC) (B : Blt mg) : FnOk P w K mg base CX0 (k + 2) f fd ["purse", "places"] spPair := by
  have GC := C.ok k
  refine F.ok scPair (fun vs H Q E h => ?_) (fun cdv A outer s H vs Q E hr h => ?_)
  · obtain ⟨p, a, c, m, as, rfl, _⟩ := h
    rfl
  · obtain ⟨p, a, c, m, as, rfl, hp, hc, hm1, hm, hA, la, q⟩ := h
    have nd := scPair.nd
    have lm : (as.map V.ref).length = m := by rw [List.length_map, la]
    refine ⟨_, C8.pss_cut (ps_if (PW.pt (pw_or (pt_cmpR op_lt (pe_callB call_len_seq (by rfl) B.len PySem.boot_len (pa_cons (pv 1) pa_nil)) pe_int (nomark _)) (pw_or1 (pt_cmpR op_eq (pe_call GC hr (by rfl) C.mg C.kp C.b .nil pass0 (pa_cons (pv 0) (pa_cons pe_int pa_nil))) pe_int (nomark _)))))
        (pss_one (ps_ret (pe_lst pa_nil))) pss_nil)
      (pss_cons (ps_par (i := 2) (j := 3) rfl nd rfl rfl (by decide) rfl rfl (pa_cons (pe_call GC hr (by rfl) C.mg C.kp C.b .nil pass0 (pa_cons (pv 0) (pa_cons (pe_callB call_len_seq (by rfl) B.len PySem.boot_len (pa_cons (pv 1) pa_nil)) pa_nil)))
        (pa_cons (pe_op op_add pe_int (pe_call GC hr (by rfl) C.mg C.kp C.b .nil pass0 (pa_cons (pv 0) (pa_cons (pe_op op_sub (pe_callB call_len_seq (by rfl) B.len PySem.boot_len (pa_cons (pv 1) pa_nil)) pe_int) pa_nil)))) pa_nil)) (by rfl))
      (pss_one (ps_ret (pe_lst (pa_cons (pv 2) (pa_cons (pe_op op_mod (pe_callTy call_int1 (by rfl) B.int (by decide +kernel) (pa_cons (pe_op op_add (pv 2) (pv 3)) pa_nil)) (pe_callB call_len_seq (by rfl) B.len PySem.boot_len (pa_cons (pv 1) pa_nil))) pa_nil)))))), ?_⟩
    have pA := refs_ne hp hA
    have none_ : ∀ (G : Hp) (n : Nat), PurseAt G p n → n ≤ c + 3 → Keep p H G → Nat.zero_le sizeLine = Nat.zero_le sizeLine ∧ ∀ l, G l = none → Q (.ref l) (upd G l (.lst [])) := fun G n hpG hn kG => ⟨rfl, fun l nl => q [] l _ (.inl rfl) (kG.fresh hpG nl) upd_same ((hpG.new nl).more hn) (kG.new nl)⟩
    refine ⟨fun sl G => sl = [some (.ref p), some (.ref a), none, none] ∧ 2 ≤ m ∧ PurseAt G p (c + 1) ∧ Keep p H G, ?_, ?_⟩
    · refine ⟨_, rfl, a, _, rfl, .inl (.inl (.inl hA)), _, _, rfl, rfl, _, rfl, ite2 (fun e => ?_) (fun e => ?_)⟩
      · refine iteT ⟨Nat.zero_le _, (none_ H c hp (by omega) (Keep.refl p H)).2⟩
      · have e2 : ¬ ((as.map V.ref).length : Int) < 2 := fun z => e (decide_eq_true z)
        refine ⟨_, rfl, p, c, 4, rfl, hp, by omega, by decide, by decide, fun d G d0 d1 hp1 k1 => ⟨rfl, _, rfl, ite2 (fun e3 => ⟨Nat.zero_le _, (none_ G _ hp1 (by omega) k1).2⟩) (fun e3 => ⟨rfl, by omega, hp1, k1⟩)⟩⟩
    · rintro sl G ⟨rfl, m2, hp1, k1⟩
      have hA1 := k1 _ _ hA pA
      refine ⟨_, rfl, _, rfl, a, _, rfl, .inl (.inl (.inl hA1)), p, _, _, rfl, hp1, by omega, by omega, by omega, fun x G2 x0 x1 hp2 k2 => ?_⟩
      have hA2 := k2 _ _ hA1 pA
      refine ⟨_, rfl, _, rfl, a, _, rfl, .inl (.inl (.inl hA2)), _, _, rfl, rfl, p, _, _, rfl, hp2, by omega, by omega, by omega, fun g G3 g0 g1 hp3 k3 => ⟨_, _, rfl, rfl, _, _, rfl, ?_⟩⟩
      have hA3 := k3 _ _ hA2 pA
      obtain ⟨x, rfl⟩ : ∃ n : Nat, x = n := ⟨x.toNat, by omega⟩
      obtain ⟨g, rfl⟩ : ∃ n : Nat, g = n := ⟨g.toNat, by omega⟩
      obtain ⟨y, ey, hy, xy⟩ := @gap_ne x (1 + g) m (by omega) (by omega) (by omega)
      refine ⟨_, rfl, _, rfl, _, rfl, _, _, rfl, rfl, .inl ⟨_, rfl, _, rfl, a, _, rfl, .inl (.inl (.inl hA3)), _, _, rfl, rfl, (by show (0 : Int) < ((as.map V.ref).length : Nat); omega), by show 2 ≤ sizeLine; decide, fun L nL => ?_⟩⟩
      have k123 := (k1.trans k2).trans k3
      refine q [x, y] L _ (.inr ⟨x, y, rfl, by omega, hy, xy⟩) (k123.fresh hp3 nL) ?_ (hp3.new nL) (k123.new nL)
      rw [upd_same]
      have e3 : ((x : Int) + (1 + (g : Int))) % ((as.map V.ref).length : Nat) = (y : Int) := by
        rw [lm, ← ey]
        congr 1
      rw [← e3]
      rfl
def spMarket : Sp := fun vs H Q _ => ∃ (b : Addr) (r : List V) (d : Int), vs = [.ref b, .int d] ∧ H b = some (.tup r) ∧ PickR r ∧ ∀ y : Bool, Q (.bl y) H
theorem scMarket : FnScope ["pick", "moment"] ["pick", "moment"] (defScope sMarket) := ⟨rfl, rfl, rfl, by decide +kernel, rfl, by decide +kernel, by decide +kernel⟩
theorem ok_market {f : Addr} {fd : FuncData} {k : Nat} (F : Fun K "_law_mk_market" "_law_mk_market" sMarket f fd) (B : Blt mg) : FnOk P w K mg base CX0 (k + 1) f fd ["pick", "moment"] spMarket := by
  refine F.ok scMarket (fun vs H Q E h => ?_) (fun cdv A outer s H vs Q E hr h => ?_)
  · obtain ⟨b, r, d, rfl, _⟩ := h
    rfl
  · obtain ⟨b, r, d, rfl, hb, ⟨t, x, rfl, t1⟩, q⟩ := h
    refine ⟨_, pss_one (ps_ret (pe_cmpR op_eq (pe_op op_mod (pe_callTy call_int1 (by rfl) B.int (by decide +kernel) (pa_cons (pv 1) pa_nil)) (pe_ix (r := rIxT K) ix_tup (pv 0) pe_int (fun _ _ => rfl))) (pe_ix (r := rIxT K) ix_tup (pv 0) pe_int (fun _ _ => rfl)) (nomark _))), ?_⟩
    exact ⟨_, rfl, .inl ⟨_, rfl, _, rfl, b, _, 0, .int t, rfl, rfl, .inl (.inl hb), atI_nat (j := 0) rfl, _, _, rfl, rfl, (by show 0 < t; omega), _, rfl, b, _, 1, .int x, rfl, rfl, .inl (.inl hb), atI_nat (j := 1) rfl, rfl, q _⟩⟩
end
end Md

namespace Md
open PySem PySem.Spec PyProof.Rows L2
/-- data that is laid, shown and small -/
structure Nice (d : PyData) (dep b : Nat) : Prop where
  lay : d.canLay0 = true
  show_ : d.showable = true
  nod : d.hasDict = false
  deep : d.depth ≤ dep
  leaf : d.leavesShort 32 = true
  bulk : d.bulk ≤ b
theorem Nice.more {d : PyData} {dep b dep2 b2 : Nat} (h : Nice d dep b) (e : dep ≤ dep2) (e2 : b ≤ b2) : Nice d dep2 b2 := ⟨h.lay, h.show_, h.nod, Nat.le_trans h.deep e, h.leaf, Nat.le_trans h.bulk e2⟩
structure NiceAll (ds : List PyData) (dep b : Nat) : Prop where
  lay : PyData.canLayAll0 ds = true
  show_ : PyData.showableAll ds = true
  nod : PyData.hasDictAll ds = false
  deep : PyData.depthAll ds ≤ dep
  leaf : PyData.leavesShortAll 32 ds = true
  bulk : PyData.bulkAll ds ≤ (b + 1) * ds.length
theorem nice_all {dep b : Nat} : ∀ {ds : List PyData}, (∀ d ∈ ds, Nice d dep b) → NiceAll ds dep b
  | [], _ => ⟨by simp [PyData.canLayAll0], by simp [PyData.showableAll], by simp [PyData.hasDictAll], by simp [PyData.depthAll], by simp [PyData.leavesShortAll], by simp [PyData.bulkAll]⟩
  | d :: ds, h => by
    have h1 := h d (List.mem_cons_self ..)
    have h2 := nice_all (ds := ds) fun x hx => h x (List.mem_cons_of_mem _ hx)
    refine ⟨by simp [PyData.canLayAll0, h1.lay, h2.lay], by simp [PyData.showableAll, h1.show_, h2.show_], by simp [PyData.hasDictAll, h1.nod, h2.nod], ?_, by simp [PyData.leavesShortAll, h1.leaf, h2.leaf], ?_⟩
    · unfold PyData.depthAll
      exact Nat.max_le.mpr ⟨h1.deep, h2.deep⟩
    · unfold PyData.bulkAll
      rw [List.length_cons, Nat.mul_succ]
      have a := h1.bulk
      have b := h2.bulk
      omega
theorem Nice.list {dep b : Nat} {ds : List PyData} (h : ∀ d ∈ ds, Nice d dep b) : Nice (.list ds) (dep + 1) ((b + 1) * ds.length) := by
  have a := nice_all h
  refine ⟨by simp [PyData.canLay0, a.lay], by simp [PyData.showable, a.show_], by simp [PyData.hasDict, a.nod], ?_, by simp [PyData.leavesShort, a.leaf], ?_⟩
  · unfold PyData.depth
    exact Nat.succ_le_succ a.deep
  · unfold PyData.bulk
    exact a.bulk
theorem Nice.tuple {dep b : Nat} {ds : List PyData} (h : ∀ d ∈ ds, Nice d dep b) : Nice (.tuple ds) (dep + 1) ((b + 1) * ds.length) := by
  have a := nice_all h
  refine ⟨by simp [PyData.canLay0, a.lay], by simp [PyData.showable, a.show_], by simp [PyData.hasDict, a.nod], ?_, by simp [PyData.leavesShort, a.leaf], ?_⟩
  · unfold PyData.depth
    exact Nat.succ_le_succ a.deep
  · unfold PyData.bulk
    exact a.bulk
theorem Nice.shaped {d : PyData} {dep b : Nat} (h : Nice d dep b) (e : dep ≤ 40) : SeqAt.shaped d = true := by
  unfold SeqAt.shaped
  rw [h.lay, decide_eq_true (show d.depth ≤ 64 from Nat.le_trans h.deep (by omega))]
  rfl
theorem Nice.short {d : PyData} {dep b : Nat} (h : Nice d dep b) (e : b ≤ 100000) : d.shown.length ≤ sizeLine := by
  have z := PyData.shown_le_bulk 32 (by decide) d h.leaf
  have z2 := h.bulk
  have z3 : 4000000 ≤ sizeLine := by decide
  omega
theorem nice_int {i : Int} (h0 : 0 ≤ i) (h1 : i ≤ 10 ^ 30) : Nice (.int i) 0 0 := by
  have z : i < 10 ^ 31 := by omega
  have e : (PyData.shown (.int i)).length ≤ 31 := PyProof.Rows.toString_length_le h0 (by decide) z
  refine ⟨by simp [PyData.canLay0], ?_, by simp [PyData.hasDict], by simp [PyData.depth], ?_, by simp [PyData.bulk]⟩
  · simp only [PyData.showable, decide_eq_true_eq]
    have w : i.natAbs < 2 ^ 200 := by
      have b : (10 : Nat) ^ 31 < 2 ^ 200 := by decide
      omega
    rcases Nat.eq_zero_or_pos i.natAbs with q | q
    · rw [q]
      decide
    · have l := (Nat.log2_lt (by omega)).mpr w
      omega
  · simp only [PyData.leavesShort, decide_eq_true_eq]
    omega
theorem nice_str {z : Str} (h : ∀ c ∈ z.cps.toList, c < 0x110000) (l : z.length ≤ 8) : Nice (.str z) 0 8 := by
  refine ⟨?_, by simp [PyData.showable], by simp [PyData.hasDict], by simp [PyData.depth], ?_, ?_⟩
  · simp only [PyData.canLay0]
    show z.cps.all (fun c => decide (c < 0x110000)) = true
    rw [← Array.all_toList, List.all_eq_true]
    intro c hc
    exact decide_eq_true (h c hc)
  · simp only [PyData.leavesShort, List.all_eq_true, decide_eq_true_eq]
    intro c hc
    have := h c hc
    omega
  · simp only [PyData.bulk]
    exact l
/-- a text of some letters -/
theorem name_letters {z : Str} (h : nameB z = true) : ∀ c ∈ z.cps.toList, letB c = true := by
  unfold nameB at h
  have e : (z.cps.toList.map letB).all id = true := by
    rw [Bool.and_eq_true] at h
    exact h.2
  rw [List.all_eq_true] at e
  intro c hc
  exact e _ (List.mem_map.mpr ⟨c, hc, rfl⟩)
theorem let_small {c : Nat} (h : letB c = true) : c < 0x110000 := by
  have z : c ∈ sg alphabet := of_decide_eq_true h
  have w : ∀ x ∈ sg alphabet, x < 0x110000 := by decide +kernel
  exact w c z
/-- plain things -/
def FlatV (v : V) : Prop := (∃ z : Str, v = .str z ∧ z.length ≤ 8 ∧ ∀ c ∈ z.cps.toList, c < 0x110000) ∨ ∃ i : Int, v = .int i ∧ 0 ≤ i ∧ i ≤ 10 ^ 30
def vD : V → PyData
  | .str z => .str z
  | .int i => .int i
  | _ => .none
theorem FlatV.nice {v : V} (h : FlatV v) : Nice (vD v) 0 8 := by
  rcases h with ⟨z, rfl, l, a⟩ | ⟨i, rfl, h0, h1⟩
  · exact nice_str a l
  · exact (nice_int h0 h1).more (Nat.le_refl _) (by omega)
theorem FlatV.dp {K : PySem.W.Frag} {H : Hp} {v : V} (h : FlatV v) : Dp K H v (vD v) := by
  rcases h with ⟨z, rfl, _⟩ | ⟨i, rfl, _⟩
  · exact .str z
  · exact .int i
theorem flats_dp {K : PySem.W.Frag} {H : Hp} : ∀ {r : List V}, (∀ v ∈ r, FlatV v) → DpAll K H r (r.map vD)
  | [], _ => .nil
  | v :: r, h => .cons (h v (List.mem_cons_self ..)).dp (flats_dp fun x hx => h x (List.mem_cons_of_mem _ hx))
def RowF (r : List V) : Prop := r.length ≤ 4 ∧ ∀ v ∈ r, FlatV v
def rowD (r : List V) : PyData := .tuple (r.map vD)
theorem RowF.nice {r : List V} (h : RowF r) : Nice (rowD r) 1 36 := by
  have z := Nice.tuple (ds := r.map vD) (dep := 0) (b := 8) fun d hd => by
    obtain ⟨v, hv, e⟩ := List.mem_map.mp hd
    rw [← e]
    exact (h.2 v hv).nice
  refine z.more (Nat.le_refl _) ?_
  rw [List.length_map]
  have := h.1
  omega
theorem rows_nice {rs : List (List V)} (h : ∀ r ∈ rs, RowF r) : Nice (.list (rs.map rowD)) 2 (37 * rs.length) := by
  have z := Nice.list (ds := rs.map rowD) (dep := 1) (b := 36) fun d hd => by
    obtain ⟨r, hr, e⟩ := List.mem_map.mp hd
    rw [← e]
    exact (h r hr).nice
  rw [List.length_map] at z
  exact z
theorem rows_dpAll {K : PySem.W.Frag} {H : Hp} : ∀ {as : List Addr} {rs : List (List V)}, Paired (fun b r => H b = some (.tup r)) as rs → (∀ r ∈ rs, RowF r) → DpAll K H (as.map V.ref) (rs.map rowD)
  | _, _, .nil, _ => .nil
  | _, _, .cons h t, f => .cons (.tup (.inl (.inl h)) (flats_dp (f _ (List.mem_cons_self ..)).2)) (rows_dpAll t fun x hx => f x (List.mem_cons_of_mem _ hx))
theorem rows_dp {K : PySem.W.Frag} {H : Hp} {a : Addr} {rs : List (List V)} (h : Rows H a rs) (f : ∀ r ∈ rs, RowF r) : Dp K H (.ref a) (.list (rs.map rowD)) := by
  obtain ⟨as, h1, h2⟩ := h
  exact .lst (.inl (.inl h1)) (rows_dpAll h2 f)
theorem name_flat {z : Str} (h : nameB z = true) (l : z.length ≤ 8) : FlatV (.str z) := .inl ⟨z, rfl, l, fun c hc => let_small (name_letters h c hc)⟩
theorem strs_dp {K : PySem.W.Frag} {H : Hp} : ∀ zs : List Str, DpAll K H (zs.map V.str) (zs.map PyData.str)
  | [] => .nil
  | z :: zs => .cons (.str z) (strs_dp zs)
theorem names_nice {zs : List Str} (h : ∀ z ∈ zs, nameB z = true ∧ z.length ≤ 8) : Nice (.list (zs.map PyData.str)) 1 (9 * zs.length) := by
  have z := Nice.list (ds := zs.map PyData.str) (dep := 0) (b := 8) fun d hd => by
    obtain ⟨z, hz, e⟩ := List.mem_map.mp hd
    rw [← e]
    exact (name_flat (h z hz).1 (h z hz).2).nice
  rw [List.length_map] at z
  exact z
theorem TownB.flat {r : List V} (h : TownB r) : RowF r := by
  obtain ⟨z, lo, hi, rfl, a, b, c, d, e⟩ := h
  refine ⟨by simp, fun v hv => ?_⟩
  have q : v = .str z ∨ v = .int lo ∨ v = .int hi := by simpa using hv
  rcases q with rfl | rfl | rfl
  · exact name_flat a b
  · exact .inr ⟨lo, rfl, by omega, by omega⟩
  · exact .inr ⟨hi, rfl, by omega, by omega⟩
theorem kind_flat {kind : Str} (h : (kind = "market" ∨ kind = "none") ∨ kind = "one" ∨ kind = "same") : FlatV (.str kind) := by
  have w : ∀ s : Str, s.length ≤ 8 → (∀ c ∈ s.cps.toList, c < 0x110000) → FlatV (.str s) := fun s a b => .inl ⟨s, rfl, a, b⟩
  rcases h with (rfl | rfl) | rfl | rfl
  · exact w _ (by decide +kernel) (by decide +kernel)
  · exact w _ (by decide +kernel) (by decide +kernel)
  · exact w _ (by decide +kernel) (by decide +kernel)
  · exact w _ (by decide +kernel) (by decide +kernel)
theorem NoteR.flat {ns : List Str} {r : List V} (g : ∀ z ∈ ns, nameB z = true ∧ z.length ≤ 8) (h : NoteR ns r) : RowF r := by
  rcases h with ⟨kind, z, day, rfl, hk, hz, d0, d1⟩ | ⟨kind, y, z, day, rfl, hk, hy, hz, hyz, d0, d1⟩
  · refine ⟨by simp, fun v hv => ?_⟩
    have q : v = .str kind ∨ v = .str z ∨ v = .int day := by simpa using hv
    rcases q with rfl | rfl | rfl
    · exact kind_flat (.inl hk)
    · exact name_flat (g z hz).1 (g z hz).2
    · exact .inr ⟨day, rfl, d0, d1⟩
  · refine ⟨by simp, fun v hv => ?_⟩
    have q : v = .str kind ∨ v = .str y ∨ v = .str z ∨ v = .int day := by simpa using hv
    rcases q with rfl | rfl | rfl | rfl
    · exact kind_flat (.inr hk)
    · exact name_flat (g y hy).1 (g y hy).2
    · exact name_flat (g z hz).1 (g z hz).2
    · exact .inr ⟨day, rfl, d0, d1⟩
theorem towns_names {rs : List (List V)} (h : ∀ r ∈ rs, TownB r) : ∀ z ∈ rs.map nameOf, nameB z = true ∧ z.length ≤ 8 := by
  intro z hz
  obtain ⟨r, hr, e⟩ := List.mem_map.mp hz
  obtain ⟨y, lo, hi, er, a, b, _⟩ := h r hr
  subst er
  subst e
  exact ⟨a, b⟩
end Md

namespace Md
open PySem PySem.Spec PyProof.Rows L2
abbrev sEntry : Stmt := top 27
/-- what a note is drawn from -/
structure Ent (H : Hp) (a b e : Addr) (rs : List (List V)) (is : List Int) (ps : List (List V)) (m : Nat) : Prop where
  rows : Rows H a rs
  towns : TownsB rs m
  ends : H b = some (.lst (is.map V.int))
  pair : PairI is m
  picks : Rows H e ps
  lp : ps.length = m
  good : ∀ r ∈ ps, PickR r
section
variable {H H' : Hp} {a b e p : Addr} {rs ps : List (List V)} {is : List Int} {m c i : Nat}
theorem Ent.keep (E : Ent H a b e rs is ps m) (hp : PurseAt H p c) (k : Keep p H H') : Ent H' a b e rs is ps m := by
  refine ⟨E.rows.keep hp k, E.towns, k _ _ E.ends fun z => ?_, E.pair, E.picks.keep hp k, E.lp, E.good⟩
  obtain ⟨x, y, w, e1, _⟩ := hp
  have q := E.ends
  rw [z, e1] at q
  rcases E.pair with rfl | ⟨u, v, rfl, _⟩
  · cases q
  · cases q
theorem Ent.new {q : Addr} {o : HO} (E : Ent H a b e rs is ps m) (n : H q = none) : Ent (upd H q o) a b e rs is ps m :=
  ⟨E.rows.new n, E.towns, by rw [upd_ne (ne_of_none E.ends n)]; exact E.ends, E.pair, E.picks.new n, E.lp, E.good⟩
theorem Ent.town (E : Ent H a b e rs is ps m) (hi : i < m) : ∃ (as : List Addr) (t : Addr) (z : Str) (lo hi : Int), H a = some (.lst (as.map V.ref)) ∧ as.length = m ∧ (as.map V.ref)[i]? = some (.ref t) ∧ H t = some (.tup [.str z, .int lo, .int hi]) ∧ (rs.map nameOf)[i]? = some z := by
  obtain ⟨as, h1, h2⟩ := E.rows
  have l := E.towns.1
  have hl : i < rs.length := by omega
  obtain ⟨t, ht, hb⟩ := paired_get h2 i rs[i] (List.getElem?_eq_getElem hl)
  obtain ⟨z, lo, hi, er, _⟩ := E.towns.2.2 rs[i] (List.getElem_mem hl)
  refine ⟨as, t, z, lo, hi, h1, by rw [paired_len h2, l], by rw [List.getElem?_map, ht]; rfl, by rw [← er]; exact hb, ?_⟩
  rw [List.getElem?_map, List.getElem?_eq_getElem hl, er]
  rfl
theorem Ent.pick (E : Ent H a b e rs is ps m) (hi : i < m) : ∃ (es : List Addr) (u : Addr) (r : List V), H e = some (.lst (es.map V.ref)) ∧ (es.map V.ref)[i]? = some (.ref u) ∧ H u = some (.tup r) ∧ PickR r := by
  obtain ⟨es, h1, h2⟩ := E.picks
  have l := E.lp
  have hl : i < ps.length := by omega
  obtain ⟨t, ht, hb⟩ := paired_get h2 i ps[i] (List.getElem?_eq_getElem hl)
  exact ⟨es, t, ps[i], h1, by rw [List.getElem?_map, ht]; rfl, hb, E.good _ (List.getElem_mem hl)⟩
end
section
variable {P : Program} {w : World} {K : PySem.W.Frag} {mg : Str → Option Value} {base : Heap}
def spEntry : Sp := fun vs H Q _ => ∃ (p a b e : Addr) (c m : Nat) (rs : List (List V)) (is : List Int) (ps : List (List V)), vs = [.ref p, .ref a, .ref b, .ref e, .bl false] ∧ PurseAt H p c ∧ c ≤ 980000 ∧ 1 ≤ m ∧ m ≤ 20 ∧ Ent H a b e rs is ps m ∧
  ∀ r q H', NoteR (rs.map nameOf) r → H q = none → H' q = some (.tup r) → PurseAt H' p (c + 10) → Keep p H H' → Q (.ref q) H'
abbrev nEntry : List Str := ["purse", "places", "pair", "picks", "is_true", "moment", "rank", "here", "turned", "ends"]
theorem scEntry : FnScope nEntry ["purse", "places", "pair", "picks", "is_true"] (defScope sEntry) := ⟨rfl, rfl, rfl, by decide +kernel, rfl, by decide +kernel, by decide +kernel⟩
abbrev es (p a b e : Addr) (mo : Int) (rk : Nat) (he tu : Bool) (v9 : Option V) : L2.St := [some (.ref p), some (.ref a), some (.ref b), some (.ref e), some (.bl false), some (.int mo), some (.int rk), some (.bl he), some (.bl tu), v9]
theorem ok_entry {f fC fM fK : Addr} {fd fdC fdM fdK : FuncData} {k : Nat} (F : Fun K "_law_mk_entry" "_law_mk_entry" sEntry f fd) (C : CoinAt P w K mg base fC fdC) (M : DefAt P w K mg base "_law_mk_moment" fM fdM ["purse"] 2 spMoment)
    (Mk : DefAt P w K mg base "_law_mk_market" fK fdK ["pick", "moment"] 1 spMarket) (B : Blt mg) : FnOk P w K mg base CX0 (k + 3) f fd ["purse", "places", "pair", "picks", "is_true"] spEntry := by
  have GC := C.ok (k + 1)
  have GM := M.ok k
  have GK := Mk.ok (k + 1)
  refine F.ok scEntry (fun vs H Q E h => ?_) (fun cdv A outer s H vs Q E hr h => ?_)
  · obtain ⟨p, a, b, e, c, m, rs, is, ps, rfl, _⟩ := h
    rfl
  · obtain ⟨p, a, b, e, c, m, rs, is, ps, rfl, hp, hc, hm1, hm, EN, q⟩ := h
    have nd := scEntry.nd
    refine ⟨_, pss_cons (ps_par (i := 5) (j := 6) rfl nd rfl rfl (by decide) rfl rfl (pa_cons (pe_call GM hr (by rfl) M.mg M.kp M.b .nil pass0 (pa_cons (pv 0) pa_nil))
        (pa_cons (pe_call GC hr (by rfl) C.mg C.kp C.b .nil pass0 (pa_cons (pv 0) (pa_cons (pe_callB call_len_seq (by rfl) B.len PySem.boot_len (pa_cons (pv 1) pa_nil)) pa_nil))) pa_nil)) (by rfl))
      (pss_cons (ps_set (i := 7) nd rfl (.inl rfl) (pe_call GK hr (by rfl) Mk.mg Mk.kp Mk.b .nil pass0 (pa_cons (pe_ix ix_list (pv 3) (pv 6) (fun _ _ => rfl)) (pa_cons (pv 5) pa_nil))))
      (pss_cons (ps_set (i := 8) nd rfl (.inl rfl) (pe_and (pe_not (pv 4)) (pe_one (pe_cmpR op_eq (pe_call GC hr (by rfl) C.mg C.kp C.b .nil pass0 (pa_cons (pv 0) (pa_cons pe_int pa_nil))) pe_int (nomark _)))))
      (C8.pss_cut (ps_if (PW.pt (pw_and (pt_cmpR (op_neD hr.units) (pv 2) (pe_lst pa_nil) (nomark _)) (pw_and1 (pt_cmpR op_eq (pe_call GC hr (by rfl) C.mg C.kp C.b .nil pass0 (pa_cons (pv 0) (pa_cons pe_int pa_nil))) pe_int (nomark _)))))
        (C8.pss_cut (ps_set (i := 9) nd rfl (.inl rfl) (pe_ifExp (pt_cmpR op_eq (pe_call GC hr (by rfl) C.mg C.kp C.b .nil pass0 (pa_cons (pv 0) (pa_cons pe_int pa_nil))) pe_int (nomark _)) (pe_revL (pv 2)) (pv 2)))
        (pss_cons (ps_set (i := 7) nd rfl (.inl rfl) (pe_cmpR op_eq
            (pe_call GK hr (by rfl) Mk.mg Mk.kp Mk.b .nil pass0 (pa_cons (pe_ix ix_list (pv 3) (pe_ix ix_list (pv 9) pe_int (fun _ _ => rfl)) (fun _ _ => rfl)) (pa_cons (pv 5) pa_nil)))
            (pe_call GK hr (by rfl) Mk.mg Mk.kp Mk.b .nil pass0 (pa_cons (pe_ix ix_list (pv 3) (pe_ix ix_list (pv 9) pe_int (fun _ _ => rfl)) (fun _ _ => rfl)) (pa_cons (pv 5) pa_nil))) (nomark _)))
        (pss_one (ps_ret (pe_tup (pa_cons (pe_ix ix_list (pe_lst (pa_cons pe_str (pa_cons pe_str pa_nil))) (pe_callTy call_int1 (by rfl) B.int (by decide +kernel) (pa_cons (pe_cmpR op_ne (pv 7) (pv 8) (nomark _)) pa_nil)) (fun _ _ => rfl))
          (pa_cons (pe_ix (r := rIxT K) ix_tup (pe_ix ix_list (pv 1) (pe_ix ix_list (pv 9) pe_int (fun _ _ => rfl)) (fun _ _ => rfl)) pe_int (fun _ _ => rfl))
          (pa_cons (pe_ix (r := rIxT K) ix_tup (pe_ix ix_list (pv 1) (pe_ix ix_list (pv 9) pe_int (fun _ _ => rfl)) (fun _ _ => rfl)) pe_int (fun _ _ => rfl))
          (pa_cons (pv 5) pa_nil))))))))) pss_nil)
      (pss_one (ps_ret (pe_tup (pa_cons (pe_ix ix_list (pe_lst (pa_cons pe_str (pa_cons pe_str pa_nil))) (pe_callTy call_int1 (by rfl) B.int (by decide +kernel) (pa_cons (pe_cmpR op_ne (pv 7) (pv 8) (nomark _)) pa_nil)) (fun _ _ => rfl))
          (pa_cons (pe_ix (r := rIxT K) ix_tup (pe_ix ix_list (pv 1) (pv 6) (fun _ _ => rfl)) pe_int (fun _ _ => rfl))
          (pa_cons (pv 5) pa_nil))))))))), ?_⟩
    -- moment, rank
    refine ⟨_, rfl, p, c, rfl, hp, by omega, fun mo G1 m0 m1 hp1 k1 => ?_⟩
    have E1 := EN.keep hp k1
    obtain ⟨as1, t1, z1, lo1, hi1, hA1, la1, _⟩ := E1.town (i := 0) (by omega)
    have lm1 : (as1.map V.ref).length = m := by rw [List.length_map, la1]
    refine ⟨_, rfl, _, rfl, a, _, rfl, .inl (.inl (.inl hA1)), p, _, _, rfl, hp1, by omega, by omega, by omega, fun rank G2 r0 r1 hp2 k2 => ⟨_, _, rfl, ?_⟩⟩
    have E2 := E1.keep hp1 k2
    have k12 := k1.trans k2
    obtain ⟨rk, rfl⟩ : ∃ n : Nat, rank = n := ⟨rank.toNat, by omega⟩
    have hrk : rk < m := by omega
    -- here
    obtain ⟨es2, u2, r2, hE2, gu2, hu2, pr2⟩ := E2.pick hrk
    refine ⟨_, rfl, _, rfl, e, _, _, _, rfl, rfl, .inl (.inl hE2), atI_nat gu2, _, rfl, u2, r2, mo, rfl, hu2, pr2, fun he => ?_⟩
    -- turned
    refine ⟨_, rfl, _, rfl, _, rfl, iteT ⟨_, rfl, p, _, 2, rfl, hp2, by omega, by decide, by decide, fun d G3 d0 d1 hp3 k3 => ⟨rfl, ?_⟩⟩⟩
    have E3 := E2.keep hp2 k3
    have k123 := k12.trans k3
    generalize decide (V.int d = V.int 0) = tu
    refine ⟨fun sl G => sl = es p a b e mo rk he tu none ∧ Ent G a b e rs is ps m ∧ PurseAt G p (c + 6) ∧ Keep p H G, ?_, ?_⟩
    · refine ⟨_, rfl, Nat.zero_le _, fun L nL => ?_⟩
      have E4 := E3.new nL (o := .lst [])
      have hp4 := hp3.new nL (o := .lst [])
      have k4 := k123.new nL (o := .lst [])
      rcases EN.pair with rfl | ⟨x, y, rfl, hx, hy, xy⟩
      · refine ⟨.list [], .list [], .lst (.inl (.inl E4.ends)) .nil, .lst (.inl (.inl upd_same)) .nil, by rfl, by rfl, _, rfl, iteF (iteF ⟨rfl, E4, hp4.more (by omega), k4⟩)⟩
      · refine ⟨.list [.int x, .int y], .list [], .lst (.inl (.inl E4.ends)) (.cons (.int _) (.cons (.int _) .nil)), .lst (.inl (.inl upd_same)) .nil, by rfl, by rfl, _, rfl, iteT ?_⟩
        refine ⟨_, rfl, p, _, 3, rfl, hp4, by omega, by decide, by decide, fun d2 G5 d0 d1 hp5 k5 => ⟨rfl, _, rfl, ite2 (fun _ => ?_) (fun _ => ⟨rfl, E4.keep hp4 k5, hp5.more (by omega), k4.trans k5⟩)⟩⟩
        have E5 := E4.keep hp4 k5
        have k45 := k4.trans k5
        refine ⟨fun sl G => ∃ (E9 : Addr) (u v : Nat), sl = es p a b e mo rk he tu (some (.ref E9)) ∧ G E9 = some (.lst [.int u, .int v]) ∧ u < m ∧ v < m ∧ u ≠ v ∧ Ent G a b e rs [x, y] ps m ∧ PurseAt G p (c + 6) ∧ Keep p H G, ?_, ?_⟩
        · refine ⟨_, rfl, p, _, 2, rfl, hp5, by omega, by decide, by decide, fun d3 G6 d0 d1 hp6 k6 => ⟨rfl, _, rfl, ite2 (fun _ => ?_) (fun _ => ?_)⟩⟩
          · have E6 := E5.keep hp5 k6
            exact ⟨_, rfl, b, _, rfl, .inl (.inl E6.ends), fun R nR => ⟨R, y, x, rfl, upd_same, hy, hx, fun z => xy z.symm, E6.new nR, (hp6.new nR).more (by omega), (k45.trans k6).new nR⟩⟩
          · have E6 := E5.keep hp5 k6
            exact ⟨_, rfl, b, x, y, rfl, E6.ends, hx, hy, xy, E6, hp6.more (by omega), k45.trans k6⟩
        · rintro sl G ⟨E9, u, v, rfl, h9, hu, hv, uv, E6, hp6, k6⟩
          obtain ⟨es6, b6, r6, hE6, g6, hb6, pr6⟩ := E6.pick hu
          obtain ⟨es7, b7, r7, hE7, g7, hb7, pr7⟩ := E6.pick hv
          refine ⟨_, rfl, _, rfl, E9, _, 0, .int u, rfl, rfl, .inl (.inl h9), atI_nat (j := 0) rfl, e, _, _, _, rfl, rfl, .inl (.inl hE6), atI_nat g6, _, rfl, b6, r6, mo, rfl, hb6, pr6, fun y1 => ?_⟩
          refine ⟨_, rfl, _, rfl, E9, _, 1, .int v, rfl, rfl, .inl (.inl h9), atI_nat (j := 1) rfl, e, _, _, _, rfl, rfl, .inl (.inl hE7), atI_nat g7, _, rfl, b7, r7, mo, rfl, hb7, pr7, fun y2 => ⟨rfl, ?_⟩⟩
          generalize decide (V.bl y1 = V.bl y2) = h2
          refine ⟨by show 2 ≤ sizeLine; decide, fun L2 nL2 => ⟨_, rfl, _, rfl, rfl, .inr ⟨_, rfl, ?_⟩⟩⟩
          generalize (!decide (V.bl h2 = V.bl tu)) = bb
          obtain ⟨kind, hk, ek⟩ : ∃ kind : Str, atI [V.str "one", V.str "same"] (if bb = true then 1 else 0) = some (.str kind) ∧ (kind = "one" ∨ kind = "same") := by
            cases bb
            · exact ⟨_, atI_nat (j := 0) rfl, .inl rfl⟩
            · exact ⟨_, atI_nat (j := 1) rfl, .inr rfl⟩
          have E8 := E6.new nL2 (o := .lst [.str "one", .str "same"])
          have hp8 := hp6.new nL2 (o := .lst [.str "one", .str "same"])
          have k8 := k6.new nL2 (o := .lst [.str "one", .str "same"])
          have h98 : upd G L2 (.lst [.str "one", .str "same"]) E9 = some (.lst [.int u, .int v]) := by
            rw [upd_ne (ne_of_none h9 nL2)]
            exact h9
          obtain ⟨as8, t8, z8, lo8, hi8, hA8, la8, gt8, ht8, gz8⟩ := E8.town hu
          obtain ⟨as9, t9, z9, lo9, hi9, hA9, la9, gt9, ht9, gz9⟩ := E8.town hv
          refine ⟨L2, _, _, _, rfl, rfl, .inl (.inl upd_same), hk, ?_⟩
          refine ⟨_, rfl, _, rfl, E9, _, 0, .int u, rfl, rfl, .inl (.inl h98), atI_nat (j := 0) rfl, a, _, _, _, rfl, rfl, .inl (.inl hA8), atI_nat gt8, t8, _, 0, .str z8, rfl, rfl, .inl (.inl ht8), atI_nat (j := 0) rfl, ?_⟩
          refine ⟨_, rfl, _, rfl, E9, _, 1, .int v, rfl, rfl, .inl (.inl h98), atI_nat (j := 1) rfl, a, _, _, _, rfl, rfl, .inl (.inl hA9), atI_nat gt9, t9, _, 0, .str z9, rfl, rfl, .inl (.inl ht9), atI_nat (j := 0) rfl, ?_⟩
          refine ⟨_, rfl, by show 4 ≤ sizeLine; decide, fun T nT => ?_⟩
          refine q [.str kind, .str z8, .str z9, .int mo] T _ (.inr ⟨kind, z8, z9, mo, rfl, ek, List.mem_of_getElem? gz8, List.mem_of_getElem? gz9, ?_, m0, m1⟩) (k8.fresh hp8 nT) upd_same ((hp8.new nT).more (by omega)) (k8.new nT)
          intro ez
          rw [ez] at gz8
          have l := EN.towns.1
          exact uv ((List.getElem?_inj (by rw [List.length_map]; omega) EN.towns.2.1).mp (gz8.trans gz9.symm))
    · rintro sl G ⟨rfl, E6, hp6, k6⟩
      refine ⟨by show 2 ≤ sizeLine; decide, fun L2 nL2 => ⟨_, rfl, _, rfl, rfl, .inr ⟨_, rfl, ?_⟩⟩⟩
      generalize (!decide (V.bl he = V.bl tu)) = bb
      obtain ⟨kind, hk, ek⟩ : ∃ kind : Str, atI [V.str "none", V.str "market"] (if bb = true then 1 else 0) = some (.str kind) ∧ (kind = "market" ∨ kind = "none") := by
        cases bb
        · exact ⟨_, atI_nat (j := 0) rfl, .inr rfl⟩
        · exact ⟨_, atI_nat (j := 1) rfl, .inl rfl⟩
      have E8 := E6.new nL2 (o := .lst [.str "none", .str "market"])
      have hp8 := hp6.new nL2 (o := .lst [.str "none", .str "market"])
      have k8 := k6.new nL2 (o := .lst [.str "none", .str "market"])
      obtain ⟨as8, t8, z8, lo8, hi8, hA8, la8, gt8, ht8, gz8⟩ := E8.town hrk
      refine ⟨L2, _, _, _, rfl, rfl, .inl (.inl upd_same), hk, ?_⟩
      refine ⟨_, rfl, _, rfl, a, _, _, _, rfl, rfl, .inl (.inl hA8), atI_nat gt8, t8, _, 0, .str z8, rfl, rfl, .inl (.inl ht8), atI_nat (j := 0) rfl, ?_⟩
      refine ⟨_, rfl, by show 3 ≤ sizeLine; decide, fun T nT => ?_⟩
      exact q [.str kind, .str z8, .int mo] T _ (.inl ⟨kind, z8, mo, rfl, ek, List.mem_of_getElem? gz8, m0, m1⟩) (k8.fresh hp8 nT) upd_same ((hp8.new nT).more (by omega)) (k8.new nT)
end
end Md

namespace Md
open PySem PySem.Spec PyProof.Rows L2
abbrev sWide : Stmt := top 29
theorem Rows.put {G : Hp} {a F : Addr} {rs : List (List V)} {xs : List V} {o : HO} (h : Rows G a rs) (hF : G F = some (.lst xs)) (ne : a ≠ F) : Rows (upd G F o) a rs := by
  obtain ⟨as, h1, h2⟩ := h
  refine ⟨as, by rw [upd_ne ne]; exact h1, paired_imp h2 fun b r z => ?_⟩
  rw [upd_ne fun e => by rw [e, hF] at z; cases z]
  exact z
/-- a drawn sheet -/
structure Sheet (ts ns : List (List V)) : Prop where
  towns : ∀ r ∈ ts, TownB r
  nodup : (ts.map nameOf).Nodup
  notes : ∀ r ∈ ns, NoteR (ts.map nameOf) r
  few : ts.length ≤ 20
  few2 : ns.length ≤ 60
section
variable {P : Program} {w : World} {K : PySem.W.Frag} {mg : Str → Option Value} {base : Heap}
def spWide : Sp := fun vs H Q _ => ∃ (p : Addr) (c : Nat), vs = [.ref p] ∧ PurseAt H p c ∧ c ≤ 800000 ∧
  ∀ (ts ns : List (List V)) q a b H', Sheet ts ns → H q = none → H' q = some (.tup [.ref a, .ref b]) → Rows H' a ts → Rows H' b ns → PurseAt H' p (c + 3000) → Keep p H H' → Q (.ref q) H'
abbrev nWide : List Str := ["purse", "places", "picks", "entries", "turn", "pair"]
theorem scWide : FnScope nWide ["purse"] (defScope sWide) := ⟨rfl, rfl, rfl, by decide +kernel, rfl, by decide +kernel, by decide +kernel⟩
theorem ok_wide {f fC fL fP fI fE : Addr} {fd fdC fdL fdP fdI fdE : FuncData} {k : Nat} (F : Fun K "_law_mk_wide" "_law_mk_wide" sWide f fd) (C : CoinAt P w K mg base fC fdC) (PL : DefAt P w K mg base "_law_mk_places" fL fdL ["purse", "count", "top"] 3 spPlaces)
    (PK : DefAt P w K mg base "_law_mk_picks" fP fdP ["purse", "places"] 2 spPicks) (PR : DefAt P w K mg base "_law_mk_pair" fI fdI ["purse", "places"] 2 spPair) (EN : DefAt P w K mg base "_law_mk_entry" fE fdE ["purse", "places", "pair", "picks", "is_true"] 3 spEntry) (B : Blt mg) :
    FnOk P w K mg base CX0 (k + 4) f fd ["purse"] spWide := by
  have GC := C.ok (k + 2)
  have GL := PL.ok k
  have GP := PK.ok (k + 1)
  have GI := PR.ok (k + 1)
  have GE := EN.ok k
  refine F.ok scWide (fun vs H Q E h => ?_) (fun cdv A outer s H vs Q E hr h => ?_)
  · obtain ⟨p, c, rfl, _⟩ := h
    rfl
  · obtain ⟨p, c, rfl, hp, hc, q⟩ := h
    have nd := scWide.nd
    refine ⟨_, pss_cons (ps_set (i := 1) nd rfl (.inl rfl) (pe_call GL hr (by rfl) PL.mg PL.kp PL.b .nil pass0 (pa_cons (pv 0) (pa_cons (pe_call GC hr (by rfl) C.mg C.kp C.b .nil pass0 (pa_cons (pv 0) (pa_cons pe_int pa_nil)))
        (pa_cons (pe_ix ix_list (pe_lst (pa_cons pe_int (pa_cons (pe_op op_pow pe_int pe_int) pa_nil))) (pe_call GC hr (by rfl) C.mg C.kp C.b .nil pass0 (pa_cons (pv 0) (pa_cons pe_int pa_nil))) (fun _ _ => rfl)) pa_nil)))))
      (pss_cons (ps_if (pt_cmpR (op_eqD hr.units) (pv 1) (pe_lst pa_nil) (nomark _)) (pss_one (ps_ret (pe_tup (pa_cons (pe_lst pa_nil) (pa_cons (pe_lst pa_nil) pa_nil))))) pss_nil)
      (pss_cons (ps_par (i := 2) (j := 3) rfl nd rfl rfl (by decide) rfl rfl (pa_cons (pe_call GP hr (by rfl) PK.mg PK.kp PK.b .nil pass0 (pa_cons (pv 0) (pa_cons (pv 1) pa_nil))) (pa_cons (pe_lst pa_nil) pa_nil)) (by rfl))
      (pss_cons (ps_for PassesOwn.never rfl (pi_range1 rfl B.range (pa_cons (pe_call GC hr (by rfl) C.mg C.kp C.b .nil pass0 (pa_cons (pv 0) (pa_cons (pe_ix ix_list (pe_lst (pa_cons pe_int (pa_cons pe_int pa_nil))) (pe_call GC hr (by rfl) C.mg C.kp C.b .nil pass0 (pa_cons (pv 0) (pa_cons pe_int pa_nil))) (fun _ _ => rfl)) pa_nil))) pa_nil)) (pg_name (i := 4) nd rfl (.inl rfl))
        (pss_cons (ps_set (i := 5) nd rfl (.inl rfl) (pe_call GI hr (by rfl) PR.mg PR.kp PR.b .nil pass0 (pa_cons (pv 0) (pa_cons (pv 1) pa_nil))))
        (pss_one (ps_expr (pe_bm PySem.F.plainAttrs_list PySem.F.slot_list_append PySem.F.type_list_append mt_append (pv 3) (pa_cons (pe_call GE hr (by rfl) EN.mg EN.kp EN.b .nil pass0 (pa_cons (pv 0) (pa_cons (pv 1) (pa_cons (pv 5) (pa_cons (pv 2) (pa_cons pe_bl pa_nil)))))) pa_nil))))))
      (pss_one (ps_ret (pe_tup (pa_cons (pv 1) (pa_cons (pv 3) pa_nil)))))))), ?_⟩
    refine ⟨_, rfl, _, rfl, p, c, 21, rfl, hp, by omega, by decide, by decide, fun m G1 m0 m1 hp1 k1 => ?_⟩
    obtain ⟨m, rfl⟩ : ∃ n : Nat, m = n := ⟨m.toNat, by omega⟩
    refine ⟨_, _, rfl, rfl, ⟨by decide, by decide, by decide⟩, by show 2 ≤ sizeLine; decide, fun L nL => ⟨_, rfl, p, _, 2, rfl, hp1.new nL, by omega, by decide, by decide, fun d G2 d0 d1 hp2 k2 => ?_⟩⟩
    obtain ⟨t, ht, t1, t2⟩ : ∃ t : Int, atI [V.int 8, V.int (10 ^ 6)] d = some (.int t) ∧ 1 ≤ t ∧ t ≤ 10 ^ 6 := by
      have d01 : d = 0 ∨ d = 1 := by omega
      rcases d01 with rfl | rfl
      · exact ⟨_, atI_nat (j := 0) rfl, by decide, by decide⟩
      · exact ⟨_, atI_nat (j := 1) rfl, by decide, by decide⟩
    have kk := (k1.new nL).trans k2
    refine ⟨L, _, d, _, rfl, rfl, .inl (.inl (k2 _ _ upd_same (hp1.ne_new nL))), ht, p, _, m, t, rfl, hp2, by omega, by omega, t1, t2, fun ts a G3 tT na3 hA hp3 k3 => ?_⟩
    have fa := kk.fresh hp2 na3
    have k4 := kk.trans k3
    have flat : ∀ r ∈ ts, RowF r := fun r hr => (tT.2.2 r hr).flat
    have few := tT.1
    -- none
    refine ⟨_, rfl, Nat.zero_le _, fun N nN => ⟨.list (ts.map rowD), .list [], rows_dp (hA.new nN) flat, .lst (.inl (.inl upd_same)) .nil, (rows_nice flat).shaped (by decide), by rfl, _, rfl, ite2 (fun e => ?_) (fun e => ?_)⟩⟩
    · have hp5 := hp3.new nN (o := .lst [])
      have k5 := k4.new nN (o := .lst [])
      refine ⟨Nat.zero_le _, fun a1 n1 => ⟨Nat.zero_le _, fun a2 n2 => ⟨by show 2 ≤ sizeLine; decide, fun T nT => ?_⟩⟩⟩
      have k8 := ((k5.new n1).new n2).new nT (o := .tup [.ref a1, .ref a2])
      have hp8 := ((hp5.new n1).new n2).new nT (o := .tup [.ref a1, .ref a2])
      refine q [] [] T a1 a2 _ ⟨(fun r hr => by cases hr), .nil, (fun r hr => by cases hr), by decide, by decide⟩ (((k5.new n1).new n2).fresh ((hp5.new n1).new n2) nT) upd_same ?_ ?_ (hp8.more (by omega)) k8
      · exact (Rows.new (Rows.new ⟨[], upd_same, .nil⟩ n2) nT)
      · exact Rows.new ⟨[], upd_same, .nil⟩ nT
    · have m1' : 1 ≤ m := by
        cases ts with
        | nil => exact absurd rfl e
        | cons r rs =>
          rw [List.length_cons] at few
          omega
      have hp5 := hp3.new nN (o := .lst [])
      have k5 := k4.new nN (o := .lst [])
      have hA5 := hA.new nN (o := .lst [])
      refine ⟨_, rfl, _, rfl, p, a, _, m, ts, rfl, hp5, by omega, by omega, hA5, tT, fun ps e G6 lp good ne hE hp6 k6 => ⟨Nat.zero_le _, fun F0 nF0 => ⟨_, _, rfl, ?_⟩⟩⟩
      have hA6 := hA5.keep hp5 k6
      have k56 := k5.trans k6
      have w0 := Work.start hp6 k56 nF0
      have hA7 := hA6.new nF0 (o := .lst [])
      have hE7 := hE.new nF0 (o := .lst [])
      have aF : a ≠ F0 := by
        obtain ⟨as, h, _⟩ := hA6
        exact ne_of_none h nF0
      have eF : e ≠ F0 := by
        obtain ⟨as, h, _⟩ := hE
        exact ne_of_none h nF0
      -- how many
      refine ⟨_, rfl, by show 2 ≤ sizeLine; decide, fun L2 nL2 => ⟨_, rfl, p, _, 2, rfl, w0.purse.new nL2, by omega, by decide, by decide, fun d2 G8 d0 d1 hp8 k8 => ?_⟩⟩
      obtain ⟨t2, ht2, t21, t22⟩ : ∃ t : Int, atI [V.int 7, V.int 61] d2 = some (.int t) ∧ 1 ≤ t ∧ t ≤ 61 := by
        have d01 : d2 = 0 ∨ d2 = 1 := by omega
        rcases d01 with rfl | rfl
        · exact ⟨_, atI_nat (j := 0) rfl, by decide, by decide⟩
        · exact ⟨_, atI_nat (j := 1) rfl, by decide, by decide⟩
      have w8 := (w0.new nL2 (o := .lst [.int 7, .int 61])).step hp8 k8
      have hA8 := (hA7.new nL2 (o := .lst [.int 7, .int 61])).keep (w0.purse.new nL2) k8
      have hE8 := (hE7.new nL2 (o := .lst [.int 7, .int 61])).keep (w0.purse.new nL2) k8
      refine ⟨L2, _, d2, _, rfl, rfl, .inl (.inl (k8 _ _ upd_same (w0.purse.ne_new nL2))), ht2, p, _, t2, rfl, hp8, by omega, t21, by omega, fun j G9 j0 j1 hp9 k9 => ?_⟩
      have w9 := w8.step hp9 k9
      have hA9 := hA8.keep hp8 k9
      have hE9 := hE8.keep hp8 k9
      obtain ⟨j, rfl⟩ : ∃ n : Nat, j = n := ⟨j.toNat, by omega⟩
      refine ⟨(j : Int), rfl, by omega, by omega, ?_⟩
      refine for_range (lo := 0) (n := j) (fun i sl G => ∃ (ns : List (List V)) (v4 v5 : Option V), sl = [some (.ref p), some (.ref a), some (.ref e), some (.ref F0), v4, v5] ∧
        (∀ r ∈ ns, NoteR (ts.map nameOf) r) ∧ ns.length = i ∧ Rows G a ts ∧ Rows G e ps ∧ Work H G p F0 (c + 600 + 13 * i) ns) ⟨[], none, none, rfl, (fun r hr => by cases hr), rfl, hA9, hE9, w9.more (by omega)⟩ ?_ ?_
      · rintro i sl G hi ⟨ns, v4, v5, rfl, gn, ln, hA10, hE10, w10⟩
        have hA10' := hA10
        obtain ⟨as, hAs, hPs⟩ := hA10'
        refine ⟨_, rfl, _, rfl, p, a, _, m, as, rfl, w10.purse, by omega, m1', by omega, hAs, by rw [paired_len hPs, few], fun is b G11 pi nb hB hp11 k11 => ?_⟩
        have w11 := w10.step hp11 k11
        have hA11 := hA10.keep w10.purse k11
        have hE11 := hE10.keep w10.purse k11
        obtain ⟨as11, h11, _⟩ := w11.rows
        refine ⟨_, rfl, .inl ⟨rfl, _, .inl (.inl h11)⟩, _, rfl, _, rfl, _, rfl, _, rfl, p, a, b, e, _, m, ts, is, ps, rfl, hp11, by omega, m1', by omega, ⟨hA11, tT, hB, pi, hE11, lp, good⟩, fun r T G12 nr nT hT hp12 k12 => ?_⟩
        have w12 := w11.step hp12 k12
        obtain ⟨as12, h12, l12, w13⟩ := w12.push hT
        refine ⟨F0, _, _, rfl, rfl, h12, ?_, ns ++ [r], _, _, rfl, ?_, ?_, (hA11.keep hp11 k12).put h12 aF, (hE11.keep hp11 k12).put h12 eF, w13.more (by omega)⟩
        · rw [List.length_map]
          exact small1000 (by omega)
        · intro x hx
          rcases List.mem_append.mp hx with z | z
          · exact gn x z
          · rw [List.mem_singleton.mp z]
            exact nr
        · rw [List.length_append, ln]
          rfl
      · rintro sl G ⟨ns, v4, v5, rfl, gn, ln, hA10, hE10, w10⟩
        refine ⟨_, rfl, _, rfl, by show 2 ≤ sizeLine; decide, fun T nT => ?_⟩
        exact q ts ns T a F0 _ ⟨tT.2.2, tT.2.1, gn, by omega, by omega⟩ (w10.none_new nT) upd_same (hA10.new nT) (w10.rows.new nT) ((w10.new nT).more (by omega)).purse (w10.new nT).keep
end
end Md

namespace Md
open PySem PySem.Spec PyProof.Rows L2
abbrev sErr : Stmt := inClass (top 1) 0
section
variable {P : Program} {w : World} {K : PySem.W.Frag} {mg : Str → Option Value} {base : Heap}
/-- the constructor of all errors -/
def spErr (K : PySem.W.Frag) : Sp := fun vs H Q _ => ∃ (a C : Addr) (v : V), vs = [.ref a, v] ∧ OexC K C ∧ PySem.W.findIn K (.ref C) "value" = some none ∧ H a = some (exo a C none) ∧
  ∀ dx, H dx = none → dx ≠ a → Q .non (upd (upd H dx (exd dx [("value", v)])) a (exo a C (some dx)))
theorem scErr : FnScope ["self", "value"] ["self", "value"] (defScope sErr) := ⟨rfl, rfl, rfl, by decide +kernel, rfl, by decide +kernel, by decide +kernel⟩
theorem ok_err {f : Addr} {fd : FuncData} {k : Nat} (F : Fun K "__init__" "MarketError.__init__" sErr f fd) : FnOk P w K mg base CX0 (k + 1) f fd ["self", "value"] (spErr K) := by
  refine F.ok scErr (fun vs H Q E h => ?_) (fun cdv A outer s H vs Q E hr h => ?_)
  · obtain ⟨a, C, v, rfl, _⟩ := h
    rfl
  · obtain ⟨a, C, v, rfl, T, hno, ha, q⟩ := h
    refine ⟨_, pss_one (ps_ost (pv 0) (pv 1)), ?_⟩
    exact ⟨_, rfl, _, rfl, a, C, rfl, T, hno, .inl ⟨ha, fun dx n ne => q dx n ne⟩⟩
/-- a class of errors -/
structure Er (K : PySem.W.Frag) (mg : Str → Option Value) (fI : Addr) (x : Str) (C : Addr) : Prop where
  t : OexC K C
  i : PySem.W.findIn K (.ref C) "__init__" = some (some (.ref fI))
  no : PySem.W.findIn K (.ref C) "value" = some none
  g : mg x = some (.ref C)
/-- the constructor of errors, found -/
structure ErI (P : Program) (w : World) (K : PySem.W.Frag) (mg : Str → Option Value) (base : Heap) (fI : Addr) (fd : FuncData) : Prop where
  ty : PySem.W.typeIn K (.ref fI) = some (.type "function")
  ok : ∀ k, FnOk P w K mg base CX0 (k + 1) fI fd ["self", "value"] (spErr K)
  b : Binds K fd ["self", "value"] []
/-- an error of the class at C with this value is let out -/
def Out (H : Hp) (E : XK) (C : Addr) (v : V) : Prop := ∀ d H', Same H H' → H d = none → H' d = some (.xd [("value", v)]) → E (.ref C) (some d) H'
theorem Out.same {H G : Hp} {E : XK} {C : Addr} {v : V} (o : Out H E C v) (s : Same H G) : Out G E C v := fun d H' s2 n e => o d H' (s.trans s2) (s.free n) e
theorem er_read {H : Hp} {fI C : Addr} {x : Str} {v : V} {R : XK} (E : Er K mg fI x C) (o : Out H R C v) : [v].length ≤ 1000 ∧ ∀ a, H a = none → spErr K (.ref a :: ([v] ++ [])) (upd H a (exo a C none))
    (fun u H2 => u = .non ∧ ∃ (d : Addr) (fs : List (Str × V)), H2 a = some (exo a C (some d)) ∧ H2 d = some (exd d fs) ∧ H d = none ∧ R (.ref C) (some d) (upd (del H2 a) d (.xd fs))) (fun _ _ _ => False) := by
  refine ⟨by simp, fun a na => ⟨a, C, v, rfl, E.t, E.no, upd_same, fun dx nd ne => ⟨rfl, dx, [("value", v)], upd_same, ?_, ?_, ?_⟩⟩⟩
  · rw [upd_ne ne, upd_same]
  · rw [upd_ne ne] at nd
    exact nd
  · refine o dx _ (fun b u z => ?_) (by rw [upd_ne ne] at nd; exact nd) upd_same
    have hba := ne_of_none z na
    have hbd : b ≠ dx := fun e => by
      rw [upd_ne ne] at nd
      rw [e, nd] at z
      cases z
    rw [upd_ne hbd, del_ne hba, upd_ne hba, upd_ne hbd, upd_ne hba]
    exact z
/-- what is wrong first -/
inductive Fk where
  | note
  | town
  | day
def dbl : List Str → Bool
  | [y, z] => decide (y = z)
  | _ => false
/-- how many things a note of this first text has -/
def kindLen (k : Str) : Option Nat := if k = "market" ∨ k = "none" then some 3 else if k = "one" ∨ k = "same" then some 4 else none
/-- a note's form: none, or its names and its day -/
inductive Form : List V → Option (List Str × Int) → Prop
  | nil : Form [] none
  | off (k : Str) (rest : List V) (h : kindLen k ≠ some (rest.length + 1)) : Form (.str k :: rest) none
  | good (k : Str) (mids : List Str) (d : Int) (h : kindLen k = some (mids.length + 2)) : Form (.str k :: (mids.map V.str ++ [.int d])) (some (mids, d))
def faultEnd (t : V) (mids : List Str) (d : Int) : Option Str → Option (Fk × V)
  | some z => some (.town, .str z)
  | none => if dbl mids = true then some (.note, t) else if d < 0 then some (.day, .int d) else none
abbrev unknown (zs : List Str) (z : Str) : Bool := !decide (z ∈ zs)
def faultOf (zs : List Str) (t : V) : Option (List Str × Int) → Option (Fk × V)
  | none => some (.note, t)
  | some (mids, d) => faultEnd t mids d (mids.find? (unknown zs))
/-- the classes -/
structure Ers (K : PySem.W.Frag) (mg : Str → Option Value) (fI : Addr) (cls : Fk → Addr) : Prop where
  note : Er K mg fI "InvalidNote" (cls .note)
  town : Er K mg fI "UnknownTown" (cls .town)
  day : Er K mg fI "InvalidDay" (cls .day)
/-- the table, with what it lacks -/
structure Things2 (K : PySem.W.Frag) (w : World) (mg : Str → Option Value) : Prop where
  at_ : ∃ d es n, mg "THINGS" = some (.ref d) ∧ KDict K w d es n ∧ ∀ k : Str, (kindLen k = none → PySem.W.nsIn K d k = some none) ∧ ∀ m, kindLen k = some m → ∃ t, PySem.W.nsIn K d k = some (some (.int m t))
def spNote (K : PySem.W.Frag) (cls : Fk → Addr) : Sp := fun vs H Q E => ∃ (a t : Addr) (zs : List Str) (r : List V) (fm : Option (List Str × Int)), vs = [.ref a, .ref t] ∧ SqL K H a (zs.map V.str) ∧ H t = some (.tup r) ∧ r.length ≤ 100 ∧ Form r fm ∧
  (faultOf zs (.ref t) fm = none → ∀ H', Same H H' → Q .non H') ∧ ∀ k v, faultOf zs (.ref t) fm = some (k, v) → Out H E (cls k) v
theorem new_same {G : Hp} {q : Addr} {o : HO} (n : G q = none) : Same G (upd G q o) := fun b u z => by
  rw [upd_ne (ne_of_none z n)]
  exact z
theorem cut_mid (k : V) (ms : List V) (d : V) : cutV (k :: (ms ++ [d])) (some 1) (some (-1)) = ms := by
  have l : (k :: (ms ++ [d])).length = ms.length + 2 := by simp
  have s1 : HT.sIx (ms.length + 2) 0 (some 1) = 1 := by
    rw [show (1 : Int) = ((1 : Nat) : Int) from rfl, HT.sIx_nat]
    omega
  have s2 : HT.sIx (ms.length + 2) (ms.length + 2) (some (-1)) = ms.length + 1 := by
    show (if (-1 : Int) < 0 then ((-1 : Int) + ((ms.length + 2 : Nat) : Int)).toNat else min (-1 : Int).toNat (ms.length + 2)) = ms.length + 1
    rw [if_pos (by decide)]
    omega
  unfold cutV
  rw [l, s1, s2]
  simp
theorem find_first {α : Type} {p : α → Bool} : ∀ {l : List α} {i : Nat} {z : α}, l[i]? = some z → p z = true → (∀ y ∈ l.take i, p y = false) → l.find? p = some z
  | [], i, z, h, _, _ => by simp at h
  | x :: l, 0, z, h, hp, _ => by
    have e : x = z := Option.some.inj h
    subst e
    rw [List.find?_cons, hp]
  | x :: l, i + 1, z, h, hp, ho => by
    have hx : p x = false := ho x (by simp)
    rw [List.find?_cons, hx]
    exact find_first (l := l) (i := i) h hp fun y hy => ho y (by simp [hy])
theorem decide_not_in {z : Str} {zs : List Str} (h : z ∉ zs) : (!decide (z ∈ zs)) = true := by rw [decide_eq_false h]; rfl
theorem not_out {z : Str} {zs : List Str} (h : z ∈ zs) : (!decide (z ∈ zs)) = false := by rw [decide_eq_true h]; rfl
theorem passE {X : Cx} {E : XK} (tk : Takes X (fun cls d _ H => E cls d H)) : Passes (L2.CX X.prog X.w) X E := fun pins sl H s e s' I c => passAt tk sl pins H s e s' I c
/-- the first name that is no town's -/
def spAsked (K : PySem.W.Frag) (cls : Fk → Addr) : Sp := fun vs H Q E => ∃ (a c : Addr) (zs ys : List Str), vs = [.ref a, .ref c] ∧ SqL K H a (zs.map V.str) ∧ SqT K H c (ys.map V.str) ∧ ((∀ y ∈ ys, y ∈ zs) → ∀ H', Same H H' → Q .non H') ∧ ∀ z, ys.find? (unknown zs) = some z → Out H E (cls .town) (.str z)
theorem ok_asked {f fI : Addr} {fd fdI : FuncData} {cls : Fk → Addr} {k : Nat} (F : Fun K "check_asked" "check_asked" sCheckAsked f fd) (I : ErI P w K mg base fI fdI) (C : Ers K mg fI cls) : FnOk P w K mg base (L2.CX P w) (k + 3) f fd ["names", "asked"] (spAsked K cls) := by
  have G := I.ok k
  refine F.okX scAsked (fun vs H Q E h => ?_) (fun cdv A outer s H vs Q E hr h => ?_)
  · obtain ⟨a, c, zs, ys, rfl, _⟩ := h
    rfl
  · obtain ⟨a, c, zs, ys, rfl, hS, hc, q, o⟩ := h
    refine ⟨_, pss_one (ps_for (passes_of rfl) rfl (pi_tup (pv 1)) (pg_name (i := 2) scAsked.nd rfl (.inl rfl)) (pss_one (ps_if (pt_cmpR op_notIn_seq (pv 2) (pv 0) (by rfl))
        (pss_one (ps_raise rfl (takes_of rfl rfl rfl rfl) (pmk_oex C.town.t C.town.i I.ty G hr I.b .nil pass0 (by rfl) C.town.g (pa_cons (pv 2) pa_nil)))) pss_nil))), ?_⟩
    refine ⟨_, rfl, c, rfl, ⟨_, hc⟩, for_tup (K := K) (a := c) (xs := ys.map V.str) (fun i sl H2 => ∃ v2, sl = [some (.ref a), some (.ref c), v2] ∧ H2 = H ∧ ∀ z ∈ ys.take i, z ∈ zs)
      ⟨none, rfl, rfl, fun z hz => by simp at hz⟩ (fun i sl H2 _ ⟨_, _, e, _⟩ => by rw [e]; exact hc) ?_ ?_⟩
    · rintro i x sl H2 hx ⟨v3, rfl, rfl, ok⟩
      obtain ⟨z, hz, rfl⟩ := strs_at hx
      refine ⟨_, rfl, _, rfl, a, _, rfl, .inl hS, rfl, flat_strs _, _, rfl, ?_⟩
      rw [inV_str]
      by_cases hin : z ∈ zs
      · rw [decide_eq_true hin]
        refine iteF ⟨_, rfl, rfl, fun y hy => ?_⟩
        rw [List.take_add_one, hz] at hy
        rcases List.mem_append.mp hy with h | h
        · exact ok y h
        · rw [show y = z by simpa using h]
          exact hin
      · rw [decide_eq_false hin]
        refine iteT ⟨_, rfl, er_read C.town (o z ?_)⟩
        exact find_first (p := unknown zs) hz (decide_not_in hin) fun y hy => not_out (ok y hy)
    · rintro sl H2 ⟨v3, rfl, rfl, ok⟩
      rw [List.length_map, List.take_length] at ok
      exact q ok _ (Same.refl _)
theorem scNote : FnScope ["names", "note", "asked"] ["names", "note"] (defScope sCheckNote) := ⟨rfl, rfl, rfl, by decide +kernel, rfl, by decide +kernel, by decide +kernel⟩
theorem ok_note {f fI fA : Addr} {fd fdI fdA : FuncData} {cls : Fk → Addr} {k : Nat} (F : Fun K "check_note" "check_note" sCheckNote f fd) (FA : Fun K "check_asked" "check_asked" sCheckAsked fA fdA) (gA : mg "check_asked" = some (.ref fA)) (bA : Binds K fdA ["names", "asked"] []) (B : Blt mg) (TH : Things2 K w mg) (I : ErI P w K mg base fI fdI) (C : Ers K mg fI cls) : FnOk P w K mg base (L2.CX P w) (k + 4) f fd ["names", "note"] (spNote K cls) := by
  have G := I.ok (k + 1)
  have GA : FnOk P w K mg base (L2.CX P w) (k + 3) fA fdA ["names", "asked"] (spAsked K cls) := ok_asked FA I C
  refine F.okX scNote (fun vs H Q E h => ?_) (fun cdv A outer s H vs Q E hr h => ?_)
  · obtain ⟨a, t, zs, r, fm, rfl, _⟩ := h
    rfl
  · obtain ⟨a, t, zs, r, fm, rfl, hS, hT, few, fo, q, o⟩ := h
    obtain ⟨d, es, n, mT, D, tab⟩ := TH.at_
    have nd := scNote.nd
    refine ⟨_, pss_cons (ps_if (PW.pt (pw_or (pt_not (pt_truth (pv 1) (by intro _; rfl))) (pw_or1 (pt_cmpR op_ne (pe_callB call_len_seq (by rfl) B.len PySem.boot_len (pa_cons (pv 1) pa_nil))
        (pe_kget D (pe_glob (v := .ref d) rfl mT rfl) (pe_ix ix_tup (pv 1) pe_int (fun _ _ => rfl)) ⟨by rfl, by rfl, by rfl, by rfl⟩) (nomark _)))))
        (pss_one (ps_raise rfl (takes_of rfl rfl rfl rfl) (pmk_oex C.note.t C.note.i I.ty G hr I.b .nil pass0 (by rfl) C.note.g (pa_cons (pv 1) pa_nil)))) pss_nil)
      (pss_cons (ps_set (i := 2) nd rfl (.inl rfl) (pe_slice sl_tup (pv 1) (po_some pe_int) (po_some (pe_un un_neg pe_int))))
      (pss_cons (ps_expr (pe_call GA hr (by rfl) gA FA.kp bA .nil (passE (takes_of rfl rfl rfl rfl)) (pa_cons (pv 0) (pa_cons (pv 2) pa_nil))))
      (C8.pss_cut (ps_if (PW.pt (pw_and (pt_cmpR op_eq (pe_callB call_len_seq (by rfl) B.len PySem.boot_len (pa_cons (pv 2) pa_nil)) pe_int (nomark _))
        (pw_and1 (pt_cmpR op_eq (pe_ix ix_tup (pv 2) pe_int (fun _ _ => rfl)) (pe_ix ix_tup (pv 2) pe_int (fun _ _ => rfl)) (nomark _)))))
        (pss_one (ps_raise rfl (takes_of rfl rfl rfl rfl) (pmk_oex C.note.t C.note.i I.ty G hr I.b .nil pass0 (by rfl) C.note.g (pa_cons (pv 1) pa_nil)))) pss_nil)
      (pss_one (ps_if (pt_cmpR op_lt (pe_ix ix_tup (pv 1) (pe_un un_neg pe_int) (fun _ _ => rfl)) pe_int (nomark _))
        (pss_one (ps_raise rfl (takes_of rfl rfl rfl rfl) (pmk_oex C.day.t C.day.i I.ty G hr I.b .nil pass0 (by rfl) C.day.g (pa_cons (pe_ix (r := rIxT K) ix_tup (pv 1) (pe_un un_neg pe_int) (fun _ _ => rfl)) pa_nil)))) pss_nil))))), ?_⟩
    have hq : SqT K H t r := .inl (.inl hT)
    have off : faultOf zs (.ref t) fm = some (.note, .ref t) → Out H E (cls .note) (.ref t) := fun e => o _ _ e
    -- none at all
    cases fo with
    | nil =>
      refine ⟨_, rfl, false, .inr (.inl ⟨_, hq, rfl⟩), ?_⟩
      refine iteT ?_
      refine iteT ?_
      exact ⟨_, rfl, er_read C.note (off rfl)⟩
    | off kd rest hk =>
      refine ⟨_, rfl, true, .inr (.inl ⟨_, hq, rfl⟩), iteF ⟨_, rfl, t, _, rfl, .inr hq, ?_⟩⟩
      refine ⟨rfl, _, rfl, t, _, 0, .str kd, rfl, rfl, hq, atI_nat (j := 0) rfl, ?_⟩
      cases hl : kindLen kd with
      | none =>
        refine ⟨kd, _, rfl, (tab kd).1 hl, fun _ => ⟨rfl, _, rfl, ?_⟩, fun u0 e => nomatch e⟩
        exact iteT ⟨_, rfl, er_read C.note (off rfl)⟩
      | some m =>
        obtain ⟨tk, hg⟩ := (tab kd).2 m hl
        refine ⟨kd, _, rfl, hg, (fun e => nomatch e), fun u0 e => ⟨.int m, ⟨tk, (Option.some.inj e).symm⟩, rfl, _, rfl, ?_⟩⟩
        have ne : ¬ V.int (((V.str kd :: rest).length : Nat) : Int) = V.int (m : Nat) := fun z => by
          have z2 := V.int.inj z
          rw [List.length_cons] at z2
          exact hk (by rw [hl]; congr 1; omega)
        rw [decide_eq_false ne]
        exact iteT ⟨_, rfl, er_read C.note (off rfl)⟩
    | good kd mids dy hk =>
      have ll : (V.str kd :: (mids.map V.str ++ [V.int dy])).length = mids.length + 2 := by simp
      refine ⟨_, rfl, true, .inr (.inl ⟨_, hq, rfl⟩), iteF ⟨_, rfl, t, _, rfl, .inr hq, ?_⟩⟩
      obtain ⟨tk, hg⟩ := (tab kd).2 _ hk
      refine ⟨rfl, _, rfl, t, _, 0, .str kd, rfl, rfl, hq, atI_nat (j := 0) rfl, kd, _, rfl, hg, (fun e => nomatch e), fun u0 e => ⟨.int (mids.length + 2 : Nat), ⟨tk, (Option.some.inj e).symm⟩, rfl, _, rfl, iteNS (by rw [ll]) ?_⟩⟩
      refine ⟨_, rfl, 1, rfl, _, rfl, -1, rfl, t, _, rfl, hq, ?_, fun c nc => ?_⟩
      · rw [ll]
        intro z
        have z1 := z.1
        rw [show (1 : Int) = ((1 : Nat) : Int) from rfl, HT.sIx_nat] at z1
        omega
      rw [cut_mid]
      have s1 := new_same nc (o := .tup (mids.map V.str))
      refine ⟨_, rfl, _, rfl, a, c, zs, mids, rfl, s1.seq hS, .inl (.inl upd_same), fun ok H2 s2 => ?_, fun z ez => ?_⟩
      rotate_left
      · refine (o .town (.str z) ?_).same s1
        show faultEnd _ _ _ (mids.find? (unknown zs)) = _
        rw [ez]
        rfl
      · have hc : SqT K H2 c (mids.map V.str) := .inl (.inl (s2 _ _ upd_same))
        have s3 := s1.trans s2
        have none_ : mids.find? (unknown zs) = none := by
          rw [List.find?_eq_none]
          intro y hy
          rw [show unknown zs y = false from not_out (ok y hy)]
          decide
        have fo : faultOf zs (.ref t) (some (mids, dy)) = if dbl mids = true then some (.note, .ref t) else if dy < 0 then some (.day, .int dy) else none := by
          show faultEnd _ _ _ (mids.find? (unknown zs)) = _
          rw [none_]
          rfl
        have hT1 := s3 _ _ hT
        -- the day, where the names are not one name twice
        refine ⟨fun sl G => sl = [some (.ref a), some (.ref t), some (.ref c)] ∧ G = H2 ∧ dbl mids = false, ?_, ?_⟩
        · refine ⟨_, rfl, c, _, rfl, .inr hc, rfl, _, rfl, ite2 (fun e => ?_) (fun e => iteF ⟨rfl, rfl, ?_⟩)⟩
          · obtain ⟨y, z, rfl⟩ : ∃ y z, mids = [y, z] := by
              have l := V.int.inj (of_decide_eq_true e)
              rw [List.length_map] at l
              match mids, l with
              | [y, z], _ => exact ⟨y, z, rfl⟩
            refine ⟨_, rfl, c, _, 0, .str y, rfl, rfl, hc, atI_nat (j := 0) rfl, _, rfl, c, _, 1, .str z, rfl, rfl, hc, atI_nat (j := 1) rfl, rfl, _, rfl, ite2 (fun e2 => ?_) (fun e2 => ⟨rfl, rfl, ?_⟩)⟩
            · have yz : y = z := V.str.inj (of_decide_eq_true e2)
              refine ⟨_, rfl, er_read C.note ((o .note (.ref t) ?_).same s3)⟩
              rw [fo, if_pos (show dbl [y, z] = true from decide_eq_true yz)]
            · exact decide_eq_false fun yz => e2 (decide_eq_true (by rw [yz]))
          · match mids, e with
            | [], _ => rfl
            | [_], _ => rfl
            | [_, _], e => exact absurd rfl e
            | _ :: _ :: _ :: _, _ => rfl
        · rintro sl G ⟨rfl, rfl, db⟩
          rw [db] at fo
          refine ⟨_, rfl, _, rfl, t, _, -1, .int dy, rfl, rfl, .inl (.inl hT1), ?_, _, _, rfl, rfl, _, rfl, ite2 (fun e => ?_) (fun e => ?_)⟩
          · exact atI_last (V.str kd :: mids.map V.str) (V.int dy)
          · have neg : dy < 0 := of_decide_eq_true e
            refine ⟨_, rfl, _, rfl, t, _, -1, .int dy, rfl, rfl, .inl (.inl hT1), atI_last (V.str kd :: mids.map V.str) (V.int dy), er_read C.day ((o .day (.int dy) ?_).same s3)⟩
            rw [fo, if_neg (by decide), if_pos neg]
          · have pos : ¬ dy < 0 := fun z => e (decide_eq_true z)
            refine q ?_ _ s3
            rw [fo, if_neg (by decide), if_neg pos]
end
end Md

namespace Md
open PySem PySem.Spec PyProof.Rows L2
/-- nothing is wrong with a note -/
def Fine (zs : List Str) (r : List V) : Prop := r.length ≤ 100 ∧ ∃ fm, Form r fm ∧ ∀ t, faultOf zs t fm = none
theorem NoteR.fine {zs : List Str} {r : List V} (h : NoteR zs r) : Fine zs r := by
  rcases h with ⟨kind, z, day, rfl, hk, hz, d0, d1⟩ | ⟨kind, y, z, day, rfl, hk, hy, hz, hyz, d0, d1⟩
  · refine ⟨by simp, some ([z], day), .good kind [z] day (by unfold kindLen; rw [if_pos hk]; rfl), fun t => ?_⟩
    show faultEnd _ _ _ ([z].find? (unknown zs)) = none
    have e : [z].find? (unknown zs) = none := by
      rw [List.find?_eq_none]
      intro x hx
      rw [List.mem_singleton.mp hx, show unknown zs z = false from not_out hz]
      decide
    rw [e]
    show (if dbl [z] = true then some (Fk.note, t) else if day < 0 then some (Fk.day, V.int day) else none) = none
    rw [if_neg (by show ¬ false = true; decide), if_neg (by omega)]
  · have nk : ¬ (kind = "market" ∨ kind = "none") := by
      rcases hk with rfl | rfl
      · decide +kernel
      · decide +kernel
    refine ⟨by simp, some ([y, z], day), .good kind [y, z] day (by unfold kindLen; rw [if_neg nk, if_pos hk]; rfl), fun t => ?_⟩
    show faultEnd _ _ _ ([y, z].find? (unknown zs)) = none
    have e : [y, z].find? (unknown zs) = none := by
      rw [List.find?_eq_none]
      intro x hx
      have w : x = y ∨ x = z := by simpa using hx
      have m : x ∈ zs := by
        rcases w with rfl | rfl
        · exact hy
        · exact hz
      rw [show unknown zs x = false from not_out m]
      decide
    rw [e]
    show (if dbl [y, z] = true then some (Fk.note, t) else if day < 0 then some (Fk.day, V.int day) else none) = none
    rw [if_neg (by show ¬ decide (y = z) = true; rw [decide_eq_false hyz]; decide), if_neg (by omega)]
section
variable {P : Program} {w : World} {K : PySem.W.Frag} {mg : Str → Option Value} {base : Heap}
def spInitX (C : Addr) (cls : Fk → Addr) : Sp := fun vs H Q E => ∃ (p dx t n : Addr) (ts : List (List V)), vs = [.ref p, .ref t, .ref n] ∧ H p = some (.ins C dx []) ∧ Rows H t ts ∧ (∀ r ∈ ts, TownR r) ∧ (ts.map nameOf).Nodup ∧ ts.length ≤ 100 ∧
  ((∃ ns, Rows H n ns ∧ (∀ r ∈ ns, Fine (ts.map nameOf) r) ∧ ns.length ≤ 100 ∧ ∀ a b H', H a = none → H b = none → DiaryAt C H' p dx a b ts ns → Keep p H H' → Q .non H') ∨
    ∃ (bs : List Addr) (tl : Addr) (ns0 : List (List V)) (r : List V) (fm : Option (List Str × Int)) (k : Fk) (v : V), H n = some (.lst ((bs ++ [tl]).map V.ref)) ∧ Paired (fun b r => H b = some (.tup r)) bs ns0 ∧ (∀ r ∈ ns0, Fine (ts.map nameOf) r) ∧ ns0.length ≤ 100 ∧
      H tl = some (.tup r) ∧ r.length ≤ 100 ∧ Form r fm ∧ faultOf (ts.map nameOf) (.ref tl) fm = some (k, v) ∧ Out H E (cls k) v)
theorem ok_initX {f C fT fN : Addr} {fd fdT fdN : FuncData} {cls : Fk → Addr} {k : Nat} (F : Fun K "__init__" "Diary.__init__" sInit f fd) (cl : Cl K C) (B : Blt mg)
    (GT : FnOk P w K mg base CX0 (k + 4) fT fdT ["towns"] (spCheckTowns K)) (gT : mg "check_towns" = some (.ref fT)) (kT : PySem.W.keepIn K (.ref fT) = true) (bT : Binds K fdT ["towns"] [])
    (GN : FnOk P w K mg base (L2.CX P w) (k + 4) fN fdN ["names", "note"] (spNote K cls)) (gN : mg "check_note" = some (.ref fN)) (kN : PySem.W.keepIn K (.ref fN) = true) (bN : Binds K fdN ["names", "note"] []) :
    FnOk P w K mg base (L2.CX P w) (k + 5) f fd ["self", "towns", "notes"] (spInitX C cls) := by
  refine F.okX scInit (fun vs H Q E h => ?_) (fun cdv A outer s H vs Q E hr h => ?_)
  · obtain ⟨p, dx, t, n, ts, rfl, _⟩ := h
    rfl
  · obtain ⟨p, dx, t, n, ts, rfl, hp, ⟨tas, ht, hts⟩, goodT, nodup, fewT, way⟩ := h
    have nd := scInit.nd
    refine ⟨_, pss_cons (ps_expr (pe_call GT hr (by rfl) gT kT bT .nil pass0 (pa_cons (pv 1) pa_nil)))
      (pss_cons (ps_setLc (i := 3) (own := [("town", 5)]) (g := gName 5) (tt := tYes) rfl nd rfl rfl (sw_true rfl rfl rfl (by decide +kernel)) (pi_list (pv 1)) (blkOk_by (N := ["self", "towns", "notes", "names", "note", "town"]) (sc := defScope sInit) (by decide +kernel))
        (fun _ _ _ _ _ => pg_name (i := 5) nd rfl (.inl rfl)) (fun _ _ _ _ _ => pts_nil) (fun _ _ _ _ _ => pe_ix (r := rIxT K) ix_tup (pv 5) pe_int (fun _ _ => rfl)))
      (pss_cons (ps_for (passes_of rfl) rfl (pi_list (pv 2)) (pg_name (i := 4) nd rfl (.inl rfl)) (pss_one (ps_expr (pe_call GN hr (by rfl) gN kN bN .nil (passE (takes_of rfl rfl rfl rfl)) (pa_cons (pv 3) (pa_cons (pv 4) pa_nil))))))
      (pss_cons (ps_fld (pv 0) (pe_callTy call_list_of (by rfl) B.list (by decide +kernel) (pa_cons (pv 1) pa_nil)) rfl)
      (pss_one (ps_fld (pv 0) (pe_callTy call_list_of (by rfl) B.list (by decide +kernel) (pa_cons (pv 2) pa_nil)) rfl))))), ?_⟩
    -- check_towns(towns)
    refine ⟨_, rfl, t, ts, rfl, ⟨tas, .inl (.inl ht), hts⟩, goodT, nodup, fewT, fun H1 s1 => ?_⟩
    -- names
    have ln : tas.length = ts.length := paired_len hts
    refine ⟨_, rfl, t, rfl, ⟨_, .inl (.inl (s1 _ _ ht))⟩, fun D nD => ?_⟩
    refine lcp_list (K := K) (a := t) (xs := tas.map V.ref) (ys := (ts.map nameOf).map V.str) (.inl (.inl (s1 _ _ ht))) nD (by rw [List.length_map, List.length_map, List.length_map, ln]) (by rw [List.length_map, ln]; exact small1000 (by omega)) (fun i x y R hx hy r => ?_) ?_
    · obtain ⟨b, rw_, ex, hr1, hb⟩ := rows_ref hts hx
      subst ex
      obtain ⟨z, lo, hi, er, _⟩ := goodT rw_ (List.mem_of_getElem? hr1)
      have ey : y = V.str z := by
        rw [List.getElem?_map, List.getElem?_map, hr1, er] at hy
        exact (Option.some.inj hy).symm
      subst ey
      subst er
      refine ⟨rfl, _, rfl, b, [.str z, .int lo, .int hi], 0, .str z, rfl, rfl, .inl (.inl ?_), atI_nat (j := 0) rfl, r⟩
      unfold grown
      rw [upd_ne (ne_of_none (s1 _ _ hb) nD)]
      exact s1 _ _ hb
    · -- each note
      have s2 : Same H (upd H1 D (.lst ((ts.map nameOf).map V.str))) := s1.trans (new_same nD)
      rcases way with ⟨ns, ⟨nas, hn, hns⟩, goodN, fewN, q⟩ | ⟨bs, tl, ns0, r0, fm0, k0, v0, hn, hbs, goodN, fewN, htl, l0, f0, e0, o0⟩
      · refine ⟨_, rfl, n, rfl, ⟨_, .inl (.inl (s2 _ _ hn))⟩, for_list (K := K) (a := n) (xs := nas.map V.ref) (fun i sl H2 => ∃ v4 v5, sl = [some (.ref p), some (.ref t), some (.ref n), some (.ref D), v4, v5] ∧ Same H H2 ∧ H2 D = some (.lst ((ts.map nameOf).map V.str)))
          ⟨none, none, rfl, s2, upd_same⟩ (fun i sl H2 _ ⟨_, _, _, sm, _⟩ => .inl (.inl (sm _ _ hn))) ?_ ?_⟩
        · rintro i x sl H2 hx ⟨v4, v5, rfl, sm, hD⟩
          obtain ⟨b, rw_, ex, hr1, hb⟩ := rows_ref hns hx
          subst ex
          obtain ⟨l, fm, fo, fa⟩ := goodN rw_ (List.mem_of_getElem? hr1)
          refine ⟨_, rfl, _, rfl, D, b, _, rw_, fm, rfl, .inl (.inl hD), sm _ _ hb, l, fo, fun _ H3 s3 => ⟨_, _, rfl, sm.trans s3, s3 _ _ hD⟩, fun k v e => ?_⟩
          rw [fa] at e
          cases e
        · rintro sl H2 ⟨v4, v5, rfl, sm, hD⟩
          -- the two lists
          have hp2 := sm _ _ hp
          refine ⟨_, rfl, t, _, rfl, .inl (.inl (.inl (sm _ _ ht))), fun a na => ?_⟩
          have npa : p ≠ a := ne_of_none hp2 na
          refine ⟨_, rfl, p, C, dx, [], rfl, (by rw [upd_ne npa]; exact hp2), cl.cl, cl.nT, (by show 0 < 1000; decide), ?_⟩
          have hn2 := sm _ _ hn
          have h3 : ∀ (c : Addr) (o : HO), H2 c = some o → c ≠ p → upd (upd H2 a (.lst (tas.map V.ref))) p (.ins C dx (putF "_towns" (.ref a) [])) c = some o := fun c o z ne => by
            rw [upd_ne ne, upd_ne (ne_of_none z na)]
            exact z
          have nnp : n ≠ p := ne_of hn2 hp2 (by intro z; cases z)
          have nap : a ≠ p := fun e => npa e.symm
          refine ⟨_, rfl, n, _, rfl, .inl (.inl (.inl (h3 _ _ hn2 nnp))), fun b nb => ?_⟩
          have nbp : b ≠ p := fun e => by rw [e, upd_same] at nb; cases nb
          have nba : b ≠ a := fun e => by rw [e, upd_ne nap, upd_same] at nb; cases nb
          have nb2 : H2 b = none := by rw [upd_ne nbp, upd_ne nba] at nb; exact nb
          refine ⟨_, rfl, p, C, dx, putF "_towns" (.ref a) [], rfl, (by rw [upd_ne (fun e => nbp e.symm), upd_same]), cl.cl, cl.nN, (by show 1 < 1000; decide), ?_⟩
          rw [flds_put]
          refine q a b _ (sm.free na) (sm.free nb2) ⟨upd_same, ?_, ?_⟩ ?_
          · refine ⟨tas, ?_, paired_imp hts fun c r z => ?_⟩
            · rw [upd_ne nap, upd_ne (fun e => nba e.symm), upd_ne nap, upd_same]
            · have zp : c ≠ p := ne_of z hp (by intro z; cases z)
              rw [upd_ne zp, upd_ne (ne_of_none (h3 c _ (sm _ _ z) zp) nb)]
              exact h3 c _ (sm _ _ z) zp
          · refine ⟨nas, ?_, paired_imp hns fun c r z => ?_⟩
            · rw [upd_ne nbp, upd_same]
            · have zp : c ≠ p := ne_of z hp (by intro z; cases z)
              rw [upd_ne zp, upd_ne (ne_of_none (h3 c _ (sm _ _ z) zp) nb)]
              exact h3 c _ (sm _ _ z) zp
          · intro c o z ne
            rw [upd_ne ne, upd_ne (ne_of_none (h3 c _ (sm _ _ z) ne) nb)]
            exact h3 c _ (sm _ _ z) ne
      · have lb : bs.length = ns0.length := paired_len hbs
        refine ⟨_, rfl, n, rfl, ⟨_, .inl (.inl (s2 _ _ hn))⟩, for_list (K := K) (a := n) (xs := (bs ++ [tl]).map V.ref) (fun i sl H2 => i ≤ bs.length ∧ ∃ v4 v5, sl = [some (.ref p), some (.ref t), some (.ref n), some (.ref D), v4, v5] ∧ Same H H2 ∧ H2 D = some (.lst ((ts.map nameOf).map V.str)))
          ⟨Nat.zero_le _, none, none, rfl, s2, upd_same⟩ (fun i sl H2 _ ⟨_, _, _, _, sm, _⟩ => .inl (.inl (sm _ _ hn))) ?_ ?_⟩
        · rintro i x sl H2 hx ⟨li, v4, v5, rfl, sm, hD⟩
          rw [List.map_append] at hx
          by_cases hi : i < bs.length
          · rw [List.getElem?_append_left (by rw [List.length_map]; exact hi)] at hx
            obtain ⟨b, rw_, ex, hr1, hb⟩ := rows_ref hbs hx
            subst ex
            obtain ⟨l, fm, fo, fa⟩ := goodN rw_ (List.mem_of_getElem? hr1)
            refine ⟨_, rfl, _, rfl, D, b, _, rw_, fm, rfl, .inl (.inl hD), sm _ _ hb, l, fo, fun _ H3 s3 => ⟨hi, _, _, rfl, sm.trans s3, s3 _ _ hD⟩, fun k v e => ?_⟩
            rw [fa] at e
            cases e
          · have ei : i = bs.length := by omega
            rw [List.getElem?_append_right (by rw [List.length_map]; omega), List.length_map, ei, Nat.sub_self] at hx
            have ex : x = .ref tl := (Option.some.inj hx).symm
            subst ex
            refine ⟨_, rfl, _, rfl, D, tl, _, r0, fm0, rfl, .inl (.inl hD), sm _ _ htl, l0, f0, fun e => ?_, fun k v e => ?_⟩
            · rw [e0] at e
              cases e
            · rw [e0] at e
              have e2 := Option.some.inj e
              cases e2
              exact o0.same sm
        · rintro sl H2 ⟨li, _⟩
          rw [List.length_map, List.length_append] at li
          exact absurd li (by show ¬ bs.length + 1 ≤ bs.length; omega)
end
end Md

namespace Md
open PySem PySem.Spec PyProof.Rows L2
abbrev sWith : Stmt := inClass sDiary 4
abbrev sWithout : Stmt := inClass sDiary 5
abbrev sEq : Stmt := inClass sDiary 7
abbrev sMade : Stmt := top 28
theorem fault_none {zs : List Str} {t u : V} {fm : Option (List Str × Int)} (h : faultOf zs t fm = none) : faultOf zs u fm = none := by
  cases fm with
  | none => cases h
  | some p =>
    obtain ⟨mids, d⟩ := p
    have h1 : faultEnd t mids d (mids.find? (unknown zs)) = none := h
    show faultEnd u mids d (mids.find? (unknown zs)) = none
    cases e : mids.find? (unknown zs) with
    | some z =>
      rw [e] at h1
      cases h1
    | none =>
      rw [e] at h1
      have h2 : (if dbl mids = true then some (Fk.note, t) else if d < 0 then some (Fk.day, V.int d) else none) = none := h1
      show (if dbl mids = true then some (Fk.note, u) else if d < 0 then some (Fk.day, V.int d) else none) = none
      by_cases c : dbl mids = true
      · rw [if_pos c] at h2
        cases h2
      · rw [if_neg c] at h2 ⊢
        exact h2
/-- a row that can be shown -/
def NiceRow (r : List V) : Prop := Nice (rowD r) 1 105 ∧ ∀ v ∈ r, (∃ z, v = .str z) ∨ ∃ i, v = .int i
theorem RowF.nr {r : List V} (h : RowF r) : NiceRow r := ⟨h.nice.more (Nat.le_refl _) (by omega), fun v hv => by
  rcases h.2 v hv with ⟨z, e, _⟩ | ⟨i, e, _⟩
  · exact .inl ⟨z, e⟩
  · exact .inr ⟨i, e⟩⟩
theorem plain_dp {K : PySem.W.Frag} {H : Hp} : ∀ {r : List V}, (∀ v ∈ r, (∃ z, v = .str z) ∨ ∃ i, v = .int i) → DpAll K H r (r.map vD)
  | [], _ => .nil
  | v :: r, h => by
    refine .cons ?_ (plain_dp fun x hx => h x (List.mem_cons_of_mem _ hx))
    rcases h v (List.mem_cons_self ..) with ⟨z, rfl⟩ | ⟨i, rfl⟩
    · exact .str z
    · exact .int i
theorem rowsN_dpAll {K : PySem.W.Frag} {H : Hp} : ∀ {as : List Addr} {rs : List (List V)}, Paired (fun b r => H b = some (.tup r)) as rs → (∀ r ∈ rs, NiceRow r) → DpAll K H (as.map V.ref) (rs.map rowD)
  | _, _, .nil, _ => .nil
  | _, _, .cons h t, f => .cons (.tup (.inl (.inl h)) (plain_dp (f _ (List.mem_cons_self ..)).2)) (rowsN_dpAll t fun x hx => f x (List.mem_cons_of_mem _ hx))
theorem rowsN_dp {K : PySem.W.Frag} {H : Hp} {a : Addr} {rs : List (List V)} (h : Rows H a rs) (f : ∀ r ∈ rs, NiceRow r) : Dp K H (.ref a) (.list (rs.map rowD)) := by
  obtain ⟨as, h1, h2⟩ := h
  exact .lst (.inl (.inl h1)) (rowsN_dpAll h2 f)
theorem rowsN_nice {rs : List (List V)} (h : ∀ r ∈ rs, NiceRow r) : Nice (.list (rs.map rowD)) 2 (106 * rs.length) := by
  have z := Nice.list (ds := rs.map rowD) (dep := 1) (b := 105) fun d hd => by
    obtain ⟨r, hr, e⟩ := List.mem_map.mp hd
    rw [← e]
    exact (h r hr).1
  rw [List.length_map] at z
  exact z
/-- a diary with right towns and notes -/
structure Good (C : Addr) (H : Hp) (m dx a b : Addr) (ts ns : List (List V)) : Prop where
  at_ : DiaryAt C H m dx a b ts ns
  towns : ∀ r ∈ ts, TownR r
  nodup : (ts.map nameOf).Nodup
  fine : ∀ r ∈ ns, Fine (ts.map nameOf) r
  few : ts.length ≤ 90
  few2 : ns.length ≤ 90
/-- a right diary stands at m -/
def Is (C : Addr) (H : Hp) (m : Addr) (ts ns : List (List V)) : Prop := ∃ dx a b, Good C H m dx a b ts ns
theorem Is.same {C : Addr} {H G : Hp} {m : Addr} {ts ns : List (List V)} (h : Is C H m ts ns) (s : Same H G) : Is C G m ts ns := by
  obtain ⟨dx, a, b, g⟩ := h
  exact ⟨dx, a, b, g.at_.same s, g.towns, g.nodup, g.fine, g.few, g.few2⟩
theorem Is.keep {C : Addr} {H G : Hp} {m p : Addr} {c : Nat} {ts ns : List (List V)} (h : Is C H m ts ns) (hp : PurseAt H p c) (s : Keep p H G) : Is C G m ts ns := by
  obtain ⟨dx, a, b, g⟩ := h
  exact ⟨dx, a, b, g.at_.keep hp s, g.towns, g.nodup, g.fine, g.few, g.few2⟩
theorem made_same {G G2 : Hp} {x dx : Addr} {o1 o2 : HO} (nx : G x = none) (nd : G dx = none) (kx : Keep x (upd (upd G dx o1) x o2) G2) : Same G G2 := fun b u z => by
  have h1 := ne_of_none z nx
  refine kx b u ?_ h1
  rw [upd_ne h1, upd_ne (ne_of_none z nd)]
  exact z
theorem made0 {G : Hp} {x dx : Addr} {o1 o2 : HO} (nx : G x = none) (nd : G dx = none) (ne : dx ≠ x) : Same G (upd (upd G dx o1) x o2) :=
  (new_same nd).trans (new_same (by rw [upd_ne (fun e => ne e.symm)]; exact nx))
section
variable {P : Program} {w : World} {K : PySem.W.Frag} {mg : Str → Option Value} {base : Heap}
/-- the class, where things are refused -/
structure Dx (P : Program) (w : World) (K : PySem.W.Frag) (mg : Str → Option Value) (base : Heap) (C fI fErr : Addr) (dI dErr : FuncData) (cls : Fk → Addr) (CU : Addr) : Prop where
  cl : Cl K C
  name : mg "Diary" = some (.ref C)
  made : Mk K C fI
  oI : ∀ k, FnOk P w K mg base (L2.CX P w) (k + 5) fI dI ["self", "towns", "notes"] (spInitX C cls)
  bI : Binds K dI ["self", "towns", "notes"] []
  er : ErI P w K mg base fErr dErr
  unk : Er K mg fErr "UnknownNote" CU
def spWith (C : Addr) (cls : Fk → Addr) : Sp := fun vs H Q E => ∃ (m t : Addr) (ts ns : List (List V)) (r : List V) (fm : Option (List Str × Int)), vs = [.ref m, .ref t] ∧ Is C H m ts ns ∧ ns.length ≤ 80 ∧ H t = some (.tup r) ∧ r.length ≤ 100 ∧ Form r fm ∧
  (faultOf (ts.map nameOf) (.ref t) fm = none → ∀ m' H', H m' = none → Is C H' m' ts (ns ++ [r]) → Same H H' → Q (.ref m') H') ∧ ∀ k v, faultOf (ts.map nameOf) (.ref t) fm = some (k, v) → Out H E (cls k) v
theorem scWith : FnScope ["self", "note"] ["self", "note"] (defScope sWith) := ⟨rfl, rfl, rfl, by decide +kernel, rfl, by decide +kernel, by decide +kernel⟩
theorem ok_with {f C fI fErr CU : Addr} {fd dI dErr : FuncData} {cls : Fk → Addr} {k : Nat} (F : Fun K "with_note" "Diary.with_note" sWith f fd) (D : Dx P w K mg base C fI fErr dI dErr cls CU) : FnOk P w K mg base (L2.CX P w) (k + 7) f fd ["self", "note"] (spWith C cls) := by
  refine F.okX scWith (fun vs H Q E h => ?_) (fun cdv A outer s H vs Q E hr h => ?_)
  · obtain ⟨m, t, ts, ns, r, fm, rfl, _⟩ := h
    rfl
  · obtain ⟨m, t, ts, ns, r, fm, rfl, ⟨dx, a, b, G⟩, few, hT, lr, fo, q, o⟩ := h
    have nd := scWith.nd
    obtain ⟨nas, hn, hns⟩ := G.at_.notes
    have ln : nas.length = ns.length := paired_len hns
    refine ⟨_, pss_one (ps_ret (pe_make D.made (D.oI k) hr (by rfl) D.name D.bI .nil (passE (takes_of rfl rfl rfl rfl)) (pa_cons (pe_fld (pv 0) rfl) (pa_cons (pe_op op_cat (pe_fld (pv 0) rfl) (pe_lst (pa_cons (pv 1) pa_nil))) pa_nil)))), ?_⟩
    refine ⟨_, rfl, m, C, dx, _, _, rfl, G.at_.ob, D.cl.cl, D.cl.nT, look_t, _, rfl, m, C, dx, _, _, rfl, G.at_.ob, D.cl.cl, D.cl.nN, look_n, _, rfl, by show 1 ≤ sizeLine; decide, fun L nL => ?_⟩
    have hnL : upd H L (.lst [.ref t]) b = some (.lst (nas.map V.ref)) := by
      rw [upd_ne (ne_of_none hn nL)]
      exact hn
    refine ⟨b, L, _, _, rfl, rfl, hnL, upd_same, ?_, fun N nN => ?_⟩
    · rw [List.length_map]
      exact Nat.le_of_lt (small1000 (by show nas.length + 1 ≤ 1000; omega))
    have s2 : Same H (upd (upd H L (.lst [.ref t])) N (.lst (nas.map V.ref ++ [.ref t]))) := (new_same nL).trans (new_same nN)
    intro x dxx nx ndx ne
    have s3 := s2.trans (made0 nx ndx ne (o1 := .own x) (o2 := .ins C dxx []))
    have hN : upd (upd (upd (upd H L (.lst [.ref t])) N (.lst (nas.map V.ref ++ [.ref t]))) dxx (.own x)) x (.ins C dxx []) N = some (.lst ((nas ++ [t]).map V.ref)) := by
      rw [List.map_append]
      exact (made0 nx ndx ne) _ _ upd_same
    cases e : faultOf (ts.map nameOf) (.ref t) fm with
    | none =>
      refine ⟨x, dxx, a, N, ts, rfl, upd_same, G.at_.towns.same s3, G.towns, G.nodup, by have := G.few; omega, .inl ⟨ns ++ [r], ⟨nas ++ [t], hN, paired_snoc (paired_imp hns fun b u z => s3 _ _ z) (s3 _ _ hT)⟩, ?_, by rw [List.length_append]; show ns.length + 1 ≤ 100; omega, fun a' b' H' na nb DA kx => ⟨rfl, ?_⟩⟩⟩
      · intro y hy
        rcases List.mem_append.mp hy with h | h
        · exact G.fine y h
        · rw [List.mem_singleton.mp h]
          exact ⟨lr, fm, fo, fun u => fault_none e⟩
      · refine q e x H' (s2.free nx) ⟨dxx, a', b', DA, G.towns, G.nodup, ?_, G.few, by rw [List.length_append]; show ns.length + 1 ≤ 90; omega⟩ (s2.trans (made_same nx ndx kx))
        intro y hy
        rcases List.mem_append.mp hy with h | h
        · exact G.fine y h
        · rw [List.mem_singleton.mp h]
          exact ⟨lr, fm, fo, fun u => fault_none e⟩
    | some kv =>
      obtain ⟨kk, v⟩ := kv
      exact ⟨x, dxx, a, N, ts, rfl, upd_same, G.at_.towns.same s3, G.towns, G.nodup, by have := G.few; omega, .inr ⟨nas, t, ns, r, fm, kk, v, hN, paired_imp hns fun b u z => s3 _ _ z, G.fine, by omega, s3 _ _ hT, lr, fo, e, (o kk v e).same s3⟩⟩
def spWithout (C CU : Addr) : Sp := fun vs H Q E => ∃ (m : Addr) (ts ns : List (List V)) (i : Int), vs = [.ref m, .int i] ∧ Is C H m ts ns ∧
  (0 ≤ i ∧ i < ns.length → ∀ m' H', H m' = none → Is C H' m' ts (ns.take i.toNat ++ ns.drop (i.toNat + 1)) → Same H H' → Q (.ref m') H') ∧ (¬ (0 ≤ i ∧ i < ns.length) → Out H E CU (.int i))
theorem scWithout : FnScope ["self", "index"] ["self", "index"] (defScope sWithout) := ⟨rfl, rfl, rfl, by decide +kernel, rfl, by decide +kernel, by decide +kernel⟩
theorem cut_take (xs : List V) (i : Nat) (h : i ≤ xs.length) : cutV xs none (some (i : Int)) = xs.take i := by
  unfold cutV
  rw [HT.sIx_none, HT.sIx_nat, Nat.min_eq_left h]
  simp
theorem cut_drop (xs : List V) (i : Nat) (h : i ≤ xs.length) : cutV xs (some (i : Int)) none = xs.drop i := by
  unfold cutV
  rw [HT.sIx_none, HT.sIx_nat, Nat.min_eq_left h]
  rw [List.take_of_length_le (by rw [List.length_drop]; omega)]
theorem paired_take {α β : Type} {F : α → β → Prop} : ∀ {l : List α} {m : List β}, Paired F l m → ∀ i, Paired F (l.take i) (m.take i)
  | _, _, .nil, i => by simp; exact .nil
  | _, _, .cons h t, 0 => .nil
  | _, _, .cons h t, i + 1 => .cons h (paired_take t i)
theorem paired_drop {α β : Type} {F : α → β → Prop} : ∀ {l : List α} {m : List β}, Paired F l m → ∀ i, Paired F (l.drop i) (m.drop i)
  | _, _, .nil, i => by simp; exact .nil
  | _, _, .cons h t, 0 => .cons h t
  | _, _, .cons h t, i + 1 => paired_drop t i
theorem paired_app {α β : Type} {F : α → β → Prop} : ∀ {l l2 : List α} {m m2 : List β}, Paired F l m → Paired F l2 m2 → Paired F (l ++ l2) (m ++ m2)
  | _, _, _, _, .nil, g => g
  | _, _, _, _, .cons h t, g => .cons h (paired_app t g)
theorem ok_without {f C fI fErr CU : Addr} {fd dI dErr : FuncData} {cls : Fk → Addr} {k : Nat} (F : Fun K "without" "Diary.without" sWithout f fd) (D : Dx P w K mg base C fI fErr dI dErr cls CU) (B : Blt mg) : FnOk P w K mg base (L2.CX P w) (k + 7) f fd ["self", "index"] (spWithout C CU) := by
  refine F.okX scWithout (fun vs H Q E h => ?_) (fun cdv A outer s H vs Q E hr h => ?_)
  · obtain ⟨m, ts, ns, i, rfl, _⟩ := h
    rfl
  · obtain ⟨m, ts, ns, i, rfl, ⟨dx, a, b, G⟩, q, o⟩ := h
    have nd := scWithout.nd
    have ER := D.er.ok (k + 4)
    obtain ⟨nas, hn, hns⟩ := G.at_.notes
    have ln : nas.length = ns.length := paired_len hns
    have few2 := G.few2
    refine ⟨_, C8.pss_cut (ps_if (PW.pt (pw_or (pt_cmpR op_lt (pv 1) pe_int (nomark _)) (pw_or1 (pt_cmpR op_ge (pv 1) (pe_callB call_len_seq (by rfl) B.len PySem.boot_len (pa_cons (pe_fld (pv 0) rfl) pa_nil)) (nomark _)))))
        (pss_one (ps_raise rfl (takes_of rfl rfl rfl rfl) (pmk_oex D.unk.t D.unk.i D.er.ty ER hr D.er.b .nil pass0 (by rfl) D.unk.g (pa_cons (pv 1) pa_nil)))) pss_nil)
      (pss_one (ps_ret (pe_make D.made (D.oI k) hr (by rfl) D.name D.bI .nil (passE (takes_of rfl rfl rfl rfl)) (pa_cons (pe_fld (pv 0) rfl) (pa_cons (pe_op op_cat (pe_slice sl_list (pe_fld (pv 0) rfl) po_none (po_some (pv 1)))
        (pe_slice sl_list (pe_fld (pv 0) rfl) (po_some (pe_op op_add (pv 1) pe_int)) po_none)) pa_nil))))), ?_⟩
    refine ⟨fun sl G => sl = [some (.ref m), some (.int i)] ∧ G = H ∧ 0 ≤ i ∧ i < ns.length, ?_, ?_⟩
    · refine ⟨_, rfl, _, _, rfl, rfl, _, rfl, ite2 (fun e => ?_) (fun e => ?_)⟩
      · have e1 : i < 0 := of_decide_eq_true e
        exact iteT ⟨_, rfl, er_read D.unk (o (by omega))⟩
      · have e1 : ¬ i < 0 := fun z => e (decide_eq_true z)
        refine ⟨_, rfl, _, rfl, m, C, dx, _, _, rfl, G.at_.ob, D.cl.cl, D.cl.nN, look_n, b, _, rfl, .inl (.inl (.inl hn)), _, _, rfl, rfl, _, rfl, ite2 (fun e2 => ?_) (fun e2 => ⟨rfl, rfl, by omega, ?_⟩)⟩
        · refine ⟨_, rfl, er_read D.unk (o fun z => ?_)⟩
          have e3 := of_decide_eq_true e2
          rw [List.length_map, ln] at e3
          omega
        · have e3 : ¬ ((nas.map V.ref).length : Int) ≤ i := fun z => e2 (decide_eq_true z)
          rw [List.length_map, ln] at e3
          omega
    · rintro sl G2 ⟨rfl, rfl, i0, i1⟩
      obtain ⟨i, rfl⟩ : ∃ n : Nat, i = n := ⟨i.toNat, by omega⟩
      have il : i < ns.length := by omega
      refine ⟨_, rfl, m, C, dx, _, _, rfl, G.at_.ob, D.cl.cl, D.cl.nT, look_t, _, rfl, m, C, dx, _, _, rfl, G.at_.ob, D.cl.cl, D.cl.nN, look_n, _, rfl, _, rfl, b, _, rfl, .inl (.inl hn), fun L nL => ?_⟩
      rw [cut_take _ _ (by rw [List.length_map]; omega), ← List.map_take]
      have sL := new_same nL (o := .lst ((nas.take i).map V.ref))
      refine ⟨_, rfl, m, C, dx, _, _, rfl, sL _ _ G.at_.ob, D.cl.cl, D.cl.nN, look_n, _, rfl, _, _, rfl, rfl, _, rfl, b, _, rfl, .inl (.inl (sL _ _ hn)), fun L2 nL2 => ?_⟩
      rw [show ((i : Nat) : Int) + 1 = ((i + 1 : Nat) : Int) from by omega, cut_drop _ _ (by rw [List.length_map]; omega), ← List.map_drop]
      have sL2 := sL.trans (new_same nL2 (o := .lst ((nas.drop (i + 1)).map V.ref)))
      refine ⟨L, L2, _, _, rfl, rfl, (new_same nL2) _ _ upd_same, upd_same, ?_, fun N nN => ?_⟩
      · rw [List.length_map, List.length_map, List.length_take, List.length_drop]
        exact Nat.le_of_lt (small1000 (by omega))
      rw [← List.map_append]
      have s2 := sL2.trans (new_same nN (o := .lst ((nas.take i ++ nas.drop (i + 1)).map V.ref)))
      intro x dxx nx ndx ne
      have s3 := s2.trans (made0 nx ndx ne (o1 := .own x) (o2 := .ins C dxx []))
      have fine2 : ∀ r ∈ ns.take i ++ ns.drop (i + 1), Fine (ts.map nameOf) r := by
        intro y hy
        rcases List.mem_append.mp hy with h | h
        · exact G.fine y (List.mem_of_mem_take h)
        · exact G.fine y (List.mem_of_mem_drop h)
      have l2 : (ns.take i ++ ns.drop (i + 1)).length ≤ 90 := by
        rw [List.length_append, List.length_take, List.length_drop]
        omega
      refine ⟨x, dxx, a, N, ts, rfl, upd_same, G.at_.towns.same s3, G.towns, G.nodup, by have := G.few; omega, .inl ⟨_, ⟨nas.take i ++ nas.drop (i + 1), (made0 nx ndx ne) _ _ upd_same, paired_imp (paired_app (paired_take hns i) (paired_drop hns (i + 1))) fun b u z => s3 _ _ z⟩, fine2, by omega, fun a' b' H' na nb DA kx => ⟨rfl, ?_⟩⟩⟩
      exact q ⟨i0, i1⟩ x H' (s2.free nx) ⟨dxx, a', b', DA, G.towns, G.nodup, fine2, G.few, l2⟩ (s2.trans (made_same nx ndx kx))
/-- two right diaries that tell the same -/
def Twin (C : Addr) (m n : Addr) (H : Hp) : Prop := ∃ ts ns, Is C H m ts ns ∧ Is C H n ts ns ∧ (∀ r ∈ ts, NiceRow r) ∧ (∀ r ∈ ns, NiceRow r)
theorem scEq : FnScope ["self", "other"] ["self", "other"] (defScope sEq) := ⟨rfl, rfl, rfl, by decide +kernel, rfl, by decide +kernel, by decide +kernel⟩
theorem ok_eq {f C : Addr} {fd : FuncData} {k : Nat} (F : Fun K "__eq__" "Diary.__eq__" sEq f fd) (cl : Cl K C) (name : mg "Diary" = some (.ref C)) (ic : C8.InsC K C) (B : Blt mg) : FnOk P w K mg base CX0 (k + 1) f fd ["self", "other"] (spEq (Twin C)) := by
  refine F.ok scEq (fun vs H Q E h => ?_) (fun cdv A outer s H vs Q E hr h => ?_)
  · obtain ⟨m, n, rfl, _⟩ := h
    rfl
  · obtain ⟨m, n, rfl, ⟨ts, ns, ⟨dx, a, b, G1⟩, ⟨dy, c, d, G2⟩, f1, f2⟩, q⟩ := h
    refine ⟨_, pss_one (ps_ret (pe_and (pe_callB (C8.call_isC ic) (by rfl) B.isi (by decide +kernel) (pa_cons (pv 1) (pa_cons (pe_glob (v := .ref C) rfl name rfl) pa_nil)))
      (pe_and (pe_cmpR (op_eqD hr.units) (pe_fld (pv 0) rfl) (pe_fld (pv 1) rfl) (nomark _)) (pe_one (pe_cmpR (op_eqD hr.units) (pe_fld (pv 0) rfl) (pe_fld (pv 1) rfl) (nomark _)))))), ?_⟩
    have N1 := (rowsN_nice f1).shaped (by decide)
    have N2 := (rowsN_nice f2).shaped (by decide)
    refine ⟨_, rfl, n, dy, _, rfl, G2.at_.ob, true, rfl, iteT ?_⟩
    refine ⟨_, rfl, m, C, dx, _, _, rfl, G1.at_.ob, cl.cl, cl.nT, look_t, _, rfl, n, C, dy, _, _, rfl, G2.at_.ob, cl.cl, cl.nT, look_t, _, _, rowsN_dp G1.at_.towns f1, rowsN_dp G2.at_.towns f1, N1, N1, _, rfl, ?_⟩
    rw [SeqAt.eqv_refl _ (rowsN_nice f1).lay]
    refine iteT ?_
    refine ⟨_, rfl, m, C, dx, _, _, rfl, G1.at_.ob, cl.cl, cl.nN, look_n, _, rfl, n, C, dy, _, _, rfl, G2.at_.ob, cl.cl, cl.nN, look_n, _, _, rowsN_dp G1.at_.notes f2, rowsN_dp G2.at_.notes f2, N2, N2, ?_⟩
    rw [SeqAt.eqv_refl _ (rowsN_nice f2).lay]
    exact q H fun _ _ h => h
end
end Md

namespace Md
open PySem PySem.Spec PyProof.Rows L2
abbrev sSign : Stmt := top 30
abbrev sLabel : Stmt := top 31
abbrev sWord : Stmt := top 32
/-- a short text of plain signs -/
def Tx (z : Str) (n : Nat) : Prop := z.length ≤ n ∧ ∀ c ∈ sg z, c < 128
theorem Tx.app {x y : Str} {a b : Nat} (h : Tx x a) (k : Tx y b) : Tx (x ++ y) (a + b) := by
  refine ⟨by rw [app_len]; have := h.1; have := k.1; omega, fun c hc => ?_⟩
  rw [sg_app, List.mem_append] at hc
  exact hc.elim (h.2 c) (k.2 c)
theorem Tx.more {x : Str} {a b : Nat} (h : Tx x a) (e : a ≤ b) : Tx x b := ⟨Nat.le_trans h.1 e, h.2⟩
theorem Tx.cut {z : Str} {n : Nat} (h : Tx z n) (lo hi : Option Int) : Tx (cutS z lo hi) n := by
  refine ⟨?_, fun c hc => ?_⟩
  · rw [← sg_len]
    unfold cutS
    simp
    have := h.1
    have e : z.cps.size = z.length := rfl
    omega
  · have m : c ∈ (z.cps.toList.drop (HT.sIx z.length 0 lo)).take (HT.sIx z.length z.length hi - HT.sIx z.length 0 lo) := by
      unfold cutS at hc
      simpa using hc
    exact h.2 c (List.mem_of_mem_drop (List.mem_of_mem_take m))
theorem cutS_to_le (z : Str) (n : Nat) : (cutS z none (some (n : Int))).length ≤ n := cut_to_le z n
theorem cutS_from_len {z : Str} (n : Nat) (h : n ≤ z.length) : (cutS z (some (n : Int)) none).length = z.length - n := by
  rw [← sg_len, sg_cut_from _ _ h, List.length_drop, sg_len]
theorem Tx.cutTo {z : Str} {n : Nat} (h : Tx z n) (k : Nat) : Tx (cutS z none (some (k : Int))) k := ⟨cut_to_le z k, (h.cut _ _).2⟩
theorem Tx.cutFrom {z : Str} {n : Nat} (h : Tx z n) (k : Nat) (hk : k ≤ z.length) : Tx (cutS z (some (k : Int)) none) (n - k) := ⟨by rw [cutS_from_len k hk]; have := h.1; omega, (h.cut _ _).2⟩
theorem Tx.upper {z : Str} {n : Nat} (h : Tx z n) : Tx (Txt.upper z) n := by
  have e : z = SX.S (sg z) := (SX.S_tl z).symm
  have a : (sg z).all (· < 128) = true := by
    rw [List.all_eq_true]
    intro c hc
    exact decide_eq_true (h.2 c hc)
  have u : Txt.upper z = SX.S ((sg z).map PyProof.Rows.up1) := by
    rw [e]
    exact SX.upper_S a
  rw [u]
  refine ⟨?_, fun c hc => ?_⟩
  · rw [← sg_len]
    show ((sg z).map PyProof.Rows.up1).length ≤ n
    rw [List.length_map, sg_len]
    exact h.1
  · have hc2 : c ∈ (sg z).map PyProof.Rows.up1 := hc
    obtain ⟨d, hd, e2⟩ := List.mem_map.mp hc2
    have := h.2 d hd
    rw [← e2]
    unfold PyProof.Rows.up1
    split <;> omega
theorem let_128 {c : Nat} (h : letB c = true) : c < 128 := by
  have z : c ∈ sg alphabet := of_decide_eq_true h
  have w : ∀ x ∈ sg alphabet, x < 128 := by decide +kernel
  exact w c z
theorem name_tx {z : Str} (h : nameB z = true) (l : z.length ≤ 8) : Tx z 8 := ⟨l, fun c hc => let_128 (name_letters h c hc)⟩
section
variable {P : Program} {w : World} {K : PySem.W.Frag} {mg : Str → Option Value} {base : Heap}
def spSign : Sp := fun vs H Q _ => ∃ (p : Addr) (c : Nat), vs = [.ref p] ∧ PurseAt H p c ∧ c ≤ 990000 ∧ ∀ ch H', ch < 128 → PurseAt H' p (c + 1) → Keep p H H' → Q (.str (one ch)) H'
theorem scSign : FnScope ["purse", "wide"] ["purse"] (defScope sSign) := ⟨rfl, rfl, rfl, by decide +kernel, rfl, by decide +kernel, by decide +kernel⟩
abbrev wideS : Str := "ABCDEFGHIJKLMNOPQRSTUVWXYZ0123456789abcdefghijklmnopqrstuvwxyz !#$&'()*+,-./:;<=>?@\x5b]^_`{|}~\"\\"
theorem ok_sign {f fC : Addr} {fd fdC : FuncData} {k : Nat} (F : Fun K "_law_mk_sign" "_law_mk_sign" sSign f fd) (C : CoinAt P w K mg base fC fdC) (B : Blt mg) : FnOk P w K mg base CX0 (k + 2) f fd ["purse"] spSign := by
  have GC := C.ok k
  refine F.ok scSign (fun vs H Q E h => ?_) (fun cdv A outer s H vs Q E hr h => ?_)
  · obtain ⟨p, c, rfl, _⟩ := h
    rfl
  · obtain ⟨p, c, rfl, hp, hc, q⟩ := h
    have nd := scSign.nd
    refine ⟨_, pss_cons (ps_set (i := 1) nd rfl (.inl rfl) pe_str)
      (pss_one (ps_ret (pe_ix ix_str (pv 1) (pe_call GC hr (by rfl) C.mg C.kp C.b .nil pass0 (pa_cons (pv 0) (pa_cons (pe_callB call_len_str (by rfl) B.len PySem.boot_len (pa_cons (pv 1) pa_nil)) pa_nil))) (fun _ _ => rfl)))), ?_⟩
    have wl : 1 ≤ wideS.length ∧ wideS.length ≤ 100 := by decide +kernel
    have ws : wideS.length ≤ sizeLine := le1000 (by omega)
    have w128 : ∀ c ∈ sg wideS, c < 128 := by decide +kernel
    refine ⟨_, rfl, _, rfl, _, rfl, wideS, rfl, ws, p, c, _, rfl, hp, by omega, by omega, by omega, fun d H1 d0 d1 hp1 k1 => ?_⟩
    obtain ⟨d, rfl⟩ : ∃ n : Nat, d = n := ⟨d.toNat, by omega⟩
    have hd : d < (sg wideS).length := by rw [sg_len]; omega
    have g : (sg wideS)[d]? = some (sg wideS)[d] := List.getElem?_eq_getElem hd
    have m := w128 _ (List.getElem_mem hd)
    generalize (sg wideS)[d] = ch at g m
    exact ⟨wideS, d, ch, rfl, rfl, ws, atI_nat g, q ch H1 m hp1 k1⟩
def spLabel : Sp := fun vs H Q _ => ∃ (p : Addr) (c : Nat) (z : Str), vs = [.ref p, .str z] ∧ PurseAt H p c ∧ c ≤ 980000 ∧ Tx z 8 ∧ ∀ y H', Tx y 9 → PurseAt H' p (c + 3) → Keep p H H' → Q (.str y) H'
theorem scLabel : FnScope ["purse", "label", "way", "spot"] ["purse", "label"] (defScope sLabel) := ⟨rfl, rfl, rfl, by decide +kernel, rfl, by decide +kernel, by decide +kernel⟩
theorem tx_lit (z : Str) (n : Nat) (h : z.length ≤ n) (k : ∀ c ∈ sg z, c < 128) : Tx z n := ⟨h, k⟩
theorem tx_one {ch : Nat} (h : ch < 128) : Tx (one ch) 1 := ⟨Nat.le_refl _, fun c hc => by rw [List.mem_singleton.mp (show c ∈ [ch] from hc)]; exact h⟩
theorem ok_label {f fC fS : Addr} {fd fdC fdS : FuncData} {k : Nat} (F : Fun K "_law_mk_odd_label" "_law_mk_odd_label" sLabel f fd) (C : CoinAt P w K mg base fC fdC) (S : DefAt P w K mg base "_law_mk_sign" fS fdS ["purse"] 2 spSign) (B : Blt mg) :
    FnOk P w K mg base CX0 (k + 3) f fd ["purse", "label"] spLabel := by
  have GC := C.ok (k + 1)
  have GS := S.ok k
  refine F.ok scLabel (fun vs H Q E h => ?_) (fun cdv A outer s H vs Q E hr h => ?_)
  · obtain ⟨p, c, z, rfl, _⟩ := h
    rfl
  · obtain ⟨p, c, z, rfl, hp, hc, tz, q⟩ := h
    have nd := scLabel.nd
    refine ⟨_, pss_cons (ps_par (i := 2) (j := 3) rfl nd rfl rfl (by decide) rfl rfl (pa_cons (pe_call GC hr (by rfl) C.mg C.kp C.b .nil pass0 (pa_cons (pv 0) (pa_cons pe_int pa_nil))) (pa_cons (pe_call GC hr (by rfl) C.mg C.kp C.b .nil pass0 (pa_cons (pv 0) (pa_cons (pe_op op_add (pe_callB call_len_str (by rfl) B.len PySem.boot_len (pa_cons (pv 1) pa_nil)) pe_int) pa_nil))) pa_nil)) (by rfl))
      (pss_cons (ps_if (pt_cmpR op_eq (pv 2) pe_int (nomark _)) (pss_one (ps_ret pe_str)) pss_nil)
      (pss_cons (ps_if (pt_cmpR op_eq (pv 2) pe_int (nomark _)) (pss_one (ps_ret (pe_slice sl_str (pe_op op_add_str (pv 1) pe_str) po_none (po_some pe_int)))) pss_nil)
      (pss_cons (ps_if (pt_cmpR op_eq (pv 2) pe_int (nomark _)) (pss_one (ps_ret (pe_op op_add_str (pe_op op_add_str (pe_slice sl_str (pv 1) po_none (po_some (pv 3))) (pe_call GS hr (by rfl) S.mg S.kp S.b .nil pass0 (pa_cons (pv 0) pa_nil))) (pe_slice sl_str (pv 1) (po_some (pv 3)) po_none)))) pss_nil)
      (pss_cons (ps_if (pt_cmpR op_eq (pv 2) pe_int (nomark _)) (pss_one (ps_ret (pe_op op_add_str (pe_op op_add_str (pe_slice sl_str (pv 1) po_none (po_some (pv 3))) (pe_call GS hr (by rfl) S.mg S.kp S.b .nil pass0 (pa_cons (pv 0) pa_nil))) (pe_slice sl_str (pv 1) (po_some (pe_op op_add (pv 3) pe_int)) po_none)))) pss_nil)
      (pss_cons (ps_if (pt_cmpR op_eq (pv 2) pe_int (nomark _)) (pss_one (ps_ret (pe_upper (pv 1)))) pss_nil)
      (pss_one (ps_ret (pe_ix ix_list (pe_lst (pa_cons (pe_op op_add_str (pv 1) pe_str) (pa_cons (pe_op op_add_str pe_str (pv 1)) pa_nil))) (pe_op op_sub (pv 2) pe_int) (fun _ _ => rfl))))))))), ?_⟩
    have sz : z.length ≤ sizeLine := le1000 (by have := tz.1; omega)
    have lz := tz.1
    refine ⟨_, rfl, p, c, 7, rfl, hp, by omega, by decide, by decide, fun way H1 w0 w1 hp1 k1 => ?_⟩
    refine ⟨_, rfl, _, rfl, z, rfl, sz, _, _, rfl, rfl, p, _, _, rfl, hp1, by omega, by omega, by omega, fun spot H2 s0 s1 hp2 k2 => ⟨_, _, rfl, ?_⟩⟩
    have k12 := k1.trans k2
    obtain ⟨spot, rfl⟩ : ∃ n : Nat, spot = n := ⟨spot.toNat, by omega⟩
    have hs : spot ≤ z.length := by omega
    have l0 := cut_to_le z spot
    have l1 := cutS_from_len spot hs
    refine ⟨_, rfl, rfl, _, rfl, ite2 (fun _ => ?_) (fun n0 => ?_)⟩
    · exact q _ H2 (tx_lit _ _ (by decide +kernel) (by decide +kernel)) (hp2.more (by omega)) k12
    refine ⟨_, rfl, rfl, _, rfl, ite2 (fun _ => ?_) (fun n1 => ?_)⟩
    · have tl : Tx ("abcdefghi" : Str) 9 := tx_lit _ _ (by decide +kernel) (by decide +kernel)
      have ta := tz.app tl
      refine ⟨_, rfl, _, _, rfl, rfl, ?_, _, rfl, _, rfl, le1000 (by have := ta.1; omega), ?_⟩
      · have : ("abcdefghi" : Str).length = 9 := by decide +kernel
        exact le1000 (by omega)
      · exact q _ H2 (ta.cutTo 9) (hp2.more (by omega)) k12
    refine ⟨_, rfl, rfl, _, rfl, ite2 (fun _ => ?_) (fun n2 => ?_)⟩
    · refine ⟨_, rfl, _, rfl, _, rfl, z, rfl, sz, _, rfl, p, _, rfl, hp2, by omega, fun ch H3 h128 hp3 k3 => ⟨_, _, rfl, rfl, le1000 (by show (cutS z none (some (spot : Int))).length + 1 ≤ 1000; omega), _, rfl, _, rfl, _, rfl, z, rfl, sz, _, _, rfl, rfl, ?_, ?_⟩⟩
      · exact le1000 (by rw [app_len]; show (cutS z none (some (spot : Int))).length + 1 + _ ≤ 1000; omega)
      · refine q _ H3 ⟨?_, ((((tz.cut none (some (spot : Int))).app (tx_one h128)).app (tz.cut (some (spot : Int)) none))).2⟩ (hp3.more (by omega)) (k12.trans k3)
        rw [app_len, app_len]
        show (cutS z none (some (spot : Int))).length + 1 + _ ≤ 9
        omega
    refine ⟨_, rfl, rfl, _, rfl, ite2 (fun _ => ?_) (fun n3 => ?_)⟩
    · refine ⟨_, rfl, _, rfl, _, rfl, z, rfl, sz, _, rfl, p, _, rfl, hp2, by omega, fun ch H3 h128 hp3 k3 => ⟨_, _, rfl, rfl, le1000 (by show (cutS z none (some (spot : Int))).length + 1 ≤ 1000; omega), _, rfl, _, rfl, _, _, rfl, rfl, _, rfl, z, rfl, sz, _, _, rfl, rfl, ?_, ?_⟩⟩
      · have l2 := (tz.cut (some ((spot : Int) + 1)) none).1
        exact le1000 (by rw [app_len]; show (cutS z none (some (spot : Int))).length + 1 + _ ≤ 1000; omega)
      · refine q _ H3 ⟨?_, ((((tz.cut none (some (spot : Int))).app (tx_one h128)).app (tz.cut (some ((spot : Int) + 1)) none))).2⟩ (hp3.more (by omega)) (k12.trans k3)
        rw [app_len, app_len]
        show (cutS z none (some (spot : Int))).length + 1 + (cutS z (some ((spot : Int) + 1)) none).length ≤ 9
        by_cases hl : spot < z.length
        · have l2 := cutS_from_len (spot + 1) (show spot + 1 ≤ z.length by omega)
          rw [show ((spot : Int) + 1) = ((spot + 1 : Nat) : Int) from by omega]
          omega
        · have l2 : (cutS z (some ((spot : Int) + 1)) none).length = 0 := by
            rw [show ((spot : Int) + 1) = ((spot + 1 : Nat) : Int) from by omega, ← sg_len]
            unfold cutS
            rw [HT.sIx_nat, HT.sIx_none]
            simp
            have : z.cps.size = z.length := rfl
            omega
          omega
    refine ⟨_, rfl, rfl, _, rfl, ite2 (fun _ => ?_) (fun n4 => ?_)⟩
    · exact ⟨_, rfl, ⟨_, rfl⟩, z, rfl, rfl, by omega, q _ H2 (tz.upper.more (by omega)) (hp2.more (by omega)) k12⟩
    have tb : Tx (" " : Str) 1 := tx_lit _ _ (by decide +kernel) (by decide +kernel)
    have ob : (" " : Str).length = 1 := by decide +kernel
    have w5 : way = 5 ∨ way = 6 := by
      have a0 : way ≠ 0 := fun e => n0 (by rw [e]; rfl)
      have a1 : way ≠ 1 := fun e => n1 (by rw [e]; rfl)
      have a2 : way ≠ 2 := fun e => n2 (by rw [e]; rfl)
      have a3 : way ≠ 3 := fun e => n3 (by rw [e]; rfl)
      have a4 : way ≠ 4 := fun e => n4 (by rw [e]; rfl)
      omega
    refine ⟨_, rfl, _, _, rfl, rfl, le1000 (by omega), _, rfl, _, _, rfl, rfl, le1000 (by omega), by show 2 ≤ sizeLine; decide, fun L nL => ⟨_, rfl, _, _, rfl, rfl, ?_⟩⟩
    rcases w5 with rfl | rfl
    · exact ⟨L, _, _, _, rfl, rfl, .inl (.inl upd_same), atI_nat (j := 0) rfl, q _ _ (tz.app tb) ((hp2.new nL).more (by omega)) (k12.new nL)⟩
    · exact ⟨L, _, _, _, rfl, rfl, .inl (.inl upd_same), atI_nat (j := 1) rfl, q _ _ (tb.app tz) ((hp2.new nL).more (by omega)) (k12.new nL)⟩
end
end Md

namespace Md
open PySem PySem.Spec PyProof.Rows L2
section
variable {P : Program} {w : World} {K : PySem.W.Frag} {mg : Str → Option Value} {base : Heap}
def spWord : Sp := fun vs H Q _ => ∃ (p : Addr) (c : Nat) (z : Str), vs = [.ref p, .str z] ∧ PurseAt H p c ∧ c ≤ 980000 ∧ Tx z 6 ∧ 1 ≤ z.length ∧ ∀ y H', Tx y 9 → PurseAt H' p (c + 3) → Keep p H H' → Q (.str y) H'
theorem scWord : FnScope ["purse", "word_here", "menu", "spot", "way"] ["purse", "word_here"] (defScope sWord) := ⟨rfl, rfl, rfl, by decide +kernel, rfl, by decide +kernel, by decide +kernel⟩
abbrev oddS : List Str := ["market", "none", "one", "same", "", "both", "Market", "None", "ones", "non", "sames", "not"]
theorem ok_word {f fC fS : Addr} {fd fdC fdS : FuncData} {k : Nat} (F : Fun K "_law_mk_odd_word" "_law_mk_odd_word" sWord f fd) (C : CoinAt P w K mg base fC fdC) (S : DefAt P w K mg base "_law_mk_sign" fS fdS ["purse"] 2 spSign) (B : Blt mg) :
    FnOk P w K mg base CX0 (k + 3) f fd ["purse", "word_here"] spWord := by
  have GC := C.ok (k + 1)
  have GS := S.ok k
  refine F.ok scWord (fun vs H Q E h => ?_) (fun cdv A outer s H vs Q E hr h => ?_)
  · obtain ⟨p, c, z, rfl, _⟩ := h
    rfl
  · obtain ⟨p, c, z, rfl, hp, hc, tz, z1, q⟩ := h
    have nd := scWord.nd
    refine ⟨_, pss_cons (ps_set (i := 2) nd rfl (.inl rfl) (pe_lst (pa_cons pe_str (pa_cons pe_str (pa_cons pe_str (pa_cons pe_str (pa_cons pe_str (pa_cons pe_str (pa_cons pe_str (pa_cons pe_str (pa_cons pe_str (pa_cons pe_str (pa_cons pe_str (pa_cons pe_str pa_nil))))))))))))))
      (pss_cons (ps_par (i := 3) (j := 4) rfl nd rfl rfl (by decide) rfl rfl (pa_cons (pe_call GC hr (by rfl) C.mg C.kp C.b .nil pass0 (pa_cons (pv 0) (pa_cons (pe_callB call_len_str (by rfl) B.len PySem.boot_len (pa_cons (pv 1) pa_nil)) pa_nil)))
        (pa_cons (pe_call GC hr (by rfl) C.mg C.kp C.b .nil pass0 (pa_cons (pv 0) (pa_cons pe_int pa_nil))) pa_nil)) (by rfl))
      (pss_cons (ps_if (pt_cmpR op_eq (pv 4) pe_int (nomark _)) (pss_one (ps_ret (pe_op op_add_str (pe_slice sl_str (pv 1) po_none (po_some (pv 3))) (pe_slice sl_str (pv 1) (po_some (pe_op op_add (pv 3) pe_int)) po_none)))) pss_nil)
      (pss_cons (ps_if (pt_cmpR op_eq (pv 4) pe_int (nomark _)) (pss_one (ps_ret (pe_op op_add_str (pe_op op_add_str (pe_slice sl_str (pv 1) po_none (po_some (pv 3))) (pe_call GS hr (by rfl) S.mg S.kp S.b .nil pass0 (pa_cons (pv 0) pa_nil))) (pe_slice sl_str (pv 1) (po_some (pv 3)) po_none)))) pss_nil)
      (pss_one (ps_ret (pe_ix ix_list (pv 2) (pe_call GC hr (by rfl) C.mg C.kp C.b .nil pass0 (pa_cons (pv 0) (pa_cons (pe_callB call_len_seq (by rfl) B.len PySem.boot_len (pa_cons (pv 2) pa_nil)) pa_nil))) (fun _ _ => rfl))))))), ?_⟩
    have lz := tz.1
    have sz : z.length ≤ sizeLine := le1000 (by omega)
    refine ⟨by show 12 ≤ sizeLine; decide, fun M nM => ?_⟩
    have hp0 := hp.new nM (o := .lst (oddS.map V.str))
    have k0 := (Keep.refl p H).new nM (o := .lst (oddS.map V.str))
    have hM0 : upd H M (.lst (oddS.map V.str)) M = some (.lst (oddS.map V.str)) := upd_same
    have neM := hp.ne_new nM
    refine ⟨_, rfl, _, rfl, z, rfl, sz, p, c, _, rfl, hp0, by omega, by omega, by omega, fun spot H1 s0 s1 hp1 k1 => ?_⟩
    refine ⟨_, rfl, p, _, 3, rfl, hp1, by omega, by decide, by decide, fun way H2 w0 w1 hp2 k2 => ⟨_, _, rfl, ?_⟩⟩
    have k12 := (k0.trans k1).trans k2
    have hM2 := k2 _ _ (k1 _ _ hM0 neM) neM
    obtain ⟨spot, rfl⟩ : ∃ n : Nat, spot = n := ⟨spot.toNat, by omega⟩
    have hs : spot ≤ z.length := by omega
    have l0 := cut_to_le z spot
    have l1 := cutS_from_len spot hs
    have l2 := (tz.cut (some ((spot : Int) + 1)) none).1
    refine ⟨_, rfl, rfl, _, rfl, ite2 (fun _ => ?_) (fun n0 => ?_)⟩
    · refine ⟨_, rfl, _, rfl, _, rfl, z, rfl, sz, _, rfl, _, rfl, _, _, rfl, rfl, _, rfl, z, rfl, sz, _, _, rfl, rfl, le1000 (by omega), ?_⟩
      refine q _ H2 ⟨?_, (((tz.cut none (some (spot : Int))).app (tz.cut (some ((spot : Int) + 1)) none))).2⟩ (hp2.more (by omega)) k12
      rw [app_len]
      have l3 := cutS_from_len (spot + 1) (show spot + 1 ≤ z.length by omega)
      rw [show ((spot : Int) + 1) = ((spot + 1 : Nat) : Int) from by omega]
      omega
    refine ⟨_, rfl, rfl, _, rfl, ite2 (fun _ => ?_) (fun n1 => ?_)⟩
    · refine ⟨_, rfl, _, rfl, _, rfl, z, rfl, sz, _, rfl, p, _, rfl, hp2, by omega, fun ch H3 h128 hp3 k3 => ⟨_, _, rfl, rfl, le1000 (by show (cutS z none (some (spot : Int))).length + 1 ≤ 1000; omega), _, rfl, _, rfl, _, rfl, z, rfl, sz, _, _, rfl, rfl, ?_, ?_⟩⟩
      · exact le1000 (by rw [app_len]; show (cutS z none (some (spot : Int))).length + 1 + _ ≤ 1000; omega)
      · refine q _ H3 ⟨?_, ((((tz.cut none (some (spot : Int))).app (tx_one h128)).app (tz.cut (some (spot : Int)) none))).2⟩ (hp3.more (by omega)) (k12.trans k3)
        rw [app_len, app_len]
        show (cutS z none (some (spot : Int))).length + 1 + _ ≤ 9
        omega
    refine ⟨_, rfl, _, rfl, _, rfl, M, _, rfl, .inl (.inl (.inl hM2)), p, _, _, rfl, hp2, by omega, by show (1 : Int) ≤ ((oddS.map V.str).length : Nat); decide, by show ((oddS.map V.str).length : Int) ≤ 10 ^ 31; decide, fun d H3 d0 d1 hp3 k3 => ?_⟩
    have k123 := k12.trans k3
    have hM3 := k3 _ _ hM2 neM
    have d12 : d < 12 := d1
    obtain ⟨d, rfl⟩ : ∃ n : Nat, d = n := ⟨d.toNat, by omega⟩
    have hd : d < oddS.length := by show d < 12; omega
    have g : oddS[d]? = some oddS[d] := List.getElem?_eq_getElem hd
    have m : ∀ y ∈ oddS, Tx y 9 := by
      have w1 : ∀ y ∈ oddS, y.length ≤ 9 := by decide +kernel
      have w2 : ∀ y ∈ oddS, ∀ c ∈ sg y, c < 128 := by decide +kernel
      exact fun y hy => ⟨w1 y hy, w2 y hy⟩
    have my := m _ (List.getElem_mem hd)
    generalize oddS[d] = y at g my
    exact ⟨M, _, d, .str y, rfl, rfl, .inl (.inl hM3), atI_nat (by rw [List.getElem?_map, g]; rfl), q y H3 my (hp3.more (by omega)) k123⟩
end
end Md

namespace Md
open PySem PySem.Spec PyProof.Rows L2
/-- plain things, a little wider -/
def FlatW (v : V) : Prop := (∃ z : Str, v = .str z ∧ Tx z 9) ∨ ∃ i : Int, v = .int i ∧ -(10 ^ 30 + 1) ≤ i ∧ i ≤ 10 ^ 30 + 1
def Bent (r : List V) : Prop := r.length ≤ 5 ∧ (∀ v ∈ r, FlatW v) ∧ ∃ fm, Form r fm
theorem kindLen_34 {k : Str} {m : Nat} (h : kindLen k = some m) : m = 3 ∨ m = 4 := by
  unfold kindLen at h
  split at h
  · exact .inl (Option.some.inj h).symm
  · split at h
    · exact .inr (Option.some.inj h).symm
    · cases h
theorem bent_nil : Bent [] := ⟨by decide, (fun v hv => by cases hv), _, .nil⟩
theorem bent_form {k : Str} {mids : List Str} {d : Int} (hk : Tx k 9) (hm : ∀ z ∈ mids, Tx z 9) (l : mids.length ≤ 3) (d0 : -(10 ^ 30 + 1) ≤ d) (d1 : d ≤ 10 ^ 30 + 1) : Bent (.str k :: (mids.map V.str ++ [.int d])) := by
  refine ⟨by simp; omega, fun v hv => ?_, ?_⟩
  · rcases List.mem_cons.mp hv with e | h
    · exact .inl ⟨k, e, hk⟩
    · rcases List.mem_append.mp h with h | h
      · obtain ⟨z, hz, e⟩ := List.mem_map.mp h
        exact .inl ⟨z, e.symm, hm z hz⟩
      · exact .inr ⟨d, List.mem_singleton.mp h, d0, d1⟩
  · by_cases h : kindLen k = some (mids.length + 2)
    · exact ⟨_, .good k mids d h⟩
    · exact ⟨_, .off k _ (by simpa using h)⟩
theorem bent_cut {k : Str} {mids : List Str} (hk : Tx k 9) (hm : ∀ z ∈ mids, Tx z 9) (l : mids.length ≤ 3) (h : kindLen k ≠ some (mids.length + 1)) : Bent (.str k :: mids.map V.str) := by
  refine ⟨by simp; omega, fun v hv => ?_, _, .off k _ (by simpa using h)⟩
  rcases List.mem_cons.mp hv with e | h
  · exact .inl ⟨k, e, hk⟩
  · obtain ⟨z, hz, e⟩ := List.mem_map.mp h
    exact .inl ⟨z, e.symm, hm z hz⟩
/-- a right note's shape -/
def Shape (r : List V) : Prop := ∃ (k : Str) (d : Int), Tx k 6 ∧ 1 ≤ k.length ∧ 0 ≤ d ∧ d ≤ 10 ^ 30 ∧
  ((∃ z, r = [.str k, .str z, .int d] ∧ Tx z 8 ∧ kindLen k = some 3) ∨ ∃ y z, r = [.str k, .str y, .str z, .int d] ∧ Tx y 8 ∧ Tx z 8 ∧ kindLen k = some 4)
theorem kind_tx {k : Str} (h : (k = "market" ∨ k = "none") ∨ k = "one" ∨ k = "same") : Tx k 6 ∧ 1 ≤ k.length := by
  have w : ∀ s : Str, s.length ≤ 6 → 1 ≤ s.length → (∀ c ∈ sg s, c < 128) → Tx s 6 ∧ 1 ≤ s.length := fun s a b c => ⟨⟨a, c⟩, b⟩
  rcases h with (rfl | rfl) | rfl | rfl
  · exact w _ (by decide +kernel) (by decide +kernel) (by decide +kernel)
  · exact w _ (by decide +kernel) (by decide +kernel) (by decide +kernel)
  · exact w _ (by decide +kernel) (by decide +kernel) (by decide +kernel)
  · exact w _ (by decide +kernel) (by decide +kernel) (by decide +kernel)
theorem kind3 {k : Str} (h : k = "market" ∨ k = "none") : kindLen k = some 3 := by
  unfold kindLen
  rw [if_pos h]
theorem kind4 {k : Str} (h : k = "one" ∨ k = "same") : kindLen k = some 4 := by
  have nk : ¬ (k = "market" ∨ k = "none") := by
    rcases h with rfl | rfl
    · decide +kernel
    · decide +kernel
  unfold kindLen
  rw [if_neg nk, if_pos h]
theorem NoteR.shape {ns : List Str} {r : List V} (g : ∀ z ∈ ns, nameB z = true ∧ z.length ≤ 8) (h : NoteR ns r) : Shape r := by
  rcases h with ⟨kind, z, day, rfl, hk, hz, d0, d1⟩ | ⟨kind, y, z, day, rfl, hk, hy, hz, hyz, d0, d1⟩
  · exact ⟨kind, day, (kind_tx (.inl hk)).1, (kind_tx (.inl hk)).2, d0, d1, .inl ⟨z, rfl, name_tx (g z hz).1 (g z hz).2, kind3 hk⟩⟩
  · exact ⟨kind, day, (kind_tx (.inr hk)).1, (kind_tx (.inr hk)).2, d0, d1, .inr ⟨y, z, rfl, name_tx (g y hy).1 (g y hy).2, name_tx (g z hz).1 (g z hz).2, kind4 hk⟩⟩
theorem all1 {z : Str} {n : Nat} (h : Tx z n) (e : n ≤ 9) : ∀ y ∈ [z], Tx y 9 := fun y hy => by rw [List.mem_singleton.mp hy]; exact h.more e
theorem all2 {x z : Str} {n m : Nat} (h : Tx x n) (g : Tx z m) (e : n ≤ 9) (e2 : m ≤ 9) : ∀ y ∈ [x, z], Tx y 9 := fun y hy => by
  have w : y = x ∨ y = z := by simpa using hy
  rcases w with rfl | rfl
  · exact h.more e
  · exact g.more e2
theorem all3 {u x z : Str} (f : Tx u 9) (h : Tx x 9) (g : Tx z 9) : ∀ y ∈ [u, x, z], Tx y 9 := fun y hy => by
  have w : y = u ∨ y = x ∨ y = z := by simpa using hy
  rcases w with rfl | rfl | rfl
  · exact f
  · exact h
  · exact g
theorem bent2 {r : List V} {l : Str} (h : Shape r) (hl : Tx l 8) {i : Nat} (hi : i < r.length) : Bent (r.take i ++ [.str l] ++ r.drop i) := by
  obtain ⟨k, d, tk, k1, d0, d1, ⟨z, rfl, tz, e⟩ | ⟨y, z, rfl, ty, tz, e⟩⟩ := h
  · have w : i = 0 ∨ i = 1 ∨ i = 2 := by
      have : i < 3 := hi
      omega
    rcases w with rfl | rfl | rfl
    · exact bent_form (k := l) (mids := [k, z]) (hl.more (by omega)) (all2 tk tz (by omega) (by omega)) (by simp) (by omega) (by omega)
    · exact bent_form (k := k) (mids := [l, z]) (tk.more (by omega)) (all2 hl tz (by omega) (by omega)) (by simp) (by omega) (by omega)
    · exact bent_form (k := k) (mids := [z, l]) (tk.more (by omega)) (all2 tz hl (by omega) (by omega)) (by simp) (by omega) (by omega)
  · have w : i = 0 ∨ i = 1 ∨ i = 2 ∨ i = 3 := by
      have : i < 4 := hi
      omega
    rcases w with rfl | rfl | rfl | rfl
    · exact bent_form (k := l) (mids := [k, y, z]) (hl.more (by omega)) (all3 (tk.more (by omega)) (ty.more (by omega)) (tz.more (by omega))) (Nat.le_refl _) (by omega) (by omega)
    · exact bent_form (k := k) (mids := [l, y, z]) (tk.more (by omega)) (all3 (hl.more (by omega)) (ty.more (by omega)) (tz.more (by omega))) (Nat.le_refl _) (by omega) (by omega)
    · exact bent_form (k := k) (mids := [y, l, z]) (tk.more (by omega)) (all3 (ty.more (by omega)) (hl.more (by omega)) (tz.more (by omega))) (Nat.le_refl _) (by omega) (by omega)
    · exact bent_form (k := k) (mids := [y, z, l]) (tk.more (by omega)) (all3 (ty.more (by omega)) (tz.more (by omega)) (hl.more (by omega))) (Nat.le_refl _) (by omega) (by omega)
theorem bent3 {r : List V} (h : Shape r) {i : Nat} (hi : i < r.length) : Bent (r.take i ++ r.drop (i + 1)) := by
  obtain ⟨k, d, tk, k1, d0, d1, ⟨z, rfl, tz, e⟩ | ⟨y, z, rfl, ty, tz, e⟩⟩ := h
  · have w : i = 0 ∨ i = 1 ∨ i = 2 := by
      have : i < 3 := hi
      omega
    rcases w with rfl | rfl | rfl
    · exact bent_form (k := z) (mids := []) (tz.more (by omega)) (fun y hy => by cases hy) (by simp) (by omega) (by omega)
    · exact bent_form (k := k) (mids := []) (tk.more (by omega)) (fun y hy => by cases hy) (by simp) (by omega) (by omega)
    · exact bent_cut (k := k) (mids := [z]) (tk.more (by omega)) (all1 tz (by omega)) (by simp) (by rw [e]; simp)
  · have w : i = 0 ∨ i = 1 ∨ i = 2 ∨ i = 3 := by
      have : i < 4 := hi
      omega
    rcases w with rfl | rfl | rfl | rfl
    · exact bent_form (k := y) (mids := [z]) (ty.more (by omega)) (all1 tz (by omega)) (by simp) (by omega) (by omega)
    · exact bent_form (k := k) (mids := [z]) (tk.more (by omega)) (all1 tz (by omega)) (by simp) (by omega) (by omega)
    · exact bent_form (k := k) (mids := [y]) (tk.more (by omega)) (all1 ty (by omega)) (by simp) (by omega) (by omega)
    · exact bent_cut (k := k) (mids := [y, z]) (tk.more (by omega)) (all2 ty tz (by omega) (by omega)) (by simp) (by rw [e]; simp)
section
variable {K : PySem.W.Frag} {H : Hp} {Q : VK} {x y : Addr} {xs ys : List V} {lo hi : Option Int}
theorem cat_read (hx : H x = some (.tup xs)) (hy : H y = some (.tup ys)) (l : xs.length + ys.length ≤ 1000) (q : ∀ R G, Same H G → G R = some (.tup (xs ++ ys)) → Q (.ref R) G) : rCatA K (.ref x) (.ref y) H Q := by
  refine ⟨x, y, xs, ys, rfl, rfl, .inl (.inl hx), .inl (.inl hy), le1000 l, fun e => ?_, fun _ e => ?_, fun _ _ p np => q p _ (new_same np) upd_same⟩
  · exact q y H (Same.refl H) (by rw [e]; exact hy)
  · exact q x H (Same.refl H) (by rw [e, List.append_nil]; exact hx)
theorem cut_read (hx : H x = some (.tup xs)) (q : ∀ R G, Same H G → G R = some (.tup (cutV xs lo hi)) → Q (.ref R) G) : rSlA K (.ref x) lo hi H Q := by
  refine ⟨x, xs, rfl, .inl (.inl hx), fun e => ?_, fun _ p np => q p _ (new_same np) upd_same⟩
  refine q x H (Same.refl H) ?_
  unfold cutV
  rw [e.1, e.2, List.drop_zero, Nat.sub_zero, List.take_length]
  exact hx
end
theorem cutV_last (xs : List V) (d : V) : cutV (xs ++ [d]) none (some (-1)) = xs := by
  have s2 : HT.sIx (xs ++ [d]).length (xs ++ [d]).length (some (-1)) = xs.length := by
    show (if (-1 : Int) < 0 then ((-1 : Int) + (((xs ++ [d]).length : Nat) : Int)).toNat else min (-1 : Int).toNat (xs ++ [d]).length) = xs.length
    rw [if_pos (by decide), List.length_append]
    show ((-1 : Int) + ((xs.length + 1 : Nat) : Int)).toNat = xs.length
    omega
  unfold cutV
  rw [HT.sIx_none, s2]
  simp
theorem cutV_end (xs : List V) (d : V) : cutV (xs ++ [d]) (some (-1)) none = [d] := by
  have s2 : HT.sIx (xs ++ [d]).length 0 (some (-1)) = xs.length := by
    show (if (-1 : Int) < 0 then ((-1 : Int) + (((xs ++ [d]).length : Nat) : Int)).toNat else min (-1 : Int).toNat (xs ++ [d]).length) = xs.length
    rw [if_pos (by decide), List.length_append]
    show ((-1 : Int) + ((xs.length + 1 : Nat) : Int)).toNat = xs.length
    omega
  unfold cutV
  rw [s2, HT.sIx_none]
  simp
/-- a tuple once or twice -/
def rRep12 (K : PySem.W.Frag) : R2 := fun x y H Q => ∃ (l : Addr) (xs : List V), x = .ref l ∧ H l = some (.tup xs) ∧ ((y = .int 1 ∧ Q (.ref l) H) ∨ (xs ≠ [] ∧ xs.length ≤ 10 ∧ y = .int 2 ∧ ∀ p, H p = none → Q (.ref p) (upd H p (.tup (xs ++ xs)))))
theorem tuple_mul1 (l : Addr) (items : Array Value) (n : Nat) (dd : Option Addr) (sl : Array (Option Value)) (u : Tok) :
    Meets (Builtin.«tuple.__mul__» ⟨[.ref l, .int 1 u], []⟩) (fun _ R s => s.heap.get? l = some { cls := .type "tuple", dict := dd, data := .seq items n, slots := sl } ∧ R (.ok (.ret (Value.ref l))) s) :=
  .of_wp fun prog w A R s h => by
    obtain ⟨hp, g, d, tk, os⟩ := s
    obtain ⟨hl, h⟩ := h
    have f1 := AutoSeq1.idx_int
    wp_walk using wpAny_loadPart' hl
    exact ⟨_, rfl, h⟩
theorem op_rep12 {X : Cx} : OpR X (binaryOp .Mult) (rRep12 X.K) := by
  intro pins st sl H x y v u Q I rx ry h
  obtain ⟨l, xs, rfl, hT, way⟩ := h
  rcases way with ⟨rfl, q⟩ | ⟨ne, few, rfl, q⟩
  · cases rx
    obtain ⟨t, rfl⟩ := ry
    obtain ⟨its, r, ⟨⟨cls, dd, data, sx⟩, ho, hc, n, hd⟩, hs⟩ := I.tuple (.inl (.inl hT))
    simp only at hc hd
    subst hc hd
    have body := tuple_mul1 l its.toArray n dd sx t
    refine wpAny_binaryOp_repeat_ref (T := "tuple") (U := "int") (by decide) ⟨_, ho, rfl⟩ (fun s' => typeIs_int s' 1 t) noFill_tuple_mul F.fills_int_mul F.slot_int_rmul repeat_tuple F.slot_int_index.lookup ?_
    refine call_meets F.slot_int_rmul (typeIs_int _ 1 t) F.entry_int_rmul (F.args_int_rmul_2 _ _) (int_rmul_tuple 1 t l its.toArray n dd sx) ⟨ho, rfl, ⟨_, ho, rfl⟩, ?_⟩
    exact call_meets F.slot_tuple_mul ⟨_, ho, rfl⟩ F.entry_tuple_mul (F.args_tuple_mul_2 _ _) body ⟨ho, ⟨.ref l, H, I, rfl, q⟩⟩
  · refine op_repT pins st sl H (.ref l) (.int 2) v u Q I rx ry ⟨l, 2, xs, rfl, rfl, .inl (.inl hT), ne, by decide, by decide, by omega, fun p np => ?_⟩
    have e : (List.replicate (2 : Int).toNat xs).flatten = xs ++ xs := by
      show (List.replicate 2 xs).flatten = xs ++ xs
      simp [List.replicate]
    rw [e]
    exact q p np
end Md

namespace Md
open PySem PySem.Spec PyProof.Rows L2
abbrev sBent : Stmt := top 33
structure Facts (r : List V) : Prop where
  len : r.length = 3 ∨ r.length = 4
  first : ∃ k, r[0]? = some (.str k) ∧ Tx k 6 ∧ 1 ≤ k.length
  last : ∃ d, atI r (-1) = some (.int d) ∧ 0 ≤ d ∧ d ≤ 10 ^ 30
  b0 : Bent (cutV r none (some 1))
  b1 : ∀ y, Tx y 9 → Bent ([.str y] ++ cutV r (some 1) none)
  b4 : ∀ d, -(10 ^ 30 + 1) ≤ d → d ≤ 10 ^ 30 + 1 → Bent (cutV r none (some (-1)) ++ [.int d])
  b5 : ∃ z, r[1]? = some (.str z) ∧ Tx z 8 ∧ (r.length = 3 → Bent (cutV r none (some 1) ++ [.str z] ++ cutV r (some (-1)) none)) ∧ (r.length = 4 → Bent (cutV r none (some 1) ++ ([.str z] ++ [.str z]) ++ cutV r (some (-1)) none))
  b6 : ∀ u v d, Tx u 9 → Tx v 9 → -(10 ^ 30 + 1) ≤ d → d ≤ 10 ^ 30 + 1 → Bent (cutV r none (some 1) ++ cutV [.str u, .str v] none (some ((r.length : Nat) - 2 : Int)) ++ [.int d])
  b7 : ∀ j, 1 ≤ j → j + 2 ≤ r.length → ∃ z, r[j]? = some (.str z) ∧ Tx z 8 ∧ ∀ y, Tx y 9 → Bent (r.take j ++ [.str y] ++ r.drop (j + 1))
theorem Shape.facts {r : List V} (h : Shape r) : Facts r := by
  obtain ⟨k, d, tk, k1, d0, d1, ⟨z, rfl, tz, e⟩ | ⟨y, z, rfl, ty, tz, e⟩⟩ := h
  · have tk9 := tk.more (show 6 ≤ 9 by omega)
    have tz9 := tz.more (show 8 ≤ 9 by omega)
    refine ⟨.inl rfl, ⟨k, rfl, tk, k1⟩, ⟨d, rfl, d0, d1⟩, ?_, ?_, ?_, ?_, ?_, ?_⟩
    · exact bent_cut (k := k) (mids := []) tk9 (fun y hy => by cases hy) (by simp) (by rw [e]; simp)
    · exact fun y ty => bent_form (k := y) (mids := [z]) ty (all1 tz (by omega)) (by simp) (by omega) (by omega)
    · exact fun d a b => bent_form (k := k) (mids := [z]) tk9 (all1 tz (by omega)) (by simp) a b
    · exact ⟨z, rfl, tz, fun _ => bent_form (k := k) (mids := [z]) tk9 (all1 tz (by omega)) (by simp) (by omega) (by omega), fun e => by cases e⟩
    · exact fun u v d tu tv a b => bent_form (k := k) (mids := [u]) tk9 (all1 tu (by omega)) (by simp) a b
    · intro j j1 j2
      have w : j = 1 := by
        have : j + 2 ≤ 3 := j2
        omega
      subst w
      exact ⟨z, rfl, tz, fun y ty => bent_form (k := k) (mids := [y]) tk9 (all1 ty (by omega)) (by simp) (by omega) (by omega)⟩
  · have tk9 := tk.more (show 6 ≤ 9 by omega)
    have ty9 := ty.more (show 8 ≤ 9 by omega)
    have tz9 := tz.more (show 8 ≤ 9 by omega)
    refine ⟨.inr rfl, ⟨k, rfl, tk, k1⟩, ⟨d, rfl, d0, d1⟩, ?_, ?_, ?_, ?_, ?_, ?_⟩
    · exact bent_cut (k := k) (mids := []) tk9 (fun y hy => by cases hy) (by simp) (by rw [e]; simp)
    · exact fun u tu => bent_form (k := u) (mids := [y, z]) tu (all2 ty tz (by omega) (by omega)) (by simp) (by omega) (by omega)
    · exact fun d a b => bent_form (k := k) (mids := [y, z]) tk9 (all2 ty tz (by omega) (by omega)) (by simp) a b
    · exact ⟨y, rfl, ty, (fun e => by cases e), fun _ => bent_form (k := k) (mids := [y, y]) tk9 (all2 ty ty (by omega) (by omega)) (by simp) (by omega) (by omega)⟩
    · exact fun u v d tu tv a b => bent_form (k := k) (mids := [u, v]) tk9 (all2 tu tv (by omega) (by omega)) (by simp) a b
    · intro j j1 j2
      have w : j = 1 ∨ j = 2 := by
        have : j + 2 ≤ 4 := j2
        omega
      rcases w with rfl | rfl
      · exact ⟨y, rfl, ty, fun u tu => bent_form (k := k) (mids := [u, z]) tk9 (all2 tu tz (by omega) (by omega)) (by simp) (by omega) (by omega)⟩
      · exact ⟨z, rfl, tz, fun u tu => bent_form (k := k) (mids := [y, u]) tk9 (all2 ty tu (by omega) (by omega)) (by simp) (by omega) (by omega)⟩
theorem PurseAt.same {G G2 : Hp} {p : Addr} {c : Nat} (h : PurseAt G p c) (s : Same G G2) : PurseAt G2 p c := by
  obtain ⟨x, y, z, e, r⟩ := h
  exact ⟨x, y, z, s _ _ e, r⟩
theorem cut_readN {K : PySem.W.Frag} {H : Hp} {Q : VK} {x : Addr} {xs : List V} {lo : Option Int} {sl : L2.St} (hx : H x = some (.tup xs)) (q : ∀ R G, Same H G → G R = some (.tup (cutV xs lo none)) → Q (.ref R) G) :
    tNoPart sl H (fun u H3 => rSlA K (.ref x) lo u H3 Q) := cut_read (hi := none) hx q
theorem rows_town {G : Hp} {a : Addr} {rs : List (List V)} {m i : Nat} (h : Rows G a rs) (T : TownsB rs m) (hi : i < m) : ∃ (as : List Addr) (t : Addr) (z : Str) (lo hi : Int), G a = some (.lst (as.map V.ref)) ∧ as.length = m ∧ (as.map V.ref)[i]? = some (.ref t) ∧ G t = some (.tup [.str z, .int lo, .int hi]) ∧ Tx z 8 := by
  obtain ⟨as, h1, h2⟩ := h
  have l := T.1
  have hl : i < rs.length := by omega
  obtain ⟨t, ht, hb⟩ := paired_get h2 i rs[i] (List.getElem?_eq_getElem hl)
  obtain ⟨z, lo, hi, er, nz, z8, _⟩ := T.2.2 rs[i] (List.getElem_mem hl)
  exact ⟨as, t, z, lo, hi, h1, by rw [paired_len h2, l], by rw [List.getElem?_map, ht]; rfl, by rw [← er]; exact hb, name_tx nz z8⟩
section
variable {P : Program} {w : World} {K : PySem.W.Frag} {mg : Str → Option Value} {base : Heap}
def spBent : Sp := fun vs H Q _ => ∃ (p a e : Addr) (c m : Nat) (rs : List (List V)) (r : List V), vs = [.ref p, .ref a, .ref e] ∧ PurseAt H p c ∧ c ≤ 970000 ∧ 1 ≤ m ∧ m ≤ 20 ∧ Rows H a rs ∧ TownsB rs m ∧ H e = some (.tup r) ∧ Shape r ∧
  ∀ t H' r', Bent r' → H' t = some (.tup r') → PurseAt H' p (c + 20) → Keep p H H' → Q (.ref t) H'
abbrev nBent : List Str := ["purse", "places", "entry", "way", "spot", "label", "odd", "pieces", "last", "rank"]
theorem scBent : FnScope nBent ["purse", "places", "entry"] (defScope sBent) := ⟨rfl, rfl, rfl, by decide +kernel, rfl, by decide +kernel, by decide +kernel⟩
theorem ok_bent {f fC fM fW fL : Addr} {fd fdC fdM fdW fdL : FuncData} {k : Nat} (F : Fun K "_law_mk_bent_entry" "_law_mk_bent_entry" sBent f fd) (C : CoinAt P w K mg base fC fdC) (M : DefAt P w K mg base "_law_mk_moment" fM fdM ["purse"] 2 spMoment)
    (W : DefAt P w K mg base "_law_mk_odd_word" fW fdW ["purse", "word_here"] 3 spWord) (L : DefAt P w K mg base "_law_mk_odd_label" fL fdL ["purse", "label"] 3 spLabel) (B : Blt mg) : FnOk P w K mg base CX0 (k + 4) f fd ["purse", "places", "entry"] spBent := by
  have GC := C.ok (k + 2)
  have GM := M.ok (k + 1)
  have GW := W.ok k
  have GL := L.ok k
  refine F.ok scBent (fun vs H Q E h => ?_) (fun cdv A outer s H vs Q E hr h => ?_)
  · obtain ⟨p, a, e, c, m, rs, r, rfl, _⟩ := h
    rfl
  · obtain ⟨p, a, e, c, m, rs, r, rfl, hp, hc, hm1, hm, hA, hT, he, sh, q⟩ := h
    have nd := scBent.nd
    refine ⟨_, pss_cons (ps_par (i := 3) (j := 4) rfl nd rfl rfl (by decide) rfl rfl (pa_cons (pe_call GC hr (by rfl) C.mg C.kp C.b .nil pass0 (pa_cons (pv 0) (pa_cons pe_int pa_nil))) (pa_cons (pe_call GC hr (by rfl) C.mg C.kp C.b .nil pass0 (pa_cons (pv 0) (pa_cons (pe_callB call_len_seq (by rfl) B.len PySem.boot_len (pa_cons (pv 2) pa_nil)) pa_nil))) pa_nil)) (by rfl))
      (pss_cons (ps_set (i := 5) nd rfl (.inl rfl) (pe_ix (r := rIxT K) ix_tup (pe_ix ix_list (pv 1) (pe_call GC hr (by rfl) C.mg C.kp C.b .nil pass0 (pa_cons (pv 0) (pa_cons (pe_callB call_len_seq (by rfl) B.len PySem.boot_len (pa_cons (pv 1) pa_nil)) pa_nil))) (fun _ _ => rfl)) pe_int (fun _ _ => rfl)))
      (pss_cons (ps_if (pt_cmpR op_eq (pv 3) pe_int (nomark _)) (pss_one (ps_ret (pe_ifExp (pt_cmpR op_eq (pv 4) pe_int (nomark _)) (pe_tup pa_nil) (pe_slice (r := rSlA K) sl_tupA (pv 2) po_none (po_some pe_int))))) pss_nil)
      (pss_cons (ps_if (pt_cmpR op_eq (pv 3) pe_int (nomark _)) (pss_one (ps_ret (pe_op op_catA (pe_tup (pa_cons (pe_call GW hr (by rfl) W.mg W.kp W.b .nil pass0 (pa_cons (pv 0) (pa_cons (pe_ix (r := rIxT K) ix_tup (pv 2) pe_int (fun _ _ => rfl)) pa_nil))) pa_nil)) (pe_slice (r := rSlA K) sl_tupA (pv 2) (po_some pe_int) po_none)))) pss_nil)
      (pss_cons (ps_if (pt_cmpR op_eq (pv 3) pe_int (nomark _)) (pss_one (ps_ret (pe_op op_catA (pe_op op_catA (pe_slice (r := rSlA K) sl_tupA (pv 2) po_none (po_some (pv 4))) (pe_tup (pa_cons (pv 5) pa_nil))) (pe_slice (r := rSlA K) sl_tupA (pv 2) (po_some (pv 4)) po_none)))) pss_nil)
      (pss_cons (ps_if (pt_cmpR op_eq (pv 3) pe_int (nomark _)) (pss_one (ps_ret (pe_op op_catA (pe_slice (r := rSlA K) sl_tupA (pv 2) po_none (po_some (pv 4))) (pe_slice (r := rSlA K) sl_tupA (pv 2) (po_some (pe_op op_add (pv 4) pe_int)) po_none)))) pss_nil)
      (pss_cons (ps_if (pt_cmpR op_eq (pv 3) pe_int (nomark _)) (pss_one (ps_ret (pe_op op_catA (pe_slice (r := rSlA K) sl_tupA (pv 2) po_none (po_some (pe_un un_neg pe_int))) (pe_tup (pa_cons (pe_op op_sub (pe_un un_neg pe_int) (pe_call GM hr (by rfl) M.mg M.kp M.b .nil pass0 (pa_cons (pv 0) pa_nil))) pa_nil))))) pss_nil)
      (pss_cons (ps_if (pt_cmpR op_eq (pv 3) pe_int (nomark _)) (pss_one (ps_ret (pe_op op_catA (pe_op op_catA (pe_slice (r := rSlA K) sl_tupA (pv 2) po_none (po_some pe_int)) (pe_op op_rep12 (pe_tup (pa_cons (pe_ix (r := rIxT K) ix_tup (pv 2) pe_int (fun _ _ => rfl)) pa_nil)) (pe_op op_sub (pe_callB call_len_seq (by rfl) B.len PySem.boot_len (pa_cons (pv 2) pa_nil)) pe_int))) (pe_slice (r := rSlA K) sl_tupA (pv 2) (po_some (pe_un un_neg pe_int)) po_none)))) pss_nil)
      (pss_cons (ps_set (i := 6) nd rfl (.inl rfl) (pe_call GL hr (by rfl) L.mg L.kp L.b .nil pass0 (pa_cons (pv 0) (pa_cons (pv 5) pa_nil))))
      (pss_cons (ps_if (pt_cmpR op_gt (pv 3) pe_int (nomark _))
        (pss_cons (ps_set (i := 7) nd rfl (.inl rfl) (pe_ix ix_list (pe_lst (pa_cons (pe_lst (pa_cons (pv 6) (pa_cons (pe_ix (r := rIxT K) ix_tup (pv 2) pe_int (fun _ _ => rfl)) pa_nil))) (pa_cons (pe_lst (pa_cons (pv 6) (pa_cons (pv 6) pa_nil))) (pa_cons (pe_lst (pa_cons (pe_ix (r := rIxT K) ix_tup (pv 2) pe_int (fun _ _ => rfl)) (pa_cons (pe_ix (r := rIxT K) ix_tup (pv 2) pe_int (fun _ _ => rfl)) pa_nil))) (pa_cons (pe_lst (pa_cons (pv 6) (pa_cons pe_str pa_nil))) pa_nil))))) (pe_op op_sub (pv 3) pe_int) (fun _ _ => rfl)))
        (pss_cons (ps_set (i := 8) nd rfl (.inl rfl) (pe_ix ix_list (pe_lst (pa_cons (pe_ix (r := rIxT K) ix_tup (pv 2) (pe_un un_neg pe_int) (fun _ _ => rfl)) (pa_cons (pe_op op_sub (pe_un un_neg pe_int) (pe_call GM hr (by rfl) M.mg M.kp M.b .nil pass0 (pa_cons (pv 0) pa_nil))) pa_nil))) (pe_call GC hr (by rfl) C.mg C.kp C.b .nil pass0 (pa_cons (pv 0) (pa_cons pe_int pa_nil))) (fun _ _ => rfl)))
        (pss_one (ps_ret (pe_op op_catA (pe_op op_catA (pe_slice (r := rSlA K) sl_tupA (pv 2) po_none (po_some pe_int)) (pe_callTy call_tuple_of (by rfl) B.tuple (by decide +kernel) (pa_cons (pe_slice sl_list (pv 7) po_none (po_some (pe_op op_sub (pe_callB call_len_seq (by rfl) B.len PySem.boot_len (pa_cons (pv 2) pa_nil)) pe_int))) pa_nil))) (pe_tup (pa_cons (pv 8) pa_nil))))))) pss_nil)
      (pss_cons (ps_set (i := 9) nd rfl (.inl rfl) (pe_op op_add pe_int (pe_call GC hr (by rfl) C.mg C.kp C.b .nil pass0 (pa_cons (pv 0) (pa_cons (pe_op op_sub (pe_callB call_len_seq (by rfl) B.len PySem.boot_len (pa_cons (pv 2) pa_nil)) pe_int) pa_nil)))))
      (pss_one (ps_ret (pe_op op_catA (pe_op op_catA (pe_slice (r := rSlA K) sl_tupA (pv 2) po_none (po_some (pv 9))) (pe_tup (pa_cons (pe_call GL hr (by rfl) L.mg L.kp L.b .nil pass0 (pa_cons (pv 0) (pa_cons (pe_ix (r := rIxT K) ix_tup (pv 2) (pv 9) (fun _ _ => rfl)) pa_nil))) pa_nil))) (pe_slice (r := rSlA K) sl_tupA (pv 2) (po_some (pe_op op_add (pv 9) pe_int)) po_none)))))))))))))), ?_⟩
    have FA := sh.facts
    have lr := FA.len
    have pe : e ≠ p := fun z => by
      obtain ⟨a1, a2, a3, e1, _⟩ := hp
      rw [z, e1] at he
      cases he
    refine ⟨_, rfl, p, c, 11, rfl, hp, by omega, by decide, by decide, fun way H1 w0 w1 hp1 k1 => ?_⟩
    have he1 := k1 _ _ he pe
    refine ⟨_, rfl, _, rfl, e, _, rfl, .inr (.inl (.inl he1)), p, _, _, rfl, hp1, by omega, by omega, by omega, fun spot H2 s0 s1 hp2 k2 => ⟨_, _, rfl, ?_⟩⟩
    have he2 := k2 _ _ he1 pe
    have hA2 := (hA.keep hp k1).keep hp1 k2
    obtain ⟨as0, t0, z0, lo0, hi0, hA20, la0, _⟩ := rows_town (i := 0) hA2 hT (by omega)
    have lm : (as0.map V.ref).length = m := by rw [List.length_map, la0]
    refine ⟨_, rfl, _, rfl, _, rfl, a, _, rfl, .inl (.inl (.inl hA20)), p, _, _, rfl, hp2, by omega, by omega, by omega, fun rk H3 r0 r1 hp3 k3 => ?_⟩
    obtain ⟨rk, rfl⟩ : ∃ n : Nat, rk = n := ⟨rk.toNat, by omega⟩
    obtain ⟨as, t, lab, lo, hi, hA3, la, gt, ht, tl⟩ := rows_town (i := rk) (hA2.keep hp2 k3) hT (by omega)
    refine ⟨a, _, _, _, rfl, rfl, .inl (.inl hA3), atI_nat gt, t, _, 0, .str lab, rfl, rfl, .inl (.inl ht), atI_nat (j := 0) rfl, ?_⟩
    have he3 := k3 _ _ he2 pe
    have k123 := (k1.trans k2).trans k3
    obtain ⟨spot, rfl⟩ : ∃ n : Nat, spot = n := ⟨spot.toNat, by omega⟩
    have hs : spot < r.length := by omega
    have fin : ∀ {G : Hp} {R : Addr} {r' : List V} {n : Nat}, Bent r' → G R = some (.tup r') → PurseAt G p n → n ≤ c + 20 → Keep p H G → Q (.ref R) G := fun b hR h l kk => q _ _ _ b hR (h.more l) kk
    have finS : ∀ {G : Hp} {R : Addr} {r' : List V}, Bent r' → G R = some (.tup r') → Same H3 G → Q (.ref R) G := fun b hR s => fin b hR (hp3.same s) (by omega) (k123.trans (Keep.of s))
    have cl : ∀ lo hi, (cutV r lo hi).length ≤ 4 := fun lo hi => Nat.le_trans (cutV_length r lo hi) (by omega)
    -- one thing, or none
    refine ⟨_, rfl, rfl, _, rfl, ite2 (fun _ => ?_) (fun n0 => ?_)⟩
    · refine ⟨_, rfl, rfl, _, rfl, ite2 (fun _ => ?_) (fun _ => ?_)⟩
      · exact ⟨Nat.zero_le _, fun T nT => finS bent_nil upd_same (new_same nT)⟩
      · exact ⟨_, rfl, _, rfl, cut_read he3 fun R G s hR => finS FA.b0 hR s⟩
    -- another first text
    refine ⟨_, rfl, rfl, _, rfl, ite2 (fun _ => ?_) (fun n1 => ?_)⟩
    · obtain ⟨kk, hk0, tk, kl⟩ := FA.first
      refine ⟨_, rfl, _, rfl, e, _, 0, .str kk, rfl, rfl, .inl (.inl he3), atI_nat (j := 0) hk0, p, _, kk, rfl, hp3, by omega, tk, kl, fun y H4 ty hp4 k4 => ⟨by show 1 ≤ sizeLine; decide, fun T nT => ?_⟩⟩
      have he4 := (new_same nT (o := .tup [.str y])) _ _ (k4 _ _ he3 pe)
      refine ⟨_, rfl, _, rfl, cut_readN he4 fun R G s hR => ?_⟩
      refine cat_read (s _ _ upd_same) hR (by have := cl (some 1) none; show 1 + _ ≤ 1000; omega) fun R2 G2 s2 hR2 => ?_
      exact fin (FA.b1 y ty) hR2 (((hp4.new nT).same s).same s2) (by omega) (((k123.trans k4).new nT).trans ((Keep.of s).trans (Keep.of s2)))
    -- one thing more
    refine ⟨_, rfl, rfl, _, rfl, ite2 (fun _ => ?_) (fun n2 => ?_)⟩
    · refine ⟨_, rfl, _, rfl, _, rfl, cut_read he3 fun R G s hR => ⟨_, rfl, by show 1 ≤ sizeLine; decide, fun T nT => ?_⟩⟩
      have c1 := cl none (some (spot : Int))
      have c2 := cl (some (spot : Int)) none
      refine cat_read ((new_same nT) _ _ hR) upd_same (by show _ + 1 ≤ 1000; omega) fun R2 G2 s2 hR2 => ?_
      have s3 := (s.trans (new_same nT (o := .tup [.str lab]))).trans s2
      refine ⟨_, rfl, _, rfl, _, rfl, cut_readN (s3 _ _ he3) fun R3 G3 s4 hR3 => ?_⟩
      refine cat_read (s4 _ _ hR2) hR3 (by rw [List.length_append]; show _ + 1 + _ ≤ 1000; omega) fun R4 G4 s5 hR4 => ?_
      rw [cut_take _ _ (by omega), cut_drop _ _ (by omega)] at hR4
      exact finS (bent2 sh tl hs) hR4 ((s3.trans s4).trans s5)
    -- one thing fewer
    refine ⟨_, rfl, rfl, _, rfl, ite2 (fun _ => ?_) (fun n3 => ?_)⟩
    · refine ⟨_, rfl, _, rfl, _, rfl, cut_read he3 fun R G s hR => ⟨_, rfl, _, rfl, _, _, rfl, rfl, _, rfl, cut_readN (s _ _ he3) fun R2 G2 s2 hR2 => ?_⟩⟩
      have c1 := cl none (some (spot : Int))
      have c2 := cl (some ((spot : Int) + 1)) none
      refine cat_read (s2 _ _ hR) hR2 (by omega) fun R3 G3 s3 hR3 => ?_
      rw [show ((spot : Int) + 1) = ((spot + 1 : Nat) : Int) from by omega, cut_take _ _ (by omega), cut_drop _ _ (by omega)] at hR3
      exact finS (bent3 sh hs) hR3 ((s.trans s2).trans s3)
    -- a day below 0
    refine ⟨_, rfl, rfl, _, rfl, ite2 (fun _ => ?_) (fun n4 => ?_)⟩
    · refine ⟨_, rfl, _, rfl, _, rfl, cut_read he3 fun R G s hR => ⟨_, rfl, _, rfl, p, _, rfl, hp3.same s, by omega, fun dd G2 d0 d1 hp5 k5 => ⟨_, _, rfl, rfl, by show 1 ≤ sizeLine; decide, fun T nT => ?_⟩⟩⟩
      have c1 := cl none (some (-1))
      have neR : R ≠ p := fun z => by
        obtain ⟨a1, a2, a3, e1, _⟩ := hp3.same s
        rw [z, e1] at hR
        cases hR
      refine cat_read ((new_same nT) _ _ (k5 _ _ hR neR)) upd_same (by show _ + 1 ≤ 1000; omega) fun R2 G3 s3 hR2 => ?_
      exact fin (FA.b4 (-1 - dd) (by omega) (by omega)) hR2 ((hp5.new nT).same s3) (by omega) ((((k123.trans (Keep.of s)).trans k5).new nT).trans (Keep.of s3))
    -- one name twice
    refine ⟨_, rfl, rfl, _, rfl, ite2 (fun _ => ?_) (fun n5 => ?_)⟩
    · obtain ⟨z, hz, tz, b3, b4⟩ := FA.b5
      have c1 := cl none (some 1)
      have c2 := cl (some (-1)) none
      refine ⟨_, rfl, _, rfl, cut_read he3 fun R G s hR => ⟨_, rfl, e, _, 1, .str z, rfl, rfl, .inl (.inl (s _ _ he3)), atI_nat (j := 1) hz, by show 1 ≤ sizeLine; decide, fun T nT => ?_⟩⟩
      have sT := s.trans (new_same nT (o := .tup [.str z]))
      refine ⟨_, rfl, e, _, rfl, .inr (.inl (.inl (sT _ _ he3))), _, _, rfl, rfl, T, [.str z], rfl, upd_same, ?_⟩
      rcases lr with l | l
      · refine .inl ⟨by rw [l]; rfl, ?_⟩
        refine cat_read ((new_same nT) _ _ hR) upd_same (by show _ + 1 ≤ 1000; omega) fun R2 G2 s2 hR2 => ?_
        have s3 := sT.trans s2
        refine ⟨_, rfl, _, rfl, _, rfl, cut_readN (s3 _ _ he3) fun R3 G3 s4 hR3 => ?_⟩
        refine cat_read (s4 _ _ hR2) hR3 (by rw [List.length_append]; show _ + 1 + _ ≤ 1000; omega) fun R4 G4 s5 hR4 => ?_
        exact finS (b3 l) hR4 ((s3.trans s4).trans s5)
      · refine .inr ⟨by simp, by simp, by rw [l]; rfl, fun T2 nT2 => ?_⟩
        have sT2 := sT.trans (new_same nT2 (o := .tup ([.str z] ++ [.str z])))
        refine cat_read ((new_same nT2) _ _ ((new_same nT) _ _ hR)) upd_same (by show _ + 2 ≤ 1000; omega) fun R2 G2 s2 hR2 => ?_
        have s3 := sT2.trans s2
        refine ⟨_, rfl, _, rfl, _, rfl, cut_readN (s3 _ _ he3) fun R3 G3 s4 hR3 => ?_⟩
        refine cat_read (s4 _ _ hR2) hR3 (by rw [List.length_append]; show _ + 2 + _ ≤ 1000; omega) fun R4 G4 s5 hR4 => ?_
        exact finS (b4 l) hR4 ((s3.trans s4).trans s5)
    -- an odd name
    refine ⟨_, rfl, _, rfl, p, _, lab, rfl, hp3, by omega, tl, fun od H4 to hp4 k4 => ?_⟩
    have he4 := k4 _ _ he3 pe
    have k1234 := k123.trans k4
    refine ⟨_, rfl, _, _, rfl, rfl, _, rfl, ite2 (fun e6 => ?_) (fun e6 => ?_)⟩
    · -- names and a day
      have w6 : 6 < way := of_decide_eq_true e6
      obtain ⟨z, hz, tz, _, _⟩ := FA.b5
      obtain ⟨dl, hdl, dl0, dl1⟩ := FA.last
      have tz9 := tz.more (show 8 ≤ 9 by omega)
      have tu : Tx ("Ulm" : Str) 9 := tx_lit _ _ (by decide +kernel) (by decide +kernel)
      refine ⟨_, rfl, _, rfl, e, _, 1, .str z, rfl, rfl, .inl (.inl he4), atI_nat (j := 1) hz, by show 2 ≤ sizeLine; decide, fun L1 n1 => ?_⟩
      have s1 := new_same n1 (o := .lst [.str od, .str z])
      refine ⟨_, rfl, _, rfl, by show 2 ≤ sizeLine; decide, fun L2 n2 => ?_⟩
      have s2 := s1.trans (new_same n2 (o := .lst [.str od, .str od]))
      refine ⟨_, rfl, e, _, 1, .str z, rfl, rfl, .inl (.inl (s2 _ _ he4)), atI_nat (j := 1) hz, _, rfl, e, _, 1, .str z, rfl, rfl, .inl (.inl (s2 _ _ he4)), atI_nat (j := 1) hz, by show 2 ≤ sizeLine; decide, fun L3 n3 => ?_⟩
      have s3 := s2.trans (new_same n3 (o := .lst [.str z, .str z]))
      refine ⟨_, rfl, by show 2 ≤ sizeLine; decide, fun L4 n4 => ⟨by show 4 ≤ sizeLine; decide, fun L5 n5 => ?_⟩⟩
      have s4 := s3.trans (new_same n4 (o := .lst [.str od, .str "Ulm"]))
      have s5 := s4.trans (new_same n5 (o := .lst [.ref L1, .ref L2, .ref L3, .ref L4]))
      have q4 := new_same n5 (o := .lst [.ref L1, .ref L2, .ref L3, .ref L4])
      have q3 := (new_same n4 (o := .lst [.str od, .str "Ulm"])).trans q4
      have q2 := (new_same n3 (o := .lst [.str z, .str z])).trans q3
      have q1 := (new_same n2 (o := .lst [.str od, .str od])).trans q2
      have h5 : (upd (upd (upd (upd (upd H4 L1 (.lst [.str od, .str z])) L2 (.lst [.str od, .str od])) L3 (.lst [.str z, .str z])) L4 (.lst [.str od, .str "Ulm"])) L5 (.lst [.ref L1, .ref L2, .ref L3, .ref L4])) L5 = some (.lst [.ref L1, .ref L2, .ref L3, .ref L4]) := upd_same
      obtain ⟨Lx, u, v, hx, hLx, tU, tV⟩ : ∃ (Lx : Addr) (u v : Str), atI [V.ref L1, V.ref L2, V.ref L3, V.ref L4] (way - 7) = some (.ref Lx) ∧
          (upd (upd (upd (upd (upd H4 L1 (.lst [.str od, .str z])) L2 (.lst [.str od, .str od])) L3 (.lst [.str z, .str z])) L4 (.lst [.str od, .str "Ulm"])) L5 (.lst [.ref L1, .ref L2, .ref L3, .ref L4])) Lx = some (.lst [.str u, .str v]) ∧ Tx u 9 ∧ Tx v 9 := by
        have w : way = 7 ∨ way = 8 ∨ way = 9 ∨ way = 10 := by omega
        rcases w with rfl | rfl | rfl | rfl
        · exact ⟨L1, od, z, atI_nat (j := 0) rfl, q1 _ _ upd_same, to, tz9⟩
        · exact ⟨L2, od, od, atI_nat (j := 1) rfl, q2 _ _ upd_same, to, to⟩
        · exact ⟨L3, z, z, atI_nat (j := 2) rfl, q3 _ _ upd_same, tz9, tz9⟩
        · exact ⟨L4, od, "Ulm", atI_nat (j := 3) rfl, q4 _ _ upd_same, to, tu⟩
      refine ⟨_, rfl, _, _, rfl, rfl, L5, _, _, .ref Lx, rfl, rfl, .inl (.inl h5), hx, ?_⟩
      clear q1 q2 q3 q4
      generalize upd (upd (upd (upd (upd H4 L1 (.lst [.str od, .str z])) L2 (.lst [.str od, .str od])) L3 (.lst [.str z, .str z])) L4 (.lst [.str od, .str "Ulm"])) L5 (.lst [.ref L1, .ref L2, .ref L3, .ref L4]) = G5 at s5 hLx ⊢
      have neX : Lx ≠ p := fun zz => by
        obtain ⟨a1, a2, a3, e1, _⟩ := hp4.same s5
        rw [zz, e1] at hLx
        cases hLx
      -- the day
      refine ⟨_, rfl, _, rfl, e, _, -1, .int dl, rfl, rfl, .inl (.inl (s5 _ _ he4)), hdl, _, rfl, _, rfl, p, _, rfl, hp4.same s5, by omega, fun dd G6 d0 d1 hp6 k6 => ⟨_, _, rfl, rfl, by show 2 ≤ sizeLine; decide, fun L6 n6 => ?_⟩⟩
      refine ⟨_, rfl, p, _, 2, rfl, hp6.new n6, by omega, by decide, by decide, fun x G7 x0 x1 hp7 k7 => ?_⟩
      have hL7 := k7 _ _ (upd_same (H := G6) (a := L6) (o := .lst [.int dl, .int (-1 - dd)])) (hp6.ne_new n6)
      have hLx7 := k7 _ _ ((new_same n6 (o := .lst [.int dl, .int (-1 - dd)])) _ _ (k6 _ _ hLx neX)) neX
      have he7 := k7 _ _ ((new_same n6 (o := .lst [.int dl, .int (-1 - dd)])) _ _ (k6 _ _ (s5 _ _ he4) pe)) pe
      have kA := (((k1234.trans (Keep.of s5)).trans k6).new n6).trans k7
      obtain ⟨y, hy, y0, y1⟩ : ∃ y : Int, atI [V.int dl, V.int (-1 - dd)] x = some (.int y) ∧ -(10 ^ 30 + 1) ≤ y ∧ y ≤ 10 ^ 30 + 1 := by
        have x01 : x = 0 ∨ x = 1 := by omega
        rcases x01 with rfl | rfl
        · exact ⟨dl, atI_nat (j := 0) rfl, by omega, by omega⟩
        · exact ⟨-1 - dd, atI_nat (j := 1) rfl, by omega, by omega⟩
      refine ⟨L6, _, x, .int y, rfl, rfl, .inl (.inl hL7), hy, ?_⟩
      -- the note
      have c1 := cl none (some 1)
      refine ⟨_, rfl, _, rfl, cut_read he7 fun R G s hR => ⟨_, rfl, _, rfl, e, _, rfl, .inr (.inl (.inl (s _ _ he7))), _, _, rfl, rfl, _, rfl, Lx, _, rfl, .inl (.inl (s _ _ hLx7)), fun L8 n8 => ?_⟩⟩
      have s8 := s.trans (new_same n8 (o := .lst (cutV [.str u, .str v] none (some ((r.length : Nat) - 2 : Int)))))
      refine ⟨L8, _, rfl, .inl ⟨.inl (.inl upd_same), fun T8 nT8 => ?_⟩⟩
      have s9 := s8.trans (new_same nT8 (o := .tup (cutV [.str u, .str v] none (some ((r.length : Nat) - 2 : Int)))))
      have c2 := cutV_length [.str u, .str v] none (some ((r.length : Nat) - 2 : Int))
      have c3 : (cutV [.str u, .str v] none (some ((r.length : Nat) - 2 : Int))).length ≤ 2 := c2
      refine cat_read ((new_same nT8) _ _ ((new_same n8) _ _ hR)) upd_same (by omega) fun R2 G2 sB hR2 => ?_
      have s10 := s9.trans sB
      refine ⟨_, rfl, by show 1 ≤ sizeLine; decide, fun T9 nT9 => ?_⟩
      refine cat_read ((new_same nT9) _ _ hR2) upd_same (by rw [List.length_append]; show _ + _ + 1 ≤ 1000; omega) fun R3 G3 sC hR3 => ?_
      have s11 := (s10.trans (new_same nT9 (o := .tup [.int y]))).trans sC
      exact fin (FA.b6 u v y tU tV y0 y1) hR3 (hp7.same s11) (by omega) (kA.trans (Keep.of s11))
    · -- another name
      refine ⟨_, rfl, _, rfl, e, _, rfl, .inr (.inl (.inl he4)), _, _, rfl, rfl, p, _, _, rfl, hp4, by omega, by omega, by omega, fun j H5 j0 j1 hp5 k5 => ⟨_, _, rfl, rfl, ?_⟩⟩
      obtain ⟨j, rfl⟩ : ∃ n : Nat, j = n := ⟨j.toNat, by omega⟩
      show gName 9 (V.int (1 + (j : Int))) _ _ _
      rw [show (1 + (j : Int)) = ((j + 1 : Nat) : Int) from by omega]
      obtain ⟨z, hz, tz, b7⟩ := FA.b7 (j + 1) (by omega) (by omega)
      have he5 := k5 _ _ he4 pe
      refine ⟨_, rfl, _, rfl, _, rfl, cut_read he5 fun R G s hR => ?_⟩
      have c1 := cl none (some ((j + 1 : Nat) : Int))
      have c2 := cl (some (((j + 1 : Nat) : Int) + 1)) none
      have neR : R ≠ p := fun zz => by
        obtain ⟨a1, a2, a3, e1, _⟩ := hp5.same s
        rw [zz, e1] at hR
        cases hR
      refine ⟨_, rfl, _, rfl, _, rfl, e, _, _, .str z, rfl, rfl, .inl (.inl (s _ _ he5)), atI_nat hz, p, _, z, rfl, hp5.same s, by omega, tz, fun y G6 ty hp6 k6 => ⟨by show 1 ≤ sizeLine; decide, fun T nT => ?_⟩⟩
      refine cat_read ((new_same nT) _ _ (k6 _ _ hR neR)) upd_same (by show _ + 1 ≤ 1000; omega) fun R2 G2 s2 hR2 => ?_
      have he6 := s2 _ _ ((new_same nT (o := .tup [.str y])) _ _ (k6 _ _ (s _ _ he5) pe))
      refine ⟨_, rfl, _, rfl, _, _, rfl, rfl, _, rfl, cut_readN he6 fun R3 G3 s4 hR3 => ?_⟩
      refine cat_read (s4 _ _ hR2) hR3 (by rw [List.length_append]; show _ + 1 + _ ≤ 1000; omega) fun R4 G4 s5 hR4 => ?_
      rw [show (((j + 1 : Nat) : Int) + 1) = ((j + 1 + 1 : Nat) : Int) from by omega, cut_take _ _ (by omega), cut_drop _ _ (by omega)] at hR4
      exact fin (b7 y ty) hR4 ((((hp6.new nT).same s2).same s4).same s5) (by omega) (((((k1234.trans k5).trans (Keep.of s)).trans k6).new nT).trans (Keep.of ((s2.trans s4).trans s5)))
end
end Md

namespace Md
open PySem PySem.Spec PyProof.Rows L2
abbrev sFault : Stmt := top 34
abbrev sSlip : Stmt := top 35
def nmF : Fk → Str
  | .note => "InvalidNote"
  | .town => "UnknownTown"
  | .day => "InvalidDay"
def faultL : Option (Fk × V) → List V
  | none => []
  | some (k, v) => [.str (nmF k), v]
/-! shown data, a little wider -/
theorem nice_intW {i : Int} (h0 : -(10 ^ 30 + 1) ≤ i) (h1 : i ≤ 10 ^ 30 + 1) : Nice (.int i) 0 0 := by
  have z : i.natAbs < 10 ^ 31 := by omega
  have e : (PyData.shown (.int i)).length ≤ 32 := by
    have a := PySem.int_text_length_le10 (a := i) (k := 31) (by decide) z
    show (Str.ofString (toString i)).length ≤ 32
    rw [PySem.ofString_length]
    omega
  refine ⟨by simp [PyData.canLay0], ?_, by simp [PyData.hasDict], by simp [PyData.depth], ?_, by simp [PyData.bulk]⟩
  · simp only [PyData.showable, decide_eq_true_eq]
    have w : i.natAbs < 2 ^ 200 := by
      have b : (10 : Nat) ^ 31 < 2 ^ 200 := by decide
      omega
    rcases Nat.eq_zero_or_pos i.natAbs with q | q
    · rw [q]
      decide
    · have l := (Nat.log2_lt (by omega)).mpr w
      omega
  · simp only [PyData.leavesShort, decide_eq_true_eq]
    exact e
theorem nice_tx {z : Str} {n : Nat} (h : Tx z n) (e : n ≤ 20) : Nice (.str z) 0 20 := by
  refine ⟨?_, by simp [PyData.showable], by simp [PyData.hasDict], by simp [PyData.depth], ?_, ?_⟩
  · simp only [PyData.canLay0]
    show z.cps.all (fun c => decide (c < 0x110000)) = true
    rw [← Array.all_toList, List.all_eq_true]
    intro c hc
    have := h.2 c hc
    exact decide_eq_true (by omega)
  · simp only [PyData.leavesShort, List.all_eq_true, decide_eq_true_eq]
    intro c hc
    have := h.2 c hc
    omega
  · simp only [PyData.bulk]
    have := h.1
    show z.length ≤ 20
    omega
theorem FlatW.nice {v : V} (h : FlatW v) : Nice (vD v) 0 20 := by
  rcases h with ⟨z, rfl, t⟩ | ⟨i, rfl, a, b⟩
  · exact nice_tx t (by omega)
  · exact (nice_intW a b).more (Nat.le_refl _) (by omega)
theorem FlatW.dp {K : PySem.W.Frag} {H : Hp} {v : V} (h : FlatW v) : Dp K H v (vD v) := by
  rcases h with ⟨z, rfl, _⟩ | ⟨i, rfl, _⟩
  · exact .str z
  · exact .int i
theorem flatsW_dp {K : PySem.W.Frag} {H : Hp} : ∀ {r : List V}, (∀ v ∈ r, FlatW v) → DpAll K H r (r.map vD)
  | [], _ => .nil
  | v :: r, h => .cons (h v (List.mem_cons_self ..)).dp (flatsW_dp fun x hx => h x (List.mem_cons_of_mem _ hx))
theorem Bent.nice {r : List V} (h : Bent r) : Nice (rowD r) 1 105 := by
  refine (Nice.tuple (ds := r.map vD) (dep := 0) (b := 20) fun d hd => ?_).more (Nat.le_refl _) ?_
  · obtain ⟨v, hv, e⟩ := List.mem_map.mp hd
    rw [← e]
    exact (h.2.1 v hv).nice
  · rw [List.length_map]
    have := h.1
    omega
theorem Bent.dp {K : PySem.W.Frag} {H : Hp} {t : Addr} {r : List V} (h : Bent r) (ht : H t = some (.tup r)) : Dp K H (.ref t) (rowD r) := .tup (.inl (.inl ht)) (flatsW_dp h.2.1)
theorem iteB {c : Bool} {A B : Prop} (h : c = true) (a : A) : if c = true then A else B := by
  rw [if_pos h]
  exact a
theorem iteN {c : Bool} {A B : Prop} (h : c = false) (b : B) : if c = true then A else B := by
  rw [h]
  exact iteF b
theorem eqv_empty {ds : List PyData} : PyData.eqv (.tuple ds) (.tuple []) = decide (ds = []) := by
  cases ds with
  | nil => rfl
  | cons d ds => rfl
theorem eqv_emptyL {ds : List PyData} : PyData.eqv (.list ds) (.list []) = decide (ds = []) := by
  cases ds with
  | nil => rfl
  | cons d ds => rfl
theorem kind_in {k : Str} : decide (k ∈ (["market", "none", "one", "same"] : List Str)) = (kindLen k).isSome := by
  unfold kindLen
  by_cases h : k = "market" ∨ k = "none"
  · rw [if_pos h]
    refine decide_eq_true ?_
    rcases h with h | h <;> simp [h]
  · rw [if_neg h]
    by_cases g : k = "one" ∨ k = "same"
    · rw [if_pos g]
      refine decide_eq_true ?_
      rcases g with h | h <;> simp [h]
    · rw [if_neg g]
      refine decide_eq_false fun m => ?_
      simp only [List.mem_cons, List.not_mem_nil, or_false] at m
      rcases m with m | m | m | m
      · exact h (.inl m)
      · exact h (.inr m)
      · exact g (.inl m)
      · exact g (.inr m)
theorem kind_two {k : Str} {m : Nat} (h : kindLen k = some m) : (m : Int) = 3 + (if decide (k ∈ (["one", "same"] : List Str)) = true then 1 else 0) := by
  unfold kindLen at h
  by_cases a : k = "market" ∨ k = "none"
  · rw [if_pos a] at h
    have e : m = 3 := (Option.some.inj h).symm
    have n : ¬ k ∈ (["one", "same"] : List Str) := by
      rcases a with rfl | rfl
      · decide +kernel
      · decide +kernel
    rw [decide_eq_false n, e]
    rfl
  · rw [if_neg a] at h
    by_cases g : k = "one" ∨ k = "same"
    · rw [if_pos g] at h
      have e : m = 4 := (Option.some.inj h).symm
      have n : k ∈ (["one", "same"] : List Str) := by
        rcases g with rfl | rfl <;> simp
      rw [decide_eq_true n, e]
      rfl
    · rw [if_neg g] at h
      cases h
section
variable {P : Program} {w : World} {K : PySem.W.Frag} {mg : Str → Option Value} {base : Heap}
def spFault : Sp := fun vs H Q _ => ∃ (a e : Addr) (rs : List (List V)) (r : List V) (fm : Option (List Str × Int)), vs = [.ref a, .ref e] ∧ Rows H a rs ∧ (∀ r ∈ rs, TownB r) ∧ rs.length ≤ 20 ∧ H e = some (.tup r) ∧ Bent r ∧ Form r fm ∧
  ∀ l H', H l = none → H' l = some (.lst (faultL (faultOf (rs.map nameOf) (.ref e) fm))) → Same H H' → Q (.ref l) H'
abbrev nFault : List Str := ["places", "entry", "known", "strange", "place", "label"]
theorem scFault : FnScope nFault ["places", "entry"] (defScope sFault) := ⟨rfl, rfl, rfl, by decide +kernel, rfl, by decide +kernel, by decide +kernel⟩
theorem ok_fault {f : Addr} {fd : FuncData} {k : Nat} (F : Fun K "_law_mk_note_fault" "_law_mk_note_fault" sFault f fd) (B : Blt mg) : FnOk P w K mg base CX0 (k + 1) f fd ["places", "entry"] spFault := by
  refine F.ok scFault (fun vs H Q E h => ?_) (fun cdv A outer s H vs Q E hr h => ?_)
  · obtain ⟨a, e, rs, r, fm, rfl, _⟩ := h
    rfl
  · obtain ⟨a, e, rs, r, fm, rfl, ⟨as, hA, hP⟩, good, few, he, bt, fo, q⟩ := h
    have nd := scFault.nd
    refine ⟨_, pss_cons (ps_set (i := 2) nd rfl (.inr rfl) (pe_lc (own := [("place", 4)]) (g := gName 4) (tt := tYes) rfl nd (pi_list (pv 0)) (blkOk_by (N := nFault) (sc := defScope sFault) (by decide +kernel))
        (fun _ _ _ _ _ => pg_name (i := 4) nd rfl (.inl rfl)) (fun _ _ _ _ _ => pts_nil) (fun _ _ _ _ _ => pe_ix (r := rIxT K) ix_tup (pv 4) pe_int (fun _ _ => rfl))))
      (pss_cons (ps_if (PW.pt (pw_or (pt_cmpR (op_eqD hr.units) (pv 1) (pe_tup pa_nil) (nomark _)) (pw_or1 (pt_cmpR op_notIn_seq (pe_ix (r := rIxT K) ix_tup (pv 1) pe_int (fun _ _ => rfl)) (pe_tup (pa_cons pe_str (pa_cons pe_str (pa_cons pe_str (pa_cons pe_str pa_nil))))) (by rfl)))))
        (pss_one (ps_ret (pe_lst (pa_cons pe_str (pa_cons (pv 1) pa_nil))))) pss_nil)
      (pss_cons (ps_if (pt_cmpR op_ne (pe_callB call_len_seq (by rfl) B.len PySem.boot_len (pa_cons (pv 1) pa_nil)) (pe_op op_add pe_int (pe_callTy call_int1 (by rfl) B.int (by decide +kernel) (pa_cons (pe_cmpR op_in_seq (pe_ix (r := rIxT K) ix_tup (pv 1) pe_int (fun _ _ => rfl)) (pe_tup (pa_cons pe_str (pa_cons pe_str pa_nil))) (by rfl)) pa_nil))) (nomark _))
        (pss_one (ps_ret (pe_lst (pa_cons pe_str (pa_cons (pv 1) pa_nil))))) pss_nil)
      (pss_cons (ps_setLc (i := 3) (own := [("label", 5)]) (g := gName 5) rfl nd rfl rfl (sw_true rfl rfl rfl (by decide +kernel)) (pi_tup (pe_slice (r := rSlA K) sl_tupA (pv 1) (po_some pe_int) (po_some (pe_un un_neg pe_int)))) (blkOk_by (N := nFault) (sc := defScope sFault) (by decide +kernel))
        (fun _ _ _ _ _ => pg_name (i := 5) nd rfl (.inl rfl)) (fun _ _ _ _ _ => pts_one (pt_cmpR (r := rIn K true) op_notIn_seq (pv 5) (pv 2) (by rfl))) (fun _ _ _ _ _ => pv 5))
      (pss_cons (ps_if (pt_cmpR (op_neD hr.units) (pv 3) (pe_lst pa_nil) (nomark _)) (pss_one (ps_ret (pe_lst (pa_cons pe_str (pa_cons (pe_ix ix_list (pv 3) pe_int (fun _ _ => rfl)) pa_nil))))) pss_nil)
      (C8.pss_cut (ps_if (PW.pt (pw_and (pt_cmpR op_eq (pe_callB call_len_seq (by rfl) B.len PySem.boot_len (pa_cons (pv 1) pa_nil)) pe_int (nomark _)) (pw_and1 (pt_cmpR op_eq (pe_ix (r := rIxT K) ix_tup (pv 1) pe_int (fun _ _ => rfl)) (pe_ix (r := rIxT K) ix_tup (pv 1) pe_int (fun _ _ => rfl)) (nomark _)))))
        (pss_one (ps_ret (pe_lst (pa_cons pe_str (pa_cons (pv 1) pa_nil))))) pss_nil)
      (pss_one (ps_ret (pe_ifExp (pt_cmpR op_lt (pe_ix (r := rIxT K) ix_tup (pv 1) (pe_un un_neg pe_int) (fun _ _ => rfl)) pe_int (nomark _)) (pe_lst (pa_cons pe_str (pa_cons (pe_ix (r := rIxT K) ix_tup (pv 1) (pe_un un_neg pe_int) (fun _ _ => rfl)) pa_nil))) (pe_lst pa_nil))))))))), ?_⟩
    -- the names
    have ln : as.length = rs.length := paired_len hP
    refine ⟨_, rfl, a, rfl, ⟨_, .inl (.inl hA)⟩, fun D nD => ?_⟩
    refine lcp_list (K := K) (a := a) (xs := as.map V.ref) (ys := (rs.map nameOf).map V.str) (.inl (.inl hA)) nD (by rw [List.length_map, List.length_map, List.length_map, ln]) (by rw [List.length_map, ln]; exact small1000 (by omega)) (fun i x y R hx hy r => ?_) ?_
    · obtain ⟨b, row, ex, hr1, hb⟩ := rows_ref hP hx
      subst ex
      obtain ⟨z, lo, hi, er, _⟩ := good row (List.mem_of_getElem? hr1)
      have ey : y = V.str z := by
        rw [List.getElem?_map, List.getElem?_map, hr1, er] at hy
        exact (Option.some.inj hy).symm
      subst ey
      subst er
      refine ⟨rfl, _, rfl, b, [.str z, .int lo, .int hi], 0, .str z, rfl, rfl, .inl (.inl ?_), atI_nat (j := 0) rfl, r⟩
      unfold grown
      rw [upd_ne (ne_of_none hb nD)]
      exact hb
    generalize hzs : rs.map nameOf = zs at q ⊢
    have lzs : zs.length ≤ 20 := by rw [← hzs, List.length_map]; exact few
    have sD := new_same nD (o := .lst (zs.map V.str))
    have hD : upd H D (.lst (zs.map V.str)) D = some (.lst (zs.map V.str)) := upd_same
    generalize upd H D (.lst (zs.map V.str)) = H1 at sD hD ⊢
    have he1 := sD _ _ he
    have hq1 : SqT K H1 e r := .inl (.inl he1)
    -- no note at all
    refine ⟨_, rfl, Nat.zero_le _, fun U nU => ?_⟩
    have sU := sD.trans (new_same nU (o := .tup []))
    have heU := (new_same nU (o := .tup [])) _ _ he1
    refine ⟨rowD r, .tuple [], bt.dp heU, .tup (.inl (.inl upd_same)) .nil, bt.nice.shaped (by decide), by rfl, _, rfl, ?_⟩
    have off : ∀ (G : Hp), Same H G → faultOf zs (.ref e) fm = some (.note, .ref e) → ∀ l, G l = none → Q (.ref l) (upd G l (.lst [.str "InvalidNote", .ref e])) := fun G sG ef l nl => q l _ (sG.free nl) (by rw [ef, upd_same]; rfl) (sG.trans (new_same nl))
    cases fo with
    | nil =>
      refine iteT ?_
      refine iteT ⟨_, rfl, by show 2 ≤ sizeLine; decide, fun l nl => off _ sU rfl l nl⟩
    | off kd rest hk =>
      have ne : PyData.eqv (rowD (V.str kd :: rest)) (.tuple []) = false := rfl
      rw [ne]
      refine iteF ⟨_, rfl, e, _, 0, .str kd, rfl, rfl, .inl (.inl heU), atI_nat (j := 0) rfl, by show 4 ≤ sizeLine; decide, fun T nT => ?_⟩
      have sT := sU.trans (new_same nT (o := .tup [.str "market", .str "none", .str "one", .str "same"]))
      refine ⟨T, _, rfl, .inr (.inl (.inl upd_same)), rfl, rfl, _, rfl, ?_⟩
      have ei : inV (V.str kd) [.str "market", .str "none", .str "one", .str "same"] = decide (kd ∈ (["market", "none", "one", "same"] : List Str)) := inV_str kd ["market", "none", "one", "same"]
      rw [ei, kind_in]
      cases hl : kindLen kd with
      | none => exact iteT ⟨_, rfl, by show 2 ≤ sizeLine; decide, fun l nl => off _ sT rfl l nl⟩
      | some m =>
        refine iteF ?_
        have heT := (new_same nT (o := .tup [.str "market", .str "none", .str "one", .str "same"])) _ _ heU
        refine ⟨_, rfl, e, _, rfl, .inr (.inl (.inl heT)), _, rfl, e, _, 0, .str kd, rfl, rfl, .inl (.inl heT), atI_nat (j := 0) rfl, by show 2 ≤ sizeLine; decide, fun T2 nT2 => ?_⟩
        have sT2 := sT.trans (new_same nT2 (o := .tup [.str "one", .str "same"]))
        refine ⟨T2, _, rfl, .inr (.inl (.inl upd_same)), rfl, rfl, .inr ⟨_, rfl, _, _, rfl, rfl, rfl, _, rfl, ?_⟩⟩
        have e2 : inV (V.str kd) [.str "one", .str "same"] = decide (kd ∈ (["one", "same"] : List Str)) := inV_str kd ["one", "same"]
        rw [e2]
        have nn : ¬ V.int (((V.str kd :: rest).length : Nat) : Int) = V.int (3 + (if decide (kd ∈ (["one", "same"] : List Str)) = true then 1 else 0)) := fun z => by
          have z2 := V.int.inj z
          rw [← kind_two hl, List.length_cons] at z2
          exact hk (by rw [hl]; congr 1; omega)
        exact iteB (by show (!decide (V.int (((V.str kd :: rest).length : Nat) : Int) = V.int (3 + (if decide (kd ∈ (["one", "same"] : List Str)) = true then 1 else 0)))) = true; rw [decide_eq_false nn]; rfl) ⟨_, rfl, by show 2 ≤ sizeLine; decide, fun l nl => off _ sT2 rfl l nl⟩
    | good kd mids dy hk =>
      have ne : PyData.eqv (rowD (V.str kd :: (mids.map V.str ++ [V.int dy]))) (.tuple []) = false := rfl
      rw [ne]
      refine iteF ⟨_, rfl, e, _, 0, .str kd, rfl, rfl, .inl (.inl heU), atI_nat (j := 0) rfl, by show 4 ≤ sizeLine; decide, fun T nT => ?_⟩
      have sT := sU.trans (new_same nT (o := .tup [.str "market", .str "none", .str "one", .str "same"]))
      refine ⟨T, _, rfl, .inr (.inl (.inl upd_same)), rfl, rfl, _, rfl, ?_⟩
      have ei : inV (V.str kd) [.str "market", .str "none", .str "one", .str "same"] = decide (kd ∈ (["market", "none", "one", "same"] : List Str)) := inV_str kd ["market", "none", "one", "same"]
      rw [ei, kind_in, hk]
      refine iteF ?_
      have heT := (new_same nT (o := .tup [.str "market", .str "none", .str "one", .str "same"])) _ _ heU
      refine ⟨_, rfl, e, _, rfl, .inr (.inl (.inl heT)), _, rfl, e, _, 0, .str kd, rfl, rfl, .inl (.inl heT), atI_nat (j := 0) rfl, by show 2 ≤ sizeLine; decide, fun T2 nT2 => ?_⟩
      have sT2 := sT.trans (new_same nT2 (o := .tup [.str "one", .str "same"]))
      refine ⟨T2, _, rfl, .inr (.inl (.inl upd_same)), rfl, rfl, .inr ⟨_, rfl, _, _, rfl, rfl, rfl, _, rfl, ?_⟩⟩
      have e2 : inV (V.str kd) [.str "one", .str "same"] = decide (kd ∈ (["one", "same"] : List Str)) := inV_str kd ["one", "same"]
      rw [e2]
      have ll : (V.str kd :: (mids.map V.str ++ [V.int dy])).length = mids.length + 2 := by simp
      have nn : V.int (((V.str kd :: (mids.map V.str ++ [V.int dy])).length : Nat) : Int) = V.int (3 + (if decide (kd ∈ (["one", "same"] : List Str)) = true then 1 else 0)) := by
        rw [← kind_two hk, ll]
      refine iteN (by show (!decide (V.int (((V.str kd :: (mids.map V.str ++ [V.int dy])).length : Nat) : Int) = V.int (3 + (if decide (kd ∈ (["one", "same"] : List Str)) = true then 1 else 0)))) = false; rw [decide_eq_true nn]; rfl) ?_
      have heT2 := (new_same nT2 (o := .tup [.str "one", .str "same"])) _ _ heT
      have hD2 := (new_same nT2 (o := .tup [.str "one", .str "same"])) _ _ ((new_same nT (o := .tup [.str "market", .str "none", .str "one", .str "same"])) _ _ ((new_same nU (o := .tup [])) _ _ hD))
      generalize upd (upd (upd H1 U (.tup [])) T (.tup [.str "market", .str "none", .str "one", .str "same"])) T2 (.tup [.str "one", .str "same"]) = G at sT2 heT2 hD2 ⊢
      clear sT sU heT heU nT nU nT2
      have tm : ∀ z ∈ mids, Tx z 9 := by
        intro z hz
        have m : V.str z ∈ (V.str kd :: (mids.map V.str ++ [V.int dy])) := List.mem_cons_of_mem _ (List.mem_append_left _ (List.mem_map.mpr ⟨z, hz, rfl⟩))
        rcases bt.2.1 _ m with ⟨y, ey, ty⟩ | ⟨i, ei, _⟩
        · rw [V.str.inj ey]
          exact ty
        · cases ei
      have lm : mids.length ≤ 3 := by
        have := bt.1
        rw [ll] at this
        omega
      -- the strange names
      refine ⟨_, rfl, 1, rfl, _, rfl, -1, rfl, cut_read heT2 fun R G2 s2 hR => ?_⟩
      rw [cut_mid] at hR
      have sG2 := sT2.trans s2
      refine ⟨R, rfl, ⟨_, .inl (.inl hR)⟩, fun S nS => ?_⟩
      refine lc_tup (K := K) (a := R) (xs := mids.map V.str) (fun i G3 => G3 = upd G2 S (.lst (((mids.take i).filter (unknown zs)).map V.str))) rfl (fun i G3 _ e3 => by rw [e3]; exact .inl (.inl ((new_same nS) _ _ hR))) ?_ ?_
      · rintro i x G3 hx rfl
        obtain ⟨z, hz, rfl⟩ : ∃ z, mids[i]? = some z ∧ x = V.str z := by
          rw [List.getElem?_map] at hx
          cases e : mids[i]? with
          | none => rw [e] at hx; cases hx
          | some z => rw [e] at hx; exact ⟨z, rfl, (Option.some.inj hx).symm⟩
        refine ⟨rfl, _, rfl, _, rfl, D, _, rfl, .inl (.inl (.inl ((new_same nS) _ _ (s2 _ _ hD2)))), rfl, flat_strs _, _, rfl, ?_⟩
        rw [inV_str]
        have nx : (mids.take (i + 1)).filter (unknown zs) = (mids.take i).filter (unknown zs) ++ (if unknown zs z = true then [z] else []) := by
          rw [List.take_add_one, hz, List.filter_append]
          by_cases hu : unknown zs z = true
          · simp [hu]
          · simp [hu]
        by_cases hin : z ∈ zs
        · rw [decide_eq_true hin]
          refine iteF ?_
          rw [nx, if_neg (by rw [show unknown zs z = false from not_out hin]; decide), List.append_nil]
        · rw [decide_eq_false hin]
          refine iteT ⟨_, rfl, _, upd_same, ?_, ?_⟩
          · rw [List.length_map]
            have a1 := List.length_filter_le (unknown zs) (mids.take i)
            rw [List.length_take] at a1
            exact small1000 (by omega)
          · rw [upd_upd, nx, if_pos (show unknown zs z = true from decide_not_in hin), List.map_append]
            rfl
      · rintro G3 rfl
        rw [List.length_map, List.take_length]
        have fd : mids.find? (unknown zs) = (mids.filter (unknown zs)).head? := (List.head?_filter ..).symm
        have tst : ∀ z ∈ mids.filter (unknown zs), Tx z 9 := fun z hz => tm z (List.mem_filter.mp hz).1
        generalize mids.filter (unknown zs) = st at fd tst ⊢
        have sS := sG2.trans (new_same nS (o := .lst (st.map V.str)))
        have hS : upd G2 S (.lst (st.map V.str)) S = some (.lst (st.map V.str)) := upd_same
        have heS := (new_same nS (o := .lst (st.map V.str))) _ _ (s2 _ _ heT2)
        generalize upd G2 S (.lst (st.map V.str)) = G3 at sS hS heS ⊢
        refine ⟨_, rfl, Nat.zero_le _, fun U2 nU2 => ?_⟩
        have sU2 := sS.trans (new_same nU2 (o := .lst []))
        have hS2 := (new_same nU2 (o := .lst [])) _ _ hS
        have heU2 := (new_same nU2 (o := .lst [])) _ _ heS
        have NS : Nice (.list (st.map PyData.str)) 1 (21 * (st.map PyData.str).length) := Nice.list (dep := 0) (b := 20) fun d hd => by
          obtain ⟨z, hz, e⟩ := List.mem_map.mp hd
          rw [← e]
          exact nice_tx (tst z hz) (by omega)
        refine ⟨.list (st.map PyData.str), .list [], .lst (.inl (.inl hS2)) (strs_dp st), .lst (.inl (.inl upd_same)) .nil, NS.shaped (by decide), by rfl, _, rfl, ?_⟩
        have fo2 : faultOf zs (.ref e) (some (mids, dy)) = faultEnd (.ref e) mids dy st.head? := by rw [← fd]; rfl
        rw [fo2] at q
        cases st with
        | cons z st2 =>
          refine iteB rfl ⟨_, rfl, S, _, 0, .str z, rfl, rfl, .inl (.inl hS2), atI_nat (j := 0) rfl, by show 2 ≤ sizeLine; decide, fun l nl => ?_⟩
          exact q l _ (sU2.free nl) (by rw [upd_same]; rfl) (sU2.trans (new_same nl))
        | nil =>
          refine iteN rfl ?_
          have fe : faultEnd (.ref e) mids dy (([] : List Str).head?) = if dbl mids = true then some (.note, .ref e) else if dy < 0 then some (.day, .int dy) else none := rfl
          rw [fe] at q
          have hqU : SqT K (upd G3 U2 (.lst [])) e (V.str kd :: (mids.map V.str ++ [V.int dy])) := .inl (.inl heU2)
          refine ⟨fun sl G4 => (∃ v4 v5, sl = [some (.ref a), some (.ref e), some (.ref D), some (.ref S), v4, v5]) ∧ G4 = upd G3 U2 (.lst []) ∧ dbl mids = false, ?_, ?_⟩
          · refine ⟨_, rfl, e, _, rfl, .inr hqU, rfl, _, rfl, ite2 (fun h4 => ?_) (fun h4 => iteF ⟨⟨_, _, rfl⟩, rfl, ?_⟩)⟩
            · obtain ⟨y, z, rfl⟩ : ∃ y z, mids = [y, z] := by
                have l := V.int.inj (of_decide_eq_true h4)
                rw [ll] at l
                have l2 : mids.length = 2 := by omega
                match mids, l2 with
                | [y, z], _ => exact ⟨y, z, rfl⟩
              refine ⟨_, rfl, e, _, 1, .str y, rfl, rfl, hqU, atI_nat (j := 1) rfl, _, rfl, e, _, 2, .str z, rfl, rfl, hqU, atI_nat (j := 2) rfl, rfl, _, rfl, ite2 (fun h5 => ?_) (fun h5 => ⟨⟨_, _, rfl⟩, rfl, ?_⟩)⟩
              · have yz : y = z := V.str.inj (of_decide_eq_true h5)
                refine ⟨_, rfl, by show 2 ≤ sizeLine; decide, fun l nl => ?_⟩
                refine q l _ (sU2.free nl) ?_ (sU2.trans (new_same nl))
                rw [if_pos (show dbl [y, z] = true from decide_eq_true yz), upd_same]
                rfl
              · exact decide_eq_false fun yz => h5 (decide_eq_true (by rw [yz]))
            · have n4 : ¬ mids.length = 2 := fun l => h4 (decide_eq_true (by rw [ll, l]; rfl))
              match mids, n4 with
              | [], _ => rfl
              | [_], _ => rfl
              | [_, _], n4 => exact absurd rfl n4
              | _ :: _ :: _ :: _, _ => rfl
          · rintro sl G4 ⟨⟨v4, v5, rfl⟩, rfl, db⟩
            have ndb : ¬ dbl mids = true := by rw [db]; decide
            rw [if_neg ndb] at q
            have al : atI (V.str kd :: (mids.map V.str ++ [V.int dy])) (-1) = some (.int dy) := atI_last (V.str kd :: mids.map V.str) (V.int dy)
            refine ⟨_, rfl, _, rfl, e, _, -1, .int dy, rfl, rfl, hqU, al, _, _, rfl, rfl, _, rfl, ite2 (fun neg => ?_) (fun pos => ?_)⟩
            · have n0 : dy < 0 := of_decide_eq_true neg
              rw [if_pos n0] at q
              refine ⟨_, rfl, _, rfl, e, _, -1, .int dy, rfl, rfl, hqU, al, by show 2 ≤ sizeLine; decide, fun l nl => ?_⟩
              exact q l _ (sU2.free nl) (by rw [upd_same]; rfl) (sU2.trans (new_same nl))
            · have n0 : ¬ dy < 0 := fun z => pos (decide_eq_true z)
              rw [if_neg n0] at q
              exact ⟨Nat.zero_le _, fun l nl => q l _ (sU2.free nl) (by rw [upd_same]; rfl) (sU2.trans (new_same nl))⟩
end
end Md

namespace Md
open PySem PySem.Spec PyProof.Rows L2
abbrev sRightM : Stmt := top 36
def kindsS : List Str := ["InvalidName", "DoubleTown", "InvalidTown", "InvalidNote", "UnknownTown", "InvalidDay"]
def slipL : Option (Fk × V) → List V
  | none => []
  | some (k, v) => kindsS.map (fun x => V.bl (decide (V.str x = V.str (nmF k)))) ++ [v]
def sheetDx (ts ns : List (List V)) : PyData := .tuple [.list (ts.map rowD), .list (ns.map rowD)]
mutual
theorem dp_same {K : PySem.W.Frag} {H G : Hp} {v : V} {d : PyData} : Dp K H v d → Same H G → Dp K G v d
  | .non, _ => .non
  | .bl b, _ => .bl b
  | .int i, _ => .int i
  | .str x, _ => .str x
  | .lst h t, s => .lst (s.seq h) (dps_same t s)
  | .tup h t, s => .tup (SqT.ext h s) (dps_same t s)
theorem dps_same {K : PySem.W.Frag} {H G : Hp} {vs : List V} {ds : List PyData} : DpAll K H vs ds → Same H G → DpAll K G vs ds
  | .nil, _ => .nil
  | .cons h t, s => .cons (dp_same h s) (dps_same t s)
end
section
variable {P : Program} {w : World} {K : PySem.W.Frag} {mg : Str → Option Value} {base : Heap}
def spSlip (K : PySem.W.Frag) : Sp := fun vs H Q _ => ∃ (l : Addr) (fl : Option (Fk × V)), vs = [.ref l] ∧ H l = some (.lst (faultL fl)) ∧ (∀ k v, fl = some (k, v) → ∃ d, Dp K H v d ∧ Nice d 1 105) ∧
  ∀ l' H', H l' = none → H' l' = some (.lst (slipL fl)) → Same H H' → Q (.ref l') H'
abbrev nSlip : List Str := ["fault", "kinds", "kind"]
theorem scSlip : FnScope nSlip ["fault"] (defScope sSlip) := ⟨rfl, rfl, rfl, by decide +kernel, rfl, by decide +kernel, by decide +kernel⟩
theorem ok_slip {f : Addr} {fd : FuncData} {k : Nat} (F : Fun K "_law_mk_due_slip" "_law_mk_due_slip" sSlip f fd) : FnOk P w K mg base CX0 (k + 1) f fd ["fault"] (spSlip K) := by
  refine F.ok scSlip (fun vs H Q E h => ?_) (fun cdv A outer s H vs Q E hr h => ?_)
  · obtain ⟨l, fl, rfl, _⟩ := h
    rfl
  · obtain ⟨l, fl, rfl, hl, hn, q⟩ := h
    have nd := scSlip.nd
    refine ⟨_, pss_cons (ps_set (i := 1) nd rfl (.inl rfl) (pe_lst (pa_cons pe_str (pa_cons pe_str (pa_cons pe_str (pa_cons pe_str (pa_cons pe_str (pa_cons pe_str pa_nil))))))))
      (pss_one (ps_ret (pe_ifExp (pt_cmpR (op_eqD hr.units) (pv 0) (pe_lst pa_nil) (nomark _)) (pe_lst pa_nil)
        (pe_op op_cat (pe_lc (own := [("kind", 2)]) (g := gName 2) (tt := tYes) rfl nd (pi_list (pv 1)) (blkOk_by (N := nSlip) (sc := defScope sSlip) (by decide +kernel))
          (fun _ _ _ _ _ => pg_name (i := 2) nd rfl (.inl rfl)) (fun _ _ _ _ _ => pts_nil) (fun _ _ _ _ _ => pe_cmpR op_eq (pv 2) (pe_ix (r := rIxL K) ix_list (pv 0) pe_int (fun _ _ => rfl)) (nomark _)))
          (pe_lst (pa_cons (pe_ix ix_list (pv 0) pe_int (fun _ _ => rfl)) pa_nil)))))), ?_⟩
    refine ⟨by show 6 ≤ sizeLine; decide, fun L nL => ?_⟩
    have sL := new_same nL (o := .lst (kindsS.map V.str))
    have hL : upd H L (.lst (kindsS.map V.str)) L = some (.lst (kindsS.map V.str)) := upd_same
    refine ⟨_, rfl, Nat.zero_le _, fun U nU => ?_⟩
    have sU := sL.trans (new_same nU (o := .lst []))
    have hl2 := sU _ _ hl
    have hL2 := (new_same nU (o := .lst [])) _ _ hL
    cases fl with
    | none =>
      refine ⟨.list [], .list [], .lst (.inl (.inl hl2)) .nil, .lst (.inl (.inl upd_same)) .nil, by rfl, by rfl, _, rfl, iteT ⟨Nat.zero_le _, fun R nR => ?_⟩⟩
      exact q R _ (sU.free nR) upd_same (sU.trans (new_same nR))
    | some kv =>
      obtain ⟨kk, v⟩ := kv
      obtain ⟨d, dp, nd2⟩ := hn kk v rfl
      have dp2 : Dp K (upd (upd H L (.lst (kindsS.map V.str))) U (.lst [])) v d := dp_same dp sU
      have N2 : Nice (.list [.str (nmF kk), d]) 2 300 := by
        refine (Nice.list (ds := [.str (nmF kk), d]) (dep := 1) (b := 105) fun x hx => ?_).more (Nat.le_refl _) (by simp)
        have w : x = .str (nmF kk) ∨ x = d := by simpa using hx
        rcases w with rfl | rfl
        · refine (nice_tx (n := 20) (tx_lit _ _ ?_ ?_) (by omega)).more (by omega) (by omega)
          · cases kk <;> decide +kernel
          · cases kk <;> decide +kernel
        · exact nd2
      refine ⟨.list [.str (nmF kk), d], .list [], .lst (.inl (.inl hl2)) (.cons (.str _) (.cons dp2 .nil)), .lst (.inl (.inl upd_same)) .nil, N2.shaped (by decide), by rfl, _, rfl, iteN rfl ?_⟩
      refine ⟨_, rfl, L, rfl, ⟨_, .inl (.inl hL2)⟩, fun D nD => ?_⟩
      refine lcp_list (K := K) (a := L) (xs := kindsS.map V.str) (ys := kindsS.map (fun x => V.bl (decide (V.str x = V.str (nmF kk))))) (.inl (.inl hL2)) nD (by rw [List.length_map, List.length_map]) (by decide) (fun i x y R hx hy r => ?_) ?_
      · have hi : i < kindsS.length := by
          have z := (List.getElem?_eq_some_iff.mp hx).1
          rw [List.length_map] at z
          exact z
        have ex : x = V.str kindsS[i] := by
          rw [List.getElem?_map, List.getElem?_eq_getElem hi] at hx
          exact (Option.some.inj hx).symm
        have ey : y = V.bl (decide (V.str kindsS[i] = V.str (nmF kk))) := by
          rw [List.getElem?_map, List.getElem?_eq_getElem hi] at hy
          exact (Option.some.inj hy).symm
        subst ex
        subst ey
        refine ⟨rfl, _, rfl, _, rfl, l, [.str (nmF kk), v], 0, .str (nmF kk), rfl, rfl, .inl (.inl ?_), atI_nat (j := 0) rfl, rfl, r⟩
        unfold grown
        rw [upd_ne (ne_of_none hl2 nD)]
        exact hl2
      · have hl3 := (new_same nD (o := .lst (kindsS.map (fun x => V.bl (decide (V.str x = V.str (nmF kk))))))) _ _ hl2
        refine ⟨_, rfl, l, _, 1, v, rfl, rfl, .inl (.inl hl3), atI_nat (j := 1) rfl, by show 1 ≤ sizeLine; decide, fun E2 nE => ?_⟩
        have sD := sU.trans (new_same nD (o := .lst (kindsS.map (fun x => V.bl (decide (V.str x = V.str (nmF kk)))))))
        have sE := sD.trans (new_same nE (o := .lst [v]))
        refine ⟨D, E2, _, _, rfl, rfl, (new_same nE) _ _ upd_same, upd_same, by show 7 ≤ sizeLine; decide, fun R nR => ?_⟩
        exact q R _ (sE.free nR) upd_same (sE.trans (new_same nR))
/-- what the class tells -/
structure Tell (P : Program) (w : World) (K : PySem.W.Frag) (mg : Str → Option Value) (base : Heap) (C pT gT pN gN fA fL : Addr) (dT dN dA dL : FuncData) : Prop where
  cl : Cl K C
  pT : PropOf K C "towns" pT gT
  oT : ∀ k, FnOk P w K mg base CX0 (k + 1) gT dT ["self"] (spTowns C)
  bT : Binds K dT ["self"] []
  pN : PropOf K C "notes" pN gN
  oN : ∀ k, FnOk P w K mg base CX0 (k + 1) gN dN ["self"] (spNotes C)
  bN : Binds K dN ["self"] []
  mA : Meth K C "names" fA
  oA : ∀ k, FnOk P w K mg base CX0 (k + 1) fA dA ["self"] (spNames C)
  bA : Binds K dA ["self"] []
  mL : Meth K C "__len__" fL
  oL : ∀ k, FnOk P w K mg base CX0 (k + 1) fL dL ["self"] (spLen C)
  bL : Binds K dL ["self"] []
def spTells (C : Addr) : Sp := fun vs H Q _ => ∃ (m q a2 b2 : Addr) (ts ns : List (List V)), vs = [.ref m, .ref q] ∧ Is C H m ts ns ∧ H q = some (.tup [.ref a2, .ref b2]) ∧ Rows H a2 ts ∧ Rows H b2 ns ∧ (∀ r ∈ ts, NiceRow r) ∧ (∀ r ∈ ns, NiceRow r) ∧
  ∀ H', Same H H' → Q (.bl true) H'
abbrev nTells : List Str := ["found", "sheet", "place"]
theorem scTells : FnScope nTells ["found", "sheet"] (defScope sRightM) := ⟨rfl, rfl, rfl, by decide +kernel, rfl, by decide +kernel, by decide +kernel⟩
theorem ok_tells {f C pT gT pN gN fA fL : Addr} {fd dT dN dA dL : FuncData} {k : Nat} (F : Fun K "_law_mk_right" "_law_mk_right" sRightM f fd) (D : Tell P w K mg base C pT gT pN gN fA fL dT dN dA dL) (B : Blt mg) : FnG P w K mg base CX0 (k + 3) f fd ["found", "sheet"] (spTells C) := by
  refine okG F scTells (fun vs H Q E h => ?_) (fun cdv A outer s H vs Q E g hr h => ?_)
  · obtain ⟨m, q, a2, b2, ts, ns, rfl, _⟩ := h
    rfl
  · obtain ⟨m, q, a2, b2, ts, ns, rfl, ⟨dx, a, b, G⟩, hq, hA, hB, nt, nn, k0⟩ := h
    have nd := scTells.nd
    refine ⟨_, pss_cons (ps_if (PW.pt (pw_or (pt_cmpR op_ne (pe_callB (call_repr g hr.units) (by rfl) B.repr (by decide +kernel) (pa_cons (pe_tup (pa_cons (pe_prop (pv 0) D.cl.cl D.pT (D.oT k) hr D.bT .nil pass0 (by rfl)) (pa_cons (pe_prop (pv 0) D.cl.cl D.pN (D.oN k) hr D.bN .nil pass0 (by rfl)) pa_nil))) pa_nil))
            (pe_callB (call_repr g hr.units) (by rfl) B.repr (by decide +kernel) (pa_cons (pe_tup (pa_cons (pe_ix (r := rIxT K) ix_tup (pv 1) pe_int (fun _ _ => rfl)) (pa_cons (pe_ix (r := rIxT K) ix_tup (pv 1) pe_int (fun _ _ => rfl)) pa_nil))) pa_nil)) (nomark _))
          (pw_or1 (pt_cmpR op_ne (pe_callB (call_lenOwn D.mL (D.oL k) hr D.bL) (by rfl) B.len PySem.boot_len (pa_cons (pv 0) pa_nil)) (pe_callB call_len_seq (by rfl) B.len PySem.boot_len (pa_cons (pe_ix (r := rIxT K) ix_tup (pv 1) pe_int (fun _ _ => rfl)) pa_nil)) (nomark _)))))
        (pss_one ps_never) pss_nil)
      (pss_one (ps_ret (pe_cmpR (op_eqD hr.units) (pe_meth0 (pv 0) D.cl.cl D.mA (D.oA (k + 1)) hr D.bA .nil pass0)
        (pe_lc (own := [("place", 2)]) (g := gName 2) (tt := tYes) rfl nd (pi_list (pe_ix (r := rIxT K) ix_tup (pv 1) pe_int (fun _ _ => rfl))) (blkOk_by (N := nTells) (sc := defScope sRightM) (by decide +kernel))
          (fun _ _ _ _ _ => pg_name (i := 2) nd rfl (.inl rfl)) (fun _ _ _ _ _ => pts_nil) (fun _ _ _ _ _ => pe_ix (r := rIxT K) ix_tup (pv 2) pe_int (fun _ _ => rfl))) (nomark _)))), ?_⟩
    have fewT := G.few
    have fewN := G.few2
    have N1 := (rowsN_nice nt).more (Nat.le_refl 2) (show 106 * ts.length ≤ 9540 by omega)
    have N2 := (rowsN_nice nn).more (Nat.le_refl 2) (show 106 * ns.length ≤ 9540 by omega)
    have NS : Nice (sheetDx ts ns) 3 19100 := (Nice.tuple (ds := [.list (ts.map rowD), .list (ns.map rowD)]) (dep := 2) (b := 9540) fun d hd => by
      have w : d = .list (ts.map rowD) ∨ d = .list (ns.map rowD) := by simpa using hd
      rcases w with rfl | rfl
      · exact N1
      · exact N2).more (Nat.le_refl _) (by simp)
    refine ⟨_, rfl, m, dx, _, rfl, G.at_.ob, m, dx, a, b, ts, ns, rfl, G.at_, fun x4 H4 n4 r4 s4 => ?_⟩
    have D4 := G.at_.same s4
    refine ⟨_, rfl, m, dx, _, rfl, D4.ob, m, dx, a, b, ts, ns, rfl, D4, fun x5 H5 n5 r5 s5 => ⟨by show 2 ≤ sizeLine; decide, fun T nT => ?_⟩⟩
    have s6 := new_same nT (o := .tup [.ref x4, .ref x5])
    have t6 := (s4.trans s5).trans s6
    refine ⟨_, sheetDx ts ns, rfl, .tup (.inl (.inl upd_same)) (.cons (rowsN_dp ((r4.same s5).same s6) nt) (.cons (rowsN_dp (r5.same s6) nn) .nil)), NS.show_, NS.nod, Nat.le_trans NS.deep (by decide), NS.short (by decide), ?_⟩
    have hq6 := t6 _ _ hq
    refine ⟨_, rfl, q, _, 0, .ref a2, rfl, rfl, .inl (.inl hq6), atI_nat (j := 0) rfl, _, rfl, q, _, 1, .ref b2, rfl, rfl, .inl (.inl hq6), atI_nat (j := 1) rfl, by show 2 ≤ sizeLine; decide, fun T2 nT2 => ?_⟩
    have t7 := t6.trans (new_same nT2 (o := .tup [.ref a2, .ref b2]))
    refine ⟨_, sheetDx ts ns, rfl, .tup (.inl (.inl upd_same)) (.cons (rowsN_dp (hA.same t7) nt) (.cons (rowsN_dp (hB.same t7) nn) .nil)), NS.show_, NS.nod, Nat.le_trans NS.deep (by decide), NS.short (by decide), rfl, _, rfl, iteNS rfl ?_⟩
    have D7 := G.at_.same t7
    have hq7 := t7 _ _ hq
    obtain ⟨bs, hb1, hb2⟩ := hB.same t7
    refine ⟨_, rfl, m, dx, _, rfl, D7.ob, m, dx, a, b, ts, ns, rfl, D7, _, rfl, by omega, ?_⟩
    refine ⟨_, rfl, q, _, 1, .ref b2, rfl, rfl, .inl (.inl hq7), atI_nat (j := 1) rfl, b2, _, rfl, .inl (.inl (.inl hb1)), rfl, _, rfl, iteNS (by rw [List.length_map, paired_len hb2]) ?_⟩
    refine ⟨_, rfl, m, dx, _, rfl, D7.ob, by rfl, m, dx, a, b, ts, ns, rfl, D7, G.towns, by omega, fun x8 H8 n8 e8 s8 => ?_⟩
    have t8 := t7.trans s8
    obtain ⟨as, ha1, ha2⟩ := hA.same t8
    refine ⟨_, rfl, q, _, 0, .ref a2, rfl, rfl, .inl (.inl (t8 _ _ hq)), atI_nat (j := 0) rfl, a2, rfl, ⟨_, .inl (.inl ha1)⟩, fun L nL => ?_⟩
    have ln : as.length = ts.length := paired_len ha2
    have NZ : Nice (.list ((ts.map nameOf).map PyData.str)) 1 (9 * (ts.map nameOf).length) := names_nice fun z hz => by
      obtain ⟨r, hr2, e⟩ := List.mem_map.mp hz
      obtain ⟨y, lo, hi, er, n1, n2, _⟩ := G.towns r hr2
      subst er
      subst e
      exact ⟨n1, n2⟩
    refine lcp_list (K := K) (a := a2) (xs := as.map V.ref) (ys := (ts.map nameOf).map V.str) (.inl (.inl ha1)) nL (by rw [List.length_map, List.length_map, List.length_map, ln]) (by rw [List.length_map, ln]; exact small1000 (by omega)) (fun i x y R hx hy r => ?_) ?_
    · obtain ⟨b3, row, ex, hr1, hb3⟩ := rows_ref ha2 hx
      subst ex
      obtain ⟨z, lo, hi, er, _⟩ := G.towns row (List.mem_of_getElem? hr1)
      have ey : y = V.str z := by
        rw [List.getElem?_map, List.getElem?_map, hr1, er] at hy
        exact (Option.some.inj hy).symm
      subst ey
      subst er
      refine ⟨rfl, _, rfl, b3, [.str z, .int lo, .int hi], 0, .str z, rfl, rfl, .inl (.inl ?_), atI_nat (j := 0) rfl, r⟩
      unfold grown
      rw [upd_ne (ne_of_none hb3 nL)]
      exact hb3
    · refine ⟨_, _, .lst (.inl (.inl ((new_same nL) _ _ e8))) (strs_dp _), .lst (.inl (.inl upd_same)) (strs_dp _), NZ.shaped (by decide), NZ.shaped (by decide), ?_⟩
      rw [SeqAt.eqv_refl _ NZ.lay]
      exact k0 _ (t8.trans (new_same nL))
end
end Md

namespace Md
open PySem PySem.Spec PySem.Calls PyProof.Rows L2
open PySem.W (Frag Looks InstAt KitX)
section
variable {prog : Program} {w : World} {A : Around} {E : Value → Shared → Prop} {st : Shared} {K : Frag} {e D : Addr} {oe : Obj} {own : Option Obj}
/-- a caught error whose dict holds something: its class is told all the same -/
theorem err_class {Q : Option Value → Shared → Prop} (C : ExcC K D) (X : K.In st.heap) (I : InstAt st.heap e oe D own) (h : Q (some (.ref D)) { st with toks := st.toks + 1 }) : wpAny (model prog w) A (getAttr? (.ref e) "__class__") Q E st := by
  have found : PySem.W.findObj K D own "__class__" = some (.bind (.builtin "getset_descriptor.__get__") (.builtin "object.__class__")) := by
    obtain ⟨cd, hc, _⟩ := PySem.W.any_some C.hd
    unfold PySem.W.findObj
    rw [hc, Option.bind_some, C.ha, Option.bind_some]
    simp [C.hn, C.ht]
  obtain ⟨hp, g, d, t, os⟩ := st
  have ty := I.type (M := model prog w)
  have att := PySem.W.looks_findIn (M := model prog w) X C.hg
  have noatt := PySem.W.looks_findIn (M := model prog w) X C.hk
  have got := PySem.W.looks_find (M := model prog w) X I found
  have err : Looks (model prog w) hp (isInstance (.ref e) (.type "BaseException")) true := ty.andThen (PySem.W.looks_subIn X C.hs)
  have other : (Value.builtin "BaseException.__getattribute__" == Value.builtin "object.__getattribute__") = false := by decide +kernel
  unfold getAttr? getAttrBy? getAttrBy
  refine wpAny_bind (wpAny_mkText (wpAny_bind (wpAny_attempt (wpAny_holding (wpAny_bind (ty.at (wpAny_bind (att.at ?_))))))))
  show wpAny _ _ (if (onTheHeap (Value.ref D) && Value.builtin "BaseException.__getattribute__" == Value.builtin "object.__getattribute__") = true then _ else _) _ _ _
  rw [show (onTheHeap (Value.ref D) && Value.builtin "BaseException.__getattribute__" == Value.builtin "object.__getattribute__") = false by rw [other]; rfl, if_neg Bool.false_ne_true]
  unfold getAttrByItsOwn hookBefore
  refine wpAny_bind ?_
  rw [if_pos (show onTheHeap (Value.ref D) = true from rfl)]
  refine noatt.at ?_
  refine wpAny_bind (wpAny_attempt (wpAny_holding ?_))
  unfold callGetattribute
  rw [show (false && onTheHeap (Value.builtin "BaseException.__getattribute__")) = false from rfl, if_neg Bool.false_ne_true]
  unfold boundAndCalled
  rw [PySem.F.excAttr_ValueError.ga.bind (.ref e)]
  refine wpAny_bind (wpAny_pure ?_)
  show wpAny _ _ (call (.builtin "BaseException.__getattribute__") [.ref e, .str "__class__" t]) _ _ _
  refine wpAny_call (codeAny_call_builtin PySem.F.excAttr_ValueError.ga.plain PySem.F.entry_bexc_ga ?_)
  refine @PySem.W.check_slot (model prog w) _ _ ⟨hp, g, d, t + 1, os⟩ "BaseException.__getattribute__" "BaseException" "__getattribute__" (.ref e) [.str "__class__" t] [] _ (by decide +kernel) (by decide +kernel) err (PySem.F.args_bexc_ga (.ref e) (.str "__class__" t)) ?_
  unfold Builtin.«object.__getattribute__»
  refine wpAny_bind (wpAny_of_eq (a := ((Value.ref e : Value), [Value.str "__class__" t])) (by first | rfl | (simp only [slotArgs]; rfl)) ?_)
  refine wpAny_bind (wpAny_pure (wpAny_bind (ty.at (wpAny_bind (got.at ?_)))))
  show wpAny _ _ (holding [Value.builtin "object.__class__"] (call (.builtin "getset_descriptor.__get__") [.builtin "object.__class__", .ref e, .ref D]) >>= ret) _ _ _
  refine wpAny_bind (wpAny_holding (wpAny_call (PySem.W.class_get (s := ⟨hp, g, d, t + 1, os⟩) (ox := oe) (od := own) X I C.hm ?_)))
  refine wpAny_pure ?_
  show wpAny _ _ (handedOut (.ref D)) _ _ _
  rw [PySem.W.handedOut_of (v := .ref D) rfl]
  first
    | exact wpAny_pure (wpAny_pure h)
    | exact wpAny_pure h
    | exact wpAny_pure (wpAny_bind (wpAny_pure (wpAny_pure h)))
theorem err_kit (C : ExcC K D) : KitX K (.ref e) (.ref D) (fun h => InstAt h e oe D own) := by
  have here : ∃ c d cd sl, K.lookup D = some ⟨c, d, .cls cd, sl⟩ := by
    obtain ⟨cd, hc, _⟩ := PySem.W.any_some C.hd
    unfold PySem.W.clsIn at hc
    split at hc
    · rename_i c d cd2 sl ho
      exact ⟨c, d, cd2, sl, ho⟩
    · cases hc
  obtain ⟨c, dd, cd, sl, ho⟩ := here
  refine ⟨fun _ _ _ I => I.type, ?_, ?_, fun X I k => err_class C X I k⟩
  · intro _ _ X _ A' Q' E' s' k q
    unfold isType loadHead
    exact wpAny_bind (wpAny_loadPart (k _ _ (X _ _ ho)) (wpAny_pure q))
  · intro h tp d2 its n sl2 X htp
    refine Bool.eq_false_iff.mpr fun q => ?_
    have same : D = tp := Value.ref.inj (beq_iff_eq.mp q)
    subst same
    have z := (X _ _ ho).symm.trans htp
    cases z
end
section
variable {X : Cx} {a : Addr} {oe : Obj} {d : Option Addr} {pn : List (Addr × Obj)}
/-- isinstance(e, c), e the error that the suite holds, with its value; its class is told by the state -/
def rErr (K : Frag) (a : Addr) (cls : Value) (d : Option Addr) : List V → Hp → VK → Prop := fun xs H Q => ∃ (D : Addr) (c : V) (cv : Value) (b : Bool) (dd : Addr) (fs : List (Str × V)), xs = [.ref a, c] ∧ cls = .ref D ∧ ExcC K D ∧ d = some dd ∧ H dd = some (.xd fs) ∧
  (∀ u, RelV c u → u = cv) ∧ PySem.W.kitOne K (.ref D) cv = some b ∧ Q (.bl b) H
theorem call_err {cls : Value} (hz : Zc cls d oe) (hf : ∃ vs, oe.data = .fields vs) : CallR (X.suite a ((a, oe) :: pn)) (.builtin "isinstance") (rErr X.K a cls d) := by
  intro pins st sl H xs us Q I r h
  obtain ⟨D, c, cv, b, dd, fs, rfl, ec, C, ed, hd, hcv, ek, q⟩ := h
  obtain ⟨u, u2, rfl, rx, rt⟩ := vals2 r
  cases rx
  have e2 := hcv _ rt
  subst e2
  subst ec
  subst ed
  obtain ⟨hget, _⟩ := I.pin (a, oe) (List.mem_append_left _ List.mem_cons_self)
  obtain ⟨vs, hv⟩ := hf
  have hx : ObjOk X.prog X.w H st.heap dd (.xd fs) := I.hok dd _ hd
  obtain ⟨mA, hns, hr⟩ := hx
  obtain ⟨od, ho, hl⟩ := lookIn_ns hns
  have J : InstAt st.heap a oe D (some od) := ⟨hget, hz.1, by unfold PySem.W.notCls; rw [hv] <;> rfl, by rw [hz.2]; exact ho⟩
  exact PySem.W.kia_one (err_kit C) I.kIn J ek (fun z => nomatch z) fun tk => ⟨.bl b, H, I.kept (t' := tk) fun _ _ z => z, rfl, q⟩
/-- e.value of the error that the suite holds; its class is told by the state -/
def tErrV (K : Frag) (a : Addr) (cls : Value) (d : Option Addr) (f : Str) (te : TE) : TE := fun sl H Q => te sl H fun x H1 => ∃ (C dd : Addr) (fs : List (Str × V)) (v : V), x = .ref a ∧ cls = .ref C ∧ XfC K C ∧ PySem.W.findIn K (.ref C) f = some none ∧
  d = some dd ∧ H1 dd = some (.xd fs) ∧ fs.lookup f = some v ∧ Q v H1
theorem pe_errV {cls : Value} {e : Expr} {te : TE} {pos : Pos} {f : Str} (hz : Zc cls d oe) (hf : ∃ vs, oe.data = .fields vs) (he : PE (X.suite a ((a, oe) :: pn)) e te) (hb : attributeBase e f X.env (eval e X.env) = eval e X.env := by rfl) :
    PE (X.suite a ((a, oe) :: pn)) (.Attribute e f pos) (tErrV X.K a cls d f te) := by
  constructor
  intro pins st sl H Q I h
  refine attr_of hb (thn (he.run pins st sl H _ I h) fun u s1 got => ?_)
  obtain ⟨x, H1, I1, rx, C, dd, fs, v, ex, ec, T, hno, ed, ea, l, q⟩ := got
  subst ex
  have eu : u = Value.ref a := rx
  subst eu
  subst ec
  subst ed
  obtain ⟨hget, _⟩ := I1.pin (a, oe) (List.mem_append_left _ List.mem_cons_self)
  obtain ⟨vs, hv⟩ := hf
  have hx : ObjOk X.prog X.w H1 s1.heap dd (.xd fs) := I1.hok dd _ ea
  obtain ⟨mA, hns, hr⟩ := hx
  obtain ⟨od, ho, hl⟩ := lookIn_ns hns
  obtain ⟨z, hu, ru⟩ := RelO.some_of (v := v) (o := mA f) (by rw [← l]; exact hr f)
  have J : InstAt s1.heap a oe C (some od) := ⟨hget, hz.1, by unfold PySem.W.notCls; rw [hv] <;> rfl, by rw [hz.2]; exact ho⟩
  have own := PySem.W.findObj_own (K := X.K) T.hdC hno rfl (by rw [hl, hu])
  exact HandSPX.exc_get I1.kIn J T.ga T.gg T.exC own (handed_of ru) ⟨v, H1, I1.tok _, ru, q⟩
end
section
variable {X : Cx} {CX : CXT} {k : Nat} {f C : Addr} {fd : FuncData} {ps ks : List Str} {sp : Sp} {E : L2.St → XK} {m : Str} {pos apos : Pos} {e o : Expr} {es : List Expr} {kws : List Keyword} {ta : TE} {t tk : TA} {g : List Value → List Value → List Value} {gV : List V → List V → List V}
/-- o.m(e, ..) within try -/
def tMethA (C : Addr) (m : Str) (sp : Sp) (E : L2.St → XK) (ta : TE) (t : TA) : TE := fun sl H Q => ta sl H fun x H1 => ∃ a dx fs, x = .ref a ∧ H1 a = some (.ins C dx fs) ∧ fs.lookup m = none ∧ t sl H1 fun vs H2 => sp (x :: vs) H2 Q (E sl)
theorem pe_methA {pl : Sem Bool} (he : PE X o ta) (c : Cls X.K C) (hm : Meth X.K C m f) (F : FnOk X.prog X.w X.K X.mg X.base CX k f fd ps sp) (hr : Room k X.A) (hb : Binds X.K fd ps []) (hx : ∀ sl, PassesAt CX X sl (E sl)) (ha : PA X (e :: es) t)
    (hst : starEach (e :: es) X.env = (false, eval e X.env) :: starEach es X.env := by rfl) (hpl : (backTo pos (starEach es X.env)).any (·.1) = false := by rfl)
    (ht : eval (.Call (.Attribute o m apos) (e :: es) [] pos) X.env = (do
      let ov ← eval o X.env
      standAt apos.atName
      let (f, first) ← holding [ov] (getMethod ov m pl)
      callWith pos f first (backTo pos (starEach (e :: es) X.env)) (backToKw pos (keywordEach [] X.env))) := by rfl) :
    PE X (.Call (.Attribute o m apos) (e :: es) [] pos) (tMethA C m sp E ta t) := by
  constructor
  intro pins st sl H Q I h
  refine PySem.W.methodCall_KW (pl := pl) (thn (he.run pins st sl H _ I h) fun u s1 got => ?_) ht
  obtain ⟨x, H1, I1, rx, a, dx, fs, ex, ea, l, q⟩ := got
  subst ex
  have eu : u = Value.ref a := rx
  subst eu
  refine getmeth_ok I1 ea c hm l ?_
  refine PySem.W.callWith_K (first := [.ref a]) (h₀ := X.base) I1.ok.mod.kin hm.kp (thn (ha.run pos pins s1 sl H1 _ I1 q) fun us s2 got2 => ?_) hst hpl
  obtain ⟨vs, H2, I2, r, q2⟩ := got2
  exact ⟨I2.kIn, run_fnS (us := .ref a :: us) (vs := .ref a :: vs) (E := E) F hr hb (hx sl) I2 (.cons rfl r) q2⟩
/-- o.m(k = v, ..) within try -/
def tMethAK (C : Addr) (m : Str) (sp : Sp) (gV : List V → List V → List V) (n : Nat) (E : L2.St → XK) (ta : TE) (tk : TA) : TE := fun sl H Q => ta sl H fun x H1 => ∃ a dx fs, x = .ref a ∧ H1 a = some (.ins C dx fs) ∧ fs.lookup m = none ∧ tk sl H1 fun zs H2 => zs.length = n ∧ sp (gV [x] zs) H2 Q (E sl)
theorem pe_methAK {pl : Sem Bool} (he : PE X o ta) (c : Cls X.K C) (hm : Meth X.K C m f) (F : FnOk X.prog X.w X.K X.mg X.base CX k f fd ps sp) (hr : Room k X.A) (hb : KBn X.K fd ps 1 ks g gV) (hx : ∀ sl, PassesAt CX X sl (E sl)) (hkw : PK X kws tk)
    (hall : (backToKw pos (keywordEach kws X.env)).all (·.1.isSome) = true := by rfl) (hks : (backToKw pos (keywordEach kws X.env)).filterMap (·.1) = ks := by rfl)
    (hpl : ((backTo pos (starEach [] X.env)).any (·.1) || (backToKw pos (keywordEach kws X.env)).any (·.1.isNone)) = false := by rfl)
    (ht : eval (.Call (.Attribute o m apos) [] kws pos) X.env = (do
      let ov ← eval o X.env
      standAt apos.atName
      let (f, first) ← holding [ov] (getMethod ov m pl)
      callWith pos f first (backTo pos (starEach [] X.env)) (backToKw pos (keywordEach kws X.env))) := by rfl) :
    PE X (.Call (.Attribute o m apos) [] kws pos) (tMethAK C m sp gV ks.length E ta tk) := by
  constructor
  intro pins st sl H Q I h
  refine PySem.W.methodCall_KW (pl := pl) (thn (he.run pins st sl H _ I h) fun u s1 got => ?_) ht
  obtain ⟨x, H1, I1, rx, a, dx, fs, ex, ea, l, q⟩ := got
  subst ex
  have eu : u = Value.ref a := rx
  subst eu
  refine getmeth_ok I1 ea c hm l ?_
  refine PySem.W.callWith_KW0 (first := [.ref a]) (h₀ := X.base) I1.ok.mod.kin hm.kp hall ?_ hpl
  refine thn (hkw.run pos pins s1 sl H1 _ I1 q) fun ws s2 got2 => ?_
  obtain ⟨zs, H2, I2, rz, l1, q2⟩ := got2
  refine ⟨I2.kIn, ?_⟩
  rw [hks]
  have rel := hb.rel (vs := [V.ref a]) (us := [Value.ref a]) (.cons rfl .nil) rz
  have bound := hb.to s2 [Value.ref a] ws I2.kIn rfl (rz.length.symm.trans l1)
  refine wpAny_call (codeAny_mono (F.run X.A X.stack s2 H2 ⟨[Value.ref a], ks.zip ws⟩ (g [Value.ref a] ws) (gV [V.ref a] zs) Q (E sl) hr I2.env0 bound rel q2) fun r s' hq => ?_)
  match r, hq with
  | .error er, hq => exact hx sl pins H2 s2 er s' I2 hq
  | .ok (.ret u), hq => exact I2.after hq
end
end Md

namespace Md
open PySem PySem.Spec PyProof.Rows L2
abbrev sMore : Stmt := top 37
abbrev sFewer : Stmt := top 38
/-- the bools of a slip -/
def kb (k : Fk) : List Bool := kindsS.map fun x => decide (V.str x = V.str (nmF k))
def isK : Fk → Fk → Bool
  | .note, .note => true
  | .town, .town => true
  | .day, .day => true
  | _, _ => false
theorem kb_is (k : Fk) : kb k = [false, false, false, isK .note k, isK .town k, isK .day k] := by
  cases k <;> decide +kernel
theorem slip_is (k : Fk) (v : V) : slipL (some (k, v)) = [.bl false, .bl false, .bl false] ++ [.bl (isK .note k), .bl (isK .town k), .bl (isK .day k), v] := by
  show kindsS.map (fun x => V.bl (decide (V.str x = V.str (nmF k)))) ++ [v] = _
  have e : kindsS.map (fun x => V.bl (decide (V.str x = V.str (nmF k)))) = (kb k).map V.bl := by
    unfold kb
    rw [List.map_map]
    rfl
  rw [e, kb_is]
  rfl
/-- the classes of errors, as an except suite asks them -/
structure Asks (K : PySem.W.Frag) (mg : Str → Option Value) (cls : Fk → Addr) (CU CM cN cD cT : Addr) : Prop where
  gM : mg "MarketError" = some (.ref CM)
  gN : mg "InvalidName" = some (.ref cN)
  gD : mg "DoubleTown" = some (.ref cD)
  gT : mg "InvalidTown" = some (.ref cT)
  exm : ∀ k, PySem.W.exmOne K (.ref (cls k)) (.ref CM) = some true
  exmU : PySem.W.exmOne K (.ref CU) (.ref CM) = some true
  ex : ∀ k, ExcC K (cls k)
  exU : ExcC K CU
  xf : ∀ k, XfC K (cls k)
  xfU : XfC K CU
  oN : ∀ k, PySem.W.kitOne K (.ref (cls k)) (.ref cN) = some false
  oD : ∀ k, PySem.W.kitOne K (.ref (cls k)) (.ref cD) = some false
  oT : ∀ k, PySem.W.kitOne K (.ref (cls k)) (.ref cT) = some false
  oK : ∀ k j, PySem.W.kitOne K (.ref (cls k)) (.ref (cls j)) = some (isK j k)
  oU : PySem.W.kitOne K (.ref CU) (.ref CU) = some true
theorem Ers.no {K : PySem.W.Frag} {mg : Str → Option Value} {fI : Addr} {cls : Fk → Addr} (E : Ers K mg fI cls) (k : Fk) : PySem.W.findIn K (.ref (cls k)) "value" = some none := by
  cases k
  · exact E.note.no
  · exact E.town.no
  · exact E.day.no
section
variable {P : Program} {w : World} {K : PySem.W.Frag} {mg : Str → Option Value} {base : Heap}
/-- found, slip -/
def Pair2 (H' : Hp) (q : Addr) (xs ys : List V) : Prop := ∃ l1 l2, H' q = some (.tup [.ref l1, .ref l2]) ∧ H' l1 = some (.lst xs) ∧ H' l2 = some (.lst ys)
def spMore (C : Addr) : Sp := fun vs H Q _ => ∃ (m t : Addr) (ts ns : List (List V)) (r : List V) (fm : Option (List Str × Int)) (bn : Bool), vs = [.ref m, .ref t, .bl bn] ∧ Is C H m ts ns ∧ ns.length ≤ 80 ∧ H t = some (.tup r) ∧ r.length ≤ 100 ∧ Form r fm ∧
  (faultOf (ts.map nameOf) (.ref t) fm = none → ∀ q m2 H', Pair2 H' q [.ref m2] [] → Is C H' m2 ts (ns ++ [r]) → Same H H' → H q = none → H m2 = none → Q (.ref q) H') ∧
  ∀ k v, faultOf (ts.map nameOf) (.ref t) fm = some (k, v) → ∀ q H', Pair2 H' q [] (slipL (some (k, v))) → Same H H' → H q = none → Q (.ref q) H'
abbrev nMore : List Str := ["made", "entry", "by_name", "found", "slip", "e"]
theorem scMore : FnScope nMore ["made", "entry", "by_name"] (defScope sMore) := ⟨rfl, rfl, rfl, by decide +kernel, rfl, by decide +kernel, by decide +kernel⟩
def app2 {α : Type} (us ws : List α) : List α := us ++ ws
theorem ok_more {f fW fErr C CU CM cN cD cT : Addr} {fd fdW : FuncData} {cls : Fk → Addr} {k : Nat} (F : Fun K "_law_mk_more" "_law_mk_more" sMore f fd) (cl : Cl K C) (GW : FnOk P w K mg base (L2.CX P w) k fW fdW ["self", "note"] (spWith C cls)) (mW : Meth K C "with_note" fW) (bW : Binds K fdW ["self", "note"] [])
    (kW : KBn K fdW ["self", "note"] 1 ["note"] app2 app2) (A : Asks K mg cls CU CM cN cD cT) (E : Ers K mg fErr cls) (B : Blt mg) : FnOk P w K mg base CX0 (k + 1) f fd ["made", "entry", "by_name"] (spMore C) := by
  refine F.ok scMore (fun vs H Q E h => ?_) (fun cdv Ar outer s H vs Q E0' hr h => ?_)
  · obtain ⟨m, t, ts, ns, r, fm, bn, rfl, _⟩ := h
    rfl
  · obtain ⟨m, t, ts, ns, r, fm, bn, rfl, hI, few, hT, lr, fo, q, o⟩ := h
    have nd := scMore.nd
    refine ⟨_, pss_cons (ps_par (i := 3) (j := 4) rfl nd rfl rfl (by decide) rfl rfl (pa_cons (pe_lst pa_nil) (pa_cons (pe_lst pa_nil) pa_nil)) (by rfl))
      (C8.pss_cut (ps_try_as (i := 5) (Wout := fun _ _ _ _ => False) rfl rfl nd rfl rfl ⟨rfl, by decide, .inl A.gM⟩ takes0
        (fun W pn xe tk _ => pss_one (ps_set (i := 3) nd rfl (.inl rfl) (pe_ifExp (pt_val (pv 2)) (pe_lst (pa_cons (pe_methAK (E := WE W) (pv 0) cl.cl mW GW hr kW (fun sl => passAt tk sl) (pk_cons (pv 1) pk_nil)) pa_nil)) (pe_lst (pa_cons (pe_methA (E := WE W) (pv 0) cl.cl mW GW hr bW (fun sl => passAt tk sl) (pa_cons (pv 1) pa_nil)) pa_nil)))))
        (fun a oe cc d pn hz hf => pss_cons (ps_set (i := 4) nd rfl (.inl rfl) (pe_lst (pa_cons (pe_callB (call_err hz hf) (by rfl) B.isi (by decide +kernel) (pa_cons (pv 5) (pa_cons (pe_glob (v := .ref cN) rfl A.gN rfl) pa_nil))) (pa_cons (pe_callB (call_err hz hf) (by rfl) B.isi (by decide +kernel) (pa_cons (pv 5) (pa_cons (pe_glob (v := .ref cD) rfl A.gD rfl) pa_nil)))
            (pa_cons (pe_callB (call_err hz hf) (by rfl) B.isi (by decide +kernel) (pa_cons (pv 5) (pa_cons (pe_glob (v := .ref cT) rfl A.gT rfl) pa_nil))) pa_nil)))))
          (pss_one (ps_set (i := 4) nd rfl (.inl rfl) (pe_op op_cat (pv 4) (pe_lst (pa_cons (pe_callB (call_err hz hf) (by rfl) B.isi (by decide +kernel) (pa_cons (pv 5) (pa_cons (pe_glob (v := .ref (cls .note)) rfl E.note.g rfl) pa_nil))) (pa_cons (pe_callB (call_err hz hf) (by rfl) B.isi (by decide +kernel) (pa_cons (pv 5) (pa_cons (pe_glob (v := .ref (cls .town)) rfl E.town.g rfl) pa_nil)))
            (pa_cons (pe_callB (call_err hz hf) (by rfl) B.isi (by decide +kernel) (pa_cons (pv 5) (pa_cons (pe_glob (v := .ref (cls .day)) rfl E.day.g rfl) pa_nil))) (pa_cons (pe_errV hz hf (pv 5)) pa_nil))))))))))
      (pss_one (ps_ret (pe_tup (pa_cons (pv 3) (pa_cons (pv 4) pa_nil)))))), ?_⟩
    refine ⟨Nat.zero_le _, fun l1 nl1 => ⟨Nat.zero_le _, fun l2 nl2 => ⟨_, _, rfl, ?_⟩⟩⟩
    have s1 := new_same nl1 (o := .lst [])
    have s2 := s1.trans (new_same nl2 (o := .lst []))
    have h1 : upd (upd H l1 (.lst [])) l2 (.lst []) l1 = some (.lst []) := (new_same nl2) _ _ upd_same
    have h2 : upd (upd H l1 (.lst [])) l2 (.lst []) l2 = some (.lst []) := upd_same
    generalize upd (upd H l1 (.lst [])) l2 (.lst []) = H2 at s2 h1 h2 ⊢
    have hI2 := hI.same s2
    have hT2 := s2 _ _ hT
    refine ⟨fun sl G => ∃ la lb, sl = [some (.ref m), some (.ref t), some (.bl bn), some (.ref la), some (.ref lb), none] ∧ Same H G ∧
      ((faultOf (ts.map nameOf) (.ref t) fm = none ∧ ∃ m2, G la = some (.lst [.ref m2]) ∧ Is C G m2 ts (ns ++ [r]) ∧ G lb = some (.lst []) ∧ H m2 = none) ∨ ∃ k v, faultOf (ts.map nameOf) (.ref t) fm = some (k, v) ∧ G la = some (.lst []) ∧ G lb = some (.lst (slipL (some (k, v))))), ?_, ?_⟩
    · refine ⟨_, rfl, _, rfl, ?_⟩
      obtain ⟨dx, a, b, G0⟩ := id hI2
      refine ite2 (fun _ => ?_) (fun _ => ?_)
      · refine ⟨_, rfl, m, dx, _, rfl, G0.at_.ob, by rfl, _, rfl, rfl, m, t, ts, ns, r, fm, rfl, hI2, few, hT2, lr, fo, fun e m' H3 nm is s3 => ⟨by show 1 ≤ sizeLine; decide, fun L nL => ?_⟩, fun kk v e d H3 s3 nd3 hd => ?_⟩
        · have sL := new_same nL (o := .lst [.ref m'])
          exact ⟨L, l2, rfl, (s2.trans s3).trans sL, .inl ⟨e, m', upd_same, is.same sL, sL _ _ (s3 _ _ h2), s2.free nm⟩⟩
        · refine ⟨true, A.exm kk, fun _ a0 ha0 => ?_, fun z => nomatch z⟩
          refine ⟨_, rfl, cls kk, .ref cN, .ref cN, false, d, _, rfl, rfl, A.ex kk, rfl, hd, (fun u e => e), A.oN kk, ?_⟩
          refine ⟨_, rfl, cls kk, .ref cD, .ref cD, false, d, _, rfl, rfl, A.ex kk, rfl, hd, (fun u e => e), A.oD kk, ?_⟩
          refine ⟨_, rfl, cls kk, .ref cT, .ref cT, false, d, _, rfl, rfl, A.ex kk, rfl, hd, (fun u e => e), A.oT kk, by show 3 ≤ sizeLine; decide, fun L1 n1 => ?_⟩
          have t1 := new_same n1 (o := .lst [.bl false, .bl false, .bl false])
          have hd1 := t1 _ _ hd
          refine ⟨_, rfl, _, rfl, cls kk, .ref (cls .note), .ref (cls .note), isK .note kk, d, _, rfl, rfl, A.ex kk, rfl, hd1, (fun u e => e), A.oK kk .note, ?_⟩
          refine ⟨_, rfl, cls kk, .ref (cls .town), .ref (cls .town), isK .town kk, d, _, rfl, rfl, A.ex kk, rfl, hd1, (fun u e => e), A.oK kk .town, ?_⟩
          refine ⟨_, rfl, cls kk, .ref (cls .day), .ref (cls .day), isK .day kk, d, _, rfl, rfl, A.ex kk, rfl, hd1, (fun u e => e), A.oK kk .day, ?_⟩
          refine ⟨_, rfl, cls kk, d, _, v, rfl, rfl, A.xf kk, Ers.no E kk, rfl, hd1, rfl, by show 4 ≤ sizeLine; decide, fun L2 n2 => ?_⟩
          have t2 := t1.trans (new_same n2 (o := .lst [.bl (isK .note kk), .bl (isK .town kk), .bl (isK .day kk), v]))
          refine ⟨L1, L2, _, _, rfl, rfl, (new_same n2) _ _ upd_same, upd_same, by show 7 ≤ sizeLine; decide, fun L3 n3 => ?_⟩
          have t3 := t2.trans (new_same n3 (o := .lst ([.bl false, .bl false, .bl false] ++ [.bl (isK .note kk), .bl (isK .town kk), .bl (isK .day kk), v])))
          exact ⟨l1, L3, rfl, (s2.trans s3).trans t3, .inr ⟨kk, v, e, t3 _ _ (s3 _ _ h1), by rw [upd_same, slip_is]⟩⟩
      · refine ⟨_, rfl, m, dx, _, rfl, G0.at_.ob, by rfl, _, rfl, m, t, ts, ns, r, fm, rfl, hI2, few, hT2, lr, fo, fun e m' H3 nm is s3 => ⟨by show 1 ≤ sizeLine; decide, fun L nL => ?_⟩, fun kk v e d H3 s3 nd3 hd => ?_⟩
        · have sL := new_same nL (o := .lst [.ref m'])
          exact ⟨L, l2, rfl, (s2.trans s3).trans sL, .inl ⟨e, m', upd_same, is.same sL, sL _ _ (s3 _ _ h2), s2.free nm⟩⟩
        · refine ⟨true, A.exm kk, fun _ a0 ha0 => ?_, fun z => nomatch z⟩
          refine ⟨_, rfl, cls kk, .ref cN, .ref cN, false, d, _, rfl, rfl, A.ex kk, rfl, hd, (fun u e => e), A.oN kk, ?_⟩
          refine ⟨_, rfl, cls kk, .ref cD, .ref cD, false, d, _, rfl, rfl, A.ex kk, rfl, hd, (fun u e => e), A.oD kk, ?_⟩
          refine ⟨_, rfl, cls kk, .ref cT, .ref cT, false, d, _, rfl, rfl, A.ex kk, rfl, hd, (fun u e => e), A.oT kk, by show 3 ≤ sizeLine; decide, fun L1 n1 => ?_⟩
          have t1 := new_same n1 (o := .lst [.bl false, .bl false, .bl false])
          have hd1 := t1 _ _ hd
          refine ⟨_, rfl, _, rfl, cls kk, .ref (cls .note), .ref (cls .note), isK .note kk, d, _, rfl, rfl, A.ex kk, rfl, hd1, (fun u e => e), A.oK kk .note, ?_⟩
          refine ⟨_, rfl, cls kk, .ref (cls .town), .ref (cls .town), isK .town kk, d, _, rfl, rfl, A.ex kk, rfl, hd1, (fun u e => e), A.oK kk .town, ?_⟩
          refine ⟨_, rfl, cls kk, .ref (cls .day), .ref (cls .day), isK .day kk, d, _, rfl, rfl, A.ex kk, rfl, hd1, (fun u e => e), A.oK kk .day, ?_⟩
          refine ⟨_, rfl, cls kk, d, _, v, rfl, rfl, A.xf kk, Ers.no E kk, rfl, hd1, rfl, by show 4 ≤ sizeLine; decide, fun L2 n2 => ?_⟩
          have t2 := t1.trans (new_same n2 (o := .lst [.bl (isK .note kk), .bl (isK .town kk), .bl (isK .day kk), v]))
          refine ⟨L1, L2, _, _, rfl, rfl, (new_same n2) _ _ upd_same, upd_same, by show 7 ≤ sizeLine; decide, fun L3 n3 => ?_⟩
          have t3 := t2.trans (new_same n3 (o := .lst ([.bl false, .bl false, .bl false] ++ [.bl (isK .note kk), .bl (isK .town kk), .bl (isK .day kk), v])))
          exact ⟨l1, L3, rfl, (s2.trans s3).trans t3, .inr ⟨kk, v, e, t3 _ _ (s3 _ _ h1), by rw [upd_same, slip_is]⟩⟩
    · rintro sl G ⟨la, lb, rfl, sG, way⟩
      refine ⟨_, rfl, _, rfl, by show 2 ≤ sizeLine; decide, fun T nT => ?_⟩
      have sT := new_same nT (o := .tup [.ref la, .ref lb])
      rcases way with ⟨e, m2, ha, is, hb, n2⟩ | ⟨kk, v, e, ha, hb⟩
      · exact q e T m2 _ ⟨la, lb, upd_same, sT _ _ ha, sT _ _ hb⟩ (is.same sT) (sG.trans sT) (sG.free nT) n2
      · exact o kk v e T _ ⟨la, lb, upd_same, sT _ _ ha, sT _ _ hb⟩ (sG.trans sT) (sG.free nT)
def spFewer (C : Addr) : Sp := fun vs H Q _ => ∃ (m : Addr) (ts ns : List (List V)) (i : Int) (bn : Bool), vs = [.ref m, .int i, .bl bn] ∧ Is C H m ts ns ∧
  (0 ≤ i ∧ i < ns.length → ∀ q m2 H', Pair2 H' q [.ref m2] [] → Is C H' m2 ts (ns.take i.toNat ++ ns.drop (i.toNat + 1)) → Same H H' → H q = none → H m2 = none → Q (.ref q) H') ∧
  (¬ (0 ≤ i ∧ i < ns.length) → ∀ q H', Pair2 H' q [] [.bl true, .int i] → Same H H' → H q = none → Q (.ref q) H')
abbrev nFewer : List Str := ["made", "spot", "by_name", "found", "slip", "e"]
theorem scFewer : FnScope nFewer ["made", "spot", "by_name"] (defScope sFewer) := ⟨rfl, rfl, rfl, by decide +kernel, rfl, by decide +kernel, by decide +kernel⟩
theorem ok_fewer {f fW fErr C CU CM cN cD cT : Addr} {fd fdW : FuncData} {cls : Fk → Addr} {k : Nat} (F : Fun K "_law_mk_fewer" "_law_mk_fewer" sFewer f fd) (cl : Cls K C) (GW : FnOk P w K mg base (L2.CX P w) k fW fdW ["self", "index"] (spWithout C CU)) (mW : Meth K C "without" fW) (bW : Binds K fdW ["self", "index"] [])
    (kW : KBn K fdW ["self", "index"] 1 ["index"] app2 app2) (A : Asks K mg cls CU CM cN cD cT) (E : Er K mg fErr "UnknownNote" CU) (B : Blt mg) : FnOk P w K mg base CX0 (k + 1) f fd ["made", "spot", "by_name"] (spFewer C) := by
  refine F.ok scFewer (fun vs H Q E h => ?_) (fun cdv Ar outer s H vs Q E0' hr h => ?_)
  · obtain ⟨m, ts, ns, i, bn, rfl, _⟩ := h
    rfl
  · obtain ⟨m, ts, ns, i, bn, rfl, hI, q, o⟩ := h
    have nd := scFewer.nd
    refine ⟨_, pss_cons (ps_par (i := 3) (j := 4) rfl nd rfl rfl (by decide) rfl rfl (pa_cons (pe_lst pa_nil) (pa_cons (pe_lst pa_nil) pa_nil)) (by rfl))
      (C8.pss_cut (ps_try_as (i := 5) (Wout := fun _ _ _ _ => False) rfl rfl nd rfl rfl ⟨rfl, by decide, .inl A.gM⟩ takes0
        (fun W pn xe tk _ => pss_one (ps_set (i := 3) nd rfl (.inl rfl) (pe_ifExp (pt_val (pv 2)) (pe_lst (pa_cons (pe_methAK (E := WE W) (pv 0) cl mW GW hr kW (fun sl => passAt tk sl) (pk_cons (pv 1) pk_nil)) pa_nil)) (pe_lst (pa_cons (pe_methA (E := WE W) (pv 0) cl mW GW hr bW (fun sl => passAt tk sl) (pa_cons (pv 1) pa_nil)) pa_nil)))))
        (fun a oe cc d pn hz hf => pss_one (ps_set (i := 4) nd rfl (.inl rfl) (pe_lst (pa_cons (pe_callB (call_err hz hf) (by rfl) B.isi (by decide +kernel) (pa_cons (pv 5) (pa_cons (pe_glob (v := .ref CU) rfl E.g rfl) pa_nil))) (pa_cons (pe_errV hz hf (pv 5)) pa_nil))))))
      (pss_one (ps_ret (pe_tup (pa_cons (pv 3) (pa_cons (pv 4) pa_nil)))))), ?_⟩
    refine ⟨Nat.zero_le _, fun l1 nl1 => ⟨Nat.zero_le _, fun l2 nl2 => ⟨_, _, rfl, ?_⟩⟩⟩
    have s1 := new_same nl1 (o := .lst [])
    have s2 := s1.trans (new_same nl2 (o := .lst []))
    have h1 : upd (upd H l1 (.lst [])) l2 (.lst []) l1 = some (.lst []) := (new_same nl2) _ _ upd_same
    have h2 : upd (upd H l1 (.lst [])) l2 (.lst []) l2 = some (.lst []) := upd_same
    generalize upd (upd H l1 (.lst [])) l2 (.lst []) = H2 at s2 h1 h2 ⊢
    have hI2 := hI.same s2
    refine ⟨fun sl G => ∃ la lb, sl = [some (.ref m), some (.int i), some (.bl bn), some (.ref la), some (.ref lb), none] ∧ Same H G ∧
      (((0 ≤ i ∧ i < ns.length) ∧ ∃ m2, G la = some (.lst [.ref m2]) ∧ Is C G m2 ts (ns.take i.toNat ++ ns.drop (i.toNat + 1)) ∧ G lb = some (.lst []) ∧ H m2 = none) ∨ (¬ (0 ≤ i ∧ i < ns.length) ∧ G la = some (.lst []) ∧ G lb = some (.lst [.bl true, .int i]))), ?_, ?_⟩
    · refine ⟨_, rfl, _, rfl, ?_⟩
      obtain ⟨dx, a, b, G0⟩ := id hI2
      refine ite2 (fun _ => ?_) (fun _ => ?_)
      · refine ⟨_, rfl, m, dx, _, rfl, G0.at_.ob, by rfl, _, rfl, rfl, m, ts, ns, i, rfl, hI2, fun e m' H3 nm is s3 => ⟨by show 1 ≤ sizeLine; decide, fun L nL => ?_⟩, fun e d H3 s3 nd3 hd => ?_⟩
        · have sL := new_same nL (o := .lst [.ref m'])
          exact ⟨L, l2, rfl, (s2.trans s3).trans sL, .inl ⟨e, m', upd_same, is.same sL, sL _ _ (s3 _ _ h2), s2.free nm⟩⟩
        · refine ⟨true, A.exmU, fun _ a0 ha0 => ?_, fun z => nomatch z⟩
          refine ⟨_, rfl, CU, .ref CU, .ref CU, true, d, _, rfl, rfl, A.exU, rfl, hd, (fun u e => e), A.oU, ?_⟩
          refine ⟨_, rfl, CU, d, _, .int i, rfl, rfl, A.xfU, E.no, rfl, hd, rfl, by show 2 ≤ sizeLine; decide, fun L2 n2 => ?_⟩
          have t2 := new_same n2 (o := .lst [.bl true, .int i])
          exact ⟨l1, L2, rfl, (s2.trans s3).trans t2, .inr ⟨e, t2 _ _ (s3 _ _ h1), upd_same⟩⟩
      · refine ⟨_, rfl, m, dx, _, rfl, G0.at_.ob, by rfl, _, rfl, m, ts, ns, i, rfl, hI2, fun e m' H3 nm is s3 => ⟨by show 1 ≤ sizeLine; decide, fun L nL => ?_⟩, fun e d H3 s3 nd3 hd => ?_⟩
        · have sL := new_same nL (o := .lst [.ref m'])
          exact ⟨L, l2, rfl, (s2.trans s3).trans sL, .inl ⟨e, m', upd_same, is.same sL, sL _ _ (s3 _ _ h2), s2.free nm⟩⟩
        · refine ⟨true, A.exmU, fun _ a0 ha0 => ?_, fun z => nomatch z⟩
          refine ⟨_, rfl, CU, .ref CU, .ref CU, true, d, _, rfl, rfl, A.exU, rfl, hd, (fun u e => e), A.oU, ?_⟩
          refine ⟨_, rfl, CU, d, _, .int i, rfl, rfl, A.xfU, E.no, rfl, hd, rfl, by show 2 ≤ sizeLine; decide, fun L2 n2 => ?_⟩
          have t2 := new_same n2 (o := .lst [.bl true, .int i])
          exact ⟨l1, L2, rfl, (s2.trans s3).trans t2, .inr ⟨e, t2 _ _ (s3 _ _ h1), upd_same⟩⟩
    · rintro sl G ⟨la, lb, rfl, sG, way⟩
      refine ⟨_, rfl, _, rfl, by show 2 ≤ sizeLine; decide, fun T nT => ?_⟩
      have sT := new_same nT (o := .tup [.ref la, .ref lb])
      rcases way with ⟨e, m2, ha, is, hb, n2⟩ | ⟨e, ha, hb⟩
      · exact q e T m2 _ ⟨la, lb, upd_same, sT _ _ ha, sT _ _ hb⟩ (is.same sT) (sG.trans sT) (sG.free nT) n2
      · exact o e T _ ⟨la, lb, upd_same, sT _ _ ha, sT _ _ hb⟩ (sG.trans sT) (sG.free nT)
end
end Md

namespace Md
open PySem PySem.Spec PyProof.Rows L2
abbrev sStep : Stmt := top 39
theorem Shape.bent {r : List V} (h : Shape r) : Bent r := by
  obtain ⟨k, d, tk, k1, d0, d1, ⟨z, rfl, tz, e⟩ | ⟨y, z, rfl, ty, tz, e⟩⟩ := h
  · exact bent_form (k := k) (mids := [z]) (tk.more (by omega)) (all1 tz (by omega)) (by simp) (by omega) (by omega)
  · exact bent_form (k := k) (mids := [y, z]) (tk.more (by omega)) (all2 ty tz (by omega) (by omega)) (by simp) (by omega) (by omega)
theorem Bent.nr {r : List V} (h : Bent r) : NiceRow r := ⟨h.nice, fun v hv => by
  rcases h.2.1 v hv with ⟨z, e, _⟩ | ⟨i, e, _⟩
  · exact .inl ⟨z, e⟩
  · exact .inr ⟨i, e⟩⟩
theorem fault_nice {K : PySem.W.Frag} {H : Hp} {zs : List Str} {t : Addr} {r : List V} {fm : Option (List Str × Int)} {k : Fk} {v : V} (bt : Bent r) (fo : Form r fm) (ht : H t = some (.tup r)) (e : faultOf zs (.ref t) fm = some (k, v)) : ∃ d, Dp K H v d ∧ Nice d 1 105 := by
  have whole : ∃ d, Dp K H (.ref t) d ∧ Nice d 1 105 := ⟨rowD r, bt.dp ht, bt.nice⟩
  have part : ∀ u, u ∈ r → ∃ d, Dp K H u d ∧ Nice d 1 105 := fun u hu => ⟨vD u, (bt.2.1 u hu).dp, (bt.2.1 u hu).nice.more (by omega) (by omega)⟩
  cases fo with
  | nil =>
    have e2 := Option.some.inj e
    cases e2
    exact whole
  | off kd rest hk =>
    have e2 := Option.some.inj e
    cases e2
    exact whole
  | good kd mids d hk =>
    have e1 : faultEnd (.ref t) mids d (mids.find? (unknown zs)) = some (k, v) := e
    cases hf : mids.find? (unknown zs) with
    | some z =>
      rw [hf] at e1
      have e2 := Option.some.inj e1
      cases e2
      exact part _ (List.mem_cons_of_mem _ (List.mem_append_left _ (List.mem_map.mpr ⟨z, List.mem_of_find?_eq_some hf, rfl⟩)))
    | none =>
      rw [hf] at e1
      have e3 : (if dbl mids = true then some (Fk.note, V.ref t) else if d < 0 then some (Fk.day, V.int d) else none) = some (k, v) := e1
      by_cases c : dbl mids = true
      · rw [if_pos c] at e3
        have e2 := Option.some.inj e3
        cases e2
        exact whole
      · rw [if_neg c] at e3
        by_cases c2 : d < 0
        · rw [if_pos c2] at e3
          have e2 := Option.some.inj e3
          cases e2
          exact part _ (List.mem_cons_of_mem _ (List.mem_append_right _ (List.mem_singleton.mpr rfl)))
        · rw [if_neg c2] at e3
          cases e3
theorem nice_bool (b : Bool) : Nice (.bool b) 0 0 := by
  refine ⟨by simp [PyData.canLay0], by simp [PyData.showable], by simp [PyData.hasDict], by simp [PyData.depth], by simp [PyData.leavesShort], by simp [PyData.bulk]⟩
theorem slip_dp {K : PySem.W.Frag} {H : Hp} {l : Addr} {k : Fk} {v : V} {d : PyData} (hl : H l = some (.lst (slipL (some (k, v))))) (dp : Dp K H v d) : Dp K H (.ref l) (.list ([.bool false, .bool false, .bool false, .bool (isK .note k), .bool (isK .town k), .bool (isK .day k), d])) := by
  rw [slip_is] at hl
  exact .lst (.inl (.inl hl)) (.cons (.bl _) (.cons (.bl _) (.cons (.bl _) (.cons (.bl _) (.cons (.bl _) (.cons (.bl _) (.cons dp .nil)))))))
theorem slip_nice {k : Fk} {d : PyData} (n : Nice d 1 105) : Nice (.list ([.bool false, .bool false, .bool false, .bool (isK .note k), .bool (isK .town k), .bool (isK .day k), d])) 2 1000 := by
  refine (Nice.list (dep := 1) (b := 105) fun x hx => ?_).more (Nat.le_refl _) (by simp)
  have b : ∀ c, Nice (.bool c) 1 105 := fun c => (nice_bool c).more (by omega) (by omega)
  simp only [List.mem_cons, List.not_mem_nil, or_false] at hx
  rcases hx with rfl | rfl | rfl | rfl | rfl | rfl | rfl
  · exact b _
  · exact b _
  · exact b _
  · exact b _
  · exact b _
  · exact b _
  · exact n
section
variable {P : Program} {w : World} {K : PySem.W.Frag} {mg : Str → Option Value} {base : Heap}
/-- a sheet at q -/
def SheetAt (H : Hp) (q : Addr) (ts ns : List (List V)) : Prop := ∃ a b, H q = some (.tup [.ref a, .ref b]) ∧ Rows H a ts ∧ Rows H b ns
theorem SheetAt.same {H G : Hp} {q : Addr} {ts ns : List (List V)} (h : SheetAt H q ts ns) (s : Same H G) : SheetAt G q ts ns := by
  obtain ⟨a, b, h1, h2, h3⟩ := h
  exact ⟨a, b, s _ _ h1, h2.same s, h3.same s⟩
theorem SheetAt.keep {H G : Hp} {q p : Addr} {c : Nat} {ts ns : List (List V)} (h : SheetAt H q ts ns) (hp : PurseAt H p c) (k : Keep p H G) : SheetAt G q ts ns := by
  obtain ⟨a, b, h1, h2, h3⟩ := h
  refine ⟨a, b, k _ _ h1 fun e => ?_, h2.keep hp k, h3.keep hp k⟩
  obtain ⟨x, y, z, e1, _⟩ := hp
  rw [e, e1] at h1
  cases h1
/-- towns that were drawn, notes that can be shown -/
structure Sh (ts ns : List (List V)) (k : Nat) : Prop where
  towns : TownsB ts k
  k1 : 1 ≤ k
  k20 : k ≤ 20
  nice : ∀ r ∈ ns, NiceRow r
theorem Sh.niceT {ts ns : List (List V)} {k : Nat} (S : Sh ts ns k) : ∀ r ∈ ts, NiceRow r := fun r hr => (S.towns.2.2 r hr).flat.nr
def spStep (C : Addr) : Sp := fun vs H Q _ => ∃ (p m q : Addr) (c k : Nat) (ts ns : List (List V)), vs = [.ref p, .ref m, .ref q] ∧ PurseAt H p c ∧ c ≤ 900000 ∧ Is C H m ts ns ∧ SheetAt H q ts ns ∧ Sh ts ns k ∧ ns.length ≤ 70 ∧
  ∀ l m2 q2 ns2 H', H' l = some (.lst [.bl true, .ref m2, .ref q2]) → Is C H' m2 ts ns2 → SheetAt H' q2 ts ns2 → Sh ts ns2 k → ns2.length ≤ ns.length + 1 → PurseAt H' p (c + 100) → Keep p H H' → H l = none → Q (.ref l) H'
abbrev nStep : List Str := ["purse", "made", "sheet", "by_name", "spot", "found", "slip", "later", "picks", "pair", "entry", "fault"]
theorem scStep : FnScope nStep ["purse", "made", "sheet"] (defScope sStep) := ⟨rfl, rfl, rfl, by decide +kernel, rfl, by decide +kernel, by decide +kernel⟩
/-- a def that shows data, as its callers see it -/
structure GAt (P : Program) (w : World) (K : PySem.W.Frag) (mg : Str → Option Value) (base : Heap) (x : Str) (f : Addr) (fd : FuncData) (ps : List Str) (n : Nat) (sp : Sp) : Prop where
  ok : ∀ k, FnG P w K mg base CX0 (k + n) f fd ps sp
  mg : mg x = some (.ref f)
  kp : PySem.W.keepIn K (.ref f) = true
  b : Binds K fd ps []
theorem ok_step {f fC fF fM fP fI fE fB fN fS fT C : Addr} {fd fdC fdF fdM fdP fdI fdE fdB fdN fdS fdT : FuncData} {k nF nM : Nat} (F : Fun K "_law_mk_step" "_law_mk_step" sStep f fd) (CN : CoinAt P w K mg base fC fdC) (FW : DefAt P w K mg base "_law_mk_fewer" fF fdF ["made", "spot", "by_name"] 8 (spFewer C))
    (MW : DefAt P w K mg base "_law_mk_more" fM fdM ["made", "entry", "by_name"] 8 (spMore C)) (PK : DefAt P w K mg base "_law_mk_picks" fP fdP ["purse", "places"] 2 spPicks) (PR : DefAt P w K mg base "_law_mk_pair" fI fdI ["purse", "places"] 2 spPair)
    (EN : DefAt P w K mg base "_law_mk_entry" fE fdE ["purse", "places", "pair", "picks", "is_true"] 3 spEntry) (BE : DefAt P w K mg base "_law_mk_bent_entry" fB fdB ["purse", "places", "entry"] 4 spBent) (NF : DefAt P w K mg base "_law_mk_note_fault" fN fdN ["places", "entry"] 1 spFault)
    (SL : DefAt P w K mg base "_law_mk_due_slip" fS fdS ["fault"] 1 (spSlip K)) (TL : GAt P w K mg base "_law_mk_right" fT fdT ["found", "sheet"] 3 (spTells C)) (B : Blt mg) : FnG P w K mg base CX0 (k + 9) f fd ["purse", "made", "sheet"] (spStep C) := by
  have GC := CN.ok (k + 7)
  have GF := FW.ok k
  have GM := MW.ok k
  have GP := PK.ok (k + 6)
  have GI := PR.ok (k + 6)
  have GE := EN.ok (k + 5)
  have GB := BE.ok (k + 4)
  have GN := NF.ok (k + 7)
  have GS := SL.ok (k + 7)
  have GT := TL.ok (k + 5)
  refine okG F scStep (fun vs H Q E h => ?_) (fun cdv A outer s H vs Q E g hr h => ?_)
  · obtain ⟨p, m, q, c, k, ts, ns, rfl, _⟩ := h
    rfl
  · obtain ⟨p, m, q, c, kk, ts, ns, rfl, hp, hc, hI, hS, sh, few, fin⟩ := h
    have nd := scStep.nd
    refine ⟨_, pss_cons (ps_set (i := 3) nd rfl (.inl rfl) (pe_cmpR op_eq (pe_call GC hr (by rfl) CN.mg CN.kp CN.b .nil pass0 (pa_cons (pv 0) (pa_cons pe_int pa_nil))) pe_int (nomark _)))
      (C8.pss_cut (ps_if (pt_cmpR op_eq (pe_call GC hr (by rfl) CN.mg CN.kp CN.b .nil pass0 (pa_cons (pv 0) (pa_cons pe_int pa_nil))) pe_int (nomark _))
        ((pss_cons (ps_set (i := 4) nd rfl (.inl rfl) (pe_op op_sub (pe_call GC hr (by rfl) CN.mg CN.kp CN.b .nil pass0 (pa_cons (pv 0) (pa_cons (pe_op op_add (pe_callB call_len_seq (by rfl) B.len PySem.boot_len (pa_cons (pe_ix (r := rIxT K) ix_tup (pv 2) pe_int (fun _ _ => rfl)) pa_nil)) pe_int) pa_nil))) pe_int))
        (pss_cons (ps_set (i := 4) nd rfl (.inl rfl) (pe_ix ix_list (pe_lst (pa_cons (pv 4) (pa_cons (pv 4) (pa_cons (pe_un un_neg (pe_op op_pow pe_int pe_int)) (pa_cons (pe_op op_pow pe_int pe_int) pa_nil))))) (pe_call GC hr (by rfl) CN.mg CN.kp CN.b .nil pass0 (pa_cons (pv 0) (pa_cons pe_int pa_nil))) (fun _ _ => rfl)))
        (pss_cons (ps_asg (pe_call GF hr (by rfl) FW.mg FW.kp FW.b .nil pass0 (pa_cons (pv 1) (pa_cons (pv 4) (pa_cons (pv 3) pa_nil)))) (pg_tup (by rfl) (pgs_cons (pg_name (i := 5) nd rfl (.inl rfl)) (pgs_cons (pg_name (i := 6) nd rfl (.inl rfl)) pgs_nil))))
        (pss_cons (ps_if (pt_not (pt_chain op_le op_lt pe_int (pv 4) (pe_callB call_len_seq (by rfl) B.len PySem.boot_len (pa_cons (pe_ix (r := rIxT K) ix_tup (pv 2) pe_int (fun _ _ => rfl)) pa_nil)))) (pss_one (ps_ret (pe_lst (pa_cons (pe_and (pe_cmpR (op_eqD hr.units) (pv 5) (pe_lst pa_nil) (nomark _)) (pe_one (pe_cmpR op_eq (pe_callB (call_repr g hr.units) (by rfl) B.repr (by decide +kernel) (pa_cons (pv 6) pa_nil)) (pe_callB (call_repr g hr.units) (by rfl) B.repr (by decide +kernel) (pa_cons (pe_lst (pa_cons pe_bl (pa_cons (pv 4) pa_nil))) pa_nil)) (nomark _)))) (pa_cons (pv 1) (pa_cons (pv 2) pa_nil)))))) pss_nil)
        (pss_one (ps_set (i := 7) nd rfl (.inl rfl) (pe_tup (pa_cons (pe_ix (r := rIxT K) ix_tup (pv 2) pe_int (fun _ _ => rfl)) (pa_cons (pe_op op_cat (pe_slice sl_list (pe_ix (r := rIxT K) ix_tup (pv 2) pe_int (fun _ _ => rfl)) po_none (po_some (pv 4))) (pe_slice sl_list (pe_ix (r := rIxT K) ix_tup (pv 2) pe_int (fun _ _ => rfl)) (po_some (pe_op op_add (pv 4) pe_int)) po_none)) pa_nil))))))))))
        ((pss_cons (ps_par (i := 8) (j := 9) rfl nd rfl rfl (by decide) rfl rfl (pa_cons (pe_call GP hr (by rfl) PK.mg PK.kp PK.b .nil pass0 (pa_cons (pv 0) (pa_cons (pe_ix (r := rIxT K) ix_tup (pv 2) pe_int (fun _ _ => rfl)) pa_nil))) (pa_cons (pe_call GI hr (by rfl) PR.mg PR.kp PR.b .nil pass0 (pa_cons (pv 0) (pa_cons (pe_ix (r := rIxT K) ix_tup (pv 2) pe_int (fun _ _ => rfl)) pa_nil))) pa_nil)) (by rfl))
        (pss_cons (ps_set (i := 10) nd rfl (.inl rfl) (pe_call GE hr (by rfl) EN.mg EN.kp EN.b .nil pass0 (pa_cons (pv 0) (pa_cons (pe_ix (r := rIxT K) ix_tup (pv 2) pe_int (fun _ _ => rfl)) (pa_cons (pv 9) (pa_cons (pv 8) (pa_cons pe_bl pa_nil)))))))
        (C8.pss_cut (ps_if (pt_cmpR op_eq (pe_call GC hr (by rfl) CN.mg CN.kp CN.b .nil pass0 (pa_cons (pv 0) (pa_cons pe_int pa_nil))) pe_int (nomark _)) (pss_one (ps_set (i := 10) nd rfl (.inl rfl) (pe_call GB hr (by rfl) BE.mg BE.kp BE.b .nil pass0 (pa_cons (pv 0) (pa_cons (pe_ix (r := rIxT K) ix_tup (pv 2) pe_int (fun _ _ => rfl)) (pa_cons (pv 10) pa_nil)))))) pss_nil)
        (pss_cons (ps_asg (pe_call GM hr (by rfl) MW.mg MW.kp MW.b .nil pass0 (pa_cons (pv 1) (pa_cons (pv 10) (pa_cons (pv 3) pa_nil)))) (pg_tup (by rfl) (pgs_cons (pg_name (i := 5) nd rfl (.inl rfl)) (pgs_cons (pg_name (i := 6) nd rfl (.inl rfl)) pgs_nil))))
        (pss_cons (ps_set (i := 11) nd rfl (.inl rfl) (pe_call GN hr (by rfl) NF.mg NF.kp NF.b .nil pass0 (pa_cons (pe_ix (r := rIxT K) ix_tup (pv 2) pe_int (fun _ _ => rfl)) (pa_cons (pv 10) pa_nil))))
        (pss_cons (ps_if (pt_cmpR (op_neD hr.units) (pv 11) (pe_lst pa_nil) (nomark _)) (pss_one (ps_ret (pe_lst (pa_cons (pe_and (pe_cmpR (op_eqD hr.units) (pv 5) (pe_lst pa_nil) (nomark _)) (pe_one (pe_cmpR op_eq (pe_callB (call_repr g hr.units) (by rfl) B.repr (by decide +kernel) (pa_cons (pv 6) pa_nil)) (pe_callB (call_repr g hr.units) (by rfl) B.repr (by decide +kernel) (pa_cons (pe_call GS hr (by rfl) SL.mg SL.kp SL.b .nil pass0 (pa_cons (pv 11) pa_nil)) pa_nil)) (nomark _)))) (pa_cons (pv 1) (pa_cons (pv 2) pa_nil)))))) pss_nil)
        (pss_one (ps_set (i := 7) nd rfl (.inl rfl) (pe_tup (pa_cons (pe_ix (r := rIxT K) ix_tup (pv 2) pe_int (fun _ _ => rfl)) (pa_cons (pe_op op_cat (pe_ix (r := rIxT K) ix_tup (pv 2) pe_int (fun _ _ => rfl)) (pe_lst (pa_cons (pv 10) pa_nil))) pa_nil)))))))))))))
      (pss_cons (ps_if (PW.pt (pw_or (pt_cmpR (op_neD hr.units) (pv 6) (pe_lst pa_nil) (nomark _)) (pw_or (pt_cmpR op_ne (pe_callB call_len_seq (by rfl) B.len PySem.boot_len (pa_cons (pv 5) pa_nil)) pe_int (nomark _)) (pw_or1 (pt_not (pt_val (pe_callG GT g hr (by rfl) TL.mg TL.kp TL.b pass0 (pa_cons (pe_ix ix_list (pv 5) pe_int (fun _ _ => rfl)) (pa_cons (pv 7) pa_nil))))))))) (pss_one ps_never) pss_nil)
      (pss_one (ps_ret (pe_lst (pa_cons pe_bl (pa_cons (pe_ix ix_list (pv 5) pe_int (fun _ _ => rfl)) (pa_cons (pv 7) pa_nil)))))))), ?_⟩
    refine ⟨_, rfl, p, c, 2, rfl, hp, by omega, by decide, by decide, fun d0 H1 _ _ hp1 k1 => ⟨rfl, ?_⟩⟩
    generalize decide (V.int d0 = V.int 0) = bn
    have hI1 := hI.keep hp k1
    have hS1 := hS.keep hp k1
    have few20 := sh.towns.1
    refine ⟨fun sl G => ∃ v4 lf ls lt m2 ns2 v8 v9 v10 v11, sl = [some (.ref p), some (.ref m), some (.ref q), some (.bl bn), v4, some (.ref lf), some (.ref ls), some (.ref lt), v8, v9, v10, v11] ∧ G lf = some (.lst [.ref m2]) ∧ G ls = some (.lst []) ∧
      Is C G m2 ts ns2 ∧ SheetAt G lt ts ns2 ∧ Sh ts ns2 kk ∧ ns2.length ≤ ns.length + 1 ∧ PurseAt G p (c + 90) ∧ Keep p H G, ?_, ?_⟩
    · refine ⟨_, rfl, p, _, 2, rfl, hp1, by omega, by decide, by decide, fun d1 H2 _ _ hp2 k2 => ⟨rfl, _, rfl, ?_⟩⟩
      have hI2 := hI1.keep hp1 k2
      have hS2 := hS1.keep hp1 k2
      have k12 := k1.trans k2
      refine ite2 (fun _ => ?_) (fun _ => ?_)
      · -- a note left out
        obtain ⟨a, b, hq, hA, hB⟩ := id hS2
        obtain ⟨bs, hB1, hB2⟩ := id hB
        have lb : bs.length = ns.length := paired_len hB2
        refine ⟨_, rfl, _, rfl, q, _, 1, .ref b, rfl, rfl, .inl (.inl hq), atI_nat (j := 1) rfl, b, _, rfl, .inl (.inl (.inl hB1)), _, _, rfl, rfl, p, _, _, rfl, hp2, by omega, by omega, ?_, fun d2 H3 a0 a1 hp3 k3 => ⟨_, _, rfl, rfl, ?_⟩⟩
        · rw [List.length_map, lb]
          omega
        rw [List.length_map, lb] at a1
        have p30 : (10 : Int) ^ 30 = 1000000000000000000000000000000 := by decide
        refine ⟨_, rfl, _, rfl, _, _, rfl, rfl, ⟨by decide, by decide, by decide⟩, _, rfl, _, _, rfl, rfl, ⟨by decide, by decide, by decide⟩, by show 4 ≤ sizeLine; decide, fun L nL => ⟨_, rfl, p, _, 4, rfl, hp3.new nL, by omega, by decide, by decide, fun x H4 x0 x1 hp4 k4 => ?_⟩⟩
        obtain ⟨s, hs, s0, s1⟩ : ∃ s : Int, atI [V.int (d2 - 3), V.int (d2 - 3), V.int (-(10 ^ 30)), V.int (10 ^ 30)] x = some (.int s) ∧ -(10 ^ 30 + 1) ≤ s ∧ s ≤ 10 ^ 30 + 1 := by
          have w : x = 0 ∨ x = 1 ∨ x = 2 ∨ x = 3 := by omega
          rcases w with rfl | rfl | rfl | rfl
          · exact ⟨_, atI_nat (j := 0) rfl, by omega, by omega⟩
          · exact ⟨_, atI_nat (j := 1) rfl, by omega, by omega⟩
          · exact ⟨_, atI_nat (j := 2) rfl, by omega, by omega⟩
          · exact ⟨_, atI_nat (j := 3) rfl, by omega, by omega⟩
        have hL4 := k4 _ _ (upd_same (H := H3) (a := L) (o := .lst [.int (d2 - 3), .int (d2 - 3), .int (-(10 ^ 30)), .int (10 ^ 30)])) (hp3.ne_new nL)
        refine ⟨L, _, x, .int s, rfl, rfl, .inl (.inl hL4), hs, ?_⟩
        have sL := new_same nL (o := .lst [.int (d2 - 3), .int (d2 - 3), .int (-(10 ^ 30)), .int (10 ^ 30)])
        have hI4 := ((hI2.keep hp2 k3).same sL).keep (hp3.new nL) k4
        have hS4 := ((hS2.keep hp2 k3).same sL).keep (hp3.new nL) k4
        have kA := ((k12.trans k3).trans (Keep.of sL)).trans k4
        refine ⟨_, rfl, _, rfl, _, rfl, m, ts, ns, s, bn, rfl, hI4, fun hin qq m2 G ⟨l1, l2, hqq, hl1, hl2⟩ is sG nqq nm2 => ?_, fun hout qq G ⟨l1, l2, hqq, hl1, hl2⟩ sG nqq => ?_⟩
        · refine ⟨qq, _, rfl, .inl (.inl hqq), rfl, _, _, rfl, _, _, rfl, rfl, ?_⟩
          obtain ⟨a, b, hq, hA, hB⟩ := hS4.same sG
          obtain ⟨bs, hB1, hB2⟩ := id hB
          have lb : bs.length = ns.length := paired_len hB2
          obtain ⟨s, rfl⟩ : ∃ n : Nat, s = n := ⟨s.toNat, by omega⟩
          have ls : s < ns.length := by omega
          refine ⟨_, rfl, _, _, rfl, rfl, _, rfl, iteB (decide_eq_true (by omega)) ⟨_, rfl, q, _, 1, .ref b, rfl, rfl, .inl (.inl hq), atI_nat (j := 1) rfl, b, _, rfl, .inl (.inl (.inl hB1)), _, _, rfl, rfl, _, rfl, ?_⟩⟩
          refine iteN (by rw [decide_eq_true (by rw [List.length_map]; omega)]; rfl) ?_
          refine ⟨_, rfl, q, _, 0, .ref a, rfl, rfl, .inl (.inl hq), atI_nat (j := 0) rfl, _, rfl, q, _, 1, .ref b, rfl, rfl, .inl (.inl hq), atI_nat (j := 1) rfl, _, rfl, _, rfl, b, _, rfl, .inl (.inl hB1), fun L1 n1 => ?_⟩
          rw [cut_take _ _ (by rw [List.length_map]; omega), ← List.map_take]
          have t1 := new_same n1 (o := .lst ((bs.take s).map V.ref))
          refine ⟨_, rfl, q, _, 1, .ref b, rfl, rfl, .inl (.inl (t1 _ _ hq)), atI_nat (j := 1) rfl, _, rfl, _, _, rfl, rfl, _, rfl, b, _, rfl, .inl (.inl (t1 _ _ hB1)), fun L2 n2 => ?_⟩
          rw [show ((s : Nat) : Int) + 1 = ((s + 1 : Nat) : Int) from by omega, cut_drop _ _ (by rw [List.length_map]; omega), ← List.map_drop]
          have t2 := t1.trans (new_same n2 (o := .lst ((bs.drop (s + 1)).map V.ref)))
          refine ⟨L1, L2, _, _, rfl, rfl, (new_same n2) _ _ upd_same, upd_same, ?_, fun L3 n3 => ?_⟩
          · rw [List.length_map, List.length_map, List.length_take, List.length_drop]
            exact le1000 (by omega)
          rw [← List.map_append]
          have t3 := t2.trans (new_same n3 (o := .lst ((bs.take s ++ bs.drop (s + 1)).map V.ref)))
          refine ⟨by show 2 ≤ sizeLine; decide, fun T nT => ?_⟩
          have t4 := t3.trans (new_same nT (o := .tup [.ref a, .ref L3]))
          refine ⟨_, l1, l2, T, m2, ns.take s ++ ns.drop (s + 1), none, none, none, none, rfl, t4 _ _ hl1, t4 _ _ hl2, is.same t4, ⟨a, L3, upd_same, hA.same t4, ⟨_, (new_same nT) _ _ upd_same, paired_imp (paired_app (paired_take hB2 s) (paired_drop hB2 (s + 1))) fun b u z => t4 _ _ z⟩⟩, ⟨sh.towns, sh.k1, sh.k20, fun r hr => ?_⟩, ?_, ((hp4.same sG).same t4).more (by omega), (kA.trans (Keep.of sG)).trans (Keep.of t4)⟩
          · rcases List.mem_append.mp hr with h | h
            · exact sh.nice r (List.mem_of_mem_take h)
            · exact sh.nice r (List.mem_of_mem_drop h)
          · rw [List.length_append, List.length_take, List.length_drop]
            omega
        · refine ⟨qq, _, rfl, .inl (.inl hqq), rfl, _, _, rfl, _, _, rfl, rfl, ?_⟩
          obtain ⟨a, b, hq, hA, hB⟩ := hS4.same sG
          obtain ⟨bs, hB1, hB2⟩ := id hB
          have lb : bs.length = ns.length := paired_len hB2
          have NI : Nice (.list [.bool true, .int s]) 1 100 := (Nice.list (dep := 0) (b := 20) fun x hx => by
            have w : x = .bool true ∨ x = .int s := by simpa using hx
            rcases w with rfl | rfl
            · exact (nice_bool _).more (by omega) (by omega)
            · exact (nice_intW s0 s1).more (by omega) (by omega)).more (by omega) (by simp)
          refine ⟨_, rfl, _, _, rfl, rfl, _, rfl, ?_⟩
          by_cases c0 : 0 ≤ s
          · refine iteB (decide_eq_true c0) ⟨_, rfl, q, _, 1, .ref b, rfl, rfl, .inl (.inl hq), atI_nat (j := 1) rfl, b, _, rfl, .inl (.inl (.inl hB1)), _, _, rfl, rfl, _, rfl, ?_⟩
            refine iteB (by rw [decide_eq_false (by rw [List.length_map]; omega)]; rfl) ?_
            refine ⟨_, rfl, Nat.zero_le _, fun U nU => ⟨.list [], .list [], .lst (.inl (.inl ((new_same nU) _ _ hl1))) .nil, .lst (.inl (.inl upd_same)) .nil, by rfl, by rfl, true, rfl, iteT ?_⟩⟩
            have tU := new_same nU (o := .lst [])
            refine ⟨_, rfl, l2, .list [.bool true, .int s], rfl, .lst (.inl (.inl (tU _ _ hl2))) (.cons (.bl _) (.cons (.int _) .nil)), NI.show_, NI.nod, Nat.le_trans NI.deep (by decide), NI.short (by decide), ?_⟩
            refine ⟨_, rfl, by show 2 ≤ sizeLine; decide, fun U2 nU2 => ⟨U2, .list [.bool true, .int s], rfl, .lst (.inl (.inl upd_same)) (.cons (.bl _) (.cons (.int _) .nil)), NI.show_, NI.nod, Nat.le_trans NI.deep (by decide), NI.short (by decide), rfl, ?_⟩⟩
            have tU2 := tU.trans (new_same nU2 (o := .lst [.bl true, .int s]))
            refine ⟨_, rfl, _, rfl, by show 3 ≤ sizeLine; decide, fun l nl => ?_⟩
            rw [decide_eq_true rfl]
            have tl := (sG.trans tU2).trans (new_same nl (o := .lst [.bl true, .ref m, .ref q]))
            have kl := kA.trans (Keep.of tl)
            exact fin l m q ns _ upd_same (hI4.same tl) (hS4.same tl) sh (by omega) ((hp4.same tl).more (by omega)) kl ((kA.trans (Keep.of (sG.trans tU2))).fresh (hp4.same (sG.trans tU2)) nl)
          · refine iteN (decide_eq_false c0) ⟨_, rfl, ?_⟩
            refine iteB rfl ?_
            refine ⟨_, rfl, Nat.zero_le _, fun U nU => ⟨.list [], .list [], .lst (.inl (.inl ((new_same nU) _ _ hl1))) .nil, .lst (.inl (.inl upd_same)) .nil, by rfl, by rfl, true, rfl, iteT ?_⟩⟩
            have tU := new_same nU (o := .lst [])
            refine ⟨_, rfl, l2, .list [.bool true, .int s], rfl, .lst (.inl (.inl (tU _ _ hl2))) (.cons (.bl _) (.cons (.int _) .nil)), NI.show_, NI.nod, Nat.le_trans NI.deep (by decide), NI.short (by decide), ?_⟩
            refine ⟨_, rfl, by show 2 ≤ sizeLine; decide, fun U2 nU2 => ⟨U2, .list [.bool true, .int s], rfl, .lst (.inl (.inl upd_same)) (.cons (.bl _) (.cons (.int _) .nil)), NI.show_, NI.nod, Nat.le_trans NI.deep (by decide), NI.short (by decide), rfl, ?_⟩⟩
            have tU2 := tU.trans (new_same nU2 (o := .lst [.bl true, .int s]))
            refine ⟨_, rfl, _, rfl, by show 3 ≤ sizeLine; decide, fun l nl => ?_⟩
            rw [decide_eq_true rfl]
            have tl := (sG.trans tU2).trans (new_same nl (o := .lst [.bl true, .ref m, .ref q]))
            have kl := kA.trans (Keep.of tl)
            exact fin l m q ns _ upd_same (hI4.same tl) (hS4.same tl) sh (by omega) ((hp4.same tl).more (by omega)) kl ((kA.trans (Keep.of (sG.trans tU2))).fresh (hp4.same (sG.trans tU2)) nl)
      · -- a note put in
        obtain ⟨a, b, hq, hA, hB⟩ := id hS2
        refine ⟨_, rfl, _, rfl, q, _, 0, .ref a, rfl, rfl, .inl (.inl hq), atI_nat (j := 0) rfl, p, a, _, kk, ts, rfl, hp2, by omega, sh.k20, hA, sh.towns, fun ps e H3 lp good ne hE hp3 k3 => ?_⟩
        have hI3 := hI2.keep hp2 k3
        have hS3 := hS2.keep hp2 k3
        have hq3 : H3 q = some (.tup [.ref a, .ref b]) := k3 _ _ hq fun z => by
          obtain ⟨x, y, u, e1, _⟩ := hp2
          rw [z, e1] at hq
          cases hq
        have hA3 := hA.keep hp2 k3
        obtain ⟨as3, hA31, hA32⟩ := id hA3
        refine ⟨_, rfl, _, rfl, q, _, 0, .ref a, rfl, rfl, .inl (.inl hq3), atI_nat (j := 0) rfl, p, a, _, kk, as3, rfl, hp3, by omega, sh.k1, sh.k20, hA31, by rw [paired_len hA32, few20], fun is b2 H4 pi nb hb hp4 k4 => ⟨_, _, rfl, ?_⟩⟩
        have hI4 := hI3.keep hp3 k4
        have hS4 := hS3.keep hp3 k4
        have hq4 : H4 q = some (.tup [.ref a, .ref b]) := k4 _ _ hq3 fun z => by
          obtain ⟨x, y, u, e1, _⟩ := hp3
          rw [z, e1] at hq3
          cases hq3
        have hA4 := hA3.keep hp3 k4
        have hE4 := hE.keep hp3 k4
        refine ⟨_, rfl, _, rfl, q, _, 0, .ref a, rfl, rfl, .inl (.inl hq4), atI_nat (j := 0) rfl, _, rfl, _, rfl, p, a, b2, e, _, kk, ts, is, ps, rfl, hp4, by omega, sh.k1, sh.k20, ⟨hA4, sh.towns, hb, pi, hE4, lp, good⟩, fun r T H5 nr nT hT hp5 k5 => ?_⟩
        have k15 := (((k12.trans k3).trans k4).trans k5)
        have hI5 := hI4.keep hp4 k5
        have hS5 := hS4.keep hp4 k5
        have shp : Shape r := nr.shape (towns_names sh.towns.2.2)
        -- changed, or as it is
        refine ⟨fun sl G => ∃ (T : Addr) (r : List V), sl = [some (.ref p), some (.ref m), some (.ref q), some (.bl bn), none, none, none, none, some (.ref e), some (.ref b2), some (.ref T), none] ∧ G T = some (.tup r) ∧ Bent r ∧ Is C G m ts ns ∧ SheetAt G q ts ns ∧ PurseAt G p (c + 80) ∧ Keep p H G, ?_, ?_⟩
        · refine ⟨_, rfl, p, _, 2, rfl, hp5, by omega, by decide, by decide, fun d6 H6 _ _ hp6 k6 => ⟨rfl, _, rfl, ?_⟩⟩
          have hT6 : H6 T = some (.tup r) := k6 _ _ hT fun z => by
            obtain ⟨x, y, u, e1, _⟩ := hp5
            rw [z, e1] at hT
            cases hT
          have hI6 := hI5.keep hp5 k6
          have hS6 := hS5.keep hp5 k6
          refine ite2 (fun _ => ?_) (fun _ => ⟨T, r, rfl, hT6, shp.bent, hI6, hS6, hp6.more (by omega), k15.trans k6⟩)
          obtain ⟨a6, b6, hq6, hA6, hB6⟩ := id hS6
          refine ⟨_, rfl, _, rfl, q, _, 0, .ref a6, rfl, rfl, .inl (.inl hq6), atI_nat (j := 0) rfl, _, rfl, p, a6, T, _, kk, ts, r, rfl, hp6, by omega, sh.k1, sh.k20, hA6, sh.towns, hT6, shp, fun t H7 r7 bt ht hp7 k7 => ?_⟩
          exact ⟨t, r7, rfl, ht, bt, hI6.keep hp6 k7, hS6.keep hp6 k7, hp7.more (by omega), (k15.trans k6).trans k7⟩
        · rintro sl G ⟨T, r, rfl, hT, bt, hIG, hSG, hpG, kG⟩
          obtain ⟨fm, fo⟩ := bt.2.2
          have lr := bt.1
          refine ⟨_, rfl, _, rfl, _, rfl, m, T, ts, ns, r, fm, bn, rfl, hIG, by omega, hT, by omega, fo, fun fn qq m2 G2 ⟨l1, l2, hqq, hl1, hl2⟩ is sG nqq nm2 => ?_, fun kf v fs qq G2 ⟨l1, l2, hqq, hl1, hl2⟩ sG nqq => ?_⟩
          · refine ⟨qq, _, rfl, .inl (.inl hqq), rfl, _, _, rfl, _, _, rfl, rfl, ?_⟩
            have hS2' := hSG.same sG
            obtain ⟨a, b, hq, hA, hB⟩ := id hS2'
            have hT2 := sG _ _ hT
            refine ⟨_, rfl, q, _, 0, .ref a, rfl, rfl, .inl (.inl hq), atI_nat (j := 0) rfl, _, rfl, a, T, ts, r, fm, rfl, hA, sh.towns.2.2, by rw [few20]; exact sh.k20, hT2, bt, fo, fun lf G3 nlf hlf s3 => ?_⟩
            rw [fn] at hlf
            refine ⟨_, rfl, Nat.zero_le _, fun U nU => ⟨.list [], .list [], .lst (.inl (.inl ((new_same nU) _ _ hlf))) .nil, .lst (.inl (.inl upd_same)) .nil, by rfl, by rfl, _, rfl, iteN rfl ?_⟩⟩
            have tU := s3.trans (new_same nU (o := .lst []))
            have hqU := tU _ _ hq
            obtain ⟨bs, hB1, hB2⟩ := hB.same tU
            have lb : bs.length = ns.length := paired_len hB2
            refine ⟨_, rfl, q, _, 0, .ref a, rfl, rfl, .inl (.inl hqU), atI_nat (j := 0) rfl, _, rfl, q, _, 1, .ref b, rfl, rfl, .inl (.inl hqU), atI_nat (j := 1) rfl, _, rfl, by show 1 ≤ sizeLine; decide, fun L nL => ?_⟩
            have tL := tU.trans (new_same nL (o := .lst [.ref T]))
            refine ⟨b, L, _, _, rfl, rfl, (new_same nL) _ _ hB1, upd_same, ?_, fun L3 n3 => ?_⟩
            · rw [List.length_map]
              exact le1000 (by show bs.length + 1 ≤ 1000; omega)
            have t3 := tL.trans (new_same n3 (o := .lst (bs.map V.ref ++ [.ref T])))
            refine ⟨by show 2 ≤ sizeLine; decide, fun T9 nT9 => ?_⟩
            have t4 := t3.trans (new_same nT9 (o := .tup [.ref a, .ref L3]))
            refine ⟨none, l1, l2, T9, m2, ns ++ [r], some (.ref e), some (.ref b2), some (.ref T), some (.ref lf), rfl, t4 _ _ hl1, t4 _ _ hl2, is.same t4, ⟨a, L3, upd_same, hA.same t4, ⟨bs ++ [T], ?_, ?_⟩⟩, ⟨sh.towns, sh.k1, sh.k20, fun y hy => ?_⟩, by rw [List.length_append]; exact Nat.le_refl _, ((hpG.same sG).same t4).more (by omega), (kG.trans (Keep.of sG)).trans (Keep.of t4)⟩
            · rw [List.map_append]
              exact (new_same nT9) _ _ upd_same
            · refine paired_snoc (paired_imp hB2 fun b u z => ?_) (t4 _ _ hT2)
              exact (((new_same nL (o := .lst [.ref T])).trans (new_same n3 (o := .lst (bs.map V.ref ++ [.ref T])))).trans (new_same nT9 (o := .tup [.ref a, .ref L3]))) _ _ z
            · rcases List.mem_append.mp hy with h | h
              · exact sh.nice y h
              · rw [List.mem_singleton.mp h]
                exact bt.nr
          · refine ⟨qq, _, rfl, .inl (.inl hqq), rfl, _, _, rfl, _, _, rfl, rfl, ?_⟩
            have hS2' := hSG.same sG
            obtain ⟨a, b, hq, hA, hB⟩ := id hS2'
            have hT2 := sG _ _ hT
            refine ⟨_, rfl, q, _, 0, .ref a, rfl, rfl, .inl (.inl hq), atI_nat (j := 0) rfl, _, rfl, a, T, ts, r, fm, rfl, hA, sh.towns.2.2, by rw [few20]; exact sh.k20, hT2, bt, fo, fun lf G3 nlf hlf s3 => ?_⟩
            have hlf0 := hlf
            rw [fs] at hlf
            refine ⟨_, rfl, Nat.zero_le _, fun U nU => ?_⟩
            have sU := new_same nU (o := .lst [])
            have tU := s3.trans sU
            have hlU := sU _ _ hlf
            obtain ⟨dv, dp, nv⟩ := fault_nice (K := K) bt fo (tU _ _ hT2) fs
            have NF2 : Nice (.list [.str (nmF kf), dv]) 2 300 := by
              refine (Nice.list (ds := [.str (nmF kf), dv]) (dep := 1) (b := 105) fun x hx => ?_).more (Nat.le_refl _) (by simp)
              have w : x = .str (nmF kf) ∨ x = dv := by simpa using hx
              rcases w with rfl | rfl
              · refine (nice_tx (n := 20) (tx_lit _ _ ?_ ?_) (by omega)).more (by omega) (by omega)
                · cases kf <;> decide +kernel
                · cases kf <;> decide +kernel
              · exact nv
            refine ⟨.list [.str (nmF kf), dv], .list [], .lst (.inl (.inl hlU)) (.cons (.str _) (.cons dp .nil)), .lst (.inl (.inl upd_same)) .nil, NF2.shaped (by decide), by rfl, _, rfl, iteB rfl ?_⟩
            have tUl := tU
            refine ⟨_, rfl, Nat.zero_le _, fun U2 nU2 => ⟨.list [], .list [], .lst (.inl (.inl ((new_same nU2) _ _ (tU _ _ hl1)))) .nil, .lst (.inl (.inl upd_same)) .nil, by rfl, by rfl, true, rfl, iteT ?_⟩⟩
            have tU2 := tU.trans (new_same nU2 (o := .lst []))
            have NS := slip_nice (k := kf) nv
            have dp2 := dp_same dp (new_same nU2 (o := .lst []))
            refine ⟨_, rfl, l2, _, rfl, slip_dp (tU2 _ _ hl2) dp2, NS.show_, NS.nod, Nat.le_trans NS.deep (by decide), NS.short (by decide), ?_⟩
            refine ⟨_, rfl, lf, some (kf, v), rfl, (new_same nU2) _ _ hlU, (fun k2 v2 e2 => by cases Option.some.inj e2; exact ⟨dv, dp2, nv⟩), fun ls G4 nls hls s4 => ?_⟩
            have dp4 := dp_same dp2 s4
            refine ⟨ls, _, rfl, slip_dp hls dp4, NS.show_, NS.nod, Nat.le_trans NS.deep (by decide), NS.short (by decide), rfl, ?_⟩
            have t4 := tU2.trans s4
            refine ⟨_, rfl, _, rfl, by show 3 ≤ sizeLine; decide, fun l nl => ?_⟩
            rw [decide_eq_true rfl]
            have tl := (sG.trans t4).trans (new_same nl (o := .lst [.bl true, .ref m, .ref q]))
            have kl := kG.trans (Keep.of tl)
            exact fin l m q ns _ upd_same (hIG.same tl) (hSG.same tl) sh (by omega) ((hpG.same tl).more (by omega)) kl ((kG.trans (Keep.of (sG.trans t4))).fresh (hpG.same (sG.trans t4)) nl)
    · rintro sl G ⟨v4, lf, ls, lt, m2, ns2, v8, v9, v10, v11, rfl, hf, hs, is, shA, sh2, le, hpG, kG⟩
      refine ⟨_, rfl, Nat.zero_le _, fun U nU => ⟨.list [], .list [], .lst (.inl (.inl ((new_same nU) _ _ hs))) .nil, .lst (.inl (.inl upd_same)) .nil, by rfl, by rfl, _, rfl, iteN rfl ?_⟩⟩
      have tU := new_same nU (o := .lst [])
      refine ⟨_, rfl, lf, _, rfl, .inl (.inl (.inl (tU _ _ hf))), rfl, _, rfl, iteN rfl ?_⟩
      obtain ⟨a2, b2, h1, h2, h3⟩ := shA.same tU
      refine ⟨_, rfl, lf, _, 0, .ref m2, rfl, rfl, .inl (.inl (tU _ _ hf)), atI_nat (j := 0) rfl, _, rfl, m2, lt, a2, b2, ts, ns2, rfl, is.same tU, h1, h2, h3, sh2.niceT, sh2.nice, fun G2 s2 => ⟨_, rfl, iteF ?_⟩⟩
      have t2 := tU.trans s2
      refine ⟨_, rfl, lf, _, 0, .ref m2, rfl, rfl, .inl (.inl (t2 _ _ hf)), atI_nat (j := 0) rfl, _, rfl, by show 3 ≤ sizeLine; decide, fun l nl => ?_⟩
      have tl := t2.trans (new_same nl (o := .lst [.bl true, .ref m2, .ref lt]))
      exact fin l m2 lt ns2 _ upd_same (is.same tl) (shA.same tl) sh2 le ((hpG.same tl).more (by omega)) (kG.trans (Keep.of tl)) ((kG.trans (Keep.of t2)).fresh (hpG.same t2) nl)
end
end Md

namespace Md
open PySem PySem.Spec PyProof.Rows L2
abbrev sRight : Stmt := top 40
abbrev sLaw : Stmt := top 41
theorem cut_take2 (xs : List V) (i : Nat) : cutV xs none (some (i : Int)) = xs.take i := by
  unfold cutV
  rw [HT.sIx_none, HT.sIx_nat, List.drop_zero, Nat.sub_zero]
  rcases Nat.le_total i xs.length with h | h
  · rw [Nat.min_eq_left h]
  · rw [Nat.min_eq_right h, List.take_of_length_le (Nat.le_refl _), List.take_of_length_le h]
section
variable {P : Program} {w : World} {K : PySem.W.Frag} {mg : Str → Option Value} {base : Heap}
def spMadeX (C : Addr) : Sp := fun vs H Q _ => ∃ (q : Addr) (k : Nat) (ts ns : List (List V)), vs = [.ref q] ∧ SheetAt H q ts ns ∧ Sh ts ns k ∧ (∀ r ∈ ns, Fine (ts.map nameOf) r) ∧ ns.length ≤ 85 ∧ ∀ m H', H m = none → Is C H' m ts ns → Same H H' → Q (.ref m) H'
theorem scMade : FnScope ["sheet"] ["sheet"] (defScope sMade) := ⟨rfl, rfl, rfl, by decide +kernel, rfl, by decide +kernel, by decide +kernel⟩
theorem ok_made {f C fI fErr CU : Addr} {fd dI dErr : FuncData} {cls : Fk → Addr} {k : Nat} (F : Fun K "_law_mk_made" "_law_mk_made" sMade f fd) (D : Dx P w K mg base C fI fErr dI dErr cls CU) (B : Blt mg) : FnOk P w K mg base CX0 (k + 7) f fd ["sheet"] (spMadeX C) := by
  refine F.ok scMade (fun vs H Q E h => ?_) (fun cdv A outer s H vs Q E hr h => ?_)
  · obtain ⟨q, k, ts, ns, rfl, _⟩ := h
    rfl
  · obtain ⟨q, kk, ts, ns, rfl, ⟨a, b, hq, hA, hB⟩, sh, fine, few, fin⟩ := h
    have nd := scMade.nd
    refine ⟨_, pss_one (ps_ret (pe_make D.made (D.oI k) hr (by rfl) D.name D.bI .nil passL (pa_cons (pe_callTy call_list_of (by rfl) B.list (by decide +kernel) (pa_cons (pe_ix (r := rIxT K) ix_tup (pv 0) pe_int (fun _ _ => rfl)) pa_nil)) (pa_cons (pe_callTy call_list_of (by rfl) B.list (by decide +kernel) (pa_cons (pe_ix (r := rIxT K) ix_tup (pv 0) pe_int (fun _ _ => rfl)) pa_nil)) pa_nil)))), ?_⟩
    obtain ⟨as, hA1, hA2⟩ := id hA
    refine ⟨_, rfl, q, _, 0, .ref a, rfl, rfl, .inl (.inl hq), atI_nat (j := 0) rfl, a, _, rfl, .inl (.inl (.inl hA1)), fun l1 n1 => ?_⟩
    have R1 := rows_copy hA2 n1
    have s1 := new_same n1 (o := .lst (as.map V.ref))
    obtain ⟨bs, hB1, hB2⟩ := hB.same s1
    refine ⟨_, rfl, q, _, 1, .ref b, rfl, rfl, .inl (.inl (s1 _ _ hq)), atI_nat (j := 1) rfl, b, _, rfl, .inl (.inl (.inl hB1)), fun l2 n2 => ?_⟩
    have R2 := rows_copy hB2 n2
    have s2 := s1.trans (new_same n2 (o := .lst (bs.map V.ref)))
    intro x dx nx ndx ne
    have sm := made0 nx ndx ne (o1 := .own x) (o2 := .ins C dx [])
    have tr : ∀ r ∈ ts, TownR r := fun r hr => (sh.towns.2.2 r hr).r
    have lt : ts.length ≤ 20 := by rw [sh.towns.1]; exact sh.k20
    refine ⟨x, dx, l1, l2, ts, rfl, upd_same, (R1.same (new_same n2)).same sm, tr, sh.towns.2.1, by omega, .inl ⟨ns, R2.same sm, fine, by omega, fun a' b' H' na nb DA kx => ⟨rfl, ?_⟩⟩⟩
    exact fin x H' (s2.free nx) ⟨dx, a', b', DA, tr, sh.towns.2.1, fine, by omega, by omega⟩ (s2.trans (made_same nx ndx kx))
def spRight : Sp := fun vs H Q _ => ∃ (p : Addr) (c : Nat), vs = [.ref p] ∧ PurseAt H p c ∧ c ≤ 10000 ∧ ∀ H', Keep p H H' → PurseAt H' p (c + 5000) → Q (.bl true) H'
abbrev nRight : List Str := ["purse", "sheet", "made", "turn", "is_right", "found", "later", "label", "entry", "slip"]
theorem scRight : FnScope nRight ["purse"] (defScope sRight) := ⟨rfl, rfl, rfl, by decide +kernel, rfl, by decide +kernel, by decide +kernel⟩
theorem PurseAt.apart2 {G : Hp} {p L T0 T1 T2 : Addr} {n : Nat} (h : PurseAt G p n) (e : G L = some (.lst [.ref T0, .ref T1, .ref T2])) : L ≠ p := fun zz => by
  obtain ⟨a1, a2, a3, e1, _⟩ := h
  rw [zz, e1] at e
  cases e
theorem ulm_town {d : Int} (h0 : 0 ≤ d) (h1 : d < 8) : TownB [.str "ulm", .int 1, .int (1 + d)] := ⟨"ulm", 1, 1 + d, rfl, by decide +kernel, by decide +kernel, by omega, by omega, by omega⟩
theorem ok_right {f fC fW fA fS fM fN fI fErr fT fR C fE CU : Addr} {fd fdC fdW fdA fdS fdM fdN dI dErr fdT fdR fdE : FuncData} {cls : Fk → Addr} {k : Nat} (F : Fun K "_law_right" "_law_right" sRight f fd) (CN : CoinAt P w K mg base fC fdC) (WD : DefAt P w K mg base "_law_mk_wide" fW fdW ["purse"] 4 spWide)
    (MK : DefAt P w K mg base "_law_mk_made" fA fdA ["sheet"] 7 (spMadeX C)) (MW : DefAt P w K mg base "_law_mk_more" fM fdM ["made", "entry", "by_name"] 8 (spMore C)) (NF : DefAt P w K mg base "_law_mk_note_fault" fN fdN ["places", "entry"] 1 spFault) (SL : DefAt P w K mg base "_law_mk_due_slip" fS fdS ["fault"] 1 (spSlip K))
    (ST : GAt P w K mg base "_law_mk_step" fT fdT ["purse", "made", "sheet"] 9 (spStep C)) (TL : GAt P w K mg base "_law_mk_right" fR fdR ["found", "sheet"] 3 (spTells C)) (D : Dx P w K mg base C fI fErr dI dErr cls CU)
    (GEq : ∀ k, FnOk P w K mg base CX0 (k + 1) fE fdE ["self", "other"] (spEq (Twin C))) (eqS : PySem.W.findIn K (.ref C) "__eq__" = some (some (.ref fE))) (eqF : PySem.W.isFn K (.ref fE) = true) (eqB : Binds K fdE ["self", "other"] []) (B : Blt mg) : FnG P w K mg base CX0 (k + 10) f fd ["purse"] spRight := by
  have GC := CN.ok (k + 8)
  have GW := WD.ok (k + 5)
  have GA := MK.ok (k + 2)
  have GM := MW.ok (k + 1)
  have GN := NF.ok (k + 8)
  have GS := SL.ok (k + 8)
  have GT := ST.ok k
  have GR := TL.ok (k + 6)
  have GEq := GEq (k + 8)
  refine okG F scRight (fun vs H Q E h => ?_) (fun cdv A outer s H vs Q E g hr h => ?_)
  · obtain ⟨p, c, rfl, _⟩ := h
    rfl
  · obtain ⟨p, c, rfl, hp, hc, fin⟩ := h
    have nd := scRight.nd
    refine ⟨_, pss_cons (ps_set (i := 1) nd rfl (.inl rfl) (pe_call GW hr (by rfl) WD.mg WD.kp WD.b .nil pass0 (pa_cons (pv 0) pa_nil)))
      (C8.pss_cut (ps_if (pt_cmpR (op_eqD hr.units) (pe_ix (r := rIxT K) ix_tup (pv 1) pe_int (fun _ _ => rfl)) (pe_lst pa_nil) (nomark _)) (pss_one (ps_set (i := 1) nd rfl (.inl rfl) (pe_tup (pa_cons (pe_lst (pa_cons (pe_tup (pa_cons pe_str (pa_cons pe_int (pa_cons (pe_op op_add pe_int (pe_call GC hr (by rfl) CN.mg CN.kp CN.b .nil pass0 (pa_cons (pv 0) (pa_cons pe_int pa_nil)))) pa_nil)))) pa_nil)) (pa_cons (pe_lst pa_nil) pa_nil))))) pss_nil)
      (pss_cons (ps_set (i := 1) nd rfl (.inl rfl) (pe_tup (pa_cons (pe_ix (r := rIxT K) ix_tup (pv 1) pe_int (fun _ _ => rfl)) (pa_cons (pe_slice sl_list (pe_ix (r := rIxT K) ix_tup (pv 1) pe_int (fun _ _ => rfl)) po_none (po_some pe_int)) pa_nil))))
      (pss_cons (ps_set (i := 2) nd rfl (.inl rfl) (pe_call GA hr (by rfl) MK.mg MK.kp MK.b .nil pass0 (pa_cons (pv 1) pa_nil)))
      (pss_cons (ps_for PassesOwn.never rfl (pi_range1 rfl B.range (pa_cons pe_int pa_nil)) (pg_name (i := 3) nd rfl (.inl rfl))
        (pss_cons (ps_asg (pe_callG GT g hr (by rfl) ST.mg ST.kp ST.b pass0 (pa_cons (pv 0) (pa_cons (pv 2) (pa_cons (pv 1) pa_nil)))) (pg_lst (by rfl) (pgs_cons (pg_name (i := 4) nd rfl (.inl rfl)) (pgs_cons (pg_name (i := 5) nd rfl (.inl rfl)) (pgs_cons (pg_name (i := 6) nd rfl (.inl rfl)) pgs_nil)))))
        (pss_cons (ps_if (PW.pt (pw_or (pt_not (pt_val (pv 4))) (pw_or1 (pt_not (pt_val (pe_callG GR g hr (by rfl) TL.mg TL.kp TL.b pass0 (pa_cons (pv 2) (pa_cons (pv 1) pa_nil)))))))) (pss_one ps_never) pss_nil)
        (pss_cons (ps_if (pt_not (pt_cmpR (op_eqG (rcG_ins GEq eqS eqF eqB (show Passes CX0 _ E0 from pass0)) hr) (pv 5) (pe_call GA hr (by rfl) MK.mg MK.kp MK.b .nil pass0 (pa_cons (pv 6) pa_nil)) (nomark _))) (pss_one ps_never) pss_nil)
        (pss_one (ps_par (i := 2) (j := 1) rfl nd rfl rfl (by decide) rfl rfl (pa_cons (pv 5) (pa_cons (pv 6) pa_nil)) (by rfl))))))) 
      (pss_cons (ps_set (i := 7) nd rfl (.inl rfl) (pe_ix (r := rIxT K) ix_tup (pe_ix ix_list (pe_ix (r := rIxT K) ix_tup (pv 1) pe_int (fun _ _ => rfl)) pe_int (fun _ _ => rfl)) pe_int (fun _ _ => rfl)))
      (pss_cons (ps_set (i := 8) nd rfl (.inl rfl) (pe_ix ix_list (pe_lst (pa_cons (pe_tup pa_nil) (pa_cons (pe_tup (pa_cons pe_str (pa_cons (pv 7) (pa_cons pe_int pa_nil)))) (pa_cons (pe_tup (pa_cons pe_str (pa_cons (pv 7) (pa_cons (pv 7) (pa_cons (pe_un un_neg pe_int) pa_nil))))) pa_nil)))) (pe_call GC hr (by rfl) CN.mg CN.kp CN.b .nil pass0 (pa_cons (pv 0) (pa_cons pe_int pa_nil))) (fun _ _ => rfl)))
      (pss_cons (ps_asg (pe_call GM hr (by rfl) MW.mg MW.kp MW.b .nil pass0 (pa_cons (pe_make D.made (D.oI (k + 3)) hr (by rfl) D.name D.bI .nil passL (pa_cons (pe_lst pa_nil) (pa_cons (pe_lst pa_nil) pa_nil))) (pa_cons (pv 8) (pa_cons (pe_cmpR op_eq (pe_call GC hr (by rfl) CN.mg CN.kp CN.b .nil pass0 (pa_cons (pv 0) (pa_cons pe_int pa_nil))) pe_int (nomark _)) pa_nil)))) (pg_tup (by rfl) (pgs_cons (pg_name (i := 5) nd rfl (.inl rfl)) (pgs_cons (pg_name (i := 9) nd rfl (.inl rfl)) pgs_nil))))
      (pss_one (ps_ret (pe_and (pe_cmpR (op_eqD hr.units) (pv 5) (pe_lst pa_nil) (nomark _)) (pe_one (pe_cmpR op_eq (pe_callB (call_repr g hr.units) (by rfl) B.repr (by decide +kernel) (pa_cons (pv 9) pa_nil)) (pe_callB (call_repr g hr.units) (by rfl) B.repr (by decide +kernel) (pa_cons (pe_call GS hr (by rfl) SL.mg SL.kp SL.b .nil pass0 (pa_cons (pe_call GN hr (by rfl) NF.mg NF.kp NF.b .nil pass0 (pa_cons (pe_lst pa_nil) (pa_cons (pv 8) pa_nil))) pa_nil)) pa_nil)) (nomark _))))))))))))), ?_⟩
    refine ⟨_, rfl, p, c, rfl, hp, by omega, fun ts0 ns0 q0 a0 b0 H1 S nq hq hA hB hp1 k1 => ?_⟩
    -- some town at least
    refine ⟨fun sl G => ∃ q ts ns, sl = [some (.ref p), some (.ref q), none, none, none, none, none, none, none, none] ∧ SheetAt G q ts ns ∧ TownsB ts ts.length ∧ 1 ≤ ts.length ∧ ts.length ≤ 20 ∧ (∀ r ∈ ns, NoteR (ts.map nameOf) r) ∧ ns.length ≤ 60 ∧ PurseAt G p (c + 3001) ∧ Keep p H G, ?_, ?_⟩
    · refine ⟨_, rfl, q0, _, 0, .ref a0, rfl, rfl, .inl (.inl hq), atI_nat (j := 0) rfl, Nat.zero_le _, fun U nU => ?_⟩
      have flat : ∀ r ∈ ts0, RowF r := fun r hr => (S.towns r hr).flat
      have sU := new_same nU (o := .lst [])
      refine ⟨.list (ts0.map rowD), .list [], rows_dp (hA.same sU) flat, .lst (.inl (.inl upd_same)) .nil, (rows_nice flat).shaped (by decide), by rfl, _, rfl, ?_⟩
      cases ts0 with
      | nil =>
        refine iteB rfl ⟨_, rfl, p, _, 8, rfl, hp1.new nU, by omega, by decide, by decide, fun d G2 d0 d1 hp2 k2 => ⟨_, _, rfl, rfl, by show 3 ≤ sizeLine; decide, fun T nT => ⟨by show 1 ≤ sizeLine; decide, fun L nL => ⟨Nat.zero_le _, fun L2 nL2 => ⟨by show 2 ≤ sizeLine; decide, fun q nq => ?_⟩⟩⟩⟩⟩
        have t1 := new_same nT (o := .tup [.str "ulm", .int 1, .int (1 + d)])
        have t2 := t1.trans (new_same nL (o := .lst [.ref T]))
        have t3 := t2.trans (new_same nL2 (o := .lst []))
        have t4 := t3.trans (new_same nq (o := .tup [.ref L, .ref L2]))
        have fr := (new_same nL (o := .lst [.ref T])).trans ((new_same nL2 (o := .lst [])).trans (new_same nq (o := .tup [.ref L, .ref L2])))
        have fr2 := (new_same nL2 (o := .lst [])).trans (new_same nq (o := .tup [.ref L, .ref L2]))
        refine ⟨q, [[.str "ulm", .int 1, .int (1 + d)]], [], rfl, ⟨L, L2, upd_same, ⟨[T], fr2 _ _ upd_same, .cons (fr _ _ upd_same) .nil⟩, ⟨[], (new_same nq) _ _ upd_same, .nil⟩⟩, ⟨rfl, by simp, fun r hr => ?_⟩, by simp, by simp, (fun r hr => by cases hr), by simp, (hp2.same t4).more (by omega), (((k1.trans (Keep.of sU)).trans k2).trans (Keep.of t4))⟩
        rw [List.mem_singleton.mp hr]
        exact ulm_town d0 d1
      | cons r rs =>
        have k2 := k1.trans (Keep.of sU)
        exact iteN rfl ⟨q0, r :: rs, ns0, rfl, ⟨a0, b0, sU _ _ hq, hA.same sU, hB.same sU⟩, ⟨rfl, S.nodup, S.towns⟩, by simp, S.few, S.notes, S.few2, (hp1.same sU).more (by omega), k2⟩
    rintro sl G ⟨q, ts, ns, rfl, ⟨a, b, hq, hA, hB⟩, tT, k1', k20, hN, fewN, hpG, kG⟩
    -- at most 56 notes
    obtain ⟨bs, hB1, hB2⟩ := id hB
    refine ⟨_, rfl, q, _, 0, .ref a, rfl, rfl, .inl (.inl hq), atI_nat (j := 0) rfl, _, rfl, q, _, 1, .ref b, rfl, rfl, .inl (.inl hq), atI_nat (j := 1) rfl, _, rfl, b, _, rfl, .inl (.inl hB1), fun L nL => ?_⟩
    rw [show (56 : Int) = ((56 : Nat) : Int) from rfl, cut_take2, ← List.map_take]
    refine ⟨by show 2 ≤ sizeLine; decide, fun T nT => ?_⟩
    have t1 := new_same nL (o := .lst ((bs.take 56).map V.ref))
    have t2 := t1.trans (new_same nT (o := .tup [.ref a, .ref L]))
    have hST : SheetAt (upd (upd G L (.lst ((bs.take 56).map V.ref))) T (.tup [.ref a, .ref L])) T ts (ns.take 56) := ⟨a, L, upd_same, hA.same t2, ⟨bs.take 56, (new_same nT) _ _ upd_same, paired_imp (paired_take hB2 56) fun b u z => t2 _ _ z⟩⟩
    have hp2 := hpG.same t2
    have k2 := kG.trans (Keep.of t2)
    have names := towns_names tT.2.2
    have sh0 : Sh ts (ns.take 56) ts.length := ⟨tT, k1', k20, fun r hr => ((hN r (List.mem_of_mem_take hr)).flat names).nr⟩
    have fine0 : ∀ r ∈ ns.take 56, Fine (ts.map nameOf) r := fun r hr => (hN r (List.mem_of_mem_take hr)).fine
    have few0 : (ns.take 56).length ≤ 56 := by rw [List.length_take]; omega
    refine ⟨_, rfl, T, ts.length, ts, ns.take 56, rfl, hST, sh0, fine0, by omega, fun m G2 nm is0 s2 => ?_⟩
    generalize ns.take 56 = ns1 at hST sh0 fine0 few0 is0
    have hp3 := hp2.same s2
    have k3 := k2.trans (Keep.of s2)
    -- four steps
    refine ⟨4, rfl, by decide, by decide, for_range (lo := 0) (n := 4) (fun i sl G => ∃ (m q : Addr) (ns : List (List V)) (v3 v4 v5 v6 : Option V), sl = [some (.ref p), some (.ref q), some (.ref m), v3, v4, v5, v6, none, none, none] ∧ Is C G m ts ns ∧ SheetAt G q ts ns ∧ Sh ts ns ts.length ∧ ns.length ≤ 56 + i ∧ PurseAt G p (c + 3001 + 100 * i) ∧ Keep p H G)
      ⟨m, T, ns1, none, none, none, none, rfl, is0, hST.same s2, sh0, by omega, hp3, k3⟩ ?_ ?_⟩
    · rintro i sl G3 hi ⟨m, q, ns, v3, v4, v5, v6, rfl, is, hS, sh, few, hp, kk⟩
      refine ⟨_, rfl, _, rfl, _, rfl, p, m, q, _, ts.length, ts, ns, rfl, hp, by omega, is, hS, sh, by omega, fun l m2 q2 ns2 G4 hl is2 hS2 sh2 le hp4 k4 nl => ⟨l, _, rfl, .inl (.inl hl), rfl, _, _, rfl, _, _, rfl, _, _, rfl, rfl, ?_⟩⟩
      have is4 := is.keep hp k4
      have hS4 := hS.keep hp k4
      have kA := kk.trans k4
      obtain ⟨a, b, h1, h2, h3⟩ := id hS4
      refine ⟨_, rfl, _, rfl, iteF ⟨_, rfl, _, rfl, m, q, a, b, ts, ns, rfl, is4, h1, h2, h3, sh.niceT, sh.nice, fun G5 s5 => ⟨_, rfl, iteF ?_⟩⟩⟩
      have is5 := is2.same s5
      obtain ⟨dx, fa, fb, gd⟩ := id is5
      refine ⟨_, rfl, _, rfl, q2, ts.length, ts, ns2, rfl, hS2.same s5, sh2, gd.fine, by omega, fun m3 G6 nm3 is3 s6 => ?_⟩
      have is6 := is5.same s6
      obtain ⟨dx6, fa6, fb6, gd6⟩ := id is6
      obtain ⟨dy6, ga6, gb6, ge6⟩ := id is3
      refine ⟨⟨m2, m3, dx6, dy6, _, _, rfl, rfl, gd6.at_.ob, ge6.at_.ob, ts, ns2, is6, is3, sh2.niceT, sh2.nice⟩, fun G7 s7 => ⟨_, rfl, iteF ?_⟩⟩
      have s57 := (s5.trans s6).trans s7
      refine ⟨_, rfl, _, rfl, _, _, rfl, m2, q2, ns2, _, _, _, _, rfl, is2.same s57, hS2.same s57, sh2, by omega, (hp4.same s57).more (by omega), kA.trans (Keep.of s57)⟩
    rintro sl G3 ⟨m, q, ns, v3, v4, v5, v6, rfl, is, hS, sh, few, hp, kk⟩
    obtain ⟨a, b, hq, hA, hB⟩ := id hS
    obtain ⟨as, t, z, lo, hi, hA1, la, gt, ht, tz⟩ := rows_town (i := 0) hA sh.towns (by have := sh.k1; omega)
    -- a diary without towns
    refine ⟨_, rfl, q, _, 0, .ref a, rfl, rfl, .inl (.inl hq), atI_nat (j := 0) rfl, a, _, 0, .ref t, rfl, rfl, .inl (.inl hA1), atI_nat (j := 0) gt, t, _, 0, .str z, rfl, rfl, .inl (.inl ht), atI_nat (j := 0) rfl, ?_⟩
    refine ⟨Nat.zero_le _, fun T0 n0 => ⟨_, rfl, by show 3 ≤ sizeLine; decide, fun T1 n1 => ⟨_, rfl, _, rfl, _, rfl, by show 4 ≤ sizeLine; decide, fun T2 n2 => ⟨by show 3 ≤ sizeLine; decide, fun L nL => ?_⟩⟩⟩⟩
    have u0 := new_same n0 (o := .tup [])
    have u1 := u0.trans (new_same n1 (o := .tup [.str "none", .str z, .int 3]))
    have u2 := u1.trans (new_same n2 (o := .tup [.str "same", .str z, .str z, .int (-1)]))
    have u3 := u2.trans (new_same nL (o := .lst [.ref T0, .ref T1, .ref T2]))
    have w2 := new_same nL (o := .lst [.ref T0, .ref T1, .ref T2])
    have w1 := (new_same n2 (o := .tup [.str "same", .str z, .str z, .int (-1)])).trans w2
    have w0 := (new_same n1 (o := .tup [.str "none", .str z, .int 3])).trans w1
    have hp5 := hp.same u3
    have k5 := kk.trans (Keep.of u3)
    refine ⟨_, rfl, p, _, 3, rfl, hp5, by omega, by decide, by decide, fun x G6 x0 x1 hp6 k6 => ?_⟩
    have tz9 := tz.more (show 8 ≤ 9 by omega)
    have neP : ∀ {G : Hp} {Tx : Addr} {r : List V} {n : Nat}, PurseAt G p n → G Tx = some (.tup r) → Tx ≠ p := fun h e zz => by
      obtain ⟨a1, a2, a3, e1, _⟩ := h
      rw [zz, e1] at e
      cases e
    obtain ⟨Tx, r, fm, hx, hTx, bt, fo, bad⟩ : ∃ (Tx : Addr) (r : List V) (fm : Option (List Str × Int)), atI [V.ref T0, V.ref T1, V.ref T2] x = some (.ref Tx) ∧ G6 Tx = some (.tup r) ∧ Bent r ∧ Form r fm ∧ ∃ k v, faultOf [] (.ref Tx) fm = some (k, v) := by
      have w : x = 0 ∨ x = 1 ∨ x = 2 := by omega
      rcases w with rfl | rfl | rfl
      · exact ⟨T0, [], none, atI_nat (j := 0) rfl, k6 _ _ (w0 _ _ upd_same) (neP hp5 (w0 _ _ upd_same)), bent_nil, .nil, _, _, rfl⟩
      · exact ⟨T1, [.str "none", .str z, .int 3], some ([z], 3), atI_nat (j := 1) rfl, k6 _ _ (w1 _ _ upd_same) (neP hp5 (w1 _ _ upd_same)), bent_form (k := "none") (mids := [z]) (tx_lit _ _ (by decide +kernel) (by decide +kernel)) (all1 tz (by omega)) (by simp) (by decide) (by decide), .good "none" [z] 3 (by rw [kind3 (.inr rfl)]; rfl), _, _, rfl⟩
      · exact ⟨T2, [.str "same", .str z, .str z, .int (-1)], some ([z, z], -1), atI_nat (j := 2) rfl, k6 _ _ (w2 _ _ upd_same) (neP hp5 (w2 _ _ upd_same)), bent_form (k := "same") (mids := [z, z]) (tx_lit _ _ (by decide +kernel) (by decide +kernel)) (all2 tz tz (by omega) (by omega)) (by simp) (by decide) (by decide), .good "same" [z, z] (-1) (by rw [kind4 (.inr rfl)]; rfl), _, _, rfl⟩
    have hL6 := k6 _ _ (upd_same (H := upd (upd (upd G3 T0 (.tup [])) T1 (.tup [.str "none", .str z, .int 3])) T2 (.tup [.str "same", .str z, .str z, .int (-1)])) (a := L) (o := .lst [.ref T0, .ref T1, .ref T2])) (hp5.apart2 upd_same)
    refine ⟨L, _, x, .ref Tx, rfl, rfl, .inl (.inl hL6), hx, ?_⟩
    have kB := k5.trans k6
    refine ⟨Nat.zero_le _, fun l1 n1 => ⟨Nat.zero_le _, fun l2 n2 => fun y dy ny ndy ne => ?_⟩⟩
    have s7 := (new_same n1 (o := .lst [])).trans (new_same n2 (o := .lst []))
    have sm := made0 ny ndy ne (o1 := .own y) (o2 := .ins C dy [])
    have rl1 := ((new_same n2 (o := .lst [])).trans sm) _ _ (upd_same (H := G6) (a := l1) (o := .lst []))
    refine ⟨y, dy, l1, l2, [], rfl, upd_same, ⟨[], rl1, .nil⟩, (fun r hr => by cases hr), .nil, by decide, .inl ⟨[], ⟨[], sm _ _ upd_same, .nil⟩, (fun r hr => by cases hr), by decide, fun a' b' G8 na nb DA kx => ⟨rfl, ?_⟩⟩⟩
    have s8 := s7.trans (made_same ny ndy kx)
    have isY : Is C G8 y [] [] := ⟨dy, a', b', DA, (fun r hr => by cases hr), .nil, (fun r hr => by cases hr), by decide, by decide⟩
    refine ⟨_, rfl, _, rfl, p, _, 2, rfl, hp6.same s8, by omega, by decide, by decide, fun d9 G9 _ _ hp9 k9 => ⟨rfl, ?_⟩⟩
    generalize decide (V.int d9 = V.int 0) = bn
    have isY9 := isY.keep (hp6.same s8) k9
    have hT9 := k9 _ _ (s8 _ _ hTx) (neP (hp6.same s8) (s8 _ _ hTx))
    have k10 := (kB.trans (Keep.of s8)).trans k9
    have lr := bt.1
    obtain ⟨kf, v, bad⟩ := bad
    refine ⟨y, Tx, [], [], r, fm, bn, rfl, isY9, by decide, hT9, by omega, fo, (fun e => by rw [show faultOf (([] : List (List V)).map nameOf) (.ref Tx) fm = some (kf, v) from bad] at e; cases e), fun kf2 v2 e2 qq G10 ⟨l3, l4, hqq, hl3, hl4⟩ s10 nqq => ?_⟩
    refine ⟨qq, _, rfl, .inl (.inl hqq), rfl, _, _, rfl, _, _, rfl, rfl, ?_⟩
    refine ⟨_, rfl, Nat.zero_le _, fun U nU => ⟨.list [], .list [], .lst (.inl (.inl ((new_same nU) _ _ hl3))) .nil, .lst (.inl (.inl upd_same)) .nil, by rfl, by rfl, true, rfl, iteT ?_⟩⟩
    have tU := s10.trans (new_same nU (o := .lst []))
    have hT10 := tU _ _ hT9
    obtain ⟨dv, dp, nv⟩ := fault_nice (K := K) bt fo hT10 e2
    have NS := slip_nice (k := kf2) nv
    refine ⟨_, rfl, l4, _, rfl, slip_dp ((new_same nU) _ _ hl4) dp, NS.show_, NS.nod, Nat.le_trans NS.deep (by decide), NS.short (by decide), ?_⟩
    refine ⟨Nat.zero_le _, fun E0 nE => ?_⟩
    have sE := new_same nE (o := .lst [])
    refine ⟨_, rfl, E0, Tx, [], r, fm, rfl, ⟨[], upd_same, .nil⟩, (fun r hr => by cases hr), by decide, sE _ _ hT10, bt, fo, fun lf G11 nlf hlf s11 => ?_⟩
    have e3 : faultOf (([] : List (List V)).map nameOf) (.ref Tx) fm = some (kf2, v2) := e2
    rw [e3] at hlf
    have dp11 := dp_same (dp_same dp sE) s11
    refine ⟨lf, some (kf2, v2), rfl, hlf, (fun k3 v3 e4 => by cases Option.some.inj e4; exact ⟨dv, dp11, nv⟩), fun ls G12 nls hls s12 => ?_⟩
    have dp12 := dp_same dp11 s12
    refine ⟨ls, _, rfl, slip_dp hls dp12, NS.show_, NS.nod, Nat.le_trans NS.deep (by decide), NS.short (by decide), rfl, ?_⟩
    rw [decide_eq_true rfl]
    have tl := ((tU.trans sE).trans s11).trans s12
    exact fin _ (k10.trans (Keep.of tl)) ((hp9.same tl).more (by omega))
def spLaw (K : PySem.W.Frag) : Sp := fun vs H Q _ => ∃ (a : Addr) (ns : List Int), vs = [.ref a] ∧ SqL K H a (ns.map V.int) ∧ ns.length ≤ 63 ∧ ∀ H', Q (.bl true) H'
abbrev nLaw : List Str := ["script", "spot", "purse", "turn"]
theorem scLaw : FnScope nLaw ["script"] (defScope sLaw) := ⟨rfl, rfl, rfl, by decide +kernel, rfl, by decide +kernel, by decide +kernel⟩
theorem ok_law {f fP fR : Addr} {fd fdP fdR : FuncData} {k : Nat} (F : Fun K "law" "law" sLaw f fd) (PP : DefAt P w K mg base "_law_purse" fP fdP ["script", "place"] 1 (spPurse K)) (R : GAt P w K mg base "_law_right" fR fdR ["purse"] 10 spRight) (B : Blt mg) :
    FnG P w K mg base CX0 (k + 11) f fd ["script"] (spLaw K) := by
  have GP := PP.ok (k + 9)
  have GR := R.ok k
  refine okG F scLaw (fun vs H Q E h => ?_) (fun cdv A outer s H vs Q E g hr h => ?_)
  · obtain ⟨a, ns, rfl, _⟩ := h
    rfl
  · obtain ⟨a, ns, rfl, hS, few, k0⟩ := h
    have nd := scLaw.nd
    refine ⟨_, pss_cons (ps_for PassesOwn.never rfl (pi_range1 rfl B.range (pa_cons (pe_callB (call_max2 rfl) (by rfl) B.max (by decide +kernel) (pa_cons pe_int (pa_cons (pe_callB (call_min2 rfl) (by rfl) B.min (by decide +kernel) (pa_cons pe_int (pa_cons (pe_callB call_len_seq (by rfl) B.len PySem.boot_len (pa_cons (pv 0) pa_nil)) pa_nil))) pa_nil))) pa_nil)) (pg_name (i := 1) nd rfl (.inl rfl))
        (pss_cons (ps_set (i := 2) nd rfl (.inl rfl) (pe_call GP hr (by rfl) PP.mg PP.kp PP.b .nil pass0 (pa_cons (pv 0) (pa_cons (pv 1) pa_nil))))
        (pss_one (ps_for PassesOwn.never rfl (pi_range1 rfl B.range (pa_cons pe_int pa_nil)) (pg_name (i := 3) nd rfl (.inl rfl)) (pss_one (ps_if (pt_not (pt_val (pe_callG GR g hr (by rfl) R.mg R.kp R.b pass0 (pa_cons (pv 2) pa_nil)))) (pss_one ps_never) pss_nil))))))
      (pss_one (ps_ret pe_bl)), ?_⟩
    refine ⟨_, rfl, a, _, rfl, .inl hS, _, _, rfl, _, _, rfl, ?_⟩
    obtain ⟨v, ev, v0, v1⟩ : ∃ v : Int, (if (if ((ns.map V.int).length : Int) < 8 then ((ns.map V.int).length : Int) else 8) > 1 then (if ((ns.map V.int).length : Int) < 8 then ((ns.map V.int).length : Int) else 8) else 1) = v ∧ 0 ≤ v ∧ v ≤ 8 := by
      refine ⟨_, rfl, ?_, ?_⟩ <;> split <;> (try split) <;> omega
    rw [ev]
    refine ⟨v, rfl, by omega, by omega, for_range (lo := 0) (n := v.toNat) (fun i sl G => ∃ v1 v2 v3, sl = [some (.ref a), v1, v2, v3] ∧ Same H G) ⟨none, none, none, rfl, Same.refl H⟩ ?_ ?_⟩
    · rintro i sl G hi ⟨v1, v2, v3, rfl, sG⟩
      refine ⟨_, rfl, _, rfl, a, ns, i, ?_, sG.seq hS, fun p H1 np hp s1 => ?_⟩
      · rw [Int.zero_add]
        rfl
      refine ⟨2, rfl, by decide, by decide, for_range (lo := 0) (n := 2) (fun j sl G2 => ∃ v1 v3, sl = [some (.ref a), v1, some (.ref p), v3] ∧ PurseAt G2 p (5000 * j) ∧ Same H G2) ⟨_, _, rfl, hp, fun b u z => s1 b u (sG b u z)⟩ ?_ ?_⟩
      · rintro j sl G2 hj ⟨w1, w3, rfl, hp2, s2⟩
        refine ⟨_, rfl, p, _, rfl, hp2, by omega, fun G3 k3 hp3 => ⟨_, rfl, iteF ?_⟩⟩
        exact ⟨_, _, rfl, hp3.more (by omega), fun b u z => k3 b u (s2 b u z) (ne_of_none (sG b u z) np)⟩
      · rintro sl G2 ⟨w1, w3, rfl, hp2, s2⟩
        exact ⟨_, _, _, rfl, s2⟩
    · rintro sl G ⟨v1, v2, v3, rfl, sG⟩
      exact k0 G
end
end Md

namespace Md
open PySem PySem.Spec PyProof.Rows L2
theorem kit_ref {K : PySem.W.Frag} {C D : Addr} {b : Bool} (s : PySem.W.subIn K (.ref C) (.ref D) = some b) (own : PySem.W.subIn K (.ref C) (.ref C) = some true) (i : PySem.W.isClsIn K D = true) (t : PySem.W.typeIn K (.ref D) = some (.type "type")) : PySem.W.kitOne K (.ref C) (.ref D) = some b := by
  unfold PySem.W.kitOne
  by_cases h : C = D
  · subst h
    rw [own] at s
    rw [if_pos (by simp), ← Option.some.inj s]
  · rw [if_neg (by simpa using h)]
    show (if ((PySem.W.clsIn K D).isSome && PySem.W.typeIn K (.ref D) == some (.type "type")) = true then PySem.W.subIn K (.ref C) (.ref D) else none) = some b
    have i2 : (PySem.W.clsIn K D).isSome = true := i
    rw [if_pos (by rw [i2, t]; rfl)]
    exact s
theorem ns_miss {K : PySem.W.Frag} {d : Addr} {es : Array DictEntry} {n : Nat} {u1 u2 u3 u4 : Tok} {x : Str} (l : K.lookup d = some ⟨.type "dict", none, .dict es n, #[]⟩) (ks : es.toList.map (fun e => e.key) = [.str "market" u1, .str "none" u2, .str "one" u3, .str "same" u4]) (hx : kindLen x = none) :
    PySem.W.nsIn K d x = some none := by
  have n1 : ¬ ("market" : Str) = x := fun e => by rw [← e, kind3 (.inl rfl)] at hx; cases hx
  have n2 : ¬ ("none" : Str) = x := fun e => by rw [← e, kind3 (.inr rfl)] at hx; cases hx
  have n3 : ¬ ("one" : Str) = x := fun e => by rw [← e, kind4 (.inl rfl)] at hx; cases hx
  have n4 : ¬ ("same" : Str) = x := fun e => by rw [← e, kind4 (.inr rfl)] at hx; cases hx
  unfold PySem.W.nsIn
  rw [l]
  obtain ⟨e1, e2, e3, e4, hl, k1, k2, k3, k4⟩ : ∃ e1 e2 e3 e4, es.toList = [e1, e2, e3, e4] ∧ e1.key = .str "market" u1 ∧ e2.key = .str "none" u2 ∧ e3.key = .str "one" u3 ∧ e4.key = .str "same" u4 := by
    generalize es.toList = xs at ks
    have len : xs.length = 4 := by
      have z := congrArg List.length ks
      rw [List.length_map] at z
      exact z
    match xs, len, ks with
    | [e1, e2, e3, e4], _, ks =>
      simp only [List.map_cons, List.map_nil, List.cons.injEq, and_true] at ks
      exact ⟨e1, e2, e3, e4, rfl, ks.1, ks.2.1, ks.2.2.1, ks.2.2.2⟩
  show (match es.toList.find? (fun e => e.key.isStr x) with
    | some e => some (some e.val)
    | none => if es.toList.any (fun e => e.refKey) then none else some none) = some none
  rw [hl]
  simp [k1, k2, k3, k4, Value.isStr, n1, n2, n3, n4, DictEntry.refKey]
def clsF (a b c : Addr) : Fk → Addr
  | .note => a
  | .town => b
  | .day => c

theorem kbn2 {K : PySem.W.Frag} {x qual : Str} {st : Stmt} {f : Addr} {fd : FuncData} {p1 p2 : Str} (F : Fun K x qual st f fd) (h : ∀ (kV doc pm : Value) (an : Option Addr) (cdv ct : Value) (a b : Value), bindArgs (PySem.W.fnOf x qual (defArgs st) (defBody st) (defScope st) .none kV doc pm an cdv ct) ⟨[a], [(p2, b)]⟩ = pure [(p1, a), (p2, b)]) : KBn K fd [p1, p2] 1 [p2] app2 app2 := by
  obtain ⟨oc, od, kV, doc, pm, an, cdv, ct, osl, rfl, lk, hcd⟩ := F.ex
  exact ⟨fun s us ws X l1 l2 => match us, ws, l1, l2 with | [a], [b], _, _ => .of_eq (h kV doc pm an cdv ct a b), fun r1 r2 => r1.append r2⟩
set_option maxHeartbeats 2000000 in
theorem all_mk {l : PySem.W.OpenLaw} {w : World} {K : PySem.W.Frag} {h : Heap} {mg : Str → Option Value} {fa C dT pm2 pm3 CM : Addr} {fn1 fn2 fn3 fn4 fd1 fd2 fd3 fd4 fd5 fd6 fd7 fd8 fd9 fdA fdB fdC fdD fdE fdF fdG fdH fdI fdJ fdK fdL fdM fdN fm1 fm2 fm3 fm4 fm5 fm6 fm7 fm8 fme Cx1 Cx2 Cx3 Cx4 Cy1 Cy2 Cy3 : Addr} {es : Array DictEntry} {n : Nat} {restm2 restm3 : List Value} {tk1 tk2 te0 te1 te2 te3 u1 u2 u3 u4 : Tok}
    {nmx1 qnx1 : Str} {Nx1 : Addr} {bsx1 bmx1 : List Value} {snx1 : List Str} {sux1 : List Value} {abx1 : Bool} {cox1 : Option Bool} {ddx1 : Option Addr} {v0x1 v1x1 v2x1 v3x1 v5x1 : Option Value}
    {nmx2 qnx2 : Str} {Nx2 : Addr} {bsx2 bmx2 : List Value} {snx2 : List Str} {sux2 : List Value} {abx2 : Bool} {cox2 : Option Bool} {ddx2 : Option Addr} {v0x2 v1x2 v2x2 v3x2 v5x2 : Option Value}
    {nmx3 qnx3 : Str} {Nx3 : Addr} {bsx3 bmx3 : List Value} {snx3 : List Str} {sux3 : List Value} {abx3 : Bool} {cox3 : Option Bool} {ddx3 : Option Addr} {v0x3 v1x3 v2x3 v3x3 v5x3 : Option Value}
    {nmx4 qnx4 : Str} {Nx4 : Addr} {bsx4 bmx4 : List Value} {snx4 : List Str} {sux4 : List Value} {abx4 : Bool} {cox4 : Option Bool} {ddx4 : Option Addr} {v0x4 v1x4 v2x4 v3x4 v5x4 : Option Value}
    (X : K.In h) (G : h.Ns mainGlobals mg) (hfa : mg "law" = some (.ref fa))
    {odn1 ann1 odn2 ann2 odn3 ann3 odn4 ann4 odd1 and1 odd2 and2 odd3 and3 odd4 and4 odd5 and5 odd6 and6 odd7 and7 odd8 and8 odd9 and9 oddA andA oddB andB oddC andC oddD andD oddE andE oddF andF oddG andG oddH andH oddI andI oddJ andJ oddK andK oddL andL oddM andM oddN andN odm1 anm1 odm2 anm2 odm3 anm3 odm4 anm4 odm5 anm5 odm6 anm6 odm7 anm7 odm8 anm8 odme anme : Option Addr} {sln1 sln2 sln3 sln4 sld1 sld2 sld3 sld4 sld5 sld6 sld7 sld8 sld9 sldA sldB sldC sldD sldE sldF sldG sldH sldI sldJ sldK sldL sldM sldN slm1 slm2 slm3 slm4 slm5 slm6 slm7 slm8 slme : Array (Option Value)}
    {ocn1 kVn1 dcn1 pm_n1 cdn1 ctn1 ocn2 kVn2 dcn2 pm_n2 cdn2 ctn2 ocn3 kVn3 dcn3 pm_n3 cdn3 ctn3 ocn4 kVn4 dcn4 pm_n4 cdn4 ctn4 ocd1 kVd1 dcd1 pm_d1 cdd1 ctd1 ocd2 kVd2 dcd2 pm_d2 cdd2 ctd2 ocd3 kVd3 dcd3 pm_d3 cdd3 ctd3 ocd4 kVd4 dcd4 pm_d4 cdd4 ctd4 ocd5 kVd5 dcd5 pm_d5 cdd5 ctd5 ocd6 kVd6 dcd6 pm_d6 cdd6 ctd6 ocd7 kVd7 dcd7 pm_d7 cdd7 ctd7 ocd8 kVd8 dcd8 pm_d8 cdd8 ctd8 ocd9 kVd9 dcd9 pm_d9 cdd9 ctd9 ocdA kVdA dcdA pm_dA cddA ctdA ocdB kVdB dcdB pm_dB cddB ctdB ocdC kVdC dcdC pm_dC cddC ctdC ocdD kVdD dcdD pm_dD cddD ctdD ocdE kVdE dcdE pm_dE cddE ctdE ocdF kVdF dcdF pm_dF cddF ctdF ocdG kVdG dcdG pm_dG cddG ctdG ocdH kVdH dcdH pm_dH cddH ctdH ocdI kVdI dcdI pm_dI cddI ctdI ocdJ kVdJ dcdJ pm_dJ cddJ ctdJ ocdK kVdK dcdK pm_dK cddK ctdK ocdL kVdL dcdL pm_dL cddL ctdL ocdM kVdM dcdM pm_dM cddM ctdM ocdN kVdN dcdN pm_dN cddN ctdN ocm1 kVm1 dcm1 pm_m1 cdm1 ctm1 ocm2 kVm2 dcm2 pm_m2 cdm2 ctm2 ocm3 kVm3 dcm3 pm_m3 cdm3 ctm3 ocm4 kVm4 dcm4 pm_m4 cdm4 ctm4 ocm5 kVm5 dcm5 pm_m5 cdm5 ctm5 ocm6 kVm6 dcm6 pm_m6 cdm6 ctm6 ocm7 kVm7 dcm7 pm_m7 cdm7 ctm7 ocm8 kVm8 dcm8 pm_m8 cdm8 ctm8 ocme kVme dcme pm_me cdme ctme : Value}
    (an1 : PySem.W.nsIn K mainGlobals "is_name" = some (some (.ref fn1)))
    (ln1 : K.lookup fn1 = some ⟨ocn1, odn1, .func (PySem.W.fnOf "is_name" "is_name" (defArgs sIsName) (defBody sIsName) (defScope sIsName) .none kVn1 dcn1 pm_n1 ann1 cdn1 ctn1), sln1⟩)
    (cn1 : PySem.W.codeIn K cdn1 "is_name" = true)
    (kn1 : PySem.W.keepIn K (.ref fn1) = true)
    (an2 : PySem.W.nsIn K mainGlobals "check_towns" = some (some (.ref fn2)))
    (ln2 : K.lookup fn2 = some ⟨ocn2, odn2, .func (PySem.W.fnOf "check_towns" "check_towns" (defArgs sCheckTowns) (defBody sCheckTowns) (defScope sCheckTowns) .none kVn2 dcn2 pm_n2 ann2 cdn2 ctn2), sln2⟩)
    (cn2 : PySem.W.codeIn K cdn2 "check_towns" = true)
    (kn2 : PySem.W.keepIn K (.ref fn2) = true)
    (an3 : PySem.W.nsIn K mainGlobals "check_note" = some (some (.ref fn3)))
    (ln3 : K.lookup fn3 = some ⟨ocn3, odn3, .func (PySem.W.fnOf "check_note" "check_note" (defArgs sCheckNote) (defBody sCheckNote) (defScope sCheckNote) .none kVn3 dcn3 pm_n3 ann3 cdn3 ctn3), sln3⟩)
    (cn3 : PySem.W.codeIn K cdn3 "check_note" = true)
    (kn3 : PySem.W.keepIn K (.ref fn3) = true)
    (an4 : PySem.W.nsIn K mainGlobals "check_asked" = some (some (.ref fn4)))
    (ln4 : K.lookup fn4 = some ⟨ocn4, odn4, .func (PySem.W.fnOf "check_asked" "check_asked" (defArgs sCheckAsked) (defBody sCheckAsked) (defScope sCheckAsked) .none kVn4 dcn4 pm_n4 ann4 cdn4 ctn4), sln4⟩)
    (cn4 : PySem.W.codeIn K cdn4 "check_asked" = true)
    (kn4 : PySem.W.keepIn K (.ref fn4) = true)
    (ad1 : PySem.W.nsIn K mainGlobals "_law_purse" = some (some (.ref fd1)))
    (ld1 : K.lookup fd1 = some ⟨ocd1, odd1, .func (PySem.W.fnOf "_law_purse" "_law_purse" (defArgs sPurse) (defBody sPurse) (defScope sPurse) .none kVd1 dcd1 pm_d1 and1 cdd1 ctd1), sld1⟩)
    (cd1 : PySem.W.codeIn K cdd1 "_law_purse" = true)
    (kd1 : PySem.W.keepIn K (.ref fd1) = true)
    (ad2 : PySem.W.nsIn K mainGlobals "_law_coin" = some (some (.ref fd2)))
    (ld2 : K.lookup fd2 = some ⟨ocd2, odd2, .func (PySem.W.fnOf "_law_coin" "_law_coin" (defArgs sCoin) (defBody sCoin) (defScope sCoin) .none kVd2 dcd2 pm_d2 and2 cdd2 ctd2), sld2⟩)
    (cd2 : PySem.W.codeIn K cdd2 "_law_coin" = true)
    (kd2 : PySem.W.keepIn K (.ref fd2) = true)
    (ad3 : PySem.W.nsIn K mainGlobals "_law_words" = some (some (.ref fd3)))
    (ld3 : K.lookup fd3 = some ⟨ocd3, odd3, .func (PySem.W.fnOf "_law_words" "_law_words" (defArgs sWords) (defBody sWords) (defScope sWords) .none kVd3 dcd3 pm_d3 and3 cdd3 ctd3), sld3⟩)
    (cd3 : PySem.W.codeIn K cdd3 "_law_words" = true)
    (kd3 : PySem.W.keepIn K (.ref fd3) = true)
    (ad4 : PySem.W.nsIn K mainGlobals "_law_mk_moment" = some (some (.ref fd4)))
    (ld4 : K.lookup fd4 = some ⟨ocd4, odd4, .func (PySem.W.fnOf "_law_mk_moment" "_law_mk_moment" (defArgs sMoment) (defBody sMoment) (defScope sMoment) .none kVd4 dcd4 pm_d4 and4 cdd4 ctd4), sld4⟩)
    (cd4 : PySem.W.codeIn K cdd4 "_law_mk_moment" = true)
    (kd4 : PySem.W.keepIn K (.ref fd4) = true)
    (ad5 : PySem.W.nsIn K mainGlobals "_law_mk_places" = some (some (.ref fd5)))
    (ld5 : K.lookup fd5 = some ⟨ocd5, odd5, .func (PySem.W.fnOf "_law_mk_places" "_law_mk_places" (defArgs sPlaces) (defBody sPlaces) (defScope sPlaces) .none kVd5 dcd5 pm_d5 and5 cdd5 ctd5), sld5⟩)
    (cd5 : PySem.W.codeIn K cdd5 "_law_mk_places" = true)
    (kd5 : PySem.W.keepIn K (.ref fd5) = true)
    (ad6 : PySem.W.nsIn K mainGlobals "_law_mk_picks" = some (some (.ref fd6)))
    (ld6 : K.lookup fd6 = some ⟨ocd6, odd6, .func (PySem.W.fnOf "_law_mk_picks" "_law_mk_picks" (defArgs sPicks) (defBody sPicks) (defScope sPicks) .none kVd6 dcd6 pm_d6 and6 cdd6 ctd6), sld6⟩)
    (cd6 : PySem.W.codeIn K cdd6 "_law_mk_picks" = true)
    (kd6 : PySem.W.keepIn K (.ref fd6) = true)
    (ad7 : PySem.W.nsIn K mainGlobals "_law_mk_pair" = some (some (.ref fd7)))
    (ld7 : K.lookup fd7 = some ⟨ocd7, odd7, .func (PySem.W.fnOf "_law_mk_pair" "_law_mk_pair" (defArgs sPair) (defBody sPair) (defScope sPair) .none kVd7 dcd7 pm_d7 and7 cdd7 ctd7), sld7⟩)
    (cd7 : PySem.W.codeIn K cdd7 "_law_mk_pair" = true)
    (kd7 : PySem.W.keepIn K (.ref fd7) = true)
    (ad8 : PySem.W.nsIn K mainGlobals "_law_mk_market" = some (some (.ref fd8)))
    (ld8 : K.lookup fd8 = some ⟨ocd8, odd8, .func (PySem.W.fnOf "_law_mk_market" "_law_mk_market" (defArgs sMarket) (defBody sMarket) (defScope sMarket) .none kVd8 dcd8 pm_d8 and8 cdd8 ctd8), sld8⟩)
    (cd8 : PySem.W.codeIn K cdd8 "_law_mk_market" = true)
    (kd8 : PySem.W.keepIn K (.ref fd8) = true)
    (ad9 : PySem.W.nsIn K mainGlobals "_law_mk_entry" = some (some (.ref fd9)))
    (ld9 : K.lookup fd9 = some ⟨ocd9, odd9, .func (PySem.W.fnOf "_law_mk_entry" "_law_mk_entry" (defArgs sEntry) (defBody sEntry) (defScope sEntry) .none kVd9 dcd9 pm_d9 and9 cdd9 ctd9), sld9⟩)
    (cd9 : PySem.W.codeIn K cdd9 "_law_mk_entry" = true)
    (kd9 : PySem.W.keepIn K (.ref fd9) = true)
    (adA : PySem.W.nsIn K mainGlobals "_law_mk_made" = some (some (.ref fdA)))
    (ldA : K.lookup fdA = some ⟨ocdA, oddA, .func (PySem.W.fnOf "_law_mk_made" "_law_mk_made" (defArgs sMade) (defBody sMade) (defScope sMade) .none kVdA dcdA pm_dA andA cddA ctdA), sldA⟩)
    (cdA : PySem.W.codeIn K cddA "_law_mk_made" = true)
    (kdA : PySem.W.keepIn K (.ref fdA) = true)
    (adB : PySem.W.nsIn K mainGlobals "_law_mk_wide" = some (some (.ref fdB)))
    (ldB : K.lookup fdB = some ⟨ocdB, oddB, .func (PySem.W.fnOf "_law_mk_wide" "_law_mk_wide" (defArgs sWide) (defBody sWide) (defScope sWide) .none kVdB dcdB pm_dB andB cddB ctdB), sldB⟩)
    (cdB : PySem.W.codeIn K cddB "_law_mk_wide" = true)
    (kdB : PySem.W.keepIn K (.ref fdB) = true)
    (adC : PySem.W.nsIn K mainGlobals "_law_mk_sign" = some (some (.ref fdC)))
    (ldC : K.lookup fdC = some ⟨ocdC, oddC, .func (PySem.W.fnOf "_law_mk_sign" "_law_mk_sign" (defArgs sSign) (defBody sSign) (defScope sSign) .none kVdC dcdC pm_dC andC cddC ctdC), sldC⟩)
    (cdC : PySem.W.codeIn K cddC "_law_mk_sign" = true)
    (kdC : PySem.W.keepIn K (.ref fdC) = true)
    (adD : PySem.W.nsIn K mainGlobals "_law_mk_odd_label" = some (some (.ref fdD)))
    (ldD : K.lookup fdD = some ⟨ocdD, oddD, .func (PySem.W.fnOf "_law_mk_odd_label" "_law_mk_odd_label" (defArgs sLabel) (defBody sLabel) (defScope sLabel) .none kVdD dcdD pm_dD andD cddD ctdD), sldD⟩)
    (cdD : PySem.W.codeIn K cddD "_law_mk_odd_label" = true)
    (kdD : PySem.W.keepIn K (.ref fdD) = true)
    (adE : PySem.W.nsIn K mainGlobals "_law_mk_odd_word" = some (some (.ref fdE)))
    (ldE : K.lookup fdE = some ⟨ocdE, oddE, .func (PySem.W.fnOf "_law_mk_odd_word" "_law_mk_odd_word" (defArgs sWord) (defBody sWord) (defScope sWord) .none kVdE dcdE pm_dE andE cddE ctdE), sldE⟩)
    (cdE : PySem.W.codeIn K cddE "_law_mk_odd_word" = true)
    (kdE : PySem.W.keepIn K (.ref fdE) = true)
    (adF : PySem.W.nsIn K mainGlobals "_law_mk_bent_entry" = some (some (.ref fdF)))
    (ldF : K.lookup fdF = some ⟨ocdF, oddF, .func (PySem.W.fnOf "_law_mk_bent_entry" "_law_mk_bent_entry" (defArgs sBent) (defBody sBent) (defScope sBent) .none kVdF dcdF pm_dF andF cddF ctdF), sldF⟩)
    (cdF : PySem.W.codeIn K cddF "_law_mk_bent_entry" = true)
    (kdF : PySem.W.keepIn K (.ref fdF) = true)
    (adG : PySem.W.nsIn K mainGlobals "_law_mk_note_fault" = some (some (.ref fdG)))
    (ldG : K.lookup fdG = some ⟨ocdG, oddG, .func (PySem.W.fnOf "_law_mk_note_fault" "_law_mk_note_fault" (defArgs sFault) (defBody sFault) (defScope sFault) .none kVdG dcdG pm_dG andG cddG ctdG), sldG⟩)
    (cdG : PySem.W.codeIn K cddG "_law_mk_note_fault" = true)
    (kdG : PySem.W.keepIn K (.ref fdG) = true)
    (adH : PySem.W.nsIn K mainGlobals "_law_mk_due_slip" = some (some (.ref fdH)))
    (ldH : K.lookup fdH = some ⟨ocdH, oddH, .func (PySem.W.fnOf "_law_mk_due_slip" "_law_mk_due_slip" (defArgs sSlip) (defBody sSlip) (defScope sSlip) .none kVdH dcdH pm_dH andH cddH ctdH), sldH⟩)
    (cdH : PySem.W.codeIn K cddH "_law_mk_due_slip" = true)
    (kdH : PySem.W.keepIn K (.ref fdH) = true)
    (adI : PySem.W.nsIn K mainGlobals "_law_mk_right" = some (some (.ref fdI)))
    (ldI : K.lookup fdI = some ⟨ocdI, oddI, .func (PySem.W.fnOf "_law_mk_right" "_law_mk_right" (defArgs sRightM) (defBody sRightM) (defScope sRightM) .none kVdI dcdI pm_dI andI cddI ctdI), sldI⟩)
    (cdI : PySem.W.codeIn K cddI "_law_mk_right" = true)
    (kdI : PySem.W.keepIn K (.ref fdI) = true)
    (adJ : PySem.W.nsIn K mainGlobals "_law_mk_more" = some (some (.ref fdJ)))
    (ldJ : K.lookup fdJ = some ⟨ocdJ, oddJ, .func (PySem.W.fnOf "_law_mk_more" "_law_mk_more" (defArgs sMore) (defBody sMore) (defScope sMore) .none kVdJ dcdJ pm_dJ andJ cddJ ctdJ), sldJ⟩)
    (cdJ : PySem.W.codeIn K cddJ "_law_mk_more" = true)
    (kdJ : PySem.W.keepIn K (.ref fdJ) = true)
    (adK : PySem.W.nsIn K mainGlobals "_law_mk_fewer" = some (some (.ref fdK)))
    (ldK : K.lookup fdK = some ⟨ocdK, oddK, .func (PySem.W.fnOf "_law_mk_fewer" "_law_mk_fewer" (defArgs sFewer) (defBody sFewer) (defScope sFewer) .none kVdK dcdK pm_dK andK cddK ctdK), sldK⟩)
    (cdK : PySem.W.codeIn K cddK "_law_mk_fewer" = true)
    (kdK : PySem.W.keepIn K (.ref fdK) = true)
    (adL : PySem.W.nsIn K mainGlobals "_law_mk_step" = some (some (.ref fdL)))
    (ldL : K.lookup fdL = some ⟨ocdL, oddL, .func (PySem.W.fnOf "_law_mk_step" "_law_mk_step" (defArgs sStep) (defBody sStep) (defScope sStep) .none kVdL dcdL pm_dL andL cddL ctdL), sldL⟩)
    (cdL : PySem.W.codeIn K cddL "_law_mk_step" = true)
    (kdL : PySem.W.keepIn K (.ref fdL) = true)
    (adM : PySem.W.nsIn K mainGlobals "_law_right" = some (some (.ref fdM)))
    (ldM : K.lookup fdM = some ⟨ocdM, oddM, .func (PySem.W.fnOf "_law_right" "_law_right" (defArgs sRight) (defBody sRight) (defScope sRight) .none kVdM dcdM pm_dM andM cddM ctdM), sldM⟩)
    (cdM : PySem.W.codeIn K cddM "_law_right" = true)
    (kdM : PySem.W.keepIn K (.ref fdM) = true)
    (adN : PySem.W.nsIn K mainGlobals "law" = some (some (.ref fdN)))
    (ldN : K.lookup fdN = some ⟨ocdN, oddN, .func (PySem.W.fnOf "law" "law" (defArgs sLaw) (defBody sLaw) (defScope sLaw) .none kVdN dcdN pm_dN andN cddN ctdN), sldN⟩)
    (cdN : PySem.W.codeIn K cddN "law" = true)
    (kdN : PySem.W.keepIn K (.ref fdN) = true)
    (aC : PySem.W.nsIn K mainGlobals "Diary" = some (some (.ref C)))
    (am1 : PySem.W.findIn K (.ref C) "__init__" = some (some (.ref fm1)))
    (im1 : PySem.W.isFn K (.ref fm1) = true)
    (lm1 : K.lookup fm1 = some ⟨ocm1, odm1, .func (PySem.W.fnOf "__init__" "Diary.__init__" (defArgs sInit) (defBody sInit) (defScope sInit) .none kVm1 dcm1 pm_m1 anm1 cdm1 ctm1), slm1⟩)
    (cm1 : PySem.W.codeIn K cdm1 "Diary.__init__" = true)
    (km1 : PySem.W.keepIn K (.ref fm1) = true)
    (am2 : PySem.W.findIn K (.ref C) "towns" = some (some (.ref pm2)))
    (gm2 : PySem.W.specialIn K (.ref pm2) "__get__" = some (some (.builtin "property.__get__")))
    (tm2 : PySem.W.takesIn K (.ref pm2) = some true)
    (rm2 : PySem.W.recIn K pm2 "property" = some (.ref fm2 :: restm2))
    (lm2 : K.lookup fm2 = some ⟨ocm2, odm2, .func (PySem.W.fnOf "towns" "Diary.towns" (defArgs sGetTowns) (defBody sGetTowns) (defScope sGetTowns) .none kVm2 dcm2 pm_m2 anm2 cdm2 ctm2), slm2⟩)
    (cm2 : PySem.W.codeIn K cdm2 "Diary.towns" = true)
    (km2 : PySem.W.keepIn K (.ref fm2) = true)
    (am3 : PySem.W.findIn K (.ref C) "notes" = some (some (.ref pm3)))
    (gm3 : PySem.W.specialIn K (.ref pm3) "__get__" = some (some (.builtin "property.__get__")))
    (tm3 : PySem.W.takesIn K (.ref pm3) = some true)
    (rm3 : PySem.W.recIn K pm3 "property" = some (.ref fm3 :: restm3))
    (lm3 : K.lookup fm3 = some ⟨ocm3, odm3, .func (PySem.W.fnOf "notes" "Diary.notes" (defArgs sGetNotes) (defBody sGetNotes) (defScope sGetNotes) .none kVm3 dcm3 pm_m3 anm3 cdm3 ctm3), slm3⟩)
    (cm3 : PySem.W.codeIn K cdm3 "Diary.notes" = true)
    (km3 : PySem.W.keepIn K (.ref fm3) = true)
    (am4 : PySem.W.findIn K (.ref C) "names" = some (some (.ref fm4)))
    (im4 : PySem.W.isFn K (.ref fm4) = true)
    (lm4 : K.lookup fm4 = some ⟨ocm4, odm4, .func (PySem.W.fnOf "names" "Diary.names" (defArgs sNames) (defBody sNames) (defScope sNames) .none kVm4 dcm4 pm_m4 anm4 cdm4 ctm4), slm4⟩)
    (cm4 : PySem.W.codeIn K cdm4 "Diary.names" = true)
    (km4 : PySem.W.keepIn K (.ref fm4) = true)
    (am5 : PySem.W.findIn K (.ref C) "__len__" = some (some (.ref fm5)))
    (im5 : PySem.W.isFn K (.ref fm5) = true)
    (lm5 : K.lookup fm5 = some ⟨ocm5, odm5, .func (PySem.W.fnOf "__len__" "Diary.__len__" (defArgs sLen) (defBody sLen) (defScope sLen) .none kVm5 dcm5 pm_m5 anm5 cdm5 ctm5), slm5⟩)
    (cm5 : PySem.W.codeIn K cdm5 "Diary.__len__" = true)
    (km5 : PySem.W.keepIn K (.ref fm5) = true)
    (am6 : PySem.W.findIn K (.ref C) "with_note" = some (some (.ref fm6)))
    (im6 : PySem.W.isFn K (.ref fm6) = true)
    (lm6 : K.lookup fm6 = some ⟨ocm6, odm6, .func (PySem.W.fnOf "with_note" "Diary.with_note" (defArgs sWith) (defBody sWith) (defScope sWith) .none kVm6 dcm6 pm_m6 anm6 cdm6 ctm6), slm6⟩)
    (cm6 : PySem.W.codeIn K cdm6 "Diary.with_note" = true)
    (km6 : PySem.W.keepIn K (.ref fm6) = true)
    (am7 : PySem.W.findIn K (.ref C) "without" = some (some (.ref fm7)))
    (im7 : PySem.W.isFn K (.ref fm7) = true)
    (lm7 : K.lookup fm7 = some ⟨ocm7, odm7, .func (PySem.W.fnOf "without" "Diary.without" (defArgs sWithout) (defBody sWithout) (defScope sWithout) .none kVm7 dcm7 pm_m7 anm7 cdm7 ctm7), slm7⟩)
    (cm7 : PySem.W.codeIn K cdm7 "Diary.without" = true)
    (km7 : PySem.W.keepIn K (.ref fm7) = true)
    (am8 : PySem.W.findIn K (.ref C) "__eq__" = some (some (.ref fm8)))
    (im8 : PySem.W.isFn K (.ref fm8) = true)
    (lm8 : K.lookup fm8 = some ⟨ocm8, odm8, .func (PySem.W.fnOf "__eq__" "Diary.__eq__" (defArgs sEq) (defBody sEq) (defScope sEq) .none kVm8 dcm8 pm_m8 anm8 cdm8 ctm8), slm8⟩)
    (cm8 : PySem.W.codeIn K cdm8 "Diary.__eq__" = true)
    (km8 : PySem.W.keepIn K (.ref fm8) = true)
    (pg : PySem.W.plainGet K C Str.empty = true)
    (hd : PySem.W.hasDictIn K C = true)
    (po : PySem.W.plainOver K C = true)
    (sa : PySem.W.findIn K (.ref C) "__setattr__" = some (some (.builtin "object.__setattr__")))
    (mk : PySem.W.makesIn K C = true)
    (kC : PySem.W.keepIn K (.ref C) = true)
    (nT : PySem.W.findIn K (.ref C) "_towns" = some none)
    (nN : PySem.W.findIn K (.ref C) "_notes" = some none)
    (iha : PySem.W.findIn K (.ref C) "__class__" = some (some (.builtin "object.__class__")))
    (ihn : PySem.W.specialIn K (.builtin "object.__class__") "__get__" = some (some (.builtin "getset_descriptor.__get__")))
    (iht : PySem.W.takesIn K (.builtin "object.__class__") = some true)
    (ihm : PySem.W.mroIn K C (.type "object") = some true)
    (tL : PySem.W.nsIn K mainGlobals "LETTERS" = some (some (.str "abcdefghijklmnopqrstuvwxyz" tk1)))
    (tM : PySem.W.nsIn K mainGlobals "MOST_LETTERS" = some (some (.int 8 tk2)))
    (tT : PySem.W.nsIn K mainGlobals "THINGS" = some (some (.ref dT)))
    (lT : K.lookup dT = some ⟨.type "dict", none, .dict es n, #[]⟩)
    (hT : PySem.W.KeysLit w.params es.toList)
    (oT : (dT == sysModules) = false)
    (hK : es.toList.map (fun e => e.key) = [.str "market" u1, .str "none" u2, .str "one" u3, .str "same" u4])
    (e0 : PySem.W.nsIn K dT "market" = some (some (.int 3 te0)))
    (e1 : PySem.W.nsIn K dT "none" = some (some (.int 3 te1)))
    (e2 : PySem.W.nsIn K dT "one" = some (some (.int 4 te2)))
    (e3 : PySem.W.nsIn K dT "same" = some (some (.int 4 te3)))
    (z0 : PySem.W.nsIn K mainGlobals "len" = some none)
    (z1 : PySem.W.nsIn K mainGlobals "max" = some none)
    (z2 : PySem.W.nsIn K mainGlobals "min" = some none)
    (z3 : PySem.W.nsIn K mainGlobals "abs" = some none)
    (z4 : PySem.W.nsIn K mainGlobals "int" = some none)
    (z5 : PySem.W.nsIn K mainGlobals "list" = some none)
    (z6 : PySem.W.nsIn K mainGlobals "tuple" = some none)
    (z7 : PySem.W.nsIn K mainGlobals "set" = some none)
    (z8 : PySem.W.nsIn K mainGlobals "sorted" = some none)
    (z9 : PySem.W.nsIn K mainGlobals "range" = some none)
    (z10 : PySem.W.nsIn K mainGlobals "repr" = some none)
    (z11 : PySem.W.nsIn K mainGlobals "isinstance" = some none)
    (z12 : PySem.W.nsIn K mainGlobals "all" = some none)
    (gM : PySem.W.nsIn K mainGlobals "MarketError" = some (some (.ref CM)))
    (gx1 : PySem.W.nsIn K mainGlobals "InvalidNote" = some (some (.ref Cx1)))
    (Lx1 : K.lookup Cx1 = some (excClassObj nmx1 qnx1 Cx1 Nx1 bsx1 bmx1 true snx1 sux1 abx1 cox1 ddx1 v0x1 v1x1 v2x1 v3x1 v5x1 "ValueError.__new__"))
    (Vx1 : PySem.HandSPX.refsVE bmx1 = true)
    (Sx1 : PySem.W.findIn K (.ref Cx1) "__setattr__" = some (some (.builtin "object.__setattr__")))
    (Xx1 : PySem.W.subIn K (.ref Cx1) (.type "BaseException") = some true)
    (Tx1 : PySem.W.typeIn K (.ref Cx1) = some (.type "type"))
    (Kx1 : PySem.W.keepIn K (.ref Cx1) = true)
    (Ix1 : PySem.W.findIn K (.ref Cx1) "__init__" = some (some (.ref fme)))
    (Ox1 : PySem.W.findIn K (.ref Cx1) "value" = some none)
    (Ax1 : PySem.W.findIn K (.ref Cx1) "__getattribute__" = some (some (.builtin "BaseException.__getattribute__")))
    (Bx1 : PySem.W.findIn K (.ref Cx1) "__getattr__" = some none)
    (Dx1 : PySem.W.hasDictIn K Cx1 = true)
    (Ex1 : PySem.W.findIn K (.ref Cx1) "__class__" = some (some (.builtin "object.__class__")))
    (Mx1 : PySem.W.mroIn K Cx1 (.type "object") = some true)
    (Qx1 : PySem.W.isClsIn K Cx1 = true)
    (Ux1 : PySem.W.subIn K (.ref Cx1) (.ref CM) = some true)
    (Wx1 : PySem.W.subIn K (.ref Cx1) (.ref Cx1) = some true)
    (gx2 : PySem.W.nsIn K mainGlobals "UnknownTown" = some (some (.ref Cx2)))
    (Lx2 : K.lookup Cx2 = some (excClassObj nmx2 qnx2 Cx2 Nx2 bsx2 bmx2 true snx2 sux2 abx2 cox2 ddx2 v0x2 v1x2 v2x2 v3x2 v5x2 "ValueError.__new__"))
    (Vx2 : PySem.HandSPX.refsVE bmx2 = true)
    (Sx2 : PySem.W.findIn K (.ref Cx2) "__setattr__" = some (some (.builtin "object.__setattr__")))
    (Xx2 : PySem.W.subIn K (.ref Cx2) (.type "BaseException") = some true)
    (Tx2 : PySem.W.typeIn K (.ref Cx2) = some (.type "type"))
    (Kx2 : PySem.W.keepIn K (.ref Cx2) = true)
    (Ix2 : PySem.W.findIn K (.ref Cx2) "__init__" = some (some (.ref fme)))
    (Ox2 : PySem.W.findIn K (.ref Cx2) "value" = some none)
    (Ax2 : PySem.W.findIn K (.ref Cx2) "__getattribute__" = some (some (.builtin "BaseException.__getattribute__")))
    (Bx2 : PySem.W.findIn K (.ref Cx2) "__getattr__" = some none)
    (Dx2 : PySem.W.hasDictIn K Cx2 = true)
    (Ex2 : PySem.W.findIn K (.ref Cx2) "__class__" = some (some (.builtin "object.__class__")))
    (Mx2 : PySem.W.mroIn K Cx2 (.type "object") = some true)
    (Qx2 : PySem.W.isClsIn K Cx2 = true)
    (Ux2 : PySem.W.subIn K (.ref Cx2) (.ref CM) = some true)
    (Wx2 : PySem.W.subIn K (.ref Cx2) (.ref Cx2) = some true)
    (gx3 : PySem.W.nsIn K mainGlobals "InvalidDay" = some (some (.ref Cx3)))
    (Lx3 : K.lookup Cx3 = some (excClassObj nmx3 qnx3 Cx3 Nx3 bsx3 bmx3 true snx3 sux3 abx3 cox3 ddx3 v0x3 v1x3 v2x3 v3x3 v5x3 "ValueError.__new__"))
    (Vx3 : PySem.HandSPX.refsVE bmx3 = true)
    (Sx3 : PySem.W.findIn K (.ref Cx3) "__setattr__" = some (some (.builtin "object.__setattr__")))
    (Xx3 : PySem.W.subIn K (.ref Cx3) (.type "BaseException") = some true)
    (Tx3 : PySem.W.typeIn K (.ref Cx3) = some (.type "type"))
    (Kx3 : PySem.W.keepIn K (.ref Cx3) = true)
    (Ix3 : PySem.W.findIn K (.ref Cx3) "__init__" = some (some (.ref fme)))
    (Ox3 : PySem.W.findIn K (.ref Cx3) "value" = some none)
    (Ax3 : PySem.W.findIn K (.ref Cx3) "__getattribute__" = some (some (.builtin "BaseException.__getattribute__")))
    (Bx3 : PySem.W.findIn K (.ref Cx3) "__getattr__" = some none)
    (Dx3 : PySem.W.hasDictIn K Cx3 = true)
    (Ex3 : PySem.W.findIn K (.ref Cx3) "__class__" = some (some (.builtin "object.__class__")))
    (Mx3 : PySem.W.mroIn K Cx3 (.type "object") = some true)
    (Qx3 : PySem.W.isClsIn K Cx3 = true)
    (Ux3 : PySem.W.subIn K (.ref Cx3) (.ref CM) = some true)
    (Wx3 : PySem.W.subIn K (.ref Cx3) (.ref Cx3) = some true)
    (gx4 : PySem.W.nsIn K mainGlobals "UnknownNote" = some (some (.ref Cx4)))
    (Lx4 : K.lookup Cx4 = some (excClassObj nmx4 qnx4 Cx4 Nx4 bsx4 bmx4 true snx4 sux4 abx4 cox4 ddx4 v0x4 v1x4 v2x4 v3x4 v5x4 "ValueError.__new__"))
    (Vx4 : PySem.HandSPX.refsVE bmx4 = true)
    (Sx4 : PySem.W.findIn K (.ref Cx4) "__setattr__" = some (some (.builtin "object.__setattr__")))
    (Xx4 : PySem.W.subIn K (.ref Cx4) (.type "BaseException") = some true)
    (Tx4 : PySem.W.typeIn K (.ref Cx4) = some (.type "type"))
    (Kx4 : PySem.W.keepIn K (.ref Cx4) = true)
    (Ix4 : PySem.W.findIn K (.ref Cx4) "__init__" = some (some (.ref fme)))
    (Ox4 : PySem.W.findIn K (.ref Cx4) "value" = some none)
    (Ax4 : PySem.W.findIn K (.ref Cx4) "__getattribute__" = some (some (.builtin "BaseException.__getattribute__")))
    (Bx4 : PySem.W.findIn K (.ref Cx4) "__getattr__" = some none)
    (Dx4 : PySem.W.hasDictIn K Cx4 = true)
    (Ex4 : PySem.W.findIn K (.ref Cx4) "__class__" = some (some (.builtin "object.__class__")))
    (Mx4 : PySem.W.mroIn K Cx4 (.type "object") = some true)
    (Qx4 : PySem.W.isClsIn K Cx4 = true)
    (Ux4 : PySem.W.subIn K (.ref Cx4) (.ref CM) = some true)
    (Wx4 : PySem.W.subIn K (.ref Cx4) (.ref Cx4) = some true)
    (gy1 : PySem.W.nsIn K mainGlobals "InvalidName" = some (some (.ref Cy1)))
    (Ty1 : PySem.W.typeIn K (.ref Cy1) = some (.type "type"))
    (Qy1 : PySem.W.isClsIn K Cy1 = true)
    (gy2 : PySem.W.nsIn K mainGlobals "DoubleTown" = some (some (.ref Cy2)))
    (Ty2 : PySem.W.typeIn K (.ref Cy2) = some (.type "type"))
    (Qy2 : PySem.W.isClsIn K Cy2 = true)
    (gy3 : PySem.W.nsIn K mainGlobals "InvalidTown" = some (some (.ref Cy3)))
    (Ty3 : PySem.W.typeIn K (.ref Cy3) = some (.type "type"))
    (Qy3 : PySem.W.isClsIn K Cy3 = true)
    (XM : PySem.W.subIn K (.ref CM) (.type "BaseException") = some true)
    (DM : PySem.W.hasDictIn K CM = true)
    (TM : PySem.W.typeIn K (.ref CM) = some (.type "type"))
    (sx1y1 : PySem.W.subIn K (.ref Cx1) (.ref Cy1) = some false)
    (sx1y2 : PySem.W.subIn K (.ref Cx1) (.ref Cy2) = some false)
    (sx1y3 : PySem.W.subIn K (.ref Cx1) (.ref Cy3) = some false)
    (sx1x2 : PySem.W.subIn K (.ref Cx1) (.ref Cx2) = some false)
    (sx1x3 : PySem.W.subIn K (.ref Cx1) (.ref Cx3) = some false)
    (sx2y1 : PySem.W.subIn K (.ref Cx2) (.ref Cy1) = some false)
    (sx2y2 : PySem.W.subIn K (.ref Cx2) (.ref Cy2) = some false)
    (sx2y3 : PySem.W.subIn K (.ref Cx2) (.ref Cy3) = some false)
    (sx2x1 : PySem.W.subIn K (.ref Cx2) (.ref Cx1) = some false)
    (sx2x3 : PySem.W.subIn K (.ref Cx2) (.ref Cx3) = some false)
    (sx3y1 : PySem.W.subIn K (.ref Cx3) (.ref Cy1) = some false)
    (sx3y2 : PySem.W.subIn K (.ref Cx3) (.ref Cy2) = some false)
    (sx3y3 : PySem.W.subIn K (.ref Cx3) (.ref Cy3) = some false)
    (sx3x1 : PySem.W.subIn K (.ref Cx3) (.ref Cx1) = some false)
    (sx3x2 : PySem.W.subIn K (.ref Cx3) (.ref Cx2) = some false)
    (ty : PySem.W.typeIn K (.ref fme) = some (.type "function"))
    (lme : K.lookup fme = some ⟨ocme, odme, .func (PySem.W.fnOf "__init__" "MarketError.__init__" (defArgs sErr) (defBody sErr) (defScope sErr) .none kVme dcme pm_me anme cdme ctme), slme⟩)
    (cme : PySem.W.codeIn K cdme "MarketError.__init__" = true)
    (kme : PySem.W.keepIn K (.ref fme) = true) :
    ∃ fd : FuncData, (∀ (s : Shared) (v : Value), BindsTo s fd ⟨[v], []⟩ [("script", v)]) ∧ ∀ base : Heap, K.In base → base.Ns mainGlobals mg → FnG l.prog w K mg base CX0 11 fa fd ["script"] (spLaw K) := by
  have e := hfa.symm.trans (PySem.W.mg_of X G adN)
  cases e
  have B : Blt mg := ⟨PySem.W.mg_none_of X G z0, PySem.W.mg_none_of X G z1, PySem.W.mg_none_of X G z2, PySem.W.mg_none_of X G z3, PySem.W.mg_none_of X G z4, PySem.W.mg_none_of X G z5, PySem.W.mg_none_of X G z6, PySem.W.mg_none_of X G z7, PySem.W.mg_none_of X G z8, PySem.W.mg_none_of X G z9, PySem.W.mg_none_of X G z10, PySem.W.mg_none_of X G z11, PySem.W.mg_none_of X G z12⟩
  have T : Tops mg := ⟨⟨_, PySem.W.mg_of X G tL⟩, ⟨_, PySem.W.mg_of X G tM⟩⟩
  have TH : Things2 K w mg := by
    refine ⟨dT, es, n, PySem.W.mg_of X G tT, ⟨lT, hT, oT⟩, fun x => ⟨fun hx => ns_miss lT hK hx, fun m hm => ?_⟩⟩
    unfold kindLen at hm
    by_cases h1 : x = "market" ∨ x = "none"
    · rw [if_pos h1] at hm
      have em := Option.some.inj hm
      subst em
      rcases h1 with rfl | rfl
      · exact ⟨_, e0⟩
      · exact ⟨_, e1⟩
    · rw [if_neg h1] at hm
      by_cases h2 : x = "one" ∨ x = "same"
      · rw [if_pos h2] at hm
        have em := Option.some.inj hm
        subst em
        rcases h2 with rfl | rfl
        · exact ⟨_, e2⟩
        · exact ⟨_, e3⟩
      · rw [if_neg h2] at hm
        cases hm
  have cl : Cl K C := ⟨⟨pg, hd, po, sa⟩, nT, nN⟩
  have Fn1 := fun_mk (st := sIsName) ln1 cn1 kn1
  have Fn2 := fun_mk (st := sCheckTowns) ln2 cn2 kn2
  have Fn3 := fun_mk (st := sCheckNote) ln3 cn3 kn3
  have Fn4 := fun_mk (st := sCheckAsked) ln4 cn4 kn4
  have Fd1 := fun_mk (st := sPurse) ld1 cd1 kd1
  have Fd2 := fun_mk (st := sCoin) ld2 cd2 kd2
  have Fd3 := fun_mk (st := sWords) ld3 cd3 kd3
  have Fd4 := fun_mk (st := sMoment) ld4 cd4 kd4
  have Fd5 := fun_mk (st := sPlaces) ld5 cd5 kd5
  have Fd6 := fun_mk (st := sPicks) ld6 cd6 kd6
  have Fd7 := fun_mk (st := sPair) ld7 cd7 kd7
  have Fd8 := fun_mk (st := sMarket) ld8 cd8 kd8
  have Fd9 := fun_mk (st := sEntry) ld9 cd9 kd9
  have FdA := fun_mk (st := sMade) ldA cdA kdA
  have FdB := fun_mk (st := sWide) ldB cdB kdB
  have FdC := fun_mk (st := sSign) ldC cdC kdC
  have FdD := fun_mk (st := sLabel) ldD cdD kdD
  have FdE := fun_mk (st := sWord) ldE cdE kdE
  have FdF := fun_mk (st := sBent) ldF cdF kdF
  have FdG := fun_mk (st := sFault) ldG cdG kdG
  have FdH := fun_mk (st := sSlip) ldH cdH kdH
  have FdI := fun_mk (st := sRightM) ldI cdI kdI
  have FdJ := fun_mk (st := sMore) ldJ cdJ kdJ
  have FdK := fun_mk (st := sFewer) ldK cdK kdK
  have FdL := fun_mk (st := sStep) ldL cdL kdL
  have FdM := fun_mk (st := sRight) ldM cdM kdM
  have FdN := fun_mk (st := sLaw) ldN cdN kdN
  have Fm1 := fun_mk (st := sInit) lm1 cm1 km1
  have Fm2 := fun_mk (st := sGetTowns) lm2 cm2 km2
  have Fm3 := fun_mk (st := sGetNotes) lm3 cm3 km3
  have Fm4 := fun_mk (st := sNames) lm4 cm4 km4
  have Fm5 := fun_mk (st := sLen) lm5 cm5 km5
  have Fm6 := fun_mk (st := sWith) lm6 cm6 km6
  have Fm7 := fun_mk (st := sWithout) lm7 cm7 km7
  have Fm8 := fun_mk (st := sEq) lm8 cm8 km8
  have Fme := fun_mk (st := sErr) lme cme kme
  have bn1 := Fn1.binds (ps := ["name"]) fun _ _ _ _ _ _ us hl => match us, hl with | [_], _ => rfl
  have bn2 := Fn2.binds (ps := ["towns"]) fun _ _ _ _ _ _ us hl => match us, hl with | [_], _ => rfl
  have bn3 := Fn3.binds (ps := ["names", "note"]) fun _ _ _ _ _ _ us hl => match us, hl with | [_, _], _ => rfl
  have bn4 := Fn4.binds (ps := ["names", "asked"]) fun _ _ _ _ _ _ us hl => match us, hl with | [_, _], _ => rfl
  have bd1 := Fd1.binds (ps := ["script", "place"]) fun _ _ _ _ _ _ us hl => match us, hl with | [_, _], _ => rfl
  have bd2 := Fd2.binds (ps := ["purse", "many"]) fun _ _ _ _ _ _ us hl => match us, hl with | [_, _], _ => rfl
  have bd3 := Fd3.binds (ps := ["purse", "many"]) fun _ _ _ _ _ _ us hl => match us, hl with | [_, _], _ => rfl
  have bd4 := Fd4.binds (ps := ["purse"]) fun _ _ _ _ _ _ us hl => match us, hl with | [_], _ => rfl
  have bd5 := Fd5.binds (ps := ["purse", "count", "top"]) fun _ _ _ _ _ _ us hl => match us, hl with | [_, _, _], _ => rfl
  have bd6 := Fd6.binds (ps := ["purse", "places"]) fun _ _ _ _ _ _ us hl => match us, hl with | [_, _], _ => rfl
  have bd7 := Fd7.binds (ps := ["purse", "places"]) fun _ _ _ _ _ _ us hl => match us, hl with | [_, _], _ => rfl
  have bd8 := Fd8.binds (ps := ["pick", "moment"]) fun _ _ _ _ _ _ us hl => match us, hl with | [_, _], _ => rfl
  have bd9 := Fd9.binds (ps := ["purse", "places", "pair", "picks", "is_true"]) fun _ _ _ _ _ _ us hl => match us, hl with | [_, _, _, _, _], _ => rfl
  have bdA := FdA.binds (ps := ["sheet"]) fun _ _ _ _ _ _ us hl => match us, hl with | [_], _ => rfl
  have bdB := FdB.binds (ps := ["purse"]) fun _ _ _ _ _ _ us hl => match us, hl with | [_], _ => rfl
  have bdC := FdC.binds (ps := ["purse"]) fun _ _ _ _ _ _ us hl => match us, hl with | [_], _ => rfl
  have bdD := FdD.binds (ps := ["purse", "label"]) fun _ _ _ _ _ _ us hl => match us, hl with | [_, _], _ => rfl
  have bdE := FdE.binds (ps := ["purse", "word_here"]) fun _ _ _ _ _ _ us hl => match us, hl with | [_, _], _ => rfl
  have bdF := FdF.binds (ps := ["purse", "places", "entry"]) fun _ _ _ _ _ _ us hl => match us, hl with | [_, _, _], _ => rfl
  have bdG := FdG.binds (ps := ["places", "entry"]) fun _ _ _ _ _ _ us hl => match us, hl with | [_, _], _ => rfl
  have bdH := FdH.binds (ps := ["fault"]) fun _ _ _ _ _ _ us hl => match us, hl with | [_], _ => rfl
  have bdI := FdI.binds (ps := ["found", "sheet"]) fun _ _ _ _ _ _ us hl => match us, hl with | [_, _], _ => rfl
  have bdJ := FdJ.binds (ps := ["made", "entry", "by_name"]) fun _ _ _ _ _ _ us hl => match us, hl with | [_, _, _], _ => rfl
  have bdK := FdK.binds (ps := ["made", "spot", "by_name"]) fun _ _ _ _ _ _ us hl => match us, hl with | [_, _, _], _ => rfl
  have bdL := FdL.binds (ps := ["purse", "made", "sheet"]) fun _ _ _ _ _ _ us hl => match us, hl with | [_, _, _], _ => rfl
  have bdM := FdM.binds (ps := ["purse"]) fun _ _ _ _ _ _ us hl => match us, hl with | [_], _ => rfl
  have bdN := FdN.binds (ps := ["script"]) fun _ _ _ _ _ _ us hl => match us, hl with | [_], _ => rfl
  have bm1 := Fm1.binds (ps := ["self", "towns", "notes"]) fun _ _ _ _ _ _ us hl => match us, hl with | [_, _, _], _ => rfl
  have bm2 := Fm2.binds (ps := ["self"]) fun _ _ _ _ _ _ us hl => match us, hl with | [_], _ => rfl
  have bm3 := Fm3.binds (ps := ["self"]) fun _ _ _ _ _ _ us hl => match us, hl with | [_], _ => rfl
  have bm4 := Fm4.binds (ps := ["self"]) fun _ _ _ _ _ _ us hl => match us, hl with | [_], _ => rfl
  have bm5 := Fm5.binds (ps := ["self"]) fun _ _ _ _ _ _ us hl => match us, hl with | [_], _ => rfl
  have bm6 := Fm6.binds (ps := ["self", "note"]) fun _ _ _ _ _ _ us hl => match us, hl with | [_, _], _ => rfl
  have bm7 := Fm7.binds (ps := ["self", "index"]) fun _ _ _ _ _ _ us hl => match us, hl with | [_, _], _ => rfl
  have bm8 := Fm8.binds (ps := ["self", "other"]) fun _ _ _ _ _ _ us hl => match us, hl with | [_, _], _ => rfl
  have bme := Fme.binds (ps := ["self", "value"]) fun _ _ _ _ _ _ us hl => match us, hl with | [_, _], _ => rfl
  have Ox1_ : OexC K Cx1 := ⟨⟨nmx1, qnx1, Nx1, bsx1, bmx1, snx1, sux1, abx1, cox1, ddx1, v0x1, v1x1, v2x1, v3x1, v5x1, Lx1, Vx1⟩, Sx1, Xx1, Tx1, Kx1⟩
  have Cx1_ : ExcC K Cx1 := ⟨Ax1, Bx1, Xx1, Dx1, Ex1, ihn, iht, Mx1⟩
  have Yx1_ : XfC K Cx1 := ⟨Ax1, Bx1, Xx1, Dx1⟩
  have Rx1_ : Er K mg fme "InvalidNote" Cx1 := ⟨Ox1_, Ix1, Ox1, PySem.W.mg_of X G gx1⟩
  have Ox2_ : OexC K Cx2 := ⟨⟨nmx2, qnx2, Nx2, bsx2, bmx2, snx2, sux2, abx2, cox2, ddx2, v0x2, v1x2, v2x2, v3x2, v5x2, Lx2, Vx2⟩, Sx2, Xx2, Tx2, Kx2⟩
  have Cx2_ : ExcC K Cx2 := ⟨Ax2, Bx2, Xx2, Dx2, Ex2, ihn, iht, Mx2⟩
  have Yx2_ : XfC K Cx2 := ⟨Ax2, Bx2, Xx2, Dx2⟩
  have Rx2_ : Er K mg fme "UnknownTown" Cx2 := ⟨Ox2_, Ix2, Ox2, PySem.W.mg_of X G gx2⟩
  have Ox3_ : OexC K Cx3 := ⟨⟨nmx3, qnx3, Nx3, bsx3, bmx3, snx3, sux3, abx3, cox3, ddx3, v0x3, v1x3, v2x3, v3x3, v5x3, Lx3, Vx3⟩, Sx3, Xx3, Tx3, Kx3⟩
  have Cx3_ : ExcC K Cx3 := ⟨Ax3, Bx3, Xx3, Dx3, Ex3, ihn, iht, Mx3⟩
  have Yx3_ : XfC K Cx3 := ⟨Ax3, Bx3, Xx3, Dx3⟩
  have Rx3_ : Er K mg fme "InvalidDay" Cx3 := ⟨Ox3_, Ix3, Ox3, PySem.W.mg_of X G gx3⟩
  have Ox4_ : OexC K Cx4 := ⟨⟨nmx4, qnx4, Nx4, bsx4, bmx4, snx4, sux4, abx4, cox4, ddx4, v0x4, v1x4, v2x4, v3x4, v5x4, Lx4, Vx4⟩, Sx4, Xx4, Tx4, Kx4⟩
  have Cx4_ : ExcC K Cx4 := ⟨Ax4, Bx4, Xx4, Dx4, Ex4, ihn, iht, Mx4⟩
  have Yx4_ : XfC K Cx4 := ⟨Ax4, Bx4, Xx4, Dx4⟩
  have Rx4_ : Er K mg fme "UnknownNote" Cx4 := ⟨Ox4_, Ix4, Ox4, PySem.W.mg_of X G gx4⟩
  have ES : Ers K mg fme (clsF Cx1 Cx2 Cx3) := ⟨Rx1_, Rx2_, Rx3_⟩
  have AS : Asks K mg (clsF Cx1 Cx2 Cx3) Cx4 CM Cy1 Cy2 Cy3 := ⟨PySem.W.mg_of X G gM, PySem.W.mg_of X G gy1, PySem.W.mg_of X G gy2, PySem.W.mg_of X G gy3, (fun k => match k with | .note => PySem.W.exm_ref XM DM TM Ux1 | .town => PySem.W.exm_ref XM DM TM Ux2 | .day => PySem.W.exm_ref XM DM TM Ux3), PySem.W.exm_ref XM DM TM Ux4, (fun k => match k with | .note => Cx1_ | .town => Cx2_ | .day => Cx3_), Cx4_, (fun k => match k with | .note => Yx1_ | .town => Yx2_ | .day => Yx3_), Yx4_, (fun k => match k with | .note => kit_ref sx1y1 Wx1 Qy1 Ty1 | .town => kit_ref sx2y1 Wx2 Qy1 Ty1 | .day => kit_ref sx3y1 Wx3 Qy1 Ty1), (fun k => match k with | .note => kit_ref sx1y2 Wx1 Qy2 Ty2 | .town => kit_ref sx2y2 Wx2 Qy2 Ty2 | .day => kit_ref sx3y2 Wx3 Qy2 Ty2), (fun k => match k with | .note => kit_ref sx1y3 Wx1 Qy3 Ty3 | .town => kit_ref sx2y3 Wx2 Qy3 Ty3 | .day => kit_ref sx3y3 Wx3 Qy3 Ty3),
    (fun k j => match k, j with | .note, .note => kit_ref Wx1 Wx1 Qx1 Tx1 | .note, .town => kit_ref sx1x2 Wx1 Qx2 Tx2 | .note, .day => kit_ref sx1x3 Wx1 Qx3 Tx3 | .town, .note => kit_ref sx2x1 Wx2 Qx1 Tx1 | .town, .town => kit_ref Wx2 Wx2 Qx2 Tx2 | .town, .day => kit_ref sx2x3 Wx2 Qx3 Tx3 | .day, .note => kit_ref sx3x1 Wx3 Qx1 Tx1 | .day, .town => kit_ref sx3x2 Wx3 Qx2 Tx2 | .day, .day => kit_ref Wx3 Wx3 Qx3 Tx3), kit_ref Wx4 Wx4 Qx4 Tx4⟩
  refine ⟨PySem.W.fnOf "law" "law" (defArgs sLaw) (defBody sLaw) (defScope sLaw) .none kVdN dcdN pm_dN andN cddN ctdN, fun s v => .of_eq rfl, fun base _ _ => ?_⟩
  have C2 : CoinAt l.prog w K mg base fd2 _ := ⟨fun k => ok_coin Fd2 B, PySem.W.mg_of X G ad2, kd2, bd2⟩
  have A1 : DefAt l.prog w K mg base "_law_purse" fd1 _ ["script", "place"] 1 (spPurse K) := ⟨fun k => ok_purse Fd1 B, PySem.W.mg_of X G ad1, kd1, bd1⟩
  have A3 : DefAt l.prog w K mg base "_law_words" fd3 _ ["purse", "many"] 2 spWords := ⟨fun k => ok_words Fd3 C2 B, PySem.W.mg_of X G ad3, kd3, bd3⟩
  have A4 : DefAt l.prog w K mg base "_law_mk_moment" fd4 _ ["purse"] 2 spMoment := ⟨fun k => ok_moment Fd4 C2 B, PySem.W.mg_of X G ad4, kd4, bd4⟩
  have A5 : DefAt l.prog w K mg base "_law_mk_places" fd5 _ ["purse", "count", "top"] 3 spPlaces := ⟨fun k => ok_places Fd5 C2 A3 B, PySem.W.mg_of X G ad5, kd5, bd5⟩
  have A6 : DefAt l.prog w K mg base "_law_mk_picks" fd6 _ ["purse", "places"] 2 spPicks := ⟨fun k => ok_picks Fd6 C2, PySem.W.mg_of X G ad6, kd6, bd6⟩
  have A7 : DefAt l.prog w K mg base "_law_mk_pair" fd7 _ ["purse", "places"] 2 spPair := ⟨fun k => ok_pair Fd7 C2 B, PySem.W.mg_of X G ad7, kd7, bd7⟩
  have A8 : DefAt l.prog w K mg base "_law_mk_market" fd8 _ ["pick", "moment"] 1 spMarket := ⟨fun k => ok_market Fd8 B, PySem.W.mg_of X G ad8, kd8, bd8⟩
  have A9 : DefAt l.prog w K mg base "_law_mk_entry" fd9 _ ["purse", "places", "pair", "picks", "is_true"] 3 spEntry := ⟨fun k => ok_entry Fd9 C2 A4 A8 B, PySem.W.mg_of X G ad9, kd9, bd9⟩
  have AB : DefAt l.prog w K mg base "_law_mk_wide" fdB _ ["purse"] 4 spWide := ⟨fun k => ok_wide FdB C2 A5 A6 A7 A9 B, PySem.W.mg_of X G adB, kdB, bdB⟩
  have AC : DefAt l.prog w K mg base "_law_mk_sign" fdC _ ["purse"] 2 spSign := ⟨fun k => ok_sign FdC C2 B, PySem.W.mg_of X G adC, kdC, bdC⟩
  have AD : DefAt l.prog w K mg base "_law_mk_odd_label" fdD _ ["purse", "label"] 3 spLabel := ⟨fun k => ok_label FdD C2 AC B, PySem.W.mg_of X G adD, kdD, bdD⟩
  have AE : DefAt l.prog w K mg base "_law_mk_odd_word" fdE _ ["purse", "word_here"] 3 spWord := ⟨fun k => ok_word FdE C2 AC B, PySem.W.mg_of X G adE, kdE, bdE⟩
  have AF : DefAt l.prog w K mg base "_law_mk_bent_entry" fdF _ ["purse", "places", "entry"] 4 spBent := ⟨fun k => ok_bent FdF C2 A4 AE AD B, PySem.W.mg_of X G adF, kdF, bdF⟩
  have AG : DefAt l.prog w K mg base "_law_mk_note_fault" fdG _ ["places", "entry"] 1 spFault := ⟨fun k => ok_fault FdG B, PySem.W.mg_of X G adG, kdG, bdG⟩
  have AH : DefAt l.prog w K mg base "_law_mk_due_slip" fdH _ ["fault"] 1 (spSlip K) := ⟨fun k => ok_slip FdH, PySem.W.mg_of X G adH, kdH, bdH⟩
  have EI : ErI l.prog w K mg base fme _ := ⟨ty, fun k => ok_err Fme, bme⟩
  have DX : Dx l.prog w K mg base C fm1 fme _ _ (clsF Cx1 Cx2 Cx3) Cx4 := ⟨cl, PySem.W.mg_of X G aC, ⟨mk, am1, im1, kC⟩, fun k => ok_initX Fm1 cl B (ok_checkTowns Fn2 Fn1 (PySem.W.mg_of X G an1) bn1 B T) (PySem.W.mg_of X G an2) kn2 bn2 (ok_note Fn3 Fn4 (PySem.W.mg_of X G an4) bn4 B TH EI ES) (PySem.W.mg_of X G an3) kn3 bn3, bm1, EI, Rx4_⟩
  have TE : Tell l.prog w K mg base C pm2 fm2 pm3 fm3 fm4 fm5 _ _ _ _ := ⟨cl, ⟨am2, gm2, tm2, _, rm2⟩, fun k => ok_towns Fm2 cl B, bm2, ⟨am3, gm3, tm3, _, rm3⟩, fun k => ok_notes Fm3 cl B, bm3, ⟨am4, im4, km4⟩, fun k => ok_names Fm4 cl B, bm4, ⟨am5, im5, km5⟩, fun k => ok_len Fm5 cl B, bm5⟩
  have AI : GAt l.prog w K mg base "_law_mk_right" fdI _ ["found", "sheet"] 3 (spTells C) := ⟨fun k => ok_tells FdI TE B, PySem.W.mg_of X G adI, kdI, bdI⟩
  have AJ : DefAt l.prog w K mg base "_law_mk_more" fdJ _ ["made", "entry", "by_name"] 8 (spMore C) := ⟨fun k => ok_more FdJ cl (ok_with (k := k) Fm6 DX) ⟨am6, im6, km6⟩ bm6 (kbn2 Fm6 fun _ _ _ _ _ _ _ _ => rfl) AS ES B, PySem.W.mg_of X G adJ, kdJ, bdJ⟩
  have AK : DefAt l.prog w K mg base "_law_mk_fewer" fdK _ ["made", "spot", "by_name"] 8 (spFewer C) := ⟨fun k => ok_fewer FdK cl.cl (ok_without (k := k) Fm7 DX B) ⟨am7, im7, km7⟩ bm7 (kbn2 Fm7 fun _ _ _ _ _ _ _ _ => rfl) AS Rx4_ B, PySem.W.mg_of X G adK, kdK, bdK⟩
  have AA : DefAt l.prog w K mg base "_law_mk_made" fdA _ ["sheet"] 7 (spMadeX C) := ⟨fun k => ok_made FdA DX B, PySem.W.mg_of X G adA, kdA, bdA⟩
  have AL : GAt l.prog w K mg base "_law_mk_step" fdL _ ["purse", "made", "sheet"] 9 (spStep C) := ⟨fun k => ok_step (nF := 0) (nM := 0) FdL C2 AK AJ A6 A7 A9 AF AG AH AI B, PySem.W.mg_of X G adL, kdL, bdL⟩
  have IC : C8.InsC K C := ⟨cl.cl, iha, ihn, iht, ihm, by unfold PySem.W.kitOne; rw [if_pos (by simp)]⟩
  have AM : GAt l.prog w K mg base "_law_right" fdM _ ["purse"] 10 spRight := ⟨fun k => ok_right FdM C2 AB AA AJ AG AH AL AI DX (fun k => ok_eq Fm8 cl (PySem.W.mg_of X G aC) IC B) am8 im8 bm8 B, PySem.W.mg_of X G adM, kdM, bdM⟩
  exact ok_law FdN A1 AM B
end Md

open PySem PySem.W PyProof.Rows
set_option maxRecDepth 100000 in
set_option maxHeartbeats 0 in
theorem PySem.Challenge.cw_marketdays_k11_notes_put_in_and_left_out_holds : PySem.Challenge.rw_marketdays_k11_notes_put_in_and_left_out.Holds := by
  w_on; o_law; k_head; (case hw => w_witness2)
  k_fill
  refine Md.walk_g (l := PySem.Challenge.rw_marketdays_k11_notes_put_in_and_left_out) (n := 63) (k := 11) (x := "script") (sp := Md.spLaw) rfl (by decide) rfl ⟨rfl, by decide, by decide⟩ (fun w h Y => PySem.W.kIn_of Y) ?F (fun _ _ a ns hl hS => ⟨a, ns, rfl, hS, hl, fun _ => rfl⟩)
  case F =>
    intro w mg fa h KX G hmg
    refine' Md.all_mk KX G hmg ?an1 ?ln1 ?cn1 ?kn1 ?an2 ?ln2 ?cn2 ?kn2 ?an3 ?ln3 ?cn3 ?kn3 ?an4 ?ln4 ?cn4 ?kn4 ?ad1 ?ld1 ?cd1 ?kd1 ?ad2 ?ld2 ?cd2 ?kd2 ?ad3 ?ld3 ?cd3 ?kd3 ?ad4 ?ld4 ?cd4 ?kd4 ?ad5 ?ld5 ?cd5 ?kd5 ?ad6 ?ld6 ?cd6 ?kd6 ?ad7 ?ld7 ?cd7 ?kd7 ?ad8 ?ld8 ?cd8 ?kd8 ?ad9 ?ld9 ?cd9 ?kd9 ?adA ?ldA ?cdA ?kdA ?adB ?ldB ?cdB ?kdB ?adC ?ldC ?cdC ?kdC ?adD ?ldD ?cdD ?kdD ?adE ?ldE ?cdE ?kdE ?adF ?ldF ?cdF ?kdF ?adG ?ldG ?cdG ?kdG ?adH ?ldH ?cdH ?kdH ?adI ?ldI ?cdI ?kdI ?adJ ?ldJ ?cdJ ?kdJ ?adK ?ldK ?cdK ?kdK ?adL ?ldL ?cdL ?kdL ?adM ?ldM ?cdM ?kdM ?adN ?ldN ?cdN ?kdN ?aC ?am1 ?im1 ?lm1 ?cm1 ?km1 ?am2 ?gm2 ?tm2 ?rm2 ?lm2 ?cm2 ?km2 ?am3 ?gm3 ?tm3 ?rm3 ?lm3 ?cm3 ?km3 ?am4 ?im4 ?lm4 ?cm4 ?km4 ?am5 ?im5 ?lm5 ?cm5 ?km5 ?am6 ?im6 ?lm6 ?cm6 ?km6 ?am7 ?im7 ?lm7 ?cm7 ?km7 ?am8 ?im8 ?lm8 ?cm8 ?km8 ?pg ?hd ?po ?sa ?mk ?kC ?nT ?nN ?iha ?ihn ?iht ?ihm ?tL ?tM ?tT ?lT ?hT ?oT ?hK ?e0 ?e1 ?e2 ?e3 ?z0 ?z1 ?z2 ?z3 ?z4 ?z5 ?z6 ?z7 ?z8 ?z9 ?z10 ?z11 ?z12 ?gM ?gx1 ?Lx1 ?Vx1 ?Sx1 ?Xx1 ?Tx1 ?Kx1 ?Ix1 ?Ox1 ?Ax1 ?Bx1 ?Dx1 ?Ex1 ?Mx1 ?Qx1 ?Ux1 ?Wx1 ?gx2 ?Lx2 ?Vx2 ?Sx2 ?Xx2 ?Tx2 ?Kx2 ?Ix2 ?Ox2 ?Ax2 ?Bx2 ?Dx2 ?Ex2 ?Mx2 ?Qx2 ?Ux2 ?Wx2 ?gx3 ?Lx3 ?Vx3 ?Sx3 ?Xx3 ?Tx3 ?Kx3 ?Ix3 ?Ox3 ?Ax3 ?Bx3 ?Dx3 ?Ex3 ?Mx3 ?Qx3 ?Ux3 ?Wx3 ?gx4 ?Lx4 ?Vx4 ?Sx4 ?Xx4 ?Tx4 ?Kx4 ?Ix4 ?Ox4 ?Ax4 ?Bx4 ?Dx4 ?Ex4 ?Mx4 ?Qx4 ?Ux4 ?Wx4 ?gy1 ?Ty1 ?Qy1 ?gy2 ?Ty2 ?Qy2 ?gy3 ?Ty3 ?Qy3 ?XM ?DM ?TM ?sx1y1 ?sx1y2 ?sx1y3 ?sx1x2 ?sx1x3 ?sx2y1 ?sx2y2 ?sx2y3 ?sx2x1 ?sx2x3 ?sx3y1 ?sx3y2 ?sx3y3 ?sx3x1 ?sx3x2 ?ty ?lme ?cme ?kme
    (case an1 => k_is); (case ln1 => k_is); (case cn1 => k_is); (case kn1 => k_is); (case an2 => k_is); (case ln2 => k_is)
    (case cn2 => k_is); (case kn2 => k_is); (case an3 => k_is); (case ln3 => k_is); (case cn3 => k_is); (case kn3 => k_is)
    (case an4 => k_is); (case ln4 => k_is); (case cn4 => k_is); (case kn4 => k_is); (case ad1 => k_is); (case ld1 => k_is)
    (case cd1 => k_is); (case kd1 => k_is); (case ad2 => k_is); (case ld2 => k_is); (case cd2 => k_is); (case kd2 => k_is)
    (case ad3 => k_is); (case ld3 => k_is); (case cd3 => k_is); (case kd3 => k_is); (case ad4 => k_is); (case ld4 => k_is)
    (case cd4 => k_is); (case kd4 => k_is); (case ad5 => k_is); (case ld5 => k_is); (case cd5 => k_is); (case kd5 => k_is)
    (case ad6 => k_is); (case ld6 => k_is); (case cd6 => k_is); (case kd6 => k_is); (case ad7 => k_is); (case ld7 => k_is)
    (case cd7 => k_is); (case kd7 => k_is); (case ad8 => k_is); (case ld8 => k_is); (case cd8 => k_is); (case kd8 => k_is)
    (case ad9 => k_is); (case ld9 => k_is); (case cd9 => k_is); (case kd9 => k_is); (case adA => k_is); (case ldA => k_is)
    (case cdA => k_is); (case kdA => k_is); (case adB => k_is); (case ldB => k_is); (case cdB => k_is); (case kdB => k_is)
    (case adC => k_is); (case ldC => k_is); (case cdC => k_is); (case kdC => k_is); (case adD => k_is); (case ldD => k_is)
    (case cdD => k_is); (case kdD => k_is); (case adE => k_is); (case ldE => k_is); (case cdE => k_is); (case kdE => k_is)
    (case adF => k_is); (case ldF => k_is); (case cdF => k_is); (case kdF => k_is); (case adG => k_is); (case ldG => k_is)
    (case cdG => k_is); (case kdG => k_is); (case adH => k_is); (case ldH => k_is); (case cdH => k_is); (case kdH => k_is)
    (case adI => k_is); (case ldI => k_is); (case cdI => k_is); (case kdI => k_is); (case adJ => k_is); (case ldJ => k_is)
    (case cdJ => k_is); (case kdJ => k_is); (case adK => k_is); (case ldK => k_is); (case cdK => k_is); (case kdK => k_is)
    (case adL => k_is); (case ldL => k_is); (case cdL => k_is); (case kdL => k_is); (case adM => k_is); (case ldM => k_is)
    (case cdM => k_is); (case kdM => k_is); (case adN => k_is); (case ldN => k_is); (case cdN => k_is); (case kdN => k_is)
    (case aC => k_is); (case am1 => k_is); (case im1 => k_is); (case lm1 => k_is); (case cm1 => k_is); (case km1 => k_is)
    (case am2 => k_is); (case gm2 => k_is); (case tm2 => k_is); (case rm2 => k_is); (case lm2 => k_is); (case cm2 => k_is)
    (case km2 => k_is); (case am3 => k_is); (case gm3 => k_is); (case tm3 => k_is); (case rm3 => k_is); (case lm3 => k_is)
    (case cm3 => k_is); (case km3 => k_is); (case am4 => k_is); (case im4 => k_is); (case lm4 => k_is); (case cm4 => k_is)
    (case km4 => k_is); (case am5 => k_is); (case im5 => k_is); (case lm5 => k_is); (case cm5 => k_is); (case km5 => k_is)
    (case am6 => k_is); (case im6 => k_is); (case lm6 => k_is); (case cm6 => k_is); (case km6 => k_is); (case am7 => k_is)
    (case im7 => k_is); (case lm7 => k_is); (case cm7 => k_is); (case km7 => k_is); (case am8 => k_is); (case im8 => k_is)
    (case lm8 => k_is); (case cm8 => k_is); (case km8 => k_is); (case pg => k_is); (case hd => k_is); (case po => k_is)
    (case sa => k_is); (case mk => k_is); (case kC => k_is); (case nT => k_is); (case nN => k_is); (case iha => k_is)
    (case ihn => k_is); (case iht => k_is); (case ihm => k_is); (case tL => k_is); (case tM => k_is); (case tT => k_is)
    (case lT => k_is); (case hT => exact ⟨⟨_, _, rfl, rfl⟩, ⟨_, _, rfl, rfl⟩, ⟨_, _, rfl, rfl⟩, ⟨_, _, rfl, rfl⟩, trivial⟩); (case oT => rfl); (case hK => rfl); (case e0 => k_is); (case e1 => k_is)
    (case e2 => k_is); (case e3 => k_is); (case z0 => k_is); (case z1 => k_is); (case z2 => k_is); (case z3 => k_is)
    (case z4 => k_is); (case z5 => k_is); (case z6 => k_is); (case z7 => k_is); (case z8 => k_is); (case z9 => k_is)
    (case z10 => k_is); (case z11 => k_is); (case z12 => k_is); (case gM => k_is); (case gx1 => k_is); (case Lx1 => k_is)
    (case Vx1 => decide +kernel); (case Sx1 => k_is); (case Xx1 => k_is); (case Tx1 => k_is); (case Kx1 => k_is); (case Ix1 => k_is)
    (case Ox1 => k_is); (case Ax1 => k_is); (case Bx1 => k_is); (case Dx1 => k_is); (case Ex1 => k_is); (case Mx1 => k_is)
    (case Qx1 => k_is); (case Ux1 => k_is); (case Wx1 => k_is); (case gx2 => k_is); (case Lx2 => k_is); (case Vx2 => decide +kernel)
    (case Sx2 => k_is); (case Xx2 => k_is); (case Tx2 => k_is); (case Kx2 => k_is); (case Ix2 => k_is); (case Ox2 => k_is)
    (case Ax2 => k_is); (case Bx2 => k_is); (case Dx2 => k_is); (case Ex2 => k_is); (case Mx2 => k_is); (case Qx2 => k_is)
    (case Ux2 => k_is); (case Wx2 => k_is); (case gx3 => k_is); (case Lx3 => k_is); (case Vx3 => decide +kernel); (case Sx3 => k_is)
    (case Xx3 => k_is); (case Tx3 => k_is); (case Kx3 => k_is); (case Ix3 => k_is); (case Ox3 => k_is); (case Ax3 => k_is)
    (case Bx3 => k_is); (case Dx3 => k_is); (case Ex3 => k_is); (case Mx3 => k_is); (case Qx3 => k_is); (case Ux3 => k_is)
    (case Wx3 => k_is); (case gx4 => k_is); (case Lx4 => k_is); (case Vx4 => decide +kernel); (case Sx4 => k_is); (case Xx4 => k_is)
    (case Tx4 => k_is); (case Kx4 => k_is); (case Ix4 => k_is); (case Ox4 => k_is); (case Ax4 => k_is); (case Bx4 => k_is)
    (case Dx4 => k_is); (case Ex4 => k_is); (case Mx4 => k_is); (case Qx4 => k_is); (case Ux4 => k_is); (case Wx4 => k_is)
    (case gy1 => k_is); (case Ty1 => k_is); (case Qy1 => k_is); (case gy2 => k_is); (case Ty2 => k_is); (case Qy2 => k_is)
    (case gy3 => k_is); (case Ty3 => k_is); (case Qy3 => k_is); (case XM => k_is); (case DM => k_is); (case TM => k_is)
    (case sx1y1 => k_is); (case sx1y2 => k_is); (case sx1y3 => k_is); (case sx1x2 => k_is); (case sx1x3 => k_is); (case sx2y1 => k_is)
    (case sx2y2 => k_is); (case sx2y3 => k_is); (case sx2x1 => k_is); (case sx2x3 => k_is); (case sx3y1 => k_is); (case sx3y2 => k_is)
    (case sx3y3 => k_is); (case sx3x1 => k_is); (case sx3x2 => k_is); (case ty => k_is); (case lme => k_is); (case cme => k_is)
    (case kme => k_is)
