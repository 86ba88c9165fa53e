import PyProof.Rows.All
import Wide.All
import OpenK.AllK
import Wide.FinOn
import HandS.ForMost
import HandS.Strs
import HandS.SetFor
import HandS.SortInts
import HandS.Wide
import HandS.ExcInit
import HandS.WordsExc
import HandS.ExcOwn
import HandS.SetKeys
import HandS.Property
import HandS.MakeKw
import HandS.More
import PyProof.Rows.SetFrom
import HandS.Zip
import HandS.IsInst
import HandS.Gcd
import HandS.TupAny
import HandS.Style
import HandS.Flow
import HandS.Codes
import HandS.TryOnly
import HandS.Iter
import HandS.Walk
import HandS.SetIn
import HandS.Small
import HandS.ExcIs
import HandS.ExcField
import HandS.OwnEq
import HandS.TupSets
import HandS.SetBool
import KE.KeyNested
import KE.SortData
import HandS.Deep
import HandS.TupMul
import PyProof.NeKinds
import PyProof.EqKinds
import HandS.List
import HandS.Text
import KE.KRevSl
import HandS.Set
import PyProof.ListRange
import HandS.Sort
import KE.KMathGC
import PySem.Challenge.RW_marketdays_k06_widest_waits
import PySem.Str
set_option Elab.async false
set_option linter.all false
set_option maxRecDepth 100000
set_option exponentiation.threshold 5000
set_option maxHeartbeats 4000000
/-! x -> 5x + 1 meets all, modulo 2^k. -/
namespace Tb
/-- 1 + 5 + 25 + .. (n of them) -/
def s5 : Nat → Nat
  | 0 => 0
  | n + 1 => 5 * s5 n + 1
theorem s5_add (m : Nat) : ∀ n, s5 (m + n) = 5 ^ n * s5 m + s5 n
  | 0 => by simp [s5]
  | n + 1 => by
    show 5 * s5 (m + n) + 1 = 5 ^ (n + 1) * s5 m + (5 * s5 n + 1)
    rw [s5_add m n, Nat.mul_add, Nat.pow_succ, ← Nat.mul_assoc, Nat.mul_comm (5 ^ n) 5, Nat.add_assoc]
theorem pow5_odd : ∀ n, 5 ^ n % 4 = 1
  | 0 => rfl
  | n + 1 => by
    rw [Nat.pow_succ, Nat.mul_mod, pow5_odd n]
theorem s5_par : ∀ n, s5 n % 2 = n % 2
  | 0 => rfl
  | n + 1 => by
    have := s5_par n
    show (5 * s5 n + 1) % 2 = (n + 1) % 2
    omega
theorem odd_drop {k q a : Nat} (hq : q % 2 = 1) (h : 2 ^ k ∣ a * q) : 2 ^ k ∣ a := by
  have c : Nat.Coprime (2 ^ k) q := by
    apply Nat.Coprime.pow_left
    show Nat.gcd 2 q = 1
    rw [Nat.gcd_rec, hq]
    rfl
  exact c.dvd_of_dvd_mul_right h
theorem s5_dvd : ∀ (k n : Nat), 2 ^ k ∣ s5 n → 2 ^ k ∣ n
  | 0, n, _ => Nat.one_dvd n
  | k + 1, n, h => by
    have even : n % 2 = 0 := by
      rw [← s5_par]
      exact Nat.mod_eq_zero_of_dvd (Nat.dvd_trans (Nat.pow_dvd_pow 2 (Nat.le_add_left 1 k)) h)
    obtain ⟨e, rfl⟩ : ∃ e, n = e + e := ⟨n / 2, by omega⟩
    have hp := pow5_odd e
    have key : s5 (e + e) = 2 * (s5 e * ((5 ^ e + 1) / 2)) := by
      rw [s5_add]
      have h2 : 5 ^ e + 1 = 2 * ((5 ^ e + 1) / 2) := by omega
      have : 5 ^ e * s5 e + s5 e = (5 ^ e + 1) * s5 e := by rw [Nat.add_mul, Nat.one_mul]
      rw [this]
      conv => lhs; rw [h2]
      rw [Nat.mul_assoc, Nat.mul_comm ((5 ^ e + 1) / 2)]
    rw [key, Nat.pow_succ, Nat.mul_comm (2 ^ k) 2] at h
    have h3 : 2 ^ k ∣ s5 e * ((5 ^ e + 1) / 2) := Nat.dvd_of_mul_dvd_mul_left (by decide) h
    have h4 := s5_dvd k e (odd_drop (by omega) h3)
    rw [Nat.pow_succ, show e + e = e * 2 by omega]
    exact Nat.mul_dvd_mul_right h4 2
/-- n steps from x -/
def after (x n : Nat) : Nat := 5 ^ n * x + s5 n
theorem after_next (x n : Nat) : after x (n + 1) = 5 * after x n + 1 := by
  unfold after
  show 5 ^ (n + 1) * x + (5 * s5 n + 1) = _
  rw [Nat.pow_succ, Nat.mul_comm (5 ^ n) 5, Nat.mul_assoc, Nat.mul_add, Nat.add_assoc]
theorem pow5_s5 : ∀ n, 5 ^ n = 4 * s5 n + 1
  | 0 => rfl
  | n + 1 => by
    rw [Nat.pow_succ, pow5_s5 n]
    show _ = 4 * (5 * s5 n + 1) + 1
    omega
theorem after_apart {k x m d : Nat} (h : after x (m + d) % 2 ^ k = after x m % 2 ^ k) : 2 ^ k ∣ d := by
  have e : after x (m + d) = after x m + 5 ^ m * (s5 d * (4 * x + 1)) := by
    unfold after
    rw [Nat.add_comm m d, s5_add, Nat.pow_add, pow5_s5 d]
    have : (4 * s5 d + 1) * 5 ^ m * x + (5 ^ m * s5 d + s5 m) = 5 ^ m * x + s5 m + 5 ^ m * (s5 d * (4 * x + 1)) := by
      simp only [Nat.add_mul, Nat.mul_add, Nat.one_mul, Nat.mul_one]
      have a1 : 4 * s5 d * 5 ^ m * x = 5 ^ m * (s5 d * (4 * x)) := by
        simp only [Nat.mul_comm, Nat.mul_left_comm, Nat.mul_assoc]
      omega
    exact this
  rw [e] at h
  have h1 : 2 ^ k ∣ 5 ^ m * (s5 d * (4 * x + 1)) := by
    have h2 : (after x m + 5 ^ m * (s5 d * (4 * x + 1))) % 2 ^ k = (after x m + 0) % 2 ^ k := by rw [h, Nat.add_zero]
    have h3 := Nat.sub_mod_eq_zero_of_mod_eq h2
    simp only [Nat.add_zero, Nat.add_sub_cancel_left] at h3
    exact Nat.dvd_of_mod_eq_zero h3
  have o : 5 ^ m % 2 = 1 := by
    have := pow5_odd m
    omega
  rw [Nat.mul_comm] at h1
  have h4 := odd_drop o h1
  exact s5_dvd k d (odd_drop (by omega) h4)
/-- no repeat in a list within a range of its length: all are met -/
theorem full_met : ∀ (n : Nat) (l : List Nat), l.length = n → l.Nodup → (∀ x ∈ l, x < n) → ∀ j, j < n → j ∈ l
  | 0, _, _, _, _, j, hj => absurd hj (Nat.not_lt_zero j)
  | n + 1, l, hl, nd, hb, j, hj => by
    by_cases hn : n ∈ l
    · by_cases e : j = n
      · rw [e]; exact hn
      · have ln : (l.erase n).length = n := by rw [List.length_erase_of_mem hn, hl]; rfl
        have := full_met n (l.erase n) ln (nd.erase n) (fun x hx => by
          have h1 := hb x (List.mem_of_mem_erase hx)
          have h2 : x ≠ n := fun e => by
            subst e
            exact (List.Nodup.not_mem_erase nd) hx
          omega) j (by omega)
        exact List.mem_of_mem_erase this
    · exfalso
      match l, hl with
      | x :: r, hl =>
        have hr : r.length = n := by simpa using hl
        have nd2 := List.nodup_cons.mp nd
        have b : ∀ y ∈ x :: r, y < n := fun y hy => by
          have h1 := hb y hy
          have h2 : y ≠ n := fun e => hn (e ▸ hy)
          omega
        have hx := full_met n r hr nd2.2 (fun y hy => b y (List.mem_cons_of_mem _ hy)) x (b x List.mem_cons_self)
        exact nd2.1 hx
theorem after_all {k x j : Nat} (hj : j < 2 ^ k) : ∃ n, n < 2 ^ k ∧ after x n % 2 ^ k = j := by
  have pos : 0 < 2 ^ k := Nat.pow_pos (by decide)
  have nd : ((List.range (2 ^ k)).map fun n => after x n % 2 ^ k).Nodup := by
    rw [List.nodup_iff_pairwise_ne, List.pairwise_map]
    refine List.Pairwise.imp_of_mem (fun {a b} ha hb hab e => ?_) (List.pairwise_lt_range (n := 2 ^ k))
    have la := List.mem_range.mp ha
    have lb := List.mem_range.mp hb
    obtain ⟨d, rfl⟩ := Nat.exists_eq_add_of_lt hab
    rw [show a + d + 1 = a + (d + 1) by omega] at e
    have := Nat.le_of_dvd (by omega) (after_apart e.symm)
    omega
  have h := full_met (2 ^ k) _ (by simp) nd (fun y hy => by
    obtain ⟨n, _, rfl⟩ := List.mem_map.mp hy
    exact Nat.mod_lt _ pos) j hj
  obtain ⟨n, hn, e⟩ := List.mem_map.mp h
  exact ⟨n, List.mem_range.mp hn, e⟩
end Tb

/-! Defs whose bodies show data by repr: a promise under the fact that no shown thing stands on the stack. -/
namespace Md
open PySem PySem.Spec PyProof.Rows L2

/-- nothing that repr guards is running -/
abbrev NoG (A : Around) : Prop := A.guards = some []

structure FnG (P : Program) (w : World) (K : PySem.W.Frag) (mg : Str → Option Value) (base : Heap) (CX : CXT) (k : Nat) (f : Addr) (fd : FuncData) (ps : List Str) (sp : Sp) : Prop where
  many : ∀ vs H Q E, sp vs H Q E → vs.length = ps.length
  goes : ∀ (A : Around) (around : List Env) (st : Shared) (H : Hp) (ag : Args) (us : List Value) (vs : List V) (Q : VK) (E : XK),
    NoG A → Room k A → Env0 P w K mg base A around st H → BindsTo st fd ag (ps.zip us) → Vals vs us → sp vs H Q E →
    codeAny (model P w) A (.call (.ref f) ag) (CR CX around P w H st Q E) st

section
variable {X : Cx} {CX : CXT} {k : Nat} {f : Addr} {fd : FuncData} {ps : List Str} {sp : Sp} {E : XK} {x : Str} {p pos : Pos} {e : Expr} {es : List Expr} {t : TA}

theorem goes_fn {pins : List (Addr × Obj)} {sl : L2.St} {H : Hp} {st : Shared} {Q : VK} {us : List Value} {vs : List V}
    (F : FnG X.prog X.w X.K X.mg X.base CX k f fd ps sp) (g : NoG X.A) (hr : Room k X.A) (hb : Binds X.K fd ps []) (hx : Passes CX X E)
    (I : Inv X pins sl H st) (rv : Vals vs us) (h : sp vs H Q E) :
    wpAny (model X.prog X.w) X.A (call (.ref f) us) (EP X pins sl Q) X.xe st := by
  have same : us ++ [] = us := List.append_nil us
  have fits : (us ++ []).length = ps.length := by
    rw [same, ← rv.length]
    exact F.many _ _ _ _ h
  have bound := hb st us I.kIn fits
  rw [same] at bound
  refine wpAny_call (codeAny_mono (F.goes X.A X.stack st H ⟨us, []⟩ us vs Q E g hr I.env0 bound rv h) ?_)
  intro res st2 done
  match res, done with
  | .error er, done => exact hx pins sl H st er st2 I done
  | .ok (.ret u), done => exact I.after done

theorem pe_callG (F : FnG X.prog X.w X.K X.mg X.base CX k f fd ps sp) (g : NoG X.A) (hr : Room k X.A) (hg : Gl X x) (hm : X.mg x = some (.ref f)) (hk : PySem.W.keepIn X.K (.ref f) = true)
    (hb : Binds X.K fd ps []) (hx : Passes CX X E) (ha : PA X (e :: es) t) (hdb : (x == ("__debug__" : Str)) = false := by decide)
    (first : starEach (e :: es) X.env = (false, eval e X.env) :: starEach es X.env := by rfl) (flat : (backTo pos (starEach es X.env)).any (·.1) = false := by rfl) :
    PE X (.Call (.Name x p) (e :: es) [] pos) (tCall sp [] E t) := by
  constructor
  intro pins st sl H Q I h
  refine wpAny_Call_Name_kw (ld_glob I hg hm ?_ hdb)
  have args := thn (ha.run pos pins st sl H _ I h) (fun us st1 (w : AP X pins sl _ us st1) => w)
  refine PySem.W.callWith_K (h₀ := X.base) I.ok.mod.kin hk (thn args fun us st1 got => ?_) first flat
  obtain ⟨vs, H1, I1, rv, q⟩ := got
  have q' : sp vs H1 Q E := by
    have z : sp (vs ++ []) H1 Q E := q
    rwa [List.append_nil] at z
  exact ⟨I1.kIn, goes_fn F g hr hb hx I1 rv q'⟩
end

/-- a def of the text, by its body -/
theorem fn_g {CX : CXT} {P : Program} {w : World} {K : PySem.W.Frag} {mg : Str → Option Value} {base : Heap} {k : Nat} {f : Addr} {name qual : Str} {params : Arguments} {body : List Stmt} {scope : Scope}
    {dV kV doc pm cdv ct oc : Value} {an od : Option Addr} {osl : Array (Option Value)} {N ps : List Str} {sp : Sp}
    (lk : K.lookup f = some ⟨oc, od, .func (PySem.W.fnOf name qual params body scope dV kV doc pm an cdv ct), osl⟩) (hcd : PySem.W.codeIn K cdv qual = true) (S : FnScope N ps scope)
    (many : ∀ vs H Q E, sp vs H Q E → vs.length = ps.length)
    (inside : ∀ (A : Around) (around : List Env) (st : Shared) (H : Hp) (vs : List V) (Q : VK) (E : XK), NoG (A.deeper (envOfC qual scope st.heap.objs.size f cdv)) →
      Room k (A.deeper (envOfC qual scope st.heap.objs.size f cdv)) → sp vs H Q E →
      ∃ t, PSs (cxOf CX P w K mg base N qual scope f cdv A around st H E) body t ∧ t { nx := fun _ H' => Q .non H', rt := Q } (start N vs) H) :
    FnG P w K mg base CX (k + 1) f (PySem.W.fnOf name qual params body scope dV kV doc pm an cdv ct) ps sp := by
  constructor
  · exact many
  intro A around st H ag us vs Q E g hr e0 bound rv asked
  have stays : ∀ b o, base.get? b = some o → st.heap.get? b = some o := fun b o z => (e0.bs b o z).1
  have KX : K.In st.heap := e0.mod.kin.keeps stays
  have lim : st.heap.NoLimit := e0.mod.nolimit.keeps stays
  have kinds : ∀ y ∈ ps.zip us, scope.names.lookup y.1 = some .local ∨ (scope.names.lookup y.1 = some .cell ∧ ((cellsFrom (st.heap.objs.size + 1) scope.names []).lookup y.1).isSome = true) := by
    intro y hy
    have hm : y.1 ∈ ps := (List.of_mem_zip (a := y.1) (b := y.2) hy).1
    cases S.par y.1 hm with
    | inl q => exact Or.inl q
    | inr q => exact Or.inr ⟨q, PySem.W.cellsFrom_some _ _ _ (Or.inl q)⟩
  refine codeAny_call_function hr.depth (KX _ _ lk) rfl S.co S.gen rfl (PySem.W.codeRec_of KX hcd) (bound _ _ _ _ ?_)
  refine wpAny_newFunctionEnv_cells S.kind kinds ?_
  intro env he st1 entered
  subst he
  refine ⟨lim.keeps entered.toInCall.keep, codeAny_func ?_⟩
  obtain ⟨t, runs, wanted⟩ := inside A around st H vs Q E g (hr.deeper _) asked
  have I0 : Inv (cxOf CX P w K mg base N qual scope f cdv A around st H E) [] (start N vs) H st1 := inv_start S hr.hd e0 (many _ _ _ _ asked) rv entered
  refine wpAny_mono (runs.run [] st1 (start N vs) H _ I0 wanted) ?_ (fun er st2 z => z)
  intro fl st2 z
  cases fl with
  | ret u =>
    obtain ⟨v, sl', H', J, r, q⟩ := z
    exact ⟨v, H', J.os, J.bare, J.base, J.hok, r, q⟩
  | next =>
    obtain ⟨sl', H', J, q⟩ := z
    exact ⟨V.non, H', J.os, J.bare, J.base, J.hok, rfl, q⟩
  | brk =>
    obtain ⟨_, _, _, q⟩ := z
    exact False.elim q
  | cont =>
    obtain ⟨_, _, _, q⟩ := z
    exact False.elim q

/-- the same by the text's place -/
theorem okG {P : Program} {w : World} {K : PySem.W.Frag} {mg : Str → Option Value} {base : Heap} {x qual : Str} {st : Stmt} {f : Addr} {fd : FuncData} {N ps : List Str} {k : Nat} {sp : Sp}
    (F : Fun K x qual st f fd) (S : FnScope N ps (defScope st)) (many : ∀ vs H Q E, sp vs H Q E → vs.length = ps.length)
    (inside : ∀ (cdv : Value) (A : Around) (around : List Env) (s : Shared) (H : Hp) (vs : List V) (Q : VK) (E : XK), NoG (A.deeper (envOfC qual (defScope st) s.heap.objs.size f cdv)) →
      Room k (A.deeper (envOfC qual (defScope st) s.heap.objs.size f cdv)) → sp vs H Q E →
      ∃ t, PSs (cxOf CX0 P w K mg base N qual (defScope st) f cdv A around s H E).nox (defBody st) t ∧ t { nx := fun _ H' => Q .non H', rt := Q } (start N vs) H) :
    FnG P w K mg base CX0 (k + 1) f fd ps sp := by
  obtain ⟨oc, od, kV, doc, pm, an, cdv, ct, osl, same, lk, hcd⟩ := F.ex
  subst same
  refine fn_g lk hcd S many ?_
  intro A around s H vs Q E g hr asked
  obtain ⟨t, body, wanted⟩ := inside cdv A around s H vs Q E g hr asked
  exact ⟨t, body.nox, wanted⟩

/-- what callers that never show data may still use -/
theorem FnG.of {P : Program} {w : World} {K : PySem.W.Frag} {mg : Str → Option Value} {base : Heap} {CX : CXT} {k : Nat} {f : Addr} {fd : FuncData} {ps : List Str} {sp : Sp}
    (F : FnOk P w K mg base CX k f fd ps sp) : FnG P w K mg base CX k f fd ps sp :=
  ⟨F.len, fun A around st H ag us vs Q E _ => F.run A around st H ag us vs Q E⟩
end Md

/-! Data as trees, and what of the heap stands for them. -/
namespace Tr
open PySem PySem.Spec PyProof.Rows L2 Md

/-- where the own classes stand; the program and the world that sets are told by -/
structure CA where
  ad : Str → Addr
  P : Program
  w : World
instance : CoeFun CA fun _ => Str → Addr := ⟨CA.ad⟩
/-- what a set holds -/
def inK (ks : List Key) : Key → Bool := fun k => ks.any fun j => decide (k = j)
/-- data, without addresses -/
inductive D where
  | non
  | bl (b : Bool)
  | int (i : Int)
  | str (x : Str)
  | lst (xs : List D)
  | tup (xs : List D)
  | dct (kvs : List (Key × D))
  | ins (c : Str) (fs : List (Str × D))
  | set (ks : List Key)
  /-- the error that a suite holds: its place, class, dict's place and value -/
  | err (a : Addr) (c : Str) (x : Addr) (d : D)

mutual
/-- v stands for the tree; none of its changeable objects is in S -/
inductive Rep (K : PySem.W.Frag) (ca : CA) (S : Addr → Prop) (H : Hp) : V → D → Prop
  | non : Rep K ca S H .non .non
  | bl (b : Bool) : Rep K ca S H (.bl b) (.bl b)
  | int (i : Int) : Rep K ca S H (.int i) (.int i)
  | str (x : Str) : Rep K ca S H (.str x) (.str x)
  | lst {a : Addr} {vs : List V} {ds : List D} : ¬ S a → H a = some (.lst vs) → RepL K ca S H vs ds → Rep K ca S H (.ref a) (.lst ds)
  | tup {a : Addr} {vs : List V} {ds : List D} : SqT K H a vs → RepL K ca S H vs ds → Rep K ca S H (.ref a) (.tup ds)
  | dct {a : Addr} {kvs : List (Key × V)} {es : List (Key × D)} : ¬ S a → H a = some (.dK kvs) → RepK K ca S H kvs es → Rep K ca S H (.ref a) (.dct es)
  | ins {a dx : Addr} {c : Str} {fs : List (Str × V)} {es : List (Str × D)} : ¬ S a → H a = some (.ins (ca c) dx fs) → RepF K ca S H fs es → Rep K ca S H (.ref a) (.ins c es)
  | set {a : Addr} {ks : List Key} : ¬ S a → H a = some (SetK ca.P ca.w a (inK ks) ks.length) → Rep K ca S H (.ref a) (.set ks)
  | err {a x : Addr} {c : Str} {v : V} {d : D} : H x = some (.xd [("value", v)]) → Rep K ca S H v d → Rep K ca S H (.ref a) (.err a c x d)
inductive RepL (K : PySem.W.Frag) (ca : CA) (S : Addr → Prop) (H : Hp) : List V → List D → Prop
  | nil : RepL K ca S H [] []
  | cons {v : V} {d : D} {vs : List V} {ds : List D} : Rep K ca S H v d → RepL K ca S H vs ds → RepL K ca S H (v :: vs) (d :: ds)
inductive RepK (K : PySem.W.Frag) (ca : CA) (S : Addr → Prop) (H : Hp) : List (Key × V) → List (Key × D) → Prop
  | nil : RepK K ca S H [] []
  | cons {k : Key} {v : V} {d : D} {vs : List (Key × V)} {ds : List (Key × D)} : Rep K ca S H v d → RepK K ca S H vs ds → RepK K ca S H ((k, v) :: vs) ((k, d) :: ds)
inductive RepF (K : PySem.W.Frag) (ca : CA) (S : Addr → Prop) (H : Hp) : List (Str × V) → List (Str × D) → Prop
  | nil : RepF K ca S H [] []
  | cons {k : Str} {v : V} {d : D} {vs : List (Str × V)} {ds : List (Str × D)} : Rep K ca S H v d → RepF K ca S H vs ds → RepF K ca S H ((k, v) :: vs) ((k, d) :: ds)
end

/-- objects that never change -/
def tupO : HO → Bool
  | .tup _ => true
  | .frz _ (.tup _) => true
  | .xd _ => true
  | _ => false
/-- all but what is in S is kept, tuples in any case -/
def Kp (S : Addr → Prop) (H H' : Hp) : Prop := ∀ b o, H b = some o → (S b → tupO o = true) → H' b = some o
theorem Kp.of {S : Addr → Prop} {H H' : Hp} (s : Same H H') : Kp S H H' := fun b o h _ => s b o h

section
variable {K : PySem.W.Frag} {ca : CA} {S S' : Addr → Prop} {H H' : Hp}
theorem sqT_keep {a : Addr} {vs : List V} (r : SqT K H a vs) (k : Kp S H H') : SqT K H' a vs := by
  rcases r with (h | ⟨o, h⟩) | h
  · exact .inl (.inl (k _ _ h fun _ => rfl))
  · exact .inl (.inr ⟨o, k _ _ h fun _ => rfl⟩)
  · exact .inr h
theorem out_keep {a : Addr} (hs : ∀ a, S' a → S a ∨ H a = none) (n : ¬ S a) (t : H a ≠ none) : ¬ S' a := fun z => (hs a z).elim n t
mutual
theorem Rep.step (hs : ∀ a, S' a → S a ∨ H a = none) (k : Kp S H H') : ∀ {d : D} {v : V}, Rep K ca S H v d → Rep K ca S' H' v d
  | .non, _, h => by
    cases h
    exact .non
  | .bl b, _, h => by
    cases h
    exact .bl b
  | .int i, _, h => by
    cases h
    exact .int i
  | .str x, _, h => by
    cases h
    exact .str x
  | .lst ds, _, h => by
    cases h with
    | lst n r l => exact .lst (out_keep hs n (by rw [r]; exact fun z => nomatch z)) (k _ _ r fun s => absurd s n) (RepL.step hs k l)
  | .tup ds, _, h => by
    cases h with
    | tup r l => exact .tup (sqT_keep r k) (RepL.step hs k l)
  | .dct es, _, h => by
    cases h with
    | dct n r l => exact .dct (out_keep hs n (by rw [r]; exact fun z => nomatch z)) (k _ _ r fun s => absurd s n) (RepK.step hs k l)
  | .ins c es, _, h => by
    cases h with
    | ins n r l => exact .ins (out_keep hs n (by rw [r]; exact fun z => nomatch z)) (k _ _ r fun s => absurd s n) (RepF.step hs k l)
  | .set ks, _, h => by
    cases h with
    | set n r => exact .set (out_keep hs n (by rw [r]; exact fun z => nomatch z)) (k _ _ r fun s => absurd s n)
  | .err a c x d, _, h => by
    cases h with
    | err r l => exact .err (k _ _ r fun _ => rfl) (Rep.step hs k l)
theorem RepL.step (hs : ∀ a, S' a → S a ∨ H a = none) (k : Kp S H H') : ∀ {ds : List D} {vs : List V}, RepL K ca S H vs ds → RepL K ca S' H' vs ds
  | [], _, h => by
    cases h
    exact .nil
  | d :: ds, _, h => by
    cases h with
    | cons a t => exact .cons (Rep.step hs k a) (RepL.step hs k t)
theorem RepK.step (hs : ∀ a, S' a → S a ∨ H a = none) (k : Kp S H H') : ∀ {ds : List (Key × D)} {vs : List (Key × V)}, RepK K ca S H vs ds → RepK K ca S' H' vs ds
  | [], _, h => by
    cases h
    exact .nil
  | (x, d) :: ds, _, h => by
    cases h with
    | cons a t => exact .cons (Rep.step hs k a) (RepK.step hs k t)
theorem RepF.step (hs : ∀ a, S' a → S a ∨ H a = none) (k : Kp S H H') : ∀ {ds : List (Str × D)} {vs : List (Str × V)}, RepF K ca S H vs ds → RepF K ca S' H' vs ds
  | [], _, h => by
    cases h
    exact .nil
  | (x, d) :: ds, _, h => by
    cases h with
    | cons a t => exact .cons (Rep.step hs k a) (RepF.step hs k t)
end
theorem RepL.paired : ∀ {vs : List V} {ds : List D}, RepL K ca S H vs ds → Paired (Rep K ca S H) vs ds
  | [], ds, h => by
    cases h
    exact .nil
  | v :: vs, ds, h => by
    cases h with
    | cons a t => exact .cons a (RepL.paired t)
theorem RepL.of : ∀ {vs : List V} {ds : List D}, Paired (Rep K ca S H) vs ds → RepL K ca S H vs ds
  | _, _, .nil => .nil
  | _, _, .cons a t => .cons a (RepL.of t)
theorem RepL.length {vs : List V} {ds : List D} (h : RepL K ca S H vs ds) : vs.length = ds.length := Paired.length h.paired
theorem RepK.length : ∀ {vs : List (Key × V)} {ds : List (Key × D)}, RepK K ca S H vs ds → vs.length = ds.length
  | [], ds, h => by
    cases h
    rfl
  | v :: vs, ds, h => by
    cases h with
    | cons a t => simp [RepK.length t]
theorem RepL.get : ∀ {vs : List V} {ds : List D} {i : Nat} {d : D}, RepL K ca S H vs ds → ds[i]? = some d → ∃ v, vs[i]? = some v ∧ Rep K ca S H v d
  | _, _, _, _, .nil, e => by simp at e
  | _, _, 0, d, .cons a t, e => by
    simp at e
    subst e
    exact ⟨_, rfl, a⟩
  | _, _, i + 1, d, .cons a t, e => by
    obtain ⟨v, h1, h2⟩ := RepL.get (i := i) t (by simpa using e)
    exact ⟨v, by simpa using h1, h2⟩
theorem RepL.append : ∀ {vs ws : List V} {ds es : List D}, RepL K ca S H vs ds → RepL K ca S H ws es → RepL K ca S H (vs ++ ws) (ds ++ es)
  | _, _, _, _, .nil, h => h
  | _, _, _, _, .cons a t, h => .cons a (RepL.append t h)
theorem RepL.snoc {vs : List V} {v : V} {ds : List D} {d : D} (h : RepL K ca S H vs ds) (r : Rep K ca S H v d) : RepL K ca S H (vs ++ [v]) (ds ++ [d]) := h.append (.cons r .nil)
theorem RepL.take : ∀ {vs : List V} {ds : List D} (n : Nat), RepL K ca S H vs ds → RepL K ca S H (vs.take n) (ds.take n)
  | _, _, 0, _ => .nil
  | _, _, n + 1, .nil => .nil
  | _, _, n + 1, .cons a t => .cons a (RepL.take n t)
theorem RepL.drop : ∀ {vs : List V} {ds : List D} (n : Nat), RepL K ca S H vs ds → RepL K ca S H (vs.drop n) (ds.drop n)
  | _, _, 0, h => h
  | _, _, n + 1, .nil => .nil
  | _, _, n + 1, .cons a t => RepL.drop n t
theorem RepL.reverse : ∀ {vs : List V} {ds : List D}, RepL K ca S H vs ds → RepL K ca S H vs.reverse ds.reverse
  | _, _, .nil => .nil
  | _, _, .cons a t => by
    rw [List.reverse_cons, List.reverse_cons]
    exact (RepL.reverse t).snoc a
theorem RepL.set {v : V} {d : D} (r : Rep K ca S H v d) : ∀ {vs : List V} {ds : List D} (i : Nat), RepL K ca S H vs ds → RepL K ca S H (vs.set i v) (ds.set i d)
  | _, _, _, .nil => .nil
  | _, _, 0, .cons a t => .cons r t
  | _, _, i + 1, .cons a t => .cons a (RepL.set r i t)
theorem RepL.dropLast : ∀ {vs : List V} {ds : List D}, RepL K ca S H vs ds → RepL K ca S H vs.dropLast ds.dropLast := fun {vs ds} h => by
  rw [List.dropLast_eq_take, List.dropLast_eq_take, h.length]
  exact h.take _
theorem RepL.ints {vs : List V} : ∀ {ns : List Int}, RepL K ca S H vs (ns.map D.int) → vs = ns.map V.int := fun {ns} h => by
  induction ns generalizing vs with
  | nil => cases h; rfl
  | cons n ns ih =>
    cases h with
    | cons a t =>
      cases a
      rw [ih t]
      rfl
theorem RepF.lookup : ∀ {fs : List (Str × V)} {es : List (Str × D)} {f : Str} {d : D}, RepF K ca S H fs es → es.lookup f = some d → ∃ v, fs.lookup f = some v ∧ Rep K ca S H v d
  | _, _, _, _, .nil, e => by simp at e
  | _, _, f, d, .cons (k := k) a t, e => by
    rw [List.lookup_cons] at e ⊢
    cases q : f == k with
    | true =>
      rw [q] at e
      simp only [Option.some.injEq] at e
      subst e
      exact ⟨_, rfl, a⟩
    | false =>
      rw [q] at e
      exact RepF.lookup t e
end

/-! ### slots and what they own -/
/-- a slot: unknown, or a tree and a flag: 0 shared; 1 a local's own object; 2 a parameter's own object, lent by the caller; 3 a parameter's object that has been given away -/
abbrev Slot := Option (D × Nat)
abbrev TEnv := List Slot
def ownF (k : Nat) : Bool := k == 1 || k == 2
def dem : Nat → Nat
  | 1 => 0
  | 2 => 3
  | k => k
theorem ownF_dem (k : Nat) : ownF (dem k) = false := by
  match k with
  | 0 => rfl
  | 1 => rfl
  | 2 => rfl
  | k + 3 => rfl
theorem ownF_cases {k : Nat} (h : ownF k = true) : k = 1 ∨ k = 2 := by
  match k with
  | 0 => cases h
  | 1 => exact .inl rfl
  | 2 => exact .inr rfl
  | k + 3 => cases h
def Own (σ : L2.St) (ε : TEnv) (a : Addr) : Prop := ∃ (i : Nat) (d : D) (k : Nat), ε[i]? = some (some (d, k)) ∧ ownF k = true ∧ σ[i]? = some (some (V.ref a))
/-- the object at a stands for the tree, and may be changed -/
def Top (K : PySem.W.Frag) (ca : CA) (S : Addr → Prop) (H : Hp) (a : Addr) : D → Prop
  | .lst ds => ∃ vs, H a = some (.lst vs) ∧ RepL K ca S H vs ds
  | .dct es => ∃ kvs, H a = some (.dK kvs) ∧ RepK K ca S H kvs es
  | .ins c es => ∃ dx fs, H a = some (.ins (ca c) dx fs) ∧ RepF K ca S H fs es
  | .set ks => H a = some (SetK ca.P ca.w a (inK ks) ks.length)
  | _ => False
abbrev Or2 (O P : Addr → Prop) : Addr → Prop := fun a => O a ∨ P a
structure EnvR (K : PySem.W.Frag) (ca : CA) (O : Addr → Prop) (H : Hp) (σ : L2.St) (ε : TEnv) : Prop where
  len : ε.length = σ.length
  shr : ∀ (i : Nat) (d : D) (k : Nat), ε[i]? = some (some (d, k)) → ownF k = false → ∃ v, σ[i]? = some (some v) ∧ Rep K ca (Or2 O (Own σ ε)) H v d
  own : ∀ (i : Nat) (d : D) (k : Nat), ε[i]? = some (some (d, k)) → ownF k = true → ∃ a, σ[i]? = some (some (.ref a)) ∧ ¬ O a ∧ Top K ca (Or2 O (Own σ ε)) H a d
  inj : ∀ (i j : Nat) (d : D) (k : Nat) (d' : D) (k' : Nat) (a : Addr), ε[i]? = some (some (d, k)) → ownF k = true → ε[j]? = some (some (d', k')) → ownF k' = true → σ[i]? = some (some (.ref a)) → σ[j]? = some (some (.ref a)) → i = j
  out : ∀ a, O a → H a ≠ none

section
variable {K : PySem.W.Frag} {ca : CA} {O S S' : Addr → Prop} {H H' H1 : Hp} {σ : L2.St} {ε ε' : TEnv} {a : Addr} {d : D}
theorem Top.there (t : Top K ca S H a d) : H a ≠ none := fun z => by
  cases d with
  | lst ds => obtain ⟨vs, h, _⟩ := t; rw [z] at h; cases h
  | dct es => obtain ⟨vs, h, _⟩ := t; rw [z] at h; cases h
  | ins c es => obtain ⟨dx, vs, h, _⟩ := t; rw [z] at h; cases h
  | set ks => rw [show H a = _ from t] at z; cases z
  | _ => exact t
/-- it is none of those that never change -/
theorem Top.mut (t : Top K ca S H a d) {o : HO} (h : H a = some o) : tupO o = false := by
  cases d with
  | lst ds => obtain ⟨vs, e, _⟩ := t; rw [e] at h; cases h; rfl
  | dct es => obtain ⟨vs, e, _⟩ := t; rw [e] at h; cases h; rfl
  | ins c es => obtain ⟨dx, vs, e, _⟩ := t; rw [e] at h; cases h; rfl
  | set ks => rw [show H a = _ from t] at h; cases h; rfl
  | _ => exact t.elim
theorem Top.step (t : Top K ca S H a d) (hs : ∀ a, S' a → S a ∨ H a = none) (k : Kp S H H') (e : ∀ o, H a = some o → H' a = some o) : Top K ca S' H' a d := by
  cases d with
  | lst ds => obtain ⟨vs, h, r⟩ := t; exact ⟨vs, e _ h, r.step hs k⟩
  | dct es => obtain ⟨vs, h, r⟩ := t; exact ⟨vs, e _ h, r.step hs k⟩
  | ins c es => obtain ⟨dx, vs, h, r⟩ := t; exact ⟨dx, vs, e _ h, r.step hs k⟩
  | set ks => exact e _ t
  | _ => exact t
/-- .. and may be read -/
theorem Top.rep (t : Top K ca S H a d) (n : ¬ S' a) (hs : ∀ a, S' a → S a ∨ H a = none) : Rep K ca S' H (.ref a) d := by
  have kk : Kp S H H := fun _ _ h _ => h
  cases d with
  | lst ds => obtain ⟨vs, h, r⟩ := t; exact .lst n h (r.step hs kk)
  | dct es => obtain ⟨vs, h, r⟩ := t; exact .dct n h (r.step hs kk)
  | ins c es => obtain ⟨dx, vs, h, r⟩ := t; exact .ins n h (r.step hs kk)
  | set ks => exact .set n t
  | _ => exact t.elim
theorem EnvR.owned (E : EnvR K ca O H σ ε) (h : Own σ ε a) : ¬ O a ∧ ∃ d, Top K ca (Or2 O (Own σ ε)) H a d := by
  obtain ⟨i, d, k, h1, h2, h3⟩ := h
  obtain ⟨b, e, n, t⟩ := E.own i d k h1 h2
  rw [h3] at e
  cases e
  exact ⟨n, d, t⟩
theorem EnvR.there (E : EnvR K ca O H σ ε) (h : Or2 O (Own σ ε) a) : H a ≠ none := by
  rcases h with h | h
  · exact E.out a h
  · obtain ⟨_, d, t⟩ := E.owned h
    exact t.there
/-- a change of owned objects alone keeps what does not lean on them -/
theorem EnvR.kp (E : EnvR K ca O H σ ε) (fr : ∀ b o, H b = some o → ¬ Own σ ε b → H' b = some o) : Kp (Or2 O (Own σ ε)) H H' := fun b o h t => by
  refine fr b o h fun z => ?_
  obtain ⟨_, d, tp⟩ := E.owned z
  rw [tp.mut h] at t
  exact absurd (t (.inr z)) Bool.false_ne_true
end

/-! ### steps of an expression: the slots' values stay, owned objects may change or be given away -/
def leS : Slot → Slot → Prop
  | none, s => s = none
  | some (d, k), s => ∃ d' k', s = some (d', k') ∧ (ownF k = false → d' = d ∧ k' = k) ∧ (ownF k = true → k' = k ∨ k' = dem k)
structure Le (ε ε' : TEnv) : Prop where
  len : ε'.length = ε.length
  at_ : ∀ (i : Nat) (s : Slot), ε[i]? = some s → ∃ s', ε'[i]? = some s' ∧ leS s s'
theorem leS.refl : ∀ s : Slot, leS s s
  | none => rfl
  | some (d, k) => ⟨d, k, rfl, fun _ => ⟨rfl, rfl⟩, fun _ => .inl rfl⟩
theorem leS.trans : ∀ {s t u : Slot}, leS s t → leS t u → leS s u
  | none, t, u, h, h2 => by
    have e : t = none := h
    subst e
    exact h2
  | some (d, k), t, u, h, h2 => by
    obtain ⟨d1, k1, e1, a1, b1⟩ := h
    subst e1
    obtain ⟨d2, k2, e2, a2, b2⟩ := h2
    refine ⟨d2, k2, e2, fun z => ?_, fun z => ?_⟩
    · obtain ⟨e3, e4⟩ := a1 z
      subst e3 e4
      exact a2 z
    · rcases b1 z with e | e
      · subst e
        exact b2 z
      · subst e
        exact .inr (a2 (ownF_dem k)).2
theorem Le.refl (ε : TEnv) : Le ε ε := ⟨rfl, fun i s h => ⟨s, h, leS.refl s⟩⟩
theorem Le.trans {ε ε1 ε2 : TEnv} (a : Le ε ε1) (b : Le ε1 ε2) : Le ε ε2 := ⟨b.len.trans a.len, fun i s h => by
  obtain ⟨s1, h1, l1⟩ := a.at_ i s h
  obtain ⟨s2, h2, l2⟩ := b.at_ i s1 h1
  exact ⟨s2, h2, l1.trans l2⟩⟩
/-- what is owned then was owned before -/
theorem Le.own {ε ε' : TEnv} {σ : L2.St} {a : Addr} (l : Le ε ε') (h : Own σ ε' a) : Own σ ε a := by
  obtain ⟨i, d, k, h1, h2, h3⟩ := h
  have hi : i < ε.length := by
    rw [← l.len]
    exact (List.getElem?_eq_some_iff.mp h1).1
  obtain ⟨s', e, le⟩ := l.at_ i ε[i] (List.getElem?_eq_getElem hi)
  rw [h1] at e
  cases e
  cases q : ε[i] with
  | none =>
    rw [q] at le
    cases (show some (d, k) = none from le)
  | some p =>
    obtain ⟨d0, k0⟩ := p
    rw [q] at le
    obtain ⟨d1, k1, e1, a1, b1⟩ := le
    cases e1
    refine ⟨i, d0, k0, by rw [List.getElem?_eq_getElem hi, q], ?_, h3⟩
    cases z : ownF k0 with
    | true => rfl
    | false =>
      obtain ⟨_, e2⟩ := a1 z
      subst e2
      rw [z] at h2
      cases h2
structure Stp (K : PySem.W.Frag) (ca : CA) (O : Addr → Prop) (σ : L2.St) (ε : TEnv) (H : Hp) (ε' : TEnv) (H' : Hp) : Prop where
  le : Le ε ε'
  fr : ∀ b o, H b = some o → ¬ Own σ ε b → H' b = some o
  th : ∀ b, H' b = none → H b = none
  env : EnvR K ca O H' σ ε'
section
variable {K : PySem.W.Frag} {ca : CA} {O : Addr → Prop} {H H1 H2 H' : Hp} {σ : L2.St} {ε ε1 ε2 ε' : TEnv} {a : Addr} {d : D} {v : V}
theorem Stp.refl (E : EnvR K ca O H σ ε) : Stp K ca O σ ε H ε H := ⟨Le.refl _, fun _ _ h _ => h, fun _ h => h, E⟩
theorem Stp.trans (a : Stp K ca O σ ε H ε1 H1) (b : Stp K ca O σ ε1 H1 ε2 H2) : Stp K ca O σ ε H ε2 H2 :=
  ⟨a.le.trans b.le, fun c o h n => b.fr c o (a.fr c o h n) fun z => n (a.le.own z), fun c h => a.th c (b.th c h), b.env⟩
/-- the outer set and the owned ones, behind a step -/
theorem Stp.sub (s : Stp K ca O σ ε H ε' H') : ∀ a, Or2 O (Own σ ε') a → Or2 O (Own σ ε) a ∨ H a = none := fun a z => .inl (z.elim .inl fun y => .inr (s.le.own y))
theorem Stp.rep (s : Stp K ca O σ ε H ε' H') (E : EnvR K ca O H σ ε) (r : Rep K ca (Or2 O (Own σ ε)) H v d) : Rep K ca (Or2 O (Own σ ε')) H' v d := r.step s.sub (E.kp s.fr)
theorem Stp.repL (s : Stp K ca O σ ε H ε' H') (E : EnvR K ca O H σ ε) {vs : List V} {ds : List D} (r : RepL K ca (Or2 O (Own σ ε)) H vs ds) : RepL K ca (Or2 O (Own σ ε')) H' vs ds := r.step s.sub (E.kp s.fr)
/-- new objects alone -/
theorem EnvR.same (E : EnvR K ca O H σ ε) (s : Same H H') : EnvR K ca O H' σ ε := by
  have kk : Kp (Or2 O (Own σ ε)) H H' := Kp.of s
  refine ⟨E.len, fun i d k h n => ?_, fun i d k h n => ?_, E.inj, fun a z y => ?_⟩
  · obtain ⟨v, e, r⟩ := E.shr i d k h n
    exact ⟨v, e, r.step (fun _ z => .inl z) kk⟩
  · obtain ⟨a, e, no, t⟩ := E.own i d k h n
    exact ⟨a, e, no, t.step (fun _ z => .inl z) kk fun o q => s _ _ q⟩
  · exact E.out a z (s.free y)
theorem Stp.same (E : EnvR K ca O H σ ε) (s : Same H H') : Stp K ca O σ ε H ε H' := ⟨Le.refl _, fun b o h _ => s b o h, fun _ h => s.free h, E.same s⟩
end
end Tr

/-! Expressions as functions of slots. -/
namespace Tr
open PySem PySem.Spec PyProof.Rows L2 Md

inductive R (α : Type) where
  | ok (a : α) (ε : TEnv)
  | ex (c : Str) (d : D) (ε : TEnv)
abbrev ET := TEnv → Option (R (D × Bool))
def bindE {α β : Type} (r : Option (R α)) (f : α → TEnv → Option (R β)) : Option (R β) :=
  match r with
  | some (.ok a ε) => f a ε
  | some (.ex c d ε) => some (.ex c d ε)
  | none => none
@[simp] theorem bindE_ok {α β : Type} {a : α} {ε : TEnv} {f : α → TEnv → Option (R β)} : bindE (some (.ok a ε)) f = f a ε := rfl
@[simp] theorem bindE_ex {α β : Type} {c : Str} {d : D} {ε : TEnv} {f : α → TEnv → Option (R β)} : bindE (some (.ex c d ε)) f = some (.ex c d ε) := rfl
@[simp] theorem bindE_none {α β : Type} {f : α → TEnv → Option (R β)} : bindE none f = none := rfl

def With (O : Addr → Prop) (a : Addr) : Addr → Prop := fun b => O b ∨ b = a
/-- a value for a tree: shared, or (true) an object of its own that nothing else leans on -/
def ResR (K : PySem.W.Frag) (ca : CA) (O : Addr → Prop) (σ : L2.St) (ε : TEnv) (H0 H : Hp) (v : V) : D × Bool → Prop
  | (d, false) => Rep K ca (Or2 O (Own σ ε)) H v d
  | (d, true) => ∃ a, v = .ref a ∧ H0 a = none ∧ ¬ O a ∧ ¬ Own σ ε a ∧ Top K ca (Or2 (With O a) (Own σ ε)) H a d ∧ EnvR K ca (With O a) H σ ε
/-- how an error with a tree leaves -/
def Err (K : PySem.W.Frag) (ca : CA) (W : WX) (O : Addr → Prop) (σ : L2.St) (ε : TEnv) (H : Hp) (c : Str) (d : D) (ε' : TEnv) : Prop :=
  ∀ x v H', Stp K ca O σ ε H ε' H' → H' x = some (.xd [("value", v)]) → Rep K ca (Or2 O (Own σ ε')) H' v d → W (.ref (ca c)) (some x) σ H'
def PostE (K : PySem.W.Frag) (ca : CA) (W : WX) (O : Addr → Prop) (σ : L2.St) (ε : TEnv) (H : Hp) (r : R (D × Bool)) (Q : VK) : Prop :=
  match r with
  | .ok d ε' => ∀ v H', Stp K ca O σ ε H ε' H' → ResR K ca O σ ε' H H' v d → Q v H'
  | .ex c d ε' => Err K ca W O σ ε H c d ε'
/-- what must hold so that an expression gives what its function tells -/
def tEv (K : PySem.W.Frag) (ca : CA) (W : WX) (g : ET) : TE := fun σ H Q => ∃ O ε r, EnvR K ca O H σ ε ∧ g ε = some r ∧ PostE K ca W O σ ε H r Q

theorem peWeak {X : Cx} {e : Expr} {t t' : TE} (h : PE X e t) (w : ∀ σ H Q, t' σ H Q → t σ H Q) : PE X e t' := ⟨fun pins s σ H Q I q => h.run pins s σ H Q I (w σ H Q q)⟩

section
variable {K : PySem.W.Frag} {ca : CA} {W : WX} {O S : Addr → Prop} {H H1 H2 H' : Hp} {σ : L2.St} {ε ε1 ε' : TEnv} {a : Addr} {d : D} {v : V} {Q : VK}
theorem ResR.rep {d : D × Bool} {H0 : Hp} (r : ResR K ca O σ ε H0 H v d) : Rep K ca (Or2 O (Own σ ε)) H v d.1 := by
  obtain ⟨d, f⟩ := d
  cases f with
  | false => exact r
  | true =>
    obtain ⟨a, rfl, _, n1, n2, t, _⟩ := r
    exact t.rep (fun z => z.elim n1 n2) fun b z => .inl (z.elim (fun y => .inl (.inl y)) .inr)
theorem ResR.old {d : D × Bool} {H0 G : Hp} (r : ResR K ca O σ ε H0 H v d) (th : ∀ b, H0 b = none → G b = none) : ResR K ca O σ ε G H v d := by
  obtain ⟨d, f⟩ := d
  cases f with
  | false => exact r
  | true =>
    obtain ⟨a, e, n, z⟩ := r
    exact ⟨a, e, th a n, z⟩
/-- a later state may let the error out too -/
theorem Err.later (p : Err K ca W O σ ε H c d ε') (s : Stp K ca O σ ε H ε1 H1) : Err K ca W O σ ε1 H1 c d ε' := fun x v H' s2 hx r => p x v H' (s.trans s2) hx r
theorem PostE.later {r : R (D × Bool)} (p : PostE K ca W O σ ε H r Q) (s : Stp K ca O σ ε H ε1 H1) : PostE K ca W O σ ε1 H1 r Q := by
  cases r with
  | ok d ε' => exact fun v H' s2 q => p v H' (s.trans s2) (q.old s.th)
  | ex c d ε' => exact Err.later p s
theorem tEv_mono {g : ET} {Q' : VK} (h : tEv K ca W g σ H Q) (m : ∀ v H', Q v H' → Q' v H') : tEv K ca W g σ H Q' := by
  obtain ⟨O, ε, r, E, e, p⟩ := h
  refine ⟨O, ε, r, E, e, ?_⟩
  cases r with
  | ok d ε' => exact fun v H' s q => m _ _ (p v H' s q)
  | ex c d ε' => exact p

/-! ### operands: a name's slot (what stands there is read when the operation comes), or an expression -/
inductive AK where
  | nm (i : Nat)
  | ex (g : ET)
def tAk (K : PySem.W.Frag) (ca : CA) (W : WX) : AK → TE
  | .nm i => tVar i
  | .ex g => tEv K ca W g
def tAks (K : PySem.W.Frag) (ca : CA) (W : WX) : List AK → TA
  | [] => tNil
  | a :: as => tCons (tAk K ca W a) (tAks K ca W as)
inductive Ad where
  | sl (i : Nat)
  | tm (d : D)
def evA : List AK → TEnv → Option (R (List Ad))
  | [], ε => some (.ok [] ε)
  | .nm i :: as, ε =>
    match ε[i]? with
    | some (some _) => bindE (evA as ε) fun ads ε1 => some (.ok (.sl i :: ads) ε1)
    | _ => none
  | .ex g :: as, ε => bindE (g ε) fun x ε1 => bindE (evA as ε1) fun ads ε2 => some (.ok (.tm x.1 :: ads) ε2)
/-- what stands there when the operation comes -/
def late (ε : TEnv) : List Ad → Option (List D)
  | [] => some []
  | .sl i :: r =>
    match ε[i]? with
    | some (some (d, _)) => (late ε r).map (d :: ·)
    | _ => none
  | .tm d :: r => (late ε r).map (d :: ·)
/-- values for operands -/
inductive ArgR (K : PySem.W.Frag) (ca : CA) (O : Addr → Prop) (σ : L2.St) (ε : TEnv) (H : Hp) : List V → List Ad → Prop
  | nil : ArgR K ca O σ ε H [] []
  | sl {i : Nat} {v : V} {s : D × Nat} {vs : List V} {ads : List Ad} : σ[i]? = some (some v) → ε[i]? = some (some s) → ArgR K ca O σ ε H vs ads → ArgR K ca O σ ε H (v :: vs) (.sl i :: ads)
  | tm {d : D} {v : V} {vs : List V} {ads : List Ad} : Rep K ca (Or2 O (Own σ ε)) H v d → ArgR K ca O σ ε H vs ads → ArgR K ca O σ ε H (v :: vs) (.tm d :: ads)
/-- it may be read: it stands for the tree, its own object perhaps owned -/
def Bor (K : PySem.W.Frag) (ca : CA) (S : Addr → Prop) (H : Hp) (v : V) (d : D) : Prop := Rep K ca S H v d ∨ ∃ a, v = .ref a ∧ Top K ca S H a d
theorem Le.some_ {i : Nat} {s : D × Nat} (l : Le ε ε1) (h : ε[i]? = some (some s)) : ∃ s', ε1[i]? = some (some s') := by
  obtain ⟨s', e, le⟩ := l.at_ i _ h
  obtain ⟨d, k⟩ := s
  obtain ⟨d', k', e2, _⟩ := le
  subst e2
  exact ⟨_, e⟩
theorem evA_read : ∀ (as : List AK) {O : Addr → Prop} {σ : L2.St} {H : Hp} {ε : TEnv} {r : R (List Ad)} {Q : List V → Hp → Prop}, EnvR K ca O H σ ε → evA as ε = some r →
    (match r with
      | .ok ads ε1 => ∀ vs H1, Stp K ca O σ ε H ε1 H1 → ArgR K ca O σ ε1 H1 vs ads → Q vs H1
      | .ex c d ε1 => Err K ca W O σ ε H c d ε1) → tAks K ca W as σ H Q
  | [], O, σ, H, ε, r, Q, E, e, p => by
    cases e
    exact p [] H (Stp.refl E) .nil
  | .nm i :: as, O, σ, H, ε, r, Q, E, e, p => by
    unfold evA at e
    split at e
    · rename_i s hs
      obtain ⟨d, k⟩ := s
      obtain ⟨v, hv⟩ : ∃ v, σ[i]? = some (some v) := by
        cases z : ownF k with
        | true => obtain ⟨a, q, _⟩ := E.own i d k hs z; exact ⟨_, q⟩
        | false => obtain ⟨v, q, _⟩ := E.shr i d k hs z; exact ⟨v, q⟩
      refine ⟨v, hv, ?_⟩
      cases q : evA as ε with
      | none => rw [q] at e; cases e
      | some r1 =>
        rw [q] at e
        refine evA_read as E q ?_
        cases r1 with
        | ok ads ε1 =>
          cases e
          intro vs H1 s ar
          obtain ⟨s', hs'⟩ := s.le.some_ hs
          exact p (v :: vs) H1 s (.sl hv hs' ar)
        | ex c d ε1 =>
          cases e
          exact p
    · cases e
  | .ex g :: as, O, σ, H, ε, r, Q, E, e, p => by
    unfold evA at e
    cases q : g ε with
    | none => rw [q] at e; cases e
    | some r1 =>
      rw [q] at e
      refine ⟨O, ε, r1, E, q, ?_⟩
      cases r1 with
      | ok x ε1 =>
        intro v H1 s1 rv
        rw [bindE_ok] at e
        cases q2 : evA as ε1 with
        | none => rw [q2] at e; cases e
        | some r2 =>
          rw [q2] at e
          refine evA_read as s1.env q2 ?_
          cases r2 with
          | ok ads ε2 =>
            cases e
            intro vs H2 s2 ar
            exact p (v :: vs) H2 (s1.trans s2) (.tm (s2.rep s1.env rv.rep) ar)
          | ex c d ε2 =>
            cases e
            exact Err.later p s1
      | ex c d ε1 =>
        cases e
        exact p
theorem EnvR.bor (E : EnvR K ca O H σ ε) {i : Nat} {d : D} {k : Nat} {v : V} (h : ε[i]? = some (some (d, k))) (hv : σ[i]? = some (some v)) : Bor K ca (Or2 O (Own σ ε)) H v d := by
  cases z : ownF k with
  | true =>
    obtain ⟨a, q, _, t⟩ := E.own i d k h z
    rw [hv] at q
    cases q
    exact .inr ⟨a, rfl, t⟩
  | false =>
    obtain ⟨w, q, r⟩ := E.shr i d k h z
    rw [hv] at q
    cases q
    exact .inl r
theorem late_bor (E : EnvR K ca O H σ ε) : ∀ {vs : List V} {ads : List Ad} {ds : List D}, ArgR K ca O σ ε H vs ads → late ε ads = some ds → Paired (Bor K ca (Or2 O (Own σ ε)) H) vs ds
  | _, _, _, .nil, e => by cases e; exact .nil
  | _, _, ds, .sl (i := i) hv hs ar, e => by
    unfold late at e
    split at e
    · rename_i d k hd
      cases q : late ε _ with
      | none => rw [q] at e; cases e
      | some ds2 =>
        rw [q] at e
        cases e
        exact .cons (E.bor hd hv) (late_bor E ar q)
    · cases e
  | _, _, ds, .tm r ar, e => by
    unfold late at e
    cases q : late ε _ with
    | none => rw [q] at e; cases e
    | some ds2 =>
      rw [q] at e
      cases e
      exact .cons (.inl r) (late_bor E ar q)

/-! ### operations that change nothing -/
/-- a result of an operation on what may be read; (true): a new object -/
def NewR (K : PySem.W.Frag) (ca : CA) (S : Addr → Prop) (H H' : Hp) (v : V) : D × Bool → Prop
  | (d, false) => Rep K ca S H' v d
  | (d, true) => ∃ a, v = .ref a ∧ H a = none ∧ Top K ca (With S a) H' a d
/-- the reading r of an operation keeps what f tells of trees -/
def OpS (K : PySem.W.Frag) (ca : CA) (r : List V → Hp → VK → Prop) (f : List D → Option (D × Bool)) : Prop :=
  ∀ (S : Addr → Prop) (H : Hp) (vs : List V) (ds : List D) (res : D × Bool) (Q : VK), Paired (Bor K ca S H) vs ds → f ds = some res → (∀ v H', Same H H' → NewR K ca S H H' v res → Q v H') → r vs H Q
def opT (f : List D → Option (D × Bool)) (as : List AK) : ET := fun ε => bindE (evA as ε) fun ads ε1 => ((late ε1 ads).bind f).map fun x => .ok x ε1
theorem EnvR.with (E : EnvR K ca O H σ ε) {a : Addr} (n : H a = none) (s : Same H H') (t : H' a ≠ none) : EnvR K ca (With O a) H' σ ε := by
  have hs : ∀ b, Or2 (With O a) (Own σ ε) b → Or2 O (Own σ ε) b ∨ H b = none := fun b z => by
    rcases z with (z | z) | z
    · exact .inl (.inl z)
    · exact .inr (by rw [z]; exact n)
    · exact .inl (.inr z)
  have kk : Kp (Or2 O (Own σ ε)) H H' := Kp.of s
  refine ⟨E.len, fun i d k h z => ?_, fun i d k h z => ?_, E.inj, fun b z y => ?_⟩
  · obtain ⟨v, e, r⟩ := E.shr i d k h z
    exact ⟨v, e, r.step hs kk⟩
  · obtain ⟨b, e, no, tp⟩ := E.own i d k h z
    refine ⟨b, e, fun y => y.elim no fun q => ?_, tp.step hs kk fun o q => s _ _ q⟩
    rw [q] at tp
    exact tp.there n
  · rcases z with z | z
    · exact E.out b z (s.free y)
    · rw [z] at y
      exact t y
theorem NewR.res (E : EnvR K ca O H σ ε) (s : Same H H') {res : D × Bool} (r : NewR K ca (Or2 O (Own σ ε)) H H' v res) : ResR K ca O σ ε H H' v res := by
  obtain ⟨d, f⟩ := res
  cases f with
  | false => exact r
  | true =>
    obtain ⟨a, rfl, n, t⟩ := r
    refine ⟨a, rfl, n, fun z => E.out a z n, fun z => E.there (.inr z) n, t.step (fun b z => .inl ?_) (fun _ _ h _ => h) (fun _ h => h), E.with n s t.there⟩
    rcases z with (z | z) | z
    · exact .inl (.inl z)
    · exact .inr z
    · exact .inl (.inr z)
/-- THE RULE for an operation -/
theorem opT_read {r : List V → Hp → VK → Prop} {f : List D → Option (D × Bool)} {as : List AK} (o : OpS K ca r f) (h : tEv K ca W (opT f as) σ H Q) : tAks K ca W as σ H fun vs H1 => r vs H1 Q := by
  obtain ⟨O, ε, r0, E, e, p⟩ := h
  unfold opT at e
  cases q : evA as ε with
  | none => rw [q] at e; cases e
  | some r1 =>
    rw [q] at e
    refine evA_read as E q ?_
    cases r1 with
    | ex c d ε1 =>
      cases e
      exact p
    | ok ads ε1 =>
      intro vs H1 s ar
      rw [bindE_ok] at e
      cases q2 : late ε1 ads with
      | none => rw [q2] at e; cases e
      | some ds =>
        rw [q2] at e
        change Option.map _ (f ds) = some r0 at e
        cases q3 : f ds with
        | none => rw [q3] at e; cases e
        | some res =>
          rw [q3] at e
          cases e
          exact o _ H1 vs ds res Q (late_bor s.env ar q2) q3 fun v H2 sm nr => p v H2 (s.trans (Stp.same s.env sm)) ((nr.res s.env sm).old s.th)
theorem pair1 {F : V → D → Prop} {vs : List V} {d : D} (h : Paired F vs [d]) : ∃ v, vs = [v] ∧ F v d := by
  cases h with
  | cons a t =>
    cases t
    exact ⟨_, rfl, a⟩
theorem pair2 {F : V → D → Prop} {vs : List V} {d e : D} (h : Paired F vs [d, e]) : ∃ v w, vs = [v, w] ∧ F v d ∧ F w e := by
  cases h with
  | cons a t =>
    cases t with
    | cons b t =>
      cases t
      exact ⟨_, _, rfl, a, b⟩
theorem Bor.int {S : Addr → Prop} {i : Int} (b : Bor K ca S H v (.int i)) : v = .int i := by
  rcases b with r | ⟨a, _, t⟩
  · cases r; rfl
  · exact t.elim
theorem Bor.str {S : Addr → Prop} {i : Str} (b : Bor K ca S H v (.str i)) : v = .str i := by
  rcases b with r | ⟨a, _, t⟩
  · cases r; rfl
  · exact t.elim
theorem Bor.bl {S : Addr → Prop} {i : Bool} (b : Bor K ca S H v (.bl i)) : v = .bl i := by
  rcases b with r | ⟨a, _, t⟩
  · cases r; rfl
  · exact t.elim
theorem Bor.non {S : Addr → Prop} (b : Bor K ca S H v .non) : v = .non := by
  rcases b with r | ⟨a, _, t⟩
  · cases r; rfl
  · exact t.elim
theorem Bor.lst {S : Addr → Prop} {ds : List D} (b : Bor K ca S H v (.lst ds)) : ∃ a vs, v = .ref a ∧ H a = some (.lst vs) ∧ RepL K ca S H vs ds := by
  rcases b with r | ⟨a, e, vs, h, r⟩
  · cases r with
    | lst n r l => exact ⟨_, _, rfl, r, l⟩
  · exact ⟨a, vs, e, h, r⟩
theorem Bor.tup {S : Addr → Prop} {ds : List D} (b : Bor K ca S H v (.tup ds)) : ∃ a vs, v = .ref a ∧ SqT K H a vs ∧ RepL K ca S H vs ds := by
  rcases b with r | ⟨a, _, t⟩
  · cases r with
    | tup r l => exact ⟨_, _, rfl, r, l⟩
  · exact t.elim
theorem Bor.dct {S : Addr → Prop} {es : List (Key × D)} (b : Bor K ca S H v (.dct es)) : ∃ a kvs, v = .ref a ∧ H a = some (.dK kvs) ∧ RepK K ca S H kvs es := by
  rcases b with r | ⟨a, e, vs, h, r⟩
  · cases r with
    | dct n r l => exact ⟨_, _, rfl, r, l⟩
  · exact ⟨a, vs, e, h, r⟩
theorem Bor.ins {S : Addr → Prop} {c : Str} {es : List (Str × D)} (b : Bor K ca S H v (.ins c es)) : ∃ a dx fs, v = .ref a ∧ H a = some (.ins (ca c) dx fs) ∧ RepF K ca S H fs es := by
  rcases b with r | ⟨a, e, dx, vs, h, r⟩
  · cases r with
    | ins n r l => exact ⟨_, _, _, rfl, r, l⟩
  · exact ⟨a, dx, vs, e, h, r⟩
end

/-! ### the judgements -/
section
variable {X : Cx} {ca : CA} {W : WX} {e e1 e2 : Expr} {g : ET} {a b : AK} {pos : Pos} {es : List Expr} {as : List AK}
abbrev PET (X : Cx) (ca : CA) (W : WX) (e : Expr) (g : ET) : Prop := PE X e (tEv X.K ca W g)
abbrev PAK (X : Cx) (ca : CA) (W : WX) (e : Expr) (a : AK) : Prop := PE X e (tAk X.K ca W a)
abbrev PAKs (X : Cx) (ca : CA) (W : WX) (es : List Expr) (as : List AK) : Prop := PA X es (tAks X.K ca W as)
theorem pak_nm (i : Nat) {x : Str} (hN : X.N[i]? = some x := by rfl) (hv : Vis X.env.scope x := by first | exact Or.inl rfl | exact Or.inr (Or.inl rfl) | exact Or.inr (Or.inr rfl)) (hd : (x == ("__debug__" : Str)) = false := by decide)
    (hcd : (x == ("__classdict__" : Str)) = false := by decide) : PAK X ca W (.Name x pos) (.nm i) := pe_var hN hv hd hcd
theorem pak_ex (h : PET X ca W e g) : PAK X ca W e (.ex g) := h
theorem paks_nil : PAKs X ca W [] [] := pa_nil
theorem paks_cons (h : PAK X ca W e a) (t : PAKs X ca W es as) (hs : starEach (e :: es) X.env = (false, eval e X.env) :: starEach es X.env := by rfl) : PAKs X ca W (e :: es) (a :: as) := pa_cons h t hs
/-- a two-place operation by its values -/
abbrev lift2 (r : R2) : List V → Hp → VK → Prop := fun vs H Q => ∃ x y, vs = [x, y] ∧ r x y H Q
abbrev lift1 (r : V → Hp → VK → Prop) : List V → Hp → VK → Prop := fun vs H Q => ∃ x, vs = [x] ∧ r x H Q
theorem opT_read2 {K : PySem.W.Frag} {r : R2} {f : List D → Option (D × Bool)} (o : OpS K ca (lift2 r) f) {σ : L2.St} {H : Hp} {Q : VK} (h : tEv K ca W (opT f [a, b]) σ H Q) : tOp r (tAk K ca W a) (tAk K ca W b) σ H Q := by
  have z := opT_read (as := [a, b]) o h
  have m : ∀ {t : TE} {x : AK} {Q1 Q2 : VK} {σ : L2.St} {H : Hp}, tAk K ca W x σ H Q1 → (∀ v H', Q1 v H' → Q2 v H') → tAk K ca W x σ H Q2 := fun {_ x Q1 Q2 σ H} h m => by
    cases x with
    | nm i =>
      obtain ⟨v, e, q⟩ := h
      exact ⟨v, e, m _ _ q⟩
    | ex g => exact tEv_mono h m
  refine m (t := fun _ _ _ => True) z fun x H1 z => m (t := fun _ _ _ => True) z fun y H2 z => ?_
  obtain ⟨x', y', e, q⟩ := z
  cases e
  exact q
theorem tAk_mono {K : PySem.W.Frag} {x : AK} {Q1 Q2 : VK} {σ : L2.St} {H : Hp} (h : tAk K ca W x σ H Q1) (m : ∀ v H', Q1 v H' → Q2 v H') : tAk K ca W x σ H Q2 := by
  cases x with
  | nm i =>
    obtain ⟨v, e, q⟩ := h
    exact ⟨v, e, m _ _ q⟩
  | ex g => exact tEv_mono h m
theorem opT_read1 {K : PySem.W.Frag} {r : V → Hp → VK → Prop} {f : List D → Option (D × Bool)} (o : OpS K ca (lift1 r) f) {σ : L2.St} {H : Hp} {Q : VK} (h : tEv K ca W (opT f [a]) σ H Q) : tUn r (tAk K ca W a) σ H Q := by
  have z := opT_read (as := [a]) o h
  refine tAk_mono z fun x H1 z => ?_
  obtain ⟨x', e, q⟩ := z
  cases e
  exact q
theorem pet_bin {op : Operator} {r : R2} {f : List D → Option (D × Bool)} (ho : OpR X (binaryOp op) r) (o : OpS X.K ca (lift2 r) f) (h1 : PAK X ca W e1 a) (h2 : PAK X ca W e2 b) : PET X ca W (.BinOp e1 op e2 pos) (opT f [a, b]) :=
  peWeak (pe_op ho h1 h2) fun _ _ _ h => opT_read2 o h
theorem pet_un {op : UnaryOp} {r : V → Hp → VK → Prop} {f : List D → Option (D × Bool)} (ho : UnR X (unaryOp op) r) (o : OpS X.K ca (lift1 r) f) (h1 : PAK X ca W e1 a) : PET X ca W (.UnaryOp op e1 pos) (opT f [a]) :=
  peWeak (pe_un ho h1) fun _ _ _ h => opT_read1 o h
theorem pet_cmp {op : CmpOp} {r : R2} {f : List D → Option (D × Bool)} (ho : OpR X (compareOp op) r) (o : OpS X.K ca (lift2 r) f) (h1 : PAK X ca W e1 a) (h2 : PAK X ca W e2 b) (hm : behindInMarks op e2 = false) : PET X ca W (.Compare e1 [op] [e2] pos) (opT f [a, b]) :=
  peWeak (pe_cmpR ho h1 h2 hm) fun _ _ _ h => opT_read2 o h
theorem pet_callB {x : Str} {p : Pos} {id : String} {r : List V → Hp → VK → Prop} {f : List D → Option (D × Bool)} (hc : CallR X (.builtin id) r) (o : OpS X.K ca r f) (hg : Gl X x) (hm : X.mg x = none) (hv : bootBuiltins x = some (.builtin id)) (ha : PAKs X ca W (e :: es) as)
    (hn : x ≠ "__name__" := by decide) (hdb : (x == ("__debug__" : Str)) = false := by decide)
    (he : starEach (e :: es) X.env = (false, eval e X.env) :: starEach es X.env := by rfl) (hpl : (backTo pos (starEach es X.env)).any (·.1) = false := by rfl) : PET X ca W (.Call (.Name x p) (e :: es) [] pos) (opT f as) :=
  peWeak (pe_callB hc hg hm hv ha hn hdb he hpl) fun _ _ _ h => opT_read o h
theorem pet_callTy {x : Str} {p : Pos} {T : String} {r : List V → Hp → VK → Prop} {f : List D → Option (D × Bool)} (hc : CallR X (.type T) r) (o : OpS X.K ca r f) (hg : Gl X x) (hm : X.mg x = none) (hv : bootBuiltins x = some (.type T)) (ha : PAKs X ca W (e :: es) as)
    (hn : x ≠ "__name__" := by decide) (hdb : (x == ("__debug__" : Str)) = false := by decide)
    (he : starEach (e :: es) X.env = (false, eval e X.env) :: starEach es X.env := by rfl) (hpl : (backTo pos (starEach es X.env)).any (·.1) = false := by rfl) : PET X ca W (.Call (.Name x p) (e :: es) [] pos) (opT f as) :=
  peWeak (pe_callTy hc hg hm hv ha hn hdb he hpl) fun _ _ _ h => opT_read o h
end
end Tr

namespace Md
open PySem PySem.Spec PyProof.Rows L2

/-- the heap that knows of the script alone -/
def lone (a : Addr) (o : Obj) (xs : List V) : Hp := fun b => if b = a then some (.frz o (.lst xs)) else none
theorem lone_self {a : Addr} {o : Obj} {xs : List V} : lone a o xs a = some (.frz o (.lst xs)) := by simp [lone]
theorem lone_else {a b : Addr} {o : Obj} {xs : List V} (h : b ≠ a) : lone a o xs b = none := by simp [lone, h]

/-- the call of the law's def, from an abstract heap that holds the script at most -/
theorem call_law_with {P : Program} {w : World} {K : PySem.W.Frag} {mg mb : Str → Option Value} {k : Nat} {fa a : Addr} {fd : FuncData} {x : Str} {sp : Sp} {s1 : Shared} {vs : List Value} {H : Hp}
    (KX : K.In s1.heap) (hns : s1.heap.Ns mainGlobals mg) (hb : s1.heap.Ns builtinsNs mb) (hbb : ∀ x : Str, x ≠ "__name__" → mb x = bootBuiltins x) (hlim : s1.heap.NoLimit) (hg : s1.gens = #[])
    (ha : s1.heap.get? a = some { cls := .type "list", data := .seq vs.toArray }) (hr : Room k callerA)
    (F : ∀ base : Heap, K.In base → base.Ns mainGlobals mg → FnG P w K mg base CX0 k fa fd [x] sp) (hbind : ∀ (s : Shared) (u : Value), BindsTo s fd ⟨[u], []⟩ [(x, u)])
    (asked : sp [.ref a] H (fun v _ => v = .bl true) fun _ _ _ => False) (hok : HOk P w H s1.heap) (few : ∀ b, H b ≠ none → b = a) (own : H a ≠ none → K.lookup a = none)
    (fro : ∀ b u, H b = some u → ∃ o v, u = .frz o v) :
    codeAny (model P w) callerA (.call (.ref fa) ⟨[.ref a], []⟩) (fun r s' => r = .ok (.ret (.bool true)) ∧ OldK s1.heap s'.heap ∧ s'.os = s1.os ∧ AllBare s'.gens) s1 := by
  have free : ∀ {b : Addr} {o : Obj}, s1.heap.get? b = some o → (b = a → K.lookup b ≠ none ∨ ∃ es ep, o.data = .dict es ep) → H b = none := by
    intro b o hb' hno
    cases q : H b with
    | none => rfl
    | some u =>
      exfalso
      have e : b = a := few b (by rw [q]; exact fun z => nomatch z)
      rcases hno e with n | ⟨es, ep, d⟩
      · exact n (by rw [e]; exact own (by rw [← e, q]; exact fun z => nomatch z))
      · rw [e, ha] at hb'
        have e2 := Option.some.inj hb'
        rw [← e2] at d
        exact nomatch d
  have inside : ∀ {b : Addr} {m : Str → Option Value}, s1.heap.Ns b m → (hidT s1.heap H).Ns b m := by
    intro b m ⟨o, es, ep, h1, h2, r⟩
    exact ⟨o, es, ep, hidT_get h1 (free h1 fun _ => .inr ⟨es, ep, h2⟩), h2, r⟩
  have KB : K.In (hidT s1.heap H) := by
    intro b o hk
    exact hidT_get (KX b o hk) (free (KX b o hk) fun _ => .inl (by rw [hk]; exact fun z => nomatch z))
  obtain ⟨mc, l1, l2⟩ := hlim
  have M : Mod K mg (hidT s1.heap H) := ⟨KB, inside hns, ⟨mb, inside hb, hbb⟩, ⟨mc, inside l1, l2⟩⟩
  have start0 : Env0 P w K mg (hidT s1.heap H) callerA [] s1 H :=
    ⟨rfl, M, fun b o h => of_hidT h, Nat.le_of_eq (hidT_size s1.heap H), trivial, fun b h => (List.not_mem_nil h).elim, hok, AllBare.of_eq hg⟩
  have ran := (F _ KB (inside hns)).goes callerA [] s1 H ⟨[.ref a], []⟩ [.ref a] [.ref a] _ _ rfl hr start0 (hbind s1 (.ref a)) (.cons rfl .nil) asked
  refine codeAny_mono ran ?_
  intro r s2 z
  match r, z with
  | .ok (.ret u), z =>
    obtain ⟨v, H2, h1, h2, h3, h4, h5, h6⟩ := z
    have ev : v = .bl true := h6
    rw [ev] at h5
    have eu : u = Value.bool true := h5
    rw [eu]
    refine ⟨rfl, OldK.of_keep ?_, h1, h2⟩
    intro b o hb'
    cases q : H b with
    | none => exact h3.keep b o hb' q (List.not_mem_nil) (List.not_mem_nil)
    | some u2 =>
      obtain ⟨ob, v2, e2⟩ := fro b u2 q
      rw [e2] at q
      have q2 := h3.frzs b ob v2 q
      have a1 := (hok b _ q).1
      have a2 := (h4 b _ q2).1
      rw [hb'] at a1
      rw [a2, ← Option.some.inj a1]

/-- what k_head leaves, for a law whose def is proved under NoG -/
theorem walk_g {l : PySem.W.OpenLaw} {n k : Nat} {q : Program} {loose : List Str} {XP : (Str → Option Value) → Heap → Prop} {YP : World → Heap → Prop} {d : DefRec} {K : Params → PySem.W.Frag} {sp : PySem.W.Frag → Sp} {x : Str}
    (hn : l.most = some n) (hn2 : n ≤ sizeLine) (hdf : d.params.defaults = []) (hr : Room k callerA) (hY : ∀ (w : World) (h : Heap), YP w h → (K w.params).In h)
    (F : ∀ (w : World) (mg : Str → Option Value) (fa : Addr) (h : Heap), (K w.params).In h → h.Ns mainGlobals mg → mg d.name = some (.ref fa) →
      ∃ fd : FuncData, (∀ (s : Shared) (u : Value), BindsTo s fd ⟨[u], []⟩ [(x, u)]) ∧
        ∀ base : Heap, (K w.params).In base → base.Ns mainGlobals mg → FnG l.prog w (K w.params) mg base CX0 k fa fd [x] (sp (K w.params)))
    (hsp : ∀ (K : PySem.W.Frag) (H : Hp) (a : Addr) (ns : List Int), ns.length ≤ n → SqL K H a (ns.map V.int) → sp K [.ref a] H (fun v _ => v = .bl true) fun _ _ _ => False) :
    PySem.W.WalkO q loose XP YP l.row.toRowW d [] (fun f vs => PySem.call f vs) := by
  refine Att.attach_call hn hdf ?_
  intro w s0 s1 mg mb fa o pm cd doc a vs ns G Y ho hd hcd hmg hobj hints hlen hg
  have KX := hY w _ Y
  obtain ⟨fd, hb, hF⟩ := F w mg fa _ KX G.T.g hmg
  have rv := L2.vals_ints hints
  have lenV := hints.length
  cases hk : (K w.params).lookup a with
  | some ob =>
    have e := (KX a ob hk).symm.trans hobj
    have e := Option.some.inj e
    subst e
    refine call_law_with (H := fun _ => none) KX G.T.g G.T.b G.T.builtins G.T.nolimit hg hobj hr hF hb (hsp _ _ a ns hlen (.inr ?_)) (fun b u z => nomatch z) (fun b z => absurd rfl z) (fun z => absurd rfl z) (fun b u z => nomatch z)
    refine ⟨_, vs.toArray, _, hk, rfl, rfl, rfl, ?_, ?_⟩
    · rw [List.size_toArray, lenV]
      exact Nat.le_trans hlen hn2
    · simpa using rv
  | none =>
    refine call_law_with (H := lone a { cls := .type "list", data := .seq vs.toArray } (ns.map V.int)) KX G.T.g G.T.b G.T.builtins G.T.nolimit hg hobj hr hF hb (hsp _ _ a ns hlen (.inl (.inr ⟨_, lone_self⟩))) ?_ ?_ (fun _ => hk) ?_
    · intro b u z
      by_cases hba : b = a
      · rw [hba, lone_self] at z
        have z := Option.some.inj z
        rw [← z, hba]
        exact ⟨hobj, by rw [List.length_map]; exact Nat.le_trans hlen hn2, vs, _, rv, hobj⟩
      · rw [lone_else hba] at z
        exact nomatch z
    · intro b z
      by_cases hba : b = a
      · exact hba
      · exact absurd (lone_else hba) z
    · intro b u z
      by_cases hba : b = a
      · rw [hba, lone_self] at z
        exact ⟨_, _, (Option.some.inj z).symm⟩
      · rw [lone_else hba] at z
        exact nomatch z
end Md

namespace Md
open PySem PySem.Spec PyProof.Rows L2

section
variable {X : Cx}
/-- repr of a thing that stands at an address -/
def rRepr (K : PySem.W.Frag) : List V → Hp → VK → Prop := fun xs H Q => ∃ (a : Addr) (d : PyData), xs = [.ref a] ∧ Dp K H (.ref a) d ∧ d.showable = true ∧ d.hasDict = false ∧ d.depth ≤ 40 ∧ d.shown.length ≤ sizeLine ∧ Q (.str d.shown) H
theorem call_repr (g : NoG X.A) (hu : X.A.units + 64 < cLine) : CallR X (.builtin "repr") (rRepr X.K) := by
  intro pins st sl H xs us Q I r h
  obtain ⟨a, d, rfl, dp, show1, nod, deep, small, q⟩ := h
  obtain ⟨u, rfl, e⟩ := vals1 r
  have eu : u = Value.ref a := e
  subst eu
  obtain ⟨as, rd⟩ := Dp.reads I d (.ref a) (.ref a) dp rfl
  refine repr_of_reads' rd show1 (fun z => ?_) g (by omega) (fun b o z => z) (fun h' tk t2 keep => ?_) small
  · rw [nod] at z
    exact nomatch z
  · exact ⟨.str d.shown, H, I.kept (t' := t2) keep, ⟨tk, rfl⟩, q⟩
end
end Md

namespace Md
open PySem PySem.Spec PyProof.Rows L2
section
variable {X : Cx} {C f : Addr} {fd : FuncData} {k : Nat} {sp : Sp}
/-- len(o), o an instance of a class of one's own with __len__ -/
def rLenOwn (C : Addr) (sp : Sp) : List V → Hp → VK → Prop := fun xs H Q => ∃ a dx fs, xs = [.ref a] ∧ H a = some (.ins C dx fs) ∧
  sp [.ref a] H (fun v H' => ∃ n : Nat, v = .int n ∧ n < 2 ^ 62 ∧ Q (.int n) H') E0
end
end Md

namespace Md
open PySem PySem.Spec PyProof.Rows L2
section
variable {X : Cx} {o e : Expr} {apos cpos : Pos} {td ty : TE} {d : Addr} {es : Array DictEntry} {n : Nat}
/-- THINGS.get(word), a dict of the module with keys that are texts -/
def tKGet (K : PySem.W.Frag) (d : Addr) (td ty : TE) : TE := fun sl H Q => td sl H fun x H1 => x = .ref d ∧ ty sl H1 fun y H2 => ∃ (z : Str) (r : Option Value), y = .str z ∧ PySem.W.nsIn K d z = some r ∧
  (r = none → Q .non H2) ∧ (∀ u0, r = some u0 → ∃ v0, RelV v0 u0 ∧ Q v0 H2)
end
end Md

/-! set(xs) of a list of texts (any keys that are carried by value and may be scanned) -/
namespace Md
open PySem PySem.Spec PyProof.Rows L2

/-- how many unlike ones stand among the first i -/
def unlike {κ : Type} [DecidableEq κ] (ks : List κ) : Nat → Nat
  | 0 => 0
  | i + 1 => match ks[i]? with
    | none => unlike ks i
    | some k => if (ks.take i).any (fun j => decide (j = k)) = true then unlike ks i else unlike ks i + 1
abbrev noSet (led : Bool) : Obj := { cls := .type "set", dict := none, data := .set #[] 0 (.fresh 0 0 led) }

section
variable {prog : Program} {w : World} {A : Around} {κ : Type} [DecidableEq κ] {knd : PySem.KeyKind prog w κ}
/-- what is in the set behind i items -/
abbrev inFirst (ks : List κ) (i : Nat) : κ → Bool := fun k => (ks.take i).any fun j => decide (j = k)

section
variable {R : Result → Shared → Prop} {I : Addr} {fp wr : List Addr} {G : Array GenState → Array GenState → Prop} {n : Nat} {P : Nat → Value → Prop} {St : Nat → Shared → Prop}
end

section
variable {E : Value → Shared → Prop} {st : Shared}
end
end
end Md

namespace Md
open PySem PySem.Spec PyProof.Rows L2
/-- len(set(xs)), texts -/
def tLenTexts (K : PySem.W.Frag) (ta : TE) : TE := fun sl H Q => ta sl H fun x H1 => ∃ (l : Addr) (zs : List Str), x = .ref l ∧ SqL K H1 l (zs.map V.str) ∧ zs.length ≤ 1000 ∧ Q (.int (unlike zs zs.length : Nat)) H1
section
variable {X : Cx} {a : Expr} {ta : TE} {p p2 q pos : Pos}
end
end Md

namespace Md
open PySem PySem.Spec PyProof.Rows L2
section
variable {X : Cx}
/-- ** of great numbers by a small exponent -/
def CPowW (i j : Int) : Prop := 0 ≤ j ∧ j ≤ 10 ∧ i.natAbs < 2 ^ 200
theorem bitsW {i : Int} (h : i.natAbs < 2 ^ 200) : Builtin.Int.intBits i ≤ 200 := by
  have z := PySem.Flt.log2_lt_of (by decide) h
  unfold Builtin.Int.intBits
  split <;> omega
theorem op_powW : OpR X (binaryOp .Pow) (rI CPowW fun i j => .int (i ^ j.toNat)) := opI fun i j t u s Q E hc q => by
  have b := bitsW hc.2.2
  refine pow_int hc.1 ?_ q
  have h : ((Builtin.Int.intBits i : Nat) : Int) * j ≤ 200 * 10 := Int.mul_le_mul (by omega) hc.2.1 hc.1 (by decide)
  omega
end
end Md

/-! Operations of trees. -/
namespace Tr
open PySem PySem.Spec PyProof.Rows L2 Md
/-- lists, texts stay below this -/
abbrev most : Nat := 1000000
theorem most_line {n : Nat} (h : n ≤ most) : n < sizeLine := Nat.lt_of_le_of_lt h (by decide)
theorem most_le {n : Nat} (h : n ≤ most) : n ≤ sizeLine := Nat.le_of_lt (most_line h)
theorem new_same {G : Hp} {q : Addr} {o : HO} (n : G q = none) : Same G (upd G q o) := fun b u z => by
  rw [upd_ne (ne_of_none z n)]
  exact z
section
variable {K : PySem.W.Frag} {ca : CA} {S : Addr → Prop} {H H' : Hp}
theorem Rep.same {d : D} {v : V} (r : Rep K ca S H v d) (s : Same H H') : Rep K ca S H' v d := r.step (fun _ z => .inl z) (Kp.of s)
theorem RepL.same {d : List D} {v : List V} (r : RepL K ca S H v d) (s : Same H H') : RepL K ca S H' v d := r.step (fun _ z => .inl z) (Kp.of s)
theorem RepL.with {d : List D} {v : List V} {p : Addr} (r : RepL K ca S H v d) (n : H p = none) (s : Same H H') : RepL K ca (With S p) H' v d := r.step (fun a z => z.elim .inl fun e => .inr (by rw [e]; exact n)) (Kp.of s)
theorem new_lst {vs : List V} {ds : List D} {p : Addr} (r : RepL K ca S H vs ds) (np : H p = none) : NewR K ca S H (upd H p (.lst vs)) (.ref p) (.lst ds, true) := ⟨p, rfl, np, vs, upd_same, r.with np (new_same np)⟩
theorem new_tup {vs : List V} {ds : List D} {p : Addr} (r : RepL K ca S H vs ds) (np : H p = none) : NewR K ca S H (upd H p (.tup vs)) (.ref p) (.tup ds, false) := .tup (.inl (.inl upd_same)) (r.same (new_same np))
end
/-! ### plain data -/
mutual
def toP : D → Option PyData
  | .non => some .none
  | .bl b => some (.bool b)
  | .int i => some (.int i)
  | .str x => some (.str x)
  | .lst xs => (toPs xs).map .list
  | .tup xs => (toPs xs).map .tuple
  | .dct _ => none
  | .ins _ _ => none
  | .set _ => none
  | .err _ _ _ _ => none
def toPs : List D → Option (List PyData)
  | [] => some []
  | x :: xs => match toP x, toPs xs with
    | some p, some ps => some (p :: ps)
    | _, _ => none
end
section
variable {K : PySem.W.Frag} {ca : CA} {S : Addr → Prop} {H : Hp}
mutual
theorem Rep.dp : ∀ {d : D} {v : V} {p : PyData}, Rep K ca S H v d → toP d = some p → Dp K H v p
  | .non, _, _, h, e => by
    cases h
    simp only [toP, Option.some.injEq] at e
    subst e
    exact .non
  | .bl b, _, _, h, e => by
    cases h
    simp only [toP, Option.some.injEq] at e
    subst e
    exact .bl b
  | .int i, _, _, h, e => by
    cases h
    simp only [toP, Option.some.injEq] at e
    subst e
    exact .int i
  | .str x, _, _, h, e => by
    cases h
    simp only [toP, Option.some.injEq] at e
    subst e
    exact .str x
  | .lst ds, _, _, h, e => by
    cases h with
    | lst n r l =>
      unfold toP at e
      cases q : toPs ds with
      | none => rw [q] at e; cases e
      | some ps =>
        rw [q] at e
        cases e
        exact .lst (.inl (.inl r)) (RepL.dp l q)
  | .tup ds, _, _, h, e => by
    cases h with
    | tup r l =>
      unfold toP at e
      cases q : toPs ds with
      | none => rw [q] at e; cases e
      | some ps =>
        rw [q] at e
        cases e
        exact .tup r (RepL.dp l q)
  | .dct _, _, _, h, e => by simp only [toP] at e; cases e
  | .ins _ _, _, _, h, e => by simp only [toP] at e; cases e
  | .set _, _, _, h, e => by simp only [toP] at e; cases e
  | .err _ _ _ _, _, _, h, e => by simp only [toP] at e; cases e
theorem RepL.dp : ∀ {ds : List D} {vs : List V} {ps : List PyData}, RepL K ca S H vs ds → toPs ds = some ps → DpAll K H vs ps
  | [], _, _, h, e => by
    cases h
    simp only [toPs, Option.some.injEq] at e
    subst e
    exact .nil
  | d :: ds, _, _, h, e => by
    cases h with
    | cons a t =>
      unfold toPs at e
      cases q : toP d with
      | none => rw [q] at e; cases e
      | some p =>
        rw [q] at e
        cases q2 : toPs ds with
        | none => rw [q2] at e; cases e
        | some ps =>
          rw [q2] at e
          cases e
          exact .cons (Rep.dp a q) (RepL.dp t q2)
end
theorem Bor.dp {d : D} {v : V} {p : PyData} (b : Bor K ca S H v d) (e : toP d = some p) : Dp K H v p := by
  rcases b with r | ⟨a, rfl, t⟩
  · exact r.dp e
  · exact (t.rep (S' := fun _ => False) (fun z => z) (fun _ z => z.elim)).dp e
end
/-! ### flat values -/
def sv : D → Option V
  | .non => some .non
  | .bl b => some (.bl b)
  | .int i => some (.int i)
  | .str x => some (.str x)
  | _ => none
def svs : List D → Option (List V)
  | [] => some []
  | x :: xs => match sv x, svs xs with
    | some p, some ps => some (p :: ps)
    | _, _ => none
section
variable {K : PySem.W.Frag} {ca : CA} {S : Addr → Prop} {H : Hp}
theorem Bor.sv {d : D} {v u : V} (b : Bor K ca S H v d) (e : sv d = some u) : v = u ∧ flatV u = true := by
  cases d <;> simp only [Tr.sv, Option.some.injEq, reduceCtorEq] at e
  · subst e; exact ⟨b.non, rfl⟩
  · subst e; exact ⟨b.bl, rfl⟩
  · subst e; exact ⟨b.int, rfl⟩
  · subst e; exact ⟨b.str, rfl⟩
theorem RepL.svs : ∀ {ds : List D} {vs us : List V}, RepL K ca S H vs ds → svs ds = some us → vs = us ∧ us.all flatV = true
  | [], _, _, h, e => by
    cases h
    simp only [Tr.svs, Option.some.injEq] at e
    subst e
    exact ⟨rfl, rfl⟩
  | d :: ds, _, _, h, e => by
    cases h with
    | cons a t =>
      unfold Tr.svs at e
      cases q : Tr.sv d with
      | none => rw [q] at e; cases e
      | some p =>
        rw [q] at e
        cases q2 : Tr.svs ds with
        | none => rw [q2] at e; cases e
        | some ps =>
          rw [q2] at e
          cases e
          obtain ⟨e1, f1⟩ := Bor.sv (.inl a) q
          obtain ⟨e2, f2⟩ := RepL.svs t q2
          subst e1 e2
          exact ⟨rfl, by simp [f1, f2]⟩
end
/-! ### the operations -/
def fAdd : List D → Option (D × Bool)
  | [.int i, .int j] => some (.int (i + j), false)
  | [.int i, .bl k] => some (.int (i + b2i k), false)
  | [.str i, .str j] => if i.length + j.length ≤ most then some (.str (i ++ j), false) else none
  | [.lst xs, .lst ys] => if xs.length + ys.length ≤ most then some (.lst (xs ++ ys), true) else none
  | [.tup xs, .tup ys] => if xs.length + ys.length ≤ most then some (.tup (xs ++ ys), false) else none
  | _ => none
def fSub : List D → Option (D × Bool)
  | [.int i, .int j] => some (.int (i - j), false)
  | _ => none
/-- numbers of at most so many bits -/
abbrev wideI (i : Int) : Prop := i.natAbs < 2 ^ 4000
def fMul : List D → Option (D × Bool)
  | [.int i, .int j] => if wideI i ∧ wideI j then some (.int (i * j), false) else none
  | [.lst xs, .int k] => if 0 ≤ k ∧ k ≤ most ∧ xs.length * k.toNat ≤ most then some (.lst (List.replicate k.toNat xs).flatten, true) else none
  | _ => none
def fDiv : List D → Option (D × Bool)
  | [.int i, .int j] => if 0 < j ∧ wideI j then some (.int (i / j), false) else none
  | _ => none
def fMod : List D → Option (D × Bool)
  | [.int i, .int j] => if 0 < j then some (.int (i % j), false) else none
  | _ => none
def fPow : List D → Option (D × Bool)
  | [.int i, .int j] => if (0 ≤ j ∧ j ≤ 10 ∧ i.natAbs < 2 ^ 200) ∨ (0 ≤ j ∧ j ≤ 1000000 ∧ i.natAbs < 2 ^ 64) then some (.int (i ^ j.toNat), false) else none
  | _ => none
def fNeg : List D → Option (D × Bool)
  | [.int i] => some (.int (-i), false)
  | _ => none
open Classical in
noncomputable def fEq : List D → Option (D × Bool)
  | [d, e] => match toP d, toP e with
    | some p, some q => if SeqAt.shaped p = true ∧ SeqAt.shaped q = true then some (.bl (PyData.eqv p q), false) else none
    | _, _ => none
  | _ => none
open Classical in
noncomputable def fNe : List D → Option (D × Bool)
  | [d, e] => match toP d, toP e with
    | some p, some q => if SeqAt.shaped p = true ∧ SeqAt.shaped q = true then some (.bl (!PyData.eqv p q), false) else none
    | _, _ => none
  | _ => none
def fLt : List D → Option (D × Bool)
  | [.int i, .int j] => some (.bl (decide (i < j)), false)
  | _ => none
def fLe : List D → Option (D × Bool)
  | [.int i, .int j] => some (.bl (decide (i ≤ j)), false)
  | _ => none
def fGt : List D → Option (D × Bool)
  | [.int i, .int j] => some (.bl (decide (j < i)), false)
  | _ => none
def fGe : List D → Option (D × Bool)
  | [.int i, .int j] => some (.bl (decide (j ≤ i)), false)
  | _ => none
def isN : D → Bool
  | .non => true
  | _ => false
def fIs : List D → Option (D × Bool)
  | [d, .non] => some (.bl (isN d), false)
  | _ => none
def fIsNot : List D → Option (D × Bool)
  | [d, .non] => some (.bl (!isN d), false)
  | _ => none
def inS (x : D) (ys : List D) : Option Bool := match sv x, svs ys with
  | some u, some us => some (inV u us)
  | _, _ => none
def fIn : List D → Option (D × Bool)
  | [x, .lst ys] => (inS x ys).map fun b => (.bl b, false)
  | [x, .tup ys] => (inS x ys).map fun b => (.bl b, false)
  | [.str i, .str j] => some (.bl (!(Builtin.Str.occurrences j i 0 j.length 1).isEmpty), false)
  | _ => none
def fNotIn : List D → Option (D × Bool)
  | [x, .lst ys] => (inS x ys).map fun b => (.bl (!b), false)
  | [x, .tup ys] => (inS x ys).map fun b => (.bl (!b), false)
  | _ => none
def fIx : List D → Option (D × Bool)
  | [.lst xs, .int i] => (atI xs i).map fun d => (d, false)
  | [.tup xs, .int i] => (atI xs i).map fun d => (d, false)
  | [.str z, .int i] => if z.length ≤ most then (atI z.cps.toList i).map fun c => (.str ⟨#[c]⟩, false) else none
  | _ => none
def fLen : List D → Option (D × Bool)
  | [.lst xs] => some (.int xs.length, false)
  | [.tup xs] => some (.int xs.length, false)
  | [.str z] => if z.length ≤ most then some (.int z.length, false) else none
  | _ => none
def fAbs : List D → Option (D × Bool)
  | [.int i] => some (.int (if i < 0 then -i else i), false)
  | _ => none
def fInt : List D → Option (D × Bool)
  | [.int i] => some (.int i, false)
  | [.bl k] => some (.int (if k then 1 else 0), false)
  | _ => none
def toIs : List D → Option (List Int)
  | [] => some []
  | .int i :: r => (toIs r).map (i :: ·)
  | _ => none
def fMax : List D → Option (D × Bool)
  | [.int i, .int j] => some (.int (if j > i then j else i), false)
  | [.lst ds] => match toIs ds with
    | some (i :: r) => some (.int (r.foldl max i), false)
    | _ => none
  | _ => none
def fMin : List D → Option (D × Bool)
  | [.int i, .int j] => some (.int (if j < i then j else i), false)
  | [.lst ds] => match toIs ds with
    | some (i :: r) => some (.int (r.foldl min i), false)
    | _ => none
  | _ => none
def fSum : List D → Option (D × Bool)
  | [.lst ds] => (toIs ds).map fun ns => (.int ns.sum, false)
  | _ => none
def fList : List D → Option (D × Bool)
  | [.lst xs] => some (.lst xs, true)
  | [.tup xs] => some (.lst xs, true)
  | _ => none
def fTuple : List D → Option (D × Bool)
  | [.lst xs] => some (.tup xs, false)
  | [.tup xs] => some (.tup xs, false)
  | _ => none
def insI (i : Int) : List Int → List Int
  | [] => [i]
  | j :: r => if i ≤ j then i :: j :: r else j :: insI i r
def sortI : List Int → List Int
  | [] => []
  | i :: r => insI i (sortI r)
def fSorted : List D → Option (D × Bool)
  | [.lst ds] => match toIs ds with
    | some ns => if ns.length < 64 then some (.lst ((sortI ns).map .int), true) else none
    | none => none
  | _ => none
noncomputable def fRepr : List D → Option (D × Bool)
  | [.lst xs] => match toP (.lst xs) with
    | some p => if p.showable = true ∧ p.hasDict = false ∧ p.depth ≤ 40 ∧ p.shown.length ≤ sizeLine then some (.str p.shown, false) else none
    | none => none
  | [.tup xs] => match toP (.tup xs) with
    | some p => if p.showable = true ∧ p.hasDict = false ∧ p.depth ≤ 40 ∧ p.shown.length ≤ sizeLine then some (.str p.shown, false) else none
    | none => none
  | _ => none

theorem toIs_eq : ∀ {ds : List D} {ns : List Int}, toIs ds = some ns → ds = ns.map D.int
  | [], ns, h => by
    simp only [toIs, Option.some.injEq] at h
    subst h
    rfl
  | d :: ds, ns, h => by
    cases d <;> simp only [toIs, reduceCtorEq, Option.map_eq_some_iff] at h
    obtain ⟨ms, h1, h2⟩ := h
    rw [toIs_eq h1, ← h2]
    rfl
theorem foldl_max {i : Int} {r : List Int} : r.foldl max i ∈ i :: r ∧ ∀ y ∈ i :: r, y ≤ r.foldl max i := by
  induction r generalizing i with
  | nil => simp
  | cons j r ih =>
    have h := @ih (max i j)
    rw [List.foldl_cons]
    refine ⟨?_, fun y hy => ?_⟩
    · rcases List.mem_cons.mp h.1 with e | e
      · rw [e]
        by_cases q : i ≤ j
        · simp [Int.max_eq_right q]
        · simp [Int.max_eq_left (by omega : j ≤ i)]
      · exact List.mem_cons_of_mem _ (List.mem_cons_of_mem _ e)
    · have h2 := h.2 (max i j) (List.mem_cons_self ..)
      rcases List.mem_cons.mp hy with e | hy
      · subst e; omega
      · rcases List.mem_cons.mp hy with e | hy
        · subst e; omega
        · exact h.2 y (List.mem_cons_of_mem _ hy)
end Tr

/-! The operations' rules keep what their functions tell. -/
namespace Tr
open PySem PySem.Spec PyProof.Rows L2 Md
section
variable {K : PySem.W.Frag} {ca : CA} {X : Cx}
/-- two ints -/
theorem os_i2 {C : Int → Int → Prop} {g : Int → Int → V} {f : List D → Option (D × Bool)} (h : ∀ ds res, f ds = some res → ∃ i j, ds = [.int i, .int j] ∧ C i j ∧ res.2 = false ∧ ((∃ k, g i j = .int k ∧ res.1 = .int k) ∨ ∃ k, g i j = .bl k ∧ res.1 = .bl k)) : OpS K ca (lift2 (rI C g)) f := by
  intro S H vs ds res Q hp hf q
  obtain ⟨i, j, rfl, c, e, k⟩ := h ds res hf
  obtain ⟨v, w, rfl, b1, b2⟩ := pair2 hp
  refine ⟨v, w, rfl, i, j, b1.int, b2.int, c, q _ _ (Same.refl _) ?_⟩
  obtain ⟨d, fr⟩ := res
  cases e
  rcases k with ⟨k, e1, e2⟩ | ⟨k, e1, e2⟩
  · rw [e1]
    cases e2
    exact .int k
  · rw [e1]
    cases e2
    exact .bl k
theorem os_i20 {g : Int → Int → V} {f : List D → Option (D × Bool)} (h : ∀ ds res, f ds = some res → ∃ i j, ds = [.int i, .int j] ∧ res.2 = false ∧ ((∃ k, g i j = .int k ∧ res.1 = .int k) ∨ ∃ k, g i j = .bl k ∧ res.1 = .bl k)) : OpS K ca (lift2 (rI0 g)) f := by
  intro S H vs ds res Q hp hf q
  obtain ⟨i, j, rfl, e, k⟩ := h ds res hf
  obtain ⟨v, w, rfl, b1, b2⟩ := pair2 hp
  refine ⟨v, w, rfl, i, j, b1.int, b2.int, q _ _ (Same.refl _) ?_⟩
  obtain ⟨d, fr⟩ := res
  cases e
  rcases k with ⟨k, e1, e2⟩ | ⟨k, e1, e2⟩
  · rw [e1]
    cases e2
    exact .int k
  · rw [e1]
    cases e2
    exact .bl k
theorem os_sub : OpS K ca (lift2 (rI0 fun i j => .int (i - j))) fSub := os_i20 fun ds res h => by
  unfold fSub at h
  split at h
  · cases h; exact ⟨_, _, rfl, rfl, .inl ⟨_, rfl, rfl⟩⟩
  · cases h
theorem os_lt : OpS K ca (lift2 (rI0 fun i j => .bl (decide (i < j)))) fLt := os_i20 fun ds res h => by
  unfold fLt at h
  split at h
  · cases h; exact ⟨_, _, rfl, rfl, .inr ⟨_, rfl, rfl⟩⟩
  · cases h
theorem os_le : OpS K ca (lift2 (rI0 fun i j => .bl (decide (i ≤ j)))) fLe := os_i20 fun ds res h => by
  unfold fLe at h
  split at h
  · cases h; exact ⟨_, _, rfl, rfl, .inr ⟨_, rfl, rfl⟩⟩
  · cases h
theorem os_gt : OpS K ca (lift2 (rI0 fun i j => .bl (decide (j < i)))) fGt := os_i20 fun ds res h => by
  unfold fGt at h
  split at h
  · cases h; exact ⟨_, _, rfl, rfl, .inr ⟨_, rfl, rfl⟩⟩
  · cases h
theorem os_ge : OpS K ca (lift2 (rI0 fun i j => .bl (decide (j ≤ i)))) fGe := os_i20 fun ds res h => by
  unfold fGe at h
  split at h
  · cases h; exact ⟨_, _, rfl, rfl, .inr ⟨_, rfl, rfl⟩⟩
  · cases h
theorem os_div : OpS K ca (lift2 (rI CDivW fun i j => .int (i / j))) fDiv := os_i2 fun ds res h => by
  unfold fDiv at h
  split at h
  · split at h
    · rename_i c
      cases h
      exact ⟨_, _, rfl, wide_div c.1 c.2 (by decide) (by decide), rfl, .inl ⟨_, rfl, rfl⟩⟩
    · cases h
  · cases h
theorem os_mod : OpS K ca (lift2 (rI (fun _ j => 0 < j) fun i j => .int (i % j))) fMod := os_i2 fun ds res h => by
  unfold fMod at h
  split at h
  · split at h
    · rename_i c
      cases h
      exact ⟨_, _, rfl, c, rfl, .inl ⟨_, rfl, rfl⟩⟩
    · cases h
  · cases h
abbrev rPowAll : R2 := fun x y H Q => rI CPowW (fun i j => .int (i ^ j.toNat)) x y H Q ∨ rI CPow (fun i j => .int (i ^ j.toNat)) x y H Q
theorem op_powAll : OpR X (binaryOp .Pow) rPowAll := op_powW.or op_pow
theorem os_pow : OpS K ca (lift2 rPowAll) fPow := by
  intro S H vs ds res Q hp hf q
  unfold fPow at hf
  split at hf
  · split at hf
    · rename_i c
      cases hf
      obtain ⟨v, w, rfl, b1, b2⟩ := pair2 hp
      rcases c with c | c
      · exact ⟨v, w, rfl, .inl ⟨_, _, b1.int, b2.int, c, q _ _ (Same.refl _) (.int _)⟩⟩
      · exact ⟨v, w, rfl, .inr ⟨_, _, b1.int, b2.int, c, q _ _ (Same.refl _) (.int _)⟩⟩
    · cases hf
  · cases hf
abbrev rMulAll : R2 := fun x y H Q => rI CMulW (fun i j => .int (i * j)) x y H Q ∨ rRep x y H Q
theorem op_mulAll : OpR X (binaryOp .Mult) rMulAll := op_mulW.or op_rep
theorem rep_rep {S : Addr → Prop} {H : Hp} {vs : List V} {ds : List D} (r : RepL K ca S H vs ds) : ∀ k : Nat, RepL K ca S H (List.replicate k vs).flatten (List.replicate k ds).flatten
  | 0 => .nil
  | k + 1 => by
    rw [List.replicate_succ, List.replicate_succ, List.flatten_cons, List.flatten_cons]
    exact r.append (rep_rep r k)
theorem os_mul : OpS K ca (lift2 rMulAll) fMul := by
  intro S H vs ds res Q hp hf q
  unfold fMul at hf
  split at hf
  · split at hf
    · rename_i c
      cases hf
      obtain ⟨v, w, rfl, b1, b2⟩ := pair2 hp
      exact ⟨v, w, rfl, .inl ⟨_, _, b1.int, b2.int, wide_mul c.1 c.2 (by decide) (by decide) (by decide), q _ _ (Same.refl _) (.int _)⟩⟩
    · cases hf
  · split at hf
    · rename_i c
      cases hf
      obtain ⟨v, w, rfl, b1, b2⟩ := pair2 hp
      obtain ⟨a, us, rfl, h, l⟩ := b1.lst
      have e9 : ((most : Nat) : Int) = 1000000 := rfl
      refine ⟨_, w, rfl, .inr ⟨a, _, us, rfl, b2.int, h, by omega, by omega, ?_, fun p np => q _ _ (new_same np) (new_lst (rep_rep l _) np)⟩⟩
      rw [l.length]
      exact most_le c.2.2
    · cases hf
  · cases hf
abbrev rStrAdd : R2 := fun x y H Q => ∃ i j, x = .str i ∧ y = .str j ∧ i.length + j.length ≤ sizeLine ∧ Q (.str (i ++ j)) H
abbrev rIntBl : R2 := fun x y H Q => ∃ i k, x = .int i ∧ y = .bl k ∧ Q (.int (i + b2i k)) H
abbrev rAddAll (K : PySem.W.Frag) : R2 := fun x y H Q => rI0 (fun i j => .int (i + j)) x y H Q ∨ (fun x y H Q => rStrAdd x y H Q ∨ (fun x y H Q => rCat x y H Q ∨ (fun x y H Q => rCatA K x y H Q ∨ rIntBl x y H Q) x y H Q) x y H Q) x y H Q
theorem op_addAll : OpR X (binaryOp .Add) (rAddAll X.K) := op_add.or (op_add_str.or (op_cat.or (op_catA.or op_add_ib)))
theorem os_add : OpS K ca (lift2 (rAddAll K)) fAdd := by
  intro S H vs ds res Q hp hf q
  unfold fAdd at hf
  split at hf
  · cases hf
    obtain ⟨v, w, rfl, b1, b2⟩ := pair2 hp
    exact ⟨v, w, rfl, .inl ⟨_, _, b1.int, b2.int, q _ _ (Same.refl _) (.int _)⟩⟩
  · cases hf
    obtain ⟨v, w, rfl, b1, b2⟩ := pair2 hp
    exact ⟨v, w, rfl, .inr (.inr (.inr (.inr ⟨_, _, b1.int, b2.bl, q _ _ (Same.refl _) (.int _)⟩)))⟩
  · split at hf
    · rename_i c
      cases hf
      obtain ⟨v, w, rfl, b1, b2⟩ := pair2 hp
      exact ⟨v, w, rfl, .inr (.inl ⟨_, _, b1.str, b2.str, most_le c, q _ _ (Same.refl _) (.str _)⟩)⟩
    · cases hf
  · split at hf
    · rename_i c
      cases hf
      obtain ⟨v, w, rfl, b1, b2⟩ := pair2 hp
      obtain ⟨a, us, rfl, h, l⟩ := b1.lst
      obtain ⟨a2, us2, rfl, h2, l2⟩ := b2.lst
      refine ⟨_, _, rfl, .inr (.inr (.inl ⟨a, a2, us, us2, rfl, rfl, h, h2, ?_, fun p np => q _ _ (new_same np) (new_lst (l.append l2) np)⟩))⟩
      rw [l.length, l2.length]
      exact most_le c
    · cases hf
  · split at hf
    · rename_i c
      cases hf
      obtain ⟨v, w, rfl, b1, b2⟩ := pair2 hp
      obtain ⟨a, us, rfl, h, l⟩ := b1.tup
      obtain ⟨a2, us2, rfl, h2, l2⟩ := b2.tup
      have e1 := l.length
      have e2 := l2.length
      refine ⟨_, _, rfl, .inr (.inr (.inr (.inl ⟨a, a2, us, us2, rfl, rfl, h, h2, by rw [e1, e2]; exact most_le c, fun z => ?_, fun _ z => ?_, fun _ _ p np => q _ _ (new_same np) (new_tup (l.append l2) np)⟩)))⟩
      · subst z
        cases l
        exact q _ _ (Same.refl _) (.tup h2 l2)
      · subst z
        cases l2
        refine q _ _ (Same.refl _) ?_
        rw [List.append_nil]
        exact .tup h l
    · cases hf
  · cases hf
theorem os_neg : OpS K ca (lift1 (rU fun i => .int (-i))) fNeg := by
  intro S H vs ds res Q hp hf q
  unfold fNeg at hf
  split at hf
  · cases hf
    obtain ⟨v, rfl, b1⟩ := pair1 hp
    exact ⟨v, rfl, _, b1.int, q _ _ (Same.refl _) (.int _)⟩
  · cases hf
theorem os_eq : OpS K ca (lift2 (rEqD K)) fEq := by
  intro S H vs ds res Q hp hf q
  unfold fEq at hf
  split at hf
  · split at hf
    · rename_i p1 q1 e1 e2
      split at hf
      · rename_i c
        cases hf
        obtain ⟨v, w, rfl, b1, b2⟩ := pair2 hp
        exact ⟨v, w, rfl, p1, q1, b1.dp e1, b2.dp e2, c.1, c.2, q _ _ (Same.refl _) (.bl _)⟩
      · cases hf
    · cases hf
  · cases hf
theorem os_ne : OpS K ca (lift2 (rNeD K)) fNe := by
  intro S H vs ds res Q hp hf q
  unfold fNe at hf
  split at hf
  · split at hf
    · rename_i p1 q1 e1 e2
      split at hf
      · rename_i c
        cases hf
        obtain ⟨v, w, rfl, b1, b2⟩ := pair2 hp
        exact ⟨v, w, rfl, p1, q1, b1.dp e1, b2.dp e2, c.1, c.2, q _ _ (Same.refl _) (.bl _)⟩
      · cases hf
    · cases hf
  · cases hf
theorem Bor.isN {S : Addr → Prop} {H : Hp} {v : V} {d : D} (b : Bor K ca S H v d) : decide (v = .non) = isN d := by
  rcases b with r | ⟨a, rfl, t⟩
  · cases r <;> simp [Tr.isN]
  · cases d <;> first | (exact t.elim) | simp [Tr.isN]
abbrev rIsN : R2 := fun x y H Q => y = .non ∧ Q (.bl (decide (x = .non))) H
abbrev rNotN : R2 := fun x y H Q => y = .non ∧ Q (.bl (!decide (x = .non))) H
theorem os_is : OpS K ca (lift2 rIsN) fIs := by
  intro S H vs ds res Q hp hf q
  unfold fIs at hf
  split at hf
  · cases hf
    obtain ⟨v, w, rfl, b1, b2⟩ := pair2 hp
    refine ⟨v, w, rfl, b2.non, q _ _ (Same.refl _) ?_⟩
    rw [b1.isN]
    exact .bl _
  · cases hf
theorem os_isNot : OpS K ca (lift2 rNotN) fIsNot := by
  intro S H vs ds res Q hp hf q
  unfold fIsNot at hf
  split at hf
  · cases hf
    obtain ⟨v, w, rfl, b1, b2⟩ := pair2 hp
    refine ⟨v, w, rfl, b2.non, q _ _ (Same.refl _) ?_⟩
    rw [b1.isN]
    exact .bl _
  · cases hf
abbrev rInStr : R2 := fun x y H Q => ∃ i j, x = .str i ∧ y = .str j ∧ Q (.bl (!(Builtin.Str.occurrences j i 0 j.length 1).isEmpty)) H
abbrev rInAll (K : PySem.W.Frag) : R2 := fun x y H Q => rIn K false x y H Q ∨ rInStr x y H Q
theorem op_inAll : OpR X (compareOp .In) (rInAll X.K) := op_in_seq.or op_in_str
theorem inS_read {S : Addr → Prop} {H : Hp} {x : D} {ds : List D} {v : V} {vs : List V} {b : Bool} (bx : Bor K ca S H v x) (l : RepL K ca S H vs ds) (h : inS x ds = some b) : flatV v = true ∧ vs.all flatV = true ∧ inV v vs = b := by
  unfold inS at h
  split at h
  · rename_i u us e1 e2
    cases h
    obtain ⟨rfl, f1⟩ := bx.sv e1
    obtain ⟨rfl, f2⟩ := l.svs e2
    exact ⟨f1, f2, rfl⟩
  · cases h
theorem os_in : OpS K ca (lift2 (rInAll K)) fIn := by
  intro S H vs ds res Q hp hf q
  unfold fIn at hf
  split at hf
  · rw [Option.map_eq_some_iff] at hf
    obtain ⟨b, e, rfl⟩ := hf
    obtain ⟨v, w, rfl, b1, b2⟩ := pair2 hp
    obtain ⟨a, us, rfl, h, l⟩ := b2.lst
    obtain ⟨f1, f2, e2⟩ := inS_read b1 l e
    refine ⟨v, _, rfl, .inl ⟨a, us, rfl, .inl (.inl (.inl h)), f1, f2, q _ _ (Same.refl _) ?_⟩⟩
    rw [e2]
    exact .bl _
  · rw [Option.map_eq_some_iff] at hf
    obtain ⟨b, e, rfl⟩ := hf
    obtain ⟨v, w, rfl, b1, b2⟩ := pair2 hp
    obtain ⟨a, us, rfl, h, l⟩ := b2.tup
    obtain ⟨f1, f2, e2⟩ := inS_read b1 l e
    refine ⟨v, _, rfl, .inl ⟨a, us, rfl, .inr h, f1, f2, q _ _ (Same.refl _) ?_⟩⟩
    rw [e2]
    exact .bl _
  · cases hf
    obtain ⟨v, w, rfl, b1, b2⟩ := pair2 hp
    exact ⟨v, w, rfl, .inr ⟨_, _, b1.str, b2.str, q _ _ (Same.refl _) (.bl _)⟩⟩
  · cases hf
theorem os_notIn : OpS K ca (lift2 (rIn K true)) fNotIn := by
  intro S H vs ds res Q hp hf q
  unfold fNotIn at hf
  split at hf
  · rw [Option.map_eq_some_iff] at hf
    obtain ⟨b, e, rfl⟩ := hf
    obtain ⟨v, w, rfl, b1, b2⟩ := pair2 hp
    obtain ⟨a, us, rfl, h, l⟩ := b2.lst
    obtain ⟨f1, f2, e2⟩ := inS_read b1 l e
    refine ⟨v, _, rfl, a, us, rfl, .inl (.inl (.inl h)), f1, f2, q _ _ (Same.refl _) ?_⟩
    rw [e2]
    exact .bl _
  · rw [Option.map_eq_some_iff] at hf
    obtain ⟨b, e, rfl⟩ := hf
    obtain ⟨v, w, rfl, b1, b2⟩ := pair2 hp
    obtain ⟨a, us, rfl, h, l⟩ := b2.tup
    obtain ⟨f1, f2, e2⟩ := inS_read b1 l e
    refine ⟨v, _, rfl, a, us, rfl, .inr h, f1, f2, q _ _ (Same.refl _) ?_⟩
    rw [e2]
    exact .bl _
  · cases hf
theorem atI_rep {S : Addr → Prop} {H : Hp} {ds : List D} {vs : List V} {i : Int} {d : D} (l : RepL K ca S H vs ds) (h : atI ds i = some d) : ∃ v, atI vs i = some v ∧ Rep K ca S H v d := by
  unfold atI at h ⊢
  rw [l.length]
  cases e : ixN ds.length i with
  | none => rw [e] at h; cases h
  | some j =>
    rw [e] at h
    exact l.get h
theorem os_ix : OpS K ca (lift2 (rIx K)) fIx := by
  intro S H vs ds res Q hp hf q
  unfold fIx at hf
  split at hf
  · rw [Option.map_eq_some_iff] at hf
    obtain ⟨d, e, rfl⟩ := hf
    obtain ⟨v, w, rfl, b1, b2⟩ := pair2 hp
    obtain ⟨a, us, rfl, h, l⟩ := b1.lst
    obtain ⟨u, e2, r⟩ := atI_rep l e
    exact ⟨_, w, rfl, .inl ⟨a, us, _, u, rfl, b2.int, .inl (.inl h), e2, q _ _ (Same.refl _) r⟩⟩
  · rw [Option.map_eq_some_iff] at hf
    obtain ⟨d, e, rfl⟩ := hf
    obtain ⟨v, w, rfl, b1, b2⟩ := pair2 hp
    obtain ⟨a, us, rfl, h, l⟩ := b1.tup
    obtain ⟨u, e2, r⟩ := atI_rep l e
    exact ⟨_, w, rfl, .inr (.inl ⟨a, us, _, u, rfl, b2.int, h, e2, q _ _ (Same.refl _) r⟩)⟩
  · split at hf
    · rename_i c
      rw [Option.map_eq_some_iff] at hf
      obtain ⟨d, e, rfl⟩ := hf
      obtain ⟨v, w, rfl, b1, b2⟩ := pair2 hp
      exact ⟨v, w, rfl, .inr (.inr ⟨_, _, d, b1.str, b2.int, most_le c, e, q _ _ (Same.refl _) (.str _)⟩)⟩
    · cases hf
  · cases hf
abbrev rLenSeq (K : PySem.W.Frag) : List V → Hp → VK → Prop := fun xs H Q => ∃ p ys, xs = [.ref p] ∧ (SqL K H p ys ∨ SqT K H p ys) ∧ Q (.int ys.length) H
abbrev rLenStr : List V → Hp → VK → Prop := fun xs H Q => ∃ z, xs = [.str z] ∧ z.length ≤ sizeLine ∧ Q (.int z.length) H
abbrev rLenAll (K : PySem.W.Frag) : List V → Hp → VK → Prop := fun xs H Q => rLenSeq K xs H Q ∨ rLenStr xs H Q
theorem call_lenAll : CallR X (.builtin "len") (rLenAll X.K) := call_len_seq.or call_len_str
theorem os_len : OpS K ca (rLenAll K) fLen := by
  intro S H vs ds res Q hp hf q
  unfold fLen at hf
  split at hf
  · cases hf
    obtain ⟨v, rfl, b1⟩ := pair1 hp
    obtain ⟨a, us, rfl, h, l⟩ := b1.lst
    refine .inl ⟨a, us, rfl, .inl (.inl (.inl h)), q _ _ (Same.refl _) ?_⟩
    rw [l.length]
    exact .int _
  · cases hf
    obtain ⟨v, rfl, b1⟩ := pair1 hp
    obtain ⟨a, us, rfl, h, l⟩ := b1.tup
    refine .inl ⟨a, us, rfl, .inr h, q _ _ (Same.refl _) ?_⟩
    rw [l.length]
    exact .int _
  · split at hf
    · rename_i c
      cases hf
      obtain ⟨v, rfl, b1⟩ := pair1 hp
      exact .inr ⟨_, by rw [b1.str], most_le c, q _ _ (Same.refl _) (.int _)⟩
    · cases hf
  · cases hf
abbrev rAbs : List V → Hp → VK → Prop := fun xs H Q => ∃ i, xs = [.int i] ∧ Q (.int (if i < 0 then -i else i)) H
abbrev rInt1 : List V → Hp → VK → Prop := fun xs H Q => (∃ i, xs = [.int i] ∧ Q (.int i) H) ∨ ∃ k, xs = [.bl k] ∧ Q (.int (if k then 1 else 0)) H
theorem os_int : OpS K ca rInt1 fInt := by
  intro S H vs ds res Q hp hf q
  unfold fInt at hf
  split at hf
  · cases hf
    obtain ⟨v, rfl, b1⟩ := pair1 hp
    exact .inl ⟨_, by rw [b1.int], q _ _ (Same.refl _) (.int _)⟩
  · cases hf
    obtain ⟨v, rfl, b1⟩ := pair1 hp
    exact .inr ⟨_, by rw [b1.bl], q _ _ (Same.refl _) (.int _)⟩
  · cases hf
theorem toIs_rep {S : Addr → Prop} {H : Hp} {ds : List D} {vs : List V} {ns : List Int} (l : RepL K ca S H vs ds) (h : toIs ds = some ns) : vs = ns.map V.int := by
  have e := toIs_eq h
  subst e
  exact l.ints
abbrev rMax2 : List V → Hp → VK → Prop := fun xs H Q => ∃ i j, xs = [.int i, .int j] ∧ Q (.int (if j > i then j else i)) H
abbrev rMaxAll (K : PySem.W.Frag) : List V → Hp → VK → Prop := fun xs H Q => rMax2 xs H Q ∨ rMax K xs H Q
theorem call_maxAll (hc : X.calm = true) : CallR X (.builtin "max") (rMaxAll X.K) := (call_max2 hc).or (cr_max hc)
theorem os_max : OpS K ca (rMaxAll K) fMax := by
  intro S H vs ds res Q hp hf q
  unfold fMax at hf
  split at hf
  · cases hf
    obtain ⟨v, w, rfl, b1, b2⟩ := pair2 hp
    exact .inl ⟨_, _, by rw [b1.int, b2.int], q _ _ (Same.refl _) (.int _)⟩
  · split at hf
    · rename_i i r e
      cases hf
      obtain ⟨v, rfl, b1⟩ := pair1 hp
      obtain ⟨a, us, rfl, h, l⟩ := b1.lst
      have e2 := toIs_rep l e
      refine .inr ⟨a, i :: r, rfl, by rw [← e2]; exact .inl (.inl h), by simp, fun m h1 h2 => ?_⟩
      have z : m = r.foldl max i := Int.le_antisymm (foldl_max.2 m h1) (h2 _ foldl_max.1)
      rw [z]
      exact q _ _ (Same.refl _) (.int _)
    · cases hf
  · cases hf
abbrev rMin2 : List V → Hp → VK → Prop := fun xs H Q => ∃ i j, xs = [.int i, .int j] ∧ Q (.int (if j < i then j else i)) H
abbrev rMinAll (K : PySem.W.Frag) : List V → Hp → VK → Prop := fun xs H Q => rMin2 xs H Q ∨ rMin K xs H Q
abbrev rListOf (K : PySem.W.Frag) : List V → Hp → VK → Prop := fun xs H Q => ∃ p ys, xs = [.ref p] ∧ (SqL K H p ys ∨ SqT K H p ys) ∧ ∀ l, H l = none → Q (.ref l) (upd H l (.lst ys))
theorem os_list : OpS K ca (rListOf K) fList := by
  intro S H vs ds res Q hp hf q
  unfold fList at hf
  split at hf
  · cases hf
    obtain ⟨v, rfl, b1⟩ := pair1 hp
    obtain ⟨a, us, rfl, h, l⟩ := b1.lst
    exact ⟨a, us, rfl, .inl (.inl (.inl h)), fun p np => q _ _ (new_same np) (new_lst l np)⟩
  · cases hf
    obtain ⟨v, rfl, b1⟩ := pair1 hp
    obtain ⟨a, us, rfl, h, l⟩ := b1.tup
    exact ⟨a, us, rfl, .inr h, fun p np => q _ _ (new_same np) (new_lst l np)⟩
  · cases hf
abbrev rTupleOf (K : PySem.W.Frag) : List V → Hp → VK → Prop := fun xs H Q => ∃ p ys, xs = [.ref p] ∧ ((SqL K H p ys ∧ ∀ l, H l = none → Q (.ref l) (upd H l (.tup ys))) ∨ (SqT K H p ys ∧ Q (.ref p) H))
theorem os_repr : OpS K ca (rRepr K) fRepr := by
  intro S H vs ds res Q hp hf q
  unfold fRepr at hf
  split at hf
  · split at hf
    · rename_i p e
      split at hf
      · rename_i c
        cases hf
        obtain ⟨v, rfl, b1⟩ := pair1 hp
        have dp := b1.dp e
        obtain ⟨a, us, rfl, h, l⟩ := b1.lst
        exact ⟨a, p, rfl, dp, c.1, c.2.1, c.2.2.1, c.2.2.2, q _ _ (Same.refl _) (.str _)⟩
      · cases hf
    · cases hf
  · split at hf
    · rename_i p e
      split at hf
      · rename_i c
        cases hf
        obtain ⟨v, rfl, b1⟩ := pair1 hp
        have dp := b1.dp e
        obtain ⟨a, us, rfl, h, l⟩ := b1.tup
        exact ⟨a, p, rfl, dp, c.1, c.2.1, c.2.2.1, c.2.2.2, q _ _ (Same.refl _) (.str _)⟩
      · cases hf
    · cases hf
  · cases hf
end
end Tr

/-! Constants, names, displays, tests, and, or, if, slices. -/
namespace Tr
open PySem PySem.Spec PyProof.Rows L2 Md
section
variable {K : PySem.W.Frag} {ca : CA} {W : WX} {O S : Addr → Prop} {H H1 H2 H' : Hp} {σ : L2.St} {ε ε1 ε' : TEnv} {a : Addr} {d : D} {v : V} {Q : VK}
def cT (d : D) : ET := fun ε => some (.ok (d, false) ε)
theorem cT_read (h : tEv K ca W (cT d) σ H Q) (r : ∀ S, Rep K ca S H v d) : Q v H := by
  obtain ⟨O, ε, r0, E, e, p⟩ := h
  cases e
  exact p v H (Stp.refl E) (r _)
/-- a slot's object is given away -/
theorem own_set {i : Nat} {k' : Nat} (n : ownF k' = false) {b : Addr} (h : Own σ (ε.set i (some (d, k'))) b) : Own σ ε b ∧ ∃ j, j ≠ i ∧ σ[j]? = some (some (.ref b)) ∧ ∃ d k, ε[j]? = some (some (d, k)) ∧ ownF k = true := by
  obtain ⟨j, d2, k2, h1, h2, h3⟩ := h
  by_cases e : i = j
  · subst e
    by_cases l : i < ε.length
    · rw [List.getElem?_set_self l] at h1
      cases h1
      rw [n] at h2
      cases h2
    · rw [List.getElem?_eq_none (by simpa using l)] at h1
      cases h1
  · rw [List.getElem?_set_ne e] at h1
    exact ⟨⟨j, d2, k2, h1, h2, h3⟩, j, fun z => e z.symm, h3, d2, k2, h1, h2⟩
theorem EnvR.give {i : Nat} {k : Nat} (E : EnvR K ca O H σ ε) (h : ε[i]? = some (some (d, k))) (o : ownF k = true) (hv : σ[i]? = some (some v)) :
    EnvR K ca O H σ (ε.set i (some (d, dem k))) ∧ Rep K ca (Or2 O (Own σ (ε.set i (some (d, dem k))))) H v d ∧ Le ε (ε.set i (some (d, dem k))) := by
  obtain ⟨a, ea, na, t⟩ := E.own i d k h o
  have li : i < ε.length := (List.getElem?_eq_some_iff.mp h).1
  rw [ea] at hv
  cases hv
  have sub : ∀ b, Or2 O (Own σ (ε.set i (some (d, dem k)))) b → Or2 O (Own σ ε) b ∨ H b = none := fun b z => .inl (z.elim .inl fun y => .inr (own_set (ownF_dem k) y).1)
  have na2 : ¬ Or2 O (Own σ (ε.set i (some (d, dem k)))) a := fun z => z.elim na fun y => by
    obtain ⟨_, j, ne, e1, d1, k1, e2, o1⟩ := own_set (ownF_dem k) y
    exact ne (E.inj j i d1 k1 d k a e2 o1 h o e1 ea)
  have rp : Rep K ca (Or2 O (Own σ (ε.set i (some (d, dem k))))) H (.ref a) d := t.rep na2 sub
  have kk : Kp (Or2 O (Own σ ε)) H H := fun _ _ h _ => h
  refine ⟨⟨by rw [List.length_set]; exact E.len, fun j d1 k1 h1 n1 => ?_, fun j d1 k1 h1 n1 => ?_, fun j l d1 k1 d2 k2 b h1 n1 h2 n2 e1 e2 => ?_, E.out⟩, rp, ⟨by rw [List.length_set], fun j s hs => ?_⟩⟩
  · by_cases e : i = j
    · subst e
      rw [List.getElem?_set_self li] at h1
      cases h1
      exact ⟨_, ea, rp⟩
    · rw [List.getElem?_set_ne e] at h1
      obtain ⟨w, e1, r⟩ := E.shr j d1 k1 h1 n1
      exact ⟨w, e1, r.step sub kk⟩
  · by_cases e : i = j
    · subst e
      rw [List.getElem?_set_self li] at h1
      cases h1
      rw [ownF_dem] at n1
      cases n1
    · rw [List.getElem?_set_ne e] at h1
      obtain ⟨b, e1, nb, tb⟩ := E.own j d1 k1 h1 n1
      exact ⟨b, e1, nb, tb.step sub kk fun _ z => z⟩
  · have f : ∀ {j : Nat} {d1 : D} {k1 : Nat}, (ε.set i (some (d, dem k)))[j]? = some (some (d1, k1)) → ownF k1 = true → ε[j]? = some (some (d1, k1)) := fun {j d1 k1} h1 n1 => by
      by_cases e : i = j
      · subst e
        rw [List.getElem?_set_self li] at h1
        cases h1
        rw [ownF_dem] at n1
        cases n1
      · rw [List.getElem?_set_ne e] at h1
        exact h1
    exact E.inj j l d1 k1 d2 k2 b (f h1 n1) n1 (f h2 n2) n2 e1 e2
  · by_cases e : i = j
    · subst e
      rw [h] at hs
      cases hs
      exact ⟨_, List.getElem?_set_self li, ⟨d, dem k, rfl, ⟨fun z => absurd (o.symm.trans z) (by decide), fun _ => .inr rfl⟩⟩⟩
    · exact ⟨s, by rw [List.getElem?_set_ne e]; exact hs, leS.refl s⟩
/-- a name's value: what is owned is given away -/
def varT (i : Nat) : ET := fun ε => match ε[i]? with
  | some (some (d, 1)) => some (.ok (d, false) (ε.set i (some (d, 0))))
  | some (some (d, 2)) => some (.ok (d, false) (ε.set i (some (d, 3))))
  | some (some (d, _)) => some (.ok (d, false) ε)
  | _ => none
theorem varT_read {i : Nat} (h : tEv K ca W (varT i) σ H Q) : tVar i σ H Q := by
  obtain ⟨O, ε, r0, E, e, p⟩ := h
  unfold varT at e
  have give : ∀ {d : D} {k : Nat}, ε[i]? = some (some (d, k)) → ownF k = true → r0 = .ok (d, false) (ε.set i (some (d, dem k))) → tVar i σ H Q := fun {d k} h o e => by
    obtain ⟨a, ea, _⟩ := E.own i d k h o
    obtain ⟨E2, r2, l2⟩ := E.give h o ea
    subst e
    exact ⟨_, ea, p _ H ⟨l2, fun _ _ z _ => z, fun _ z => z, E2⟩ r2⟩
  split at e
  · rename_i d h
    cases e
    exact give h rfl rfl
  · rename_i d h
    cases e
    exact give h rfl rfl
  · rename_i d k n1 n2 h
    cases e
    have o : ownF k = false := by
      cases z : ownF k with
      | false => rfl
      | true => rcases ownF_cases z with z | z
                · exact (n1 z).elim
                · exact (n2 z).elim
    obtain ⟨w, e1, r⟩ := E.shr i d k h o
    exact ⟨w, e1, p w H (Stp.refl E) r⟩
  · cases e

/-! ### displays -/
def tms : List Ad → Option (List D)
  | [] => some []
  | .tm d :: r => (tms r).map (d :: ·)
  | .sl _ :: _ => none
theorem tms_rep : ∀ {vs : List V} {ads : List Ad} {ds : List D}, ArgR K ca O σ ε H vs ads → tms ads = some ds → RepL K ca (Or2 O (Own σ ε)) H vs ds
  | _, _, _, .nil, e => by cases e; exact .nil
  | _, _, _, .sl _ _ _, e => by cases e
  | _, _, _, .tm (ads := ads) r ar, e => by
    unfold tms at e
    cases q : tms ads with
    | none => rw [q] at e; cases e
    | some ds2 =>
      rw [q] at e
      cases e
      exact .cons r (tms_rep ar q)
def dispT (mk : List D → D × Bool) (as : List AK) : ET := fun ε => bindE (evA as ε) fun ads ε1 => (tms ads).map fun ds => .ok (mk ds) ε1
theorem evA_len : ∀ {as : List AK} {ε ε1 : TEnv} {ads : List Ad}, evA as ε = some (.ok ads ε1) → ads.length = as.length
  | [], ε, ε1, ads, e => by cases e; rfl
  | .nm i :: as, ε, ε1, ads, e => by
    unfold evA at e
    split at e
    · cases q : evA as ε with
      | none => rw [q] at e; cases e
      | some r =>
        rw [q] at e
        cases r with
        | ok x y => cases e; simp [evA_len q]
        | ex _ _ _ => cases e
    · cases e
  | .ex g :: as, ε, ε1, ads, e => by
    unfold evA at e
    cases q0 : g ε with
    | none => rw [q0] at e; cases e
    | some r0 =>
      rw [q0] at e
      cases r0 with
      | ex _ _ _ => cases e
      | ok x ε2 =>
        rw [bindE_ok] at e
        cases q : evA as ε2 with
        | none => rw [q] at e; cases e
        | some r =>
          rw [q] at e
          cases r with
          | ok x y => cases e; simp [evA_len q]
          | ex _ _ _ => cases e
theorem argR_len : ∀ {vs : List V} {ads : List Ad}, ArgR K ca O σ ε H vs ads → vs.length = ads.length
  | _, _, .nil => rfl
  | _, _, .sl _ _ ar => by simp [argR_len ar]
  | _, _, .tm _ ar => by simp [argR_len ar]
theorem dispT_read {mk : List D → D × Bool} {as : List AK} {G : List V → Hp → Prop} (h : tEv K ca W (dispT mk as) σ H Q)
    (m : ∀ S H1 vs ds, vs.length = as.length → RepL K ca S H1 vs ds → (∀ v H', Same H1 H' → NewR K ca S H1 H' v (mk ds) → Q v H') → G vs H1) : tAks K ca W as σ H G := by
  obtain ⟨O, ε, r0, E, e, p⟩ := h
  unfold dispT at e
  cases q : evA as ε with
  | none => rw [q] at e; cases e
  | some r1 =>
    rw [q] at e
    refine evA_read as E q ?_
    cases r1 with
    | ex c d ε1 =>
      cases e
      exact p
    | ok ads ε1 =>
      intro vs H1 s ar
      rw [bindE_ok] at e
      cases q2 : tms ads with
      | none => rw [q2] at e; cases e
      | some ds =>
        rw [q2] at e
        cases e
        exact m _ H1 vs ds (by rw [argR_len ar, evA_len q]) (tms_rep ar q2) fun v H2 sm nr => p v H2 (s.trans (Stp.same s.env sm)) ((nr.res s.env sm).old s.th)
abbrev tupT (as : List AK) : ET := dispT (fun ds => (.tup ds, false)) as
abbrev lstT (as : List AK) : ET := dispT (fun ds => (.lst ds, true)) as

/-! ### tests -/
abbrev GT := TEnv → Option (R Bool)
def PostB (K : PySem.W.Frag) (ca : CA) (W : WX) (O : Addr → Prop) (σ : L2.St) (ε : TEnv) (H : Hp) (r : R Bool) (Q : Bool → Hp → Prop) : Prop :=
  match r with
  | .ok b ε' => ∀ H', Stp K ca O σ ε H ε' H' → Q b H'
  | .ex c d ε' => Err K ca W O σ ε H c d ε'
def tTv (K : PySem.W.Frag) (ca : CA) (W : WX) (g : GT) : TT := fun σ H Q => ∃ O ε r, EnvR K ca O H σ ε ∧ g ε = some r ∧ PostB K ca W O σ ε H r Q
theorem PostB.later {r : R Bool} {Q : Bool → Hp → Prop} (p : PostB K ca W O σ ε H r Q) (s : Stp K ca O σ ε H ε1 H1) : PostB K ca W O σ ε1 H1 r Q := by
  cases r with
  | ok d ε' => exact fun H' s2 => p H' (s.trans s2)
  | ex c d ε' => exact Err.later p s
/-- a bool as a test -/
def boolT (g : ET) : GT := fun ε => bindE (g ε) fun x ε1 => match x.1 with
  | .bl b => some (.ok b ε1)
  | _ => none
theorem boolT_read {g : ET} {Q : Bool → Hp → Prop} (h : tTv K ca W (boolT g) σ H Q) : tEv K ca W g σ H fun x H' => ∃ k, x = .bl k ∧ Q k H' := by
  obtain ⟨O, ε, r0, E, e, p⟩ := h
  unfold boolT at e
  cases q : g ε with
  | none => rw [q] at e; cases e
  | some r1 =>
    rw [q] at e
    refine ⟨O, ε, r1, E, q, ?_⟩
    cases r1 with
    | ex c d ε1 =>
      cases e
      exact p
    | ok x ε1 =>
      rw [bindE_ok] at e
      split at e
      · rename_i b eb
        cases e
        intro v H' s rr
        have z := rr.rep
        rw [eb] at z
        cases z
        exact ⟨b, rfl, p H' s⟩
      · cases e
/-- truth -/
def truD : D → Option Bool
  | .non => some false
  | .bl b => some b
  | .int i => some (i != 0)
  | .str y => if y.length ≤ most then some ((y.length : Int) != 0) else none
  | .lst xs => some (!xs.isEmpty)
  | .tup xs => some (!xs.isEmpty)
  | .dct es => some (!es.isEmpty)
  | .ins _ _ => none
  | .set _ => none
  | .err _ _ _ _ => none
def truT (a : AK) : GT := fun ε => bindE (evA [a] ε) fun ads ε1 => match late ε1 ads with
  | some [d] => (truD d).map fun b => .ok b ε1
  | _ => none
theorem isEmpty_len {α β : Type} {l : List α} {m : List β} (h : l.length = m.length) : l.isEmpty = m.isEmpty := by
  cases l <;> cases m <;> simp_all
theorem Bor.tru {b : Bool} (r : Bor K ca S H v d) (h : truD d = some b) : TruV K v H b := by
  cases d with
  | non => cases h; rw [r.non]; rfl
  | bl k => cases h; rw [r.bl]; rfl
  | int i => cases h; rw [r.int]; rfl
  | str y =>
    have h : (if y.length ≤ most then some ((y.length : Int) != 0) else none) = some b := h
    split at h
    · rename_i c
      cases h
      rw [r.str]
      exact ⟨most_le c, rfl⟩
    · cases h
  | lst xs =>
    cases h
    obtain ⟨a, vs, rfl, e, l⟩ := r.lst
    exact .inl ⟨vs, .inl (.inl e), by rw [isEmpty_len l.length]⟩
  | tup xs =>
    cases h
    obtain ⟨a, vs, rfl, e, l⟩ := r.tup
    exact .inr (.inl ⟨vs, e, by rw [isEmpty_len l.length]⟩)
  | dct es =>
    cases h
    obtain ⟨a, vs, rfl, e, l⟩ := r.dct
    exact .inr (.inr ⟨vs, e, by rw [isEmpty_len l.length]⟩)
  | ins c es => cases h
  | set ks => cases h
  | err a c x d => cases h
theorem truT_read {a : AK} {Q : Bool → Hp → Prop} (h : tTv K ca W (truT a) σ H Q) : tAk K ca W a σ H fun x H' => ∃ k, TruV K x H' k ∧ Q k H' := by
  obtain ⟨O, ε, r0, E, e, p⟩ := h
  unfold truT at e
  cases q : evA [a] ε with
  | none => rw [q] at e; cases e
  | some r1 =>
    rw [q] at e
    have z : tAks K ca W [a] σ H fun vs H1 => ∃ x, vs = [x] ∧ ∃ k, TruV K x H1 k ∧ Q k H1 := by
      refine evA_read [a] E q ?_
      cases r1 with
      | ex c d ε1 =>
        cases e
        exact p
      | ok ads ε1 =>
        intro vs H1 s ar
        rw [bindE_ok] at e
        split at e
        · rename_i d ed
          rw [Option.map_eq_some_iff] at e
          obtain ⟨b, e1, e2⟩ := e
          obtain ⟨v, rfl, bv⟩ := pair1 (late_bor s.env ar ed)
          subst e2
          exact ⟨v, rfl, b, bv.tru e1, p H1 s⟩
        · cases e
    refine tAk_mono z fun x H1 z => ?_
    obtain ⟨x', e, q⟩ := z
    cases e
    exact q
def notG (g : GT) : GT := fun ε => bindE (g ε) fun b ε1 => some (.ok (!b) ε1)
def andG (g1 g2 : GT) : GT := fun ε => bindE (g1 ε) fun b ε1 => if b = true then g2 ε1 else some (.ok false ε1)
def orG (g1 g2 : GT) : GT := fun ε => bindE (g1 ε) fun b ε1 => if b = true then some (.ok true ε1) else g2 ε1
/-- a test, then another thing -/
theorem tTv_bind {g : GT} {β : Type} {k : Bool → TEnv → Option (R β)} {r : R β} {P : Bool → Hp → Prop} (E : EnvR K ca O H σ ε) (e : bindE (g ε) k = some r)
    (p : ∀ b ε1 H1, Stp K ca O σ ε H ε1 H1 → k b ε1 = some r → P b H1) (px : ∀ c d ε1, r = .ex c d ε1 → Err K ca W O σ ε H c d ε1) : tTv K ca W g σ H P := by
  cases q : g ε with
  | none => rw [q] at e; cases e
  | some r1 =>
    rw [q] at e
    refine ⟨O, ε, r1, E, q, ?_⟩
    cases r1 with
    | ok b ε1 => exact fun H1 s => p b ε1 H1 s e
    | ex c d ε1 =>
      cases e
      exact px c d ε1 rfl
theorem notG_read {g : GT} {Q : Bool → Hp → Prop} (h : tTv K ca W (notG g) σ H Q) : tNot (tTv K ca W g) σ H Q := by
  obtain ⟨O, ε, r, E, e, p⟩ := h
  exact tTv_bind E e (fun b ε1 H1 s e1 => by cases e1; exact p H1 s) fun c d ε1 z => by subst z; exact p
theorem andG_read {g1 g2 : GT} {Q : Bool → Hp → Prop} (h : tTv K ca W (andG g1 g2) σ H Q) : tAnd (tTv K ca W g1) (tTv K ca W g2) σ H Q := by
  obtain ⟨O, ε, r, E, e, p⟩ := h
  refine tTv_bind E e (fun b ε1 H1 s e1 => ?_) fun c d ε1 z => by subst z; exact p
  cases b with
  | true => exact iteT ⟨O, ε1, r, s.env, by simpa using e1, p.later s⟩
  | false => cases e1; exact iteF (p H1 s)
theorem orG_read {g1 g2 : GT} {Q : Bool → Hp → Prop} (h : tTv K ca W (orG g1 g2) σ H Q) : tOr (tTv K ca W g1) (tTv K ca W g2) σ H Q := by
  obtain ⟨O, ε, r, E, e, p⟩ := h
  refine tTv_bind E e (fun b ε1 H1 s e1 => ?_) fun c d ε1 z => by subst z; exact p
  cases b with
  | true => cases e1; exact iteT (p H1 s)
  | false => exact iteF ⟨O, ε1, r, s.env, by simpa using e1, p.later s⟩
/-- a if c else b -/
def ifT (c : GT) (g1 g2 : ET) : ET := fun ε => bindE (c ε) fun b ε1 => if b = true then g1 ε1 else g2 ε1
theorem ifT_read {c : GT} {g1 g2 : ET} (h : tEv K ca W (ifT c g1 g2) σ H Q) : tIf (tTv K ca W c) (tEv K ca W g1) (tEv K ca W g2) σ H Q := by
  obtain ⟨O, ε, r, E, e, p⟩ := h
  refine tTv_bind E e (fun b ε1 H1 s e1 => ?_) fun c d ε1 z => by subst z; exact p
  cases b with
  | true => exact iteT ⟨O, ε1, r, s.env, by simpa using e1, p.later s⟩
  | false => exact iteF ⟨O, ε1, r, s.env, by simpa using e1, p.later s⟩
/-- and, or of bools, as values -/
def andT (g1 g2 : ET) : ET := fun ε => bindE (boolT g1 ε) fun b ε1 => if b = true then g2 ε1 else some (.ok (.bl false, false) ε1)
def orT (g1 g2 : ET) : ET := fun ε => bindE (boolT g1 ε) fun b ε1 => if b = true then some (.ok (.bl true, false) ε1) else g2 ε1
theorem boolT_bind {g : ET} {β : Type} {k : Bool → TEnv → Option (R β)} {r : R β} {P : V → Hp → Prop} (E : EnvR K ca O H σ ε) (e : bindE (boolT g ε) k = some r)
    (p : ∀ b ε1 H1, Stp K ca O σ ε H ε1 H1 → k b ε1 = some r → P (.bl b) H1) (px : ∀ c d ε1, r = .ex c d ε1 → Err K ca W O σ ε H c d ε1) : tEv K ca W g σ H P :=
  tEv_mono (boolT_read (tTv_bind (P := fun b H1 => P (.bl b) H1) E e p px)) fun v H' z => by
    obtain ⟨k, e, q⟩ := z
    rw [e]
    exact q
theorem andT_read {g1 g2 : ET} (h : tEv K ca W (andT g1 g2) σ H Q) : tAndV (tEv K ca W g1) (tEv K ca W g2) σ H Q := by
  obtain ⟨O, ε, r, E, e, p⟩ := h
  refine boolT_bind E e (fun b ε1 H1 s e1 => ⟨b, rfl, ?_⟩) fun c d ε1 z => by subst z; exact p
  cases b with
  | true => exact iteT ⟨O, ε1, r, s.env, by simpa using e1, p.later s⟩
  | false => cases e1; exact iteF (p _ H1 s (.bl false))
/-- not e as a value -/
def notT (a : AK) : ET := fun ε => bindE (truT a ε) fun b ε1 => some (.ok (.bl (!b), false) ε1)
theorem notT_read {a : AK} (h : tEv K ca W (notT a) σ H Q) : tNotT K (tAk K ca W a) σ H Q := by
  obtain ⟨O, ε, r, E, e, p⟩ := h
  exact truT_read (tTv_bind E e (fun b ε1 H1 s e1 => by cases e1; exact p _ H1 s (.bl _)) fun c d ε1 z => by subst z; exact p)
/-- a op1 b op2 c, of values that do not change -/
def chT (f f' : List D → Option (D × Bool)) (ga gb gc : ET) : ET := fun ε => bindE (ga ε) fun x ε1 => bindE (gb ε1) fun y ε2 => match f [x.1, y.1] with
  | some (.bl true, _) => bindE (gc ε2) fun z ε3 => (f' [y.1, z.1]).map fun u => .ok u ε3
  | some (.bl false, _) => some (.ok (.bl false, false) ε2)
  | _ => none
theorem OpS.two {r : R2} {f : List D → Option (D × Bool)} (o : OpS K ca (lift2 r) f) {x y : V} {d e : D} {res : D × Bool} (hx : Rep K ca S H x d) (hy : Rep K ca S H y e) (h : f [d, e] = some res) (q : ∀ v H', Same H H' → NewR K ca S H H' v res → Q v H') : r x y H Q := by
  obtain ⟨x', y', e', z⟩ := o S H [x, y] [d, e] res Q (.cons (.inl hx) (.cons (.inl hy) .nil)) h q
  cases e'
  exact z
end

/-! ### the rules -/
section
variable {X : Cx} {ca : CA} {W : WX} {e e1 e2 e3 : Expr} {g g1 g2 g3 : ET} {c1 c2 : GT} {a b : AK} {pos : Pos} {es rest : List Expr} {as : List AK}
theorem pet_int {i : Int} {j : Nat} : PET X ca W (.Constant (.int i) j pos) (cT (.int i)) := peWeak pe_int fun _ _ _ h => cT_read h fun _ => .int i
theorem pet_bl {x : Bool} {j : Nat} : PET X ca W (.Constant (.bool x) j pos) (cT (.bl x)) := peWeak pe_bl fun _ _ _ h => cT_read h fun _ => .bl x
theorem pet_non {j : Nat} : PET X ca W (.Constant .none j pos) (cT .non) := peWeak pe_non fun _ _ _ h => cT_read h fun _ => .non
theorem pet_var (i : Nat) {x : Str} (hN : X.N[i]? = some x := by rfl) (hv : Vis X.env.scope x := by first | exact Or.inl rfl | exact Or.inr (Or.inl rfl) | exact Or.inr (Or.inr rfl)) (hd : (x == ("__debug__" : Str)) = false := by decide)
    (hcd : (x == ("__classdict__" : Str)) = false := by decide) : PET X ca W (.Name x pos) (varT i) := peWeak (pe_var hN hv hd hcd) fun _ _ _ h => varT_read h
theorem pet_tup {x1 : Nat} (h : PAKs X ca W es as) (l : as.length ≤ 1000 := by decide) : PET X ca W (.Tuple es x1 pos) (tupT as) :=
  peWeak (pe_tup h) fun _ _ Q h => dispT_read h fun S H1 vs ds n r q => ⟨by rw [n]; exact Nat.le_trans l (by decide), fun p np => q _ _ (new_same np) (new_tup r np)⟩
theorem pet_lst (h : PAKs X ca W es as) (l : as.length ≤ 1000 := by decide) : PET X ca W (.List es pos) (lstT as) :=
  peWeak (pe_lst h) fun _ _ Q h => dispT_read h fun S H1 vs ds n r q => ⟨by rw [n]; exact Nat.le_trans l (by decide), fun p np => q _ _ (new_same np) (new_lst r np)⟩
abbrev PTT (X : Cx) (ca : CA) (W : WX) (e : Expr) (g : GT) : Prop := PT X e (tTv X.K ca W g)
abbrev PWT (X : Cx) (ca : CA) (W : WX) (e : Expr) (g : GT) : Prop := PW X e (tTv X.K ca W g)
theorem ptWeak {t t' : TT} (h : PT X e t) (w : ∀ σ H Q, t' σ H Q → t σ H Q) : PT X e t' := ⟨fun pins s σ H Q I q => h.run pins s σ H Q I (w σ H Q q)⟩
theorem pwWeak {t t' : TT} (h : PW X e t) (w : ∀ σ H Q, t' σ H Q → t σ H Q) : PW X e t' := ⟨fun wh pins s σ H Q I q => h.run wh pins s σ H Q I (w σ H Q q)⟩
theorem ptt_tru (h : PAK X ca W e a) (he : ∀ whole, isTrue e X.env whole = (do let v ← whole; standAt e.pos; holding [v] (truthy v)) := by intro _; rfl) : PTT X ca W e (truT a) := ptWeak (pt_truth h he) fun _ _ _ h => truT_read h
theorem ptt_cmp {op : CmpOp} {r : R2} {f : List D → Option (D × Bool)} (ho : OpR X (compareOp op) r) (o : OpS X.K ca (lift2 r) f) (h1 : PAK X ca W e1 a) (h2 : PAK X ca W e2 b) (hm : behindInMarks op e2 = false) : PTT X ca W (.Compare e1 [op] [e2] pos) (boolT (opT f [a, b])) :=
  ptWeak (pt_cmpR ho h1 h2 hm) fun _ _ _ h => opT_read2 o (boolT_read h)
theorem ptt_not (h : PTT X ca W e c1) : PTT X ca W (.UnaryOp .Not e pos) (notG c1) := ptWeak (pt_not h) fun _ _ _ h => notG_read h
theorem pwt_and1 (h : PTT X ca W e c1) : PWT X ca W (.BoolOp .And [e] pos) c1 := pw_and1 h
theorem pwt_or1 (h : PTT X ca W e c1) : PWT X ca W (.BoolOp .Or [e] pos) c1 := pw_or1 h
theorem pwt_and (h : PTT X ca W e c1) (h2 : PWT X ca W (.BoolOp .And (e2 :: rest) pos) c2) : PWT X ca W (.BoolOp .And (e :: e2 :: rest) pos) (andG c1 c2) := pwWeak (pw_and h h2) fun _ _ _ h => andG_read h
theorem pwt_or (h : PTT X ca W e c1) (h2 : PWT X ca W (.BoolOp .Or (e2 :: rest) pos) c2) : PWT X ca W (.BoolOp .Or (e :: e2 :: rest) pos) (orG c1 c2) := pwWeak (pw_or h h2) fun _ _ _ h => orG_read h
theorem PWT.pt (h : PWT X ca W e c1) : PTT X ca W e c1 := PW.pt h
theorem pet_one {op : BoolOp} (h : PET X ca W e g) : PET X ca W (.BoolOp op [e] pos) g := pe_one h
theorem pet_and (h : PET X ca W e g1) (h2 : PET X ca W (.BoolOp .And (e2 :: rest) pos) g2) : PET X ca W (.BoolOp .And (e :: e2 :: rest) pos) (andT g1 g2) := peWeak (pe_and h h2) fun _ _ _ h => andT_read h
theorem pet_not (h : PAK X ca W e a) : PET X ca W (.UnaryOp .Not e pos) (notT a) := peWeak (pe_notT h) fun _ _ _ h => notT_read h
theorem pet_if (hc : PTT X ca W e c1) (h1 : PET X ca W e1 g1) (h2 : PET X ca W e2 g2) : PET X ca W (.IfExp e e1 e2 pos) (ifT c1 g1 g2) := peWeak (pe_ifExp hc h1 h2) fun _ _ _ h => ifT_read h
end
end Tr

/-! Calls of defs: their parameters' slots are an environment of their own. -/
namespace Tr
open PySem PySem.Spec PyProof.Rows L2 Md
/-- the parameters' slots -/
def mkP (ε : TEnv) : List Ad → Option TEnv
  | [] => some []
  | .sl i :: r => match ε[i]? with
    | some (some (d, k)) => (mkP ε r).map (some (d, if ownF k then 2 else 0) :: ·)
    | _ => none
  | .tm d :: r => (mkP ε r).map (some (d, 0) :: ·)
def slOwn (ε : TEnv) (i : Nat) : Bool := match ε[i]? with
  | some (some (_, k)) => ownF k
  | _ => false
def ownIx (ε : TEnv) : List Ad → List Nat
  | [] => []
  | .sl i :: r => if slOwn ε i then i :: ownIx ε r else ownIx ε r
  | .tm _ :: r => ownIx ε r
/-- what a lent slot holds behind the call -/
def backS (s s' : Slot) : Slot := match s, s' with
  | some (_, k), some (d', k') => some (d', if k' = 2 then k else dem k)
  | s, _ => s
def back (ads : List Ad) (p' : TEnv) (ε : TEnv) : TEnv := match ads, p' with
  | .sl i :: r, s' :: q => back r q (if slOwn ε i then ε.set i (backS (ε[i]?.getD none) s') else ε)
  | .tm _ :: r, _ :: q => back r q ε
  | _, _ => ε
def outR (ads : List Ad) (ε : TEnv) : R (D × Bool) → R (D × Bool)
  | .ok x p' => .ok x (back ads p' ε)
  | .ex c d p' => .ex c d (back ads p' ε)
/-- no slot is lent twice -/
def uniq : List Nat → Bool
  | [] => true
  | i :: r => !(r.contains i) && uniq r
def callT (F : ET) (as : List AK) : ET := fun ε => bindE (evA as ε) fun ads ε1 => match mkP ε1 ads with
  | some p => if uniq (ownIx ε1 ads) = true then (F p).map (outR ads ε1) else none
  | none => none

section
variable {K : PySem.W.Frag} {ca : CA} {W : WX} {O S : Addr → Prop} {H H1 H2 H' : Hp} {σ : L2.St} {ε ε1 ε' p p' : TEnv} {a : Addr} {d : D} {v : V} {Q : VK}
theorem uniq_nodup : ∀ {l : List Nat}, uniq l = true → l.Nodup
  | [], _ => .nil
  | i :: r, h => by
    unfold uniq at h
    rw [Bool.and_eq_true] at h
    rw [List.nodup_cons]
    exact ⟨by simpa using h.1, uniq_nodup h.2⟩
/-- what stands at a parameter -/
theorem mkP_at : ∀ {ads : List Ad} {vs : List V} {p : TEnv} {j : Nat} {d : D} {k : Nat}, ArgR K ca O σ ε H vs ads → mkP ε ads = some p → p[j]? = some (some (d, k)) →
    (∃ (i k0 : Nat) (v : V), ads[j]? = some (.sl i) ∧ ε[i]? = some (some (d, k0)) ∧ σ[i]? = some (some v) ∧ vs[j]? = some v ∧ k = if ownF k0 then 2 else 0) ∨ (∃ v : V, ads[j]? = some (.tm d) ∧ vs[j]? = some v ∧ k = 0 ∧ Rep K ca (Or2 O (Own σ ε)) H v d)
  | _, _, _, _, _, _, .nil, e, h => by cases e; simp at h
  | _, _, _, j, _, _, .sl (i := i) (vs := vs) (ads := ads) hv hs ar, e, h => by
    unfold mkP at e
    split at e
    · rename_i d0 k0 hd
      cases q : mkP ε ads with
      | none => rw [q] at e; cases e
      | some p2 =>
        rw [q] at e
        cases e
        cases j with
        | zero =>
          simp only [List.getElem?_cons_zero, Option.some.injEq, Prod.mk.injEq] at h
          obtain ⟨rfl, rfl⟩ := h
          exact .inl ⟨i, k0, _, rfl, hd, hv, rfl, rfl⟩
        | succ j =>
          have z := mkP_at ar q (j := j) (by simpa using h)
          simpa using z
    · cases e
  | _, _, _, j, _, _, .tm (ads := ads) r ar, e, h => by
    unfold mkP at e
    cases q : mkP ε ads with
    | none => rw [q] at e; cases e
    | some p2 =>
      rw [q] at e
      cases e
      cases j with
      | zero =>
        simp only [List.getElem?_cons_zero, Option.some.injEq, Prod.mk.injEq] at h
        obtain ⟨rfl, rfl⟩ := h
        exact .inr ⟨_, rfl, rfl, rfl, r⟩
      | succ j =>
        have z := mkP_at ar q (j := j) (by simpa using h)
        simpa using z
theorem mkP_len : ∀ {ads : List Ad} {p : TEnv}, mkP ε ads = some p → p.length = ads.length
  | [], p, e => by cases e; rfl
  | .sl i :: r, p, e => by
    unfold mkP at e
    split at e
    · cases q : mkP ε r with
      | none => rw [q] at e; cases e
      | some p2 => rw [q] at e; cases e; simp [mkP_len q]
    · cases e
  | .tm d :: r, p, e => by
    unfold mkP at e
    cases q : mkP ε r with
    | none => rw [q] at e; cases e
    | some p2 => rw [q] at e; cases e; simp [mkP_len q]
theorem slOwn_of {i k : Nat} (h : ε[i]? = some (some (d, k))) : slOwn ε i = ownF k := by unfold slOwn; rw [h]
theorem ownIx_mem : ∀ {ads : List Ad} {j i : Nat}, ads[j]? = some (.sl i) → slOwn ε i = true → i ∈ ownIx ε ads
  | [], j, i, h, _ => by simp at h
  | .sl l :: r, 0, i, h, o => by
    simp at h
    subst h
    unfold ownIx
    rw [if_pos o]
    exact List.mem_cons_self ..
  | .sl l :: r, j + 1, i, h, o => by
    have z := ownIx_mem (ads := r) (j := j) (by simpa using h) o
    unfold ownIx
    split
    · exact List.mem_cons_of_mem _ z
    · exact z
  | .tm _ :: r, 0, i, h, o => by simp at h
  | .tm _ :: r, j + 1, i, h, o => ownIx_mem (ads := r) (j := j) (by simpa using h) o
theorem ownIx_one : ∀ {ads : List Ad} {j l i : Nat}, (ownIx ε ads).Nodup → ads[j]? = some (.sl i) → ads[l]? = some (.sl i) → slOwn ε i = true → j = l
  | [], j, l, i, _, h, _, _ => by simp at h
  | .tm _ :: r, j, l, i, n, h1, h2, o => by
    cases j with
    | zero => simp at h1
    | succ j =>
      cases l with
      | zero => simp at h2
      | succ l => rw [ownIx_one (ads := r) (j := j) (l := l) n (by simpa using h1) (by simpa using h2) o]
  | .sl m :: r, j, l, i, n, h1, h2, o => by
    unfold ownIx at n
    cases j with
    | zero =>
      cases l with
      | zero => rfl
      | succ l =>
        simp at h1
        subst h1
        rw [if_pos o, List.nodup_cons] at n
        exact absurd (ownIx_mem (ads := r) (j := l) (by simpa using h2) o) n.1
    | succ j =>
      cases l with
      | zero =>
        simp at h2
        subst h2
        rw [if_pos o, List.nodup_cons] at n
        exact absurd (ownIx_mem (ads := r) (j := j) (by simpa using h1) o) n.1
      | succ l =>
        have n2 : (ownIx ε r).Nodup := by
          split at n
          · exact (List.nodup_cons.mp n).2
          · exact n
        rw [ownIx_one (ads := r) (j := j) (l := l) n2 (by simpa using h1) (by simpa using h2) o]
/-- the callers' own objects that are not lent -/
def Rst (O : Addr → Prop) (σ : L2.St) (ε : TEnv) (vs : List V) (p : TEnv) : Addr → Prop := fun b => Or2 O (Own σ ε) b ∧ ¬ Own (vs.map some) p b
theorem getM {vs : List V} {j : Nat} {v : V} (h : vs[j]? = some v) : (vs.map some)[j]? = some (some v) := by rw [List.getElem?_map, h]; rfl
theorem getM' {vs : List V} {j : Nat} {v : V} (h : (vs.map some)[j]? = some (some v)) : vs[j]? = some v := by
  rw [List.getElem?_map] at h
  cases q : vs[j]? with
  | none => rw [q] at h; cases h
  | some w => rw [q] at h; cases h; rfl
theorem lent_own {ads : List Ad} {vs : List V} {b : Addr} (ar : ArgR K ca O σ ε H vs ads) (e : mkP ε ads = some p) (h : Own (vs.map some) p b) : ∃ (j i : Nat) (d : D) (k : Nat), ads[j]? = some (.sl i) ∧ ε[i]? = some (some (d, k)) ∧ ownF k = true ∧ σ[i]? = some (some (.ref b)) ∧ vs[j]? = some (.ref b) ∧ p[j]? = some (some (d, 2)) := by
  obtain ⟨j, d, k, h1, h2, h3⟩ := h
  rcases mkP_at ar e h1 with ⟨i, k0, v, a1, a2, a3, a4, a5⟩ | ⟨v, _, _, z, _⟩
  · rw [getM' h3] at a4
    cases a4
    cases o : ownF k0 with
    | true =>
      rw [o] at a5
      rw [a5] at h1
      exact ⟨j, i, d, k0, a1, a2, o, a3, getM' h3, h1⟩
    | false =>
      rw [o] at a5
      rw [a5] at h2
      cases h2
  · rw [z] at h2
    cases h2
theorem EnvR.lend {ads : List Ad} {vs : List V} (E : EnvR K ca O H σ ε) (ar : ArgR K ca O σ ε H vs ads) (e : mkP ε ads = some p) (u : (ownIx ε ads).Nodup) : EnvR K ca (Rst O σ ε vs p) H (vs.map some) p := by
  have back : ∀ b, Own (vs.map some) p b → Own σ ε b := fun b z => by
    obtain ⟨j, i, d, k, _, a2, o, a3, _⟩ := lent_own ar e z
    exact ⟨i, d, k, a2, o, a3⟩
  have sub : ∀ b, Or2 (Rst O σ ε vs p) (Own (vs.map some) p) b → Or2 O (Own σ ε) b ∨ H b = none := fun b z => .inl (z.elim (fun y => y.1) fun y => .inr (back b y))
  have kk : Kp (Or2 O (Own σ ε)) H H := fun _ _ h _ => h
  refine ⟨by rw [List.length_map, mkP_len e, argR_len ar], fun j d k h n => ?_, fun j d k h n => ?_, fun j l d k d' k' b h n h' n' e1 e2 => ?_, fun b z => E.there z.1⟩
  · rcases mkP_at ar e h with ⟨i, k0, v, a1, a2, a3, a4, a5⟩ | ⟨v, _, a4, _, r⟩
    · cases o : ownF k0 with
      | true =>
        rw [o] at a5
        rw [a5] at n
        cases n
      | false =>
        obtain ⟨w, e1, r⟩ := E.shr i d k0 a2 o
        rw [a3] at e1
        cases e1
        exact ⟨v, getM a4, r.step sub kk⟩
    · exact ⟨v, getM a4, r.step sub kk⟩
  · rcases mkP_at ar e h with ⟨i, k0, v, a1, a2, a3, a4, a5⟩ | ⟨v, _, _, z, _⟩
    · cases o : ownF k0 with
      | false =>
        rw [o] at a5
        rw [a5] at n
        cases n
      | true =>
        obtain ⟨b, e1, nb, t⟩ := E.own i d k0 a2 o
        rw [a3] at e1
        cases e1
        exact ⟨b, getM a4, fun z => z.2 ⟨j, d, k, h, n, getM a4⟩, t.step sub kk fun _ z => z⟩
    · rw [z] at n
      cases n
  · rcases mkP_at ar e h with ⟨i, k0, v, a1, a2, a3, a4, a5⟩ | ⟨v, _, _, z, _⟩
    · rcases mkP_at ar e h' with ⟨i', k0', v', b1, b2, b3, b4, b5⟩ | ⟨v, _, _, z, _⟩
      · have o : ownF k0 = true := by
          cases o : ownF k0 with
          | true => rfl
          | false =>
            rw [o] at a5
            rw [a5] at n
            cases n
        have o' : ownF k0' = true := by
          cases o : ownF k0' with
          | true => rfl
          | false =>
            rw [o] at b5
            rw [b5] at n'
            cases n'
        rw [getM' e1] at a4
        cases a4
        rw [getM' e2] at b4
        cases b4
        have ii := E.inj i i' d k0 d' k0' b a2 o b2 o' a3 b3
        subst ii
        exact ownIx_one u a1 b1 (by rw [slOwn_of a2]; exact o)
      · rw [z] at n'
        cases n'
    · rw [z] at n
      cases n

/-! behind the call -/
theorem back_len : ∀ {ads : List Ad} {p' ε : TEnv}, (back ads p' ε).length = ε.length
  | [], p', ε => by cases p' <;> rfl
  | .sl i :: r, [], ε => rfl
  | .tm d :: r, [], ε => rfl
  | .sl i :: r, s' :: q, ε => by
    unfold back
    rw [back_len]
    split
    · rw [List.length_set]
    · rfl
  | .tm d :: r, s' :: q, ε => by
    unfold back
    exact back_len
/-- a slot that is not lent stays -/
theorem back_else : ∀ {ads : List Ad} {p' ε : TEnv} {i : Nat}, (∀ j : Nat, ads[j]? = some (.sl i) → slOwn ε i = false) → (back ads p' ε)[i]? = ε[i]?
  | [], p', ε, i, h => by cases p' <;> rfl
  | .sl l :: r, [], ε, i, h => rfl
  | .tm d :: r, [], ε, i, h => rfl
  | .sl l :: r, s' :: q, ε, i, h => by
    unfold back
    by_cases e : l = i
    · subst e
      have z := h 0 rfl
      rw [if_neg (by rw [z]; exact Bool.false_ne_true)]
      exact back_else fun j hj => h (j + 1) (by simpa using hj)
    · rw [back_else (ε := if slOwn ε l = true then ε.set l (backS (ε[l]?.getD none) s') else ε)]
      · split
        · rw [List.getElem?_set_ne e]
        · rfl
      · intro j hj
        have z := h (j + 1) (by simpa using hj)
        split
        · unfold slOwn at z ⊢
          rw [List.getElem?_set_ne e]
          exact z
        · exact z
  | .tm d :: r, s' :: q, ε, i, h => by
    unfold back
    exact back_else fun j hj => h (j + 1) (by simpa using hj)
theorem slOwn_set {i l : Nat} {s : Slot} (e : l ≠ i) : slOwn (ε.set l s) i = slOwn ε i := by
  unfold slOwn
  rw [List.getElem?_set_ne e]
/-- a lent slot holds what the callee left -/
theorem back_lent : ∀ {ads : List Ad} {p' ε : TEnv} {i j : Nat} {d : D} {k : Nat} {s' : Slot}, (ownIx ε ads).Nodup → ads[j]? = some (.sl i) → ε[i]? = some (some (d, k)) → ownF k = true → p'[j]? = some s' → (back ads p' ε)[i]? = some (backS (some (d, k)) s')
  | [], p', ε, i, j, d, k, s', u, h, _, _, _ => by simp at h
  | _ :: _, [], ε, i, j, d, k, s', u, h, _, _, hp => by simp at hp
  | .tm _ :: r, t :: q, ε, i, j, d, k, s', u, h, hd, o, hp => by
    cases j with
    | zero => simp at h
    | succ j =>
      unfold back
      exact back_lent (j := j) u (by simpa using h) hd o (by simpa using hp)
  | .sl l :: r, t :: q, ε, i, j, d, k, s', u, h, hd, o, hp => by
    cases j with
    | zero =>
      simp at h hp
      subst h hp
      unfold back
      have oi : slOwn ε l = true := by rw [slOwn_of hd]; exact o
      rw [if_pos oi, hd]
      have li : l < ε.length := (List.getElem?_eq_some_iff.mp hd).1
      rw [back_else]
      · exact List.getElem?_set_self li
      · intro j hj
        exfalso
        unfold ownIx at u
        rw [if_pos oi, List.nodup_cons] at u
        exact u.1 (ownIx_mem hj oi)
    | succ j =>
      have hj : r[j]? = some (.sl i) := by simpa using h
      have oi : slOwn ε i = true := by rw [slOwn_of hd]; exact o
      have nl : slOwn ε l = true → l ≠ i := fun z e => by
        subst e
        unfold ownIx at u
        rw [if_pos z, List.nodup_cons] at u
        exact u.1 (ownIx_mem hj oi)
      unfold back
      have ix : ∀ {r : List Ad}, slOwn ε l = true → l ∉ ownIx ε r → ownIx (ε.set l (backS (ε[l]?.getD none) t)) r = ownIx ε r := fun {r} z => by
        induction r with
        | nil => intro _; rfl
        | cons x r ih =>
          intro n
          cases x with
          | tm _ => exact ih n
          | sl m =>
            unfold ownIx at n ⊢
            by_cases e : l = m
            · subst e
              rw [if_pos z] at n
              exact absurd (List.mem_cons_self ..) n
            · rw [slOwn_set e]
              split
              · rename_i w
                rw [if_pos w] at n
                rw [ih fun y => n (List.mem_cons_of_mem _ y)]
              · rename_i w
                rw [if_neg w] at n
                exact ih n
      by_cases z : slOwn ε l = true
      · rw [if_pos z]
        have u1 := u
        unfold ownIx at u1
        rw [if_pos z, List.nodup_cons] at u1
        refine back_lent (j := j) ?_ hj ?_ o (by simpa using hp)
        · rw [ix z u1.1]
          exact u1.2
        · rw [List.getElem?_set_ne (nl z)]
          exact hd
      · rw [if_neg z]
        unfold ownIx at u
        rw [if_neg z] at u
        exact back_lent (j := j) u hj hd o (by simpa using hp)
theorem flag2 {k' : Nat} (h : k' = 2 ∨ k' = dem 2) : (ownF k' = true ↔ k' = 2) := by
  rcases h with e | e <;> subst e <;> decide
/-- a slot behind the call: as it was, or lent -/
theorem back_at {ads : List Ad} {vs : List V} (ar : ArgR K ca O σ ε H vs ads) (e : mkP ε ads = some p) (u : (ownIx ε ads).Nodup) (l : Le p p') {i : Nat} {d : D} {k : Nat} (h : (back ads p' ε)[i]? = some (some (d, k))) :
    (ε[i]? = some (some (d, k)) ∧ (ownF k = true → ∀ b, σ[i]? = some (some (.ref b)) → ∀ j : Nat, ads[j]? ≠ some (.sl i))) ∨
    (∃ (j : Nat) (d0 : D) (k0 k' : Nat) (v : V), ads[j]? = some (.sl i) ∧ ε[i]? = some (some (d0, k0)) ∧ ownF k0 = true ∧ σ[i]? = some (some v) ∧ vs[j]? = some v ∧ p[j]? = some (some (d0, 2)) ∧ p'[j]? = some (some (d, k')) ∧ (k' = 2 ∨ k' = dem 2) ∧ k = if k' = 2 then k0 else dem k0) := by
  by_cases c : ∃ j : Nat, ads[j]? = some (.sl i) ∧ slOwn ε i = true
  · obtain ⟨j, hj, o⟩ := c
    refine .inr ?_
    obtain ⟨d0, k0, hd, o0⟩ : ∃ d0 k0, ε[i]? = some (some (d0, k0)) ∧ ownF k0 = true := by
      unfold slOwn at o
      split at o
      · rename_i d0 k0 hd
        exact ⟨d0, k0, hd, o⟩
      · cases o
    obtain ⟨pj, hpj⟩ : ∃ s, p[j]? = some s := ⟨p[j]'(by rw [mkP_len e]; exact (List.getElem?_eq_some_iff.mp hj).1), List.getElem?_eq_getElem _⟩
    have here : ∃ v, σ[i]? = some (some v) ∧ vs[j]? = some v ∧ p[j]? = some (some (d0, 2)) := by
      clear h l hpj
      induction ar generalizing p j with
      | nil => simp at hj
      | @sl i1 v1 s1 vs1 ads1 hv hs ar ih =>
        unfold mkP at e
        split at e
        · rename_i d1 k1 hd1
          cases q : mkP ε ads1 with
          | none => rw [q] at e; cases e
          | some p2 =>
            rw [q] at e
            cases e
            cases j with
            | zero =>
              simp at hj
              subst hj
              rw [hd] at hd1
              cases hd1
              exact ⟨v1, hv, rfl, by simp [o0]⟩
            | succ j =>
              have u2 : (ownIx ε ads1).Nodup := by
                unfold ownIx at u
                split at u
                · exact (List.nodup_cons.mp u).2
                · exact u
              obtain ⟨v, a1, a2, a3⟩ := ih q u2 j (by simpa using hj)
              exact ⟨v, a1, by simpa using a2, by simpa using a3⟩
        · cases e
      | @tm d1 v1 vs1 ads1 r ar ih =>
        unfold mkP at e
        cases q : mkP ε ads1 with
        | none => rw [q] at e; cases e
        | some p2 =>
          rw [q] at e
          cases e
          cases j with
          | zero => simp at hj
          | succ j =>
            obtain ⟨v, a1, a2, a3⟩ := ih q u j (by simpa using hj)
            exact ⟨v, a1, by simpa using a2, by simpa using a3⟩
    obtain ⟨v, a1, a2, a3⟩ := here
    obtain ⟨s', e', le⟩ := l.at_ j _ a3
    obtain ⟨d', k', e2, _, c2⟩ := le
    subst e2
    rw [back_lent u hj hd o0 e'] at h
    simp only [backS, Option.some.injEq, Prod.mk.injEq] at h
    obtain ⟨rfl, rfl⟩ := h
    exact ⟨j, d0, k0, k', v, hj, hd, o0, a1, a2, a3, e', c2 rfl, rfl⟩
  · have z : ∀ j : Nat, ads[j]? = some (.sl i) → slOwn ε i = false := fun j hj => by
      cases q : slOwn ε i with
      | false => rfl
      | true => exact absurd ⟨j, hj, q⟩ c
    rw [back_else z] at h
    refine .inl ⟨h, fun o b _ j hj => ?_⟩
    have y := z j hj
    rw [slOwn_of h, o] at y
    cases y
theorem back_env {ads : List Ad} {vs : List V} {O2 O2' : Addr → Prop} (E : EnvR K ca O H1 σ ε) (ar : ArgR K ca O σ ε H1 vs ads) (e : mkP ε ads = some p) (u : (ownIx ε ads).Nodup) (l : Le p p')
    (fr : ∀ b o, H1 b = some o → ¬ Own (vs.map some) p b → H2 b = some o) (hO : ∀ b, O2 b → O b ∨ H1 b = none) (hO2 : ∀ b, O2 b ∨ (Own σ ε b ∧ ¬ Own (vs.map some) p b) → O2' b) (tr : ∀ b, O2 b → H2 b ≠ none) (E2 : EnvR K ca O2' H2 (vs.map some) p') : EnvR K ca O2 H2 σ (back ads p' ε) := by
  have lown : ∀ b, Own (vs.map some) p b → Own σ ε b := fun b z => by
    obtain ⟨j, i, d, k, _, a2, o, a3, _⟩ := lent_own ar e z
    exact ⟨i, d, k, a2, o, a3⟩
  -- what is owned behind
  have own2 : ∀ b, Own σ (back ads p' ε) b → (Own σ ε b ∧ ¬ Own (vs.map some) p b) ∨ Own (vs.map some) p' b := fun b z => by
    obtain ⟨i, d, k, h1, h2, h3⟩ := z
    rcases back_at ar e u l h1 with ⟨a1, a2⟩ | ⟨j, d0, k0, k', v, a1, a2, a3, a4, a5, a6, a7, a8, a9⟩
    · refine .inl ⟨⟨i, d, k, a1, h2, h3⟩, fun y => ?_⟩
      obtain ⟨j, i2, d2, k2, b1, b2, b3, b4, _⟩ := lent_own ar e y
      have q := E.inj i i2 d k d2 k2 b a1 h2 b2 b3 h3 b4
      subst q
      exact a2 h2 b h3 j b1
    · rw [h3] at a4
      cases a4
      by_cases q : k' = 2
      · subst q
        exact .inr ⟨j, d, 2, a7, rfl, getM a5⟩
      · rw [if_neg q] at a9
        rw [a9, ownF_dem] at h2
        cases h2
  have sub1 : ∀ b, Or2 O2 (Own σ (back ads p' ε)) b → Or2 O (Own σ ε) b ∨ H1 b = none := fun b z => by
    rcases z with z | z
    · exact (hO b z).elim (fun y => .inl (.inl y)) .inr
    · rcases own2 b z with z | z
      · exact .inl (.inr z.1)
      · exact .inl (.inr (lown b (l.own z)))
  have sub2 : ∀ b, Or2 O2 (Own σ (back ads p' ε)) b → Or2 O2' (Own (vs.map some) p') b ∨ H2 b = none := fun b z => by
    rcases z with z | z
    · exact .inl (.inl (hO2 b (.inl z)))
    · rcases own2 b z with z | z
      · exact .inl (.inl (hO2 b (.inr z)))
      · exact .inl (.inr z)
  have kp1 : Kp (Or2 O (Own σ ε)) H1 H2 := fun b o h t => fr b o h fun z => by
    obtain ⟨_, d, tp⟩ := E.owned (lown b z)
    rw [tp.mut h] at t
    exact absurd (t (.inr (lown b z))) Bool.false_ne_true
  have kp2 : Kp (Or2 O2' (Own (vs.map some) p')) H2 H2 := fun _ _ h _ => h
  refine ⟨by rw [back_len]; exact E.len, fun i d k h n => ?_, fun i d k h n => ?_, fun i m d k d' k' b h n h' n' e1 e2 => ?_, tr⟩
  · rcases back_at ar e u l h with ⟨a1, a2⟩ | ⟨j, d0, k0, k', v, a1, a2, a3, a4, a5, a6, a7, a8, a9⟩
    · obtain ⟨v, e1, r⟩ := E.shr i d k a1 n
      exact ⟨v, e1, r.step sub1 kp1⟩
    · have q : k' ≠ 2 := fun q => by
        rw [if_pos q] at a9
        rw [a9, a3] at n
        cases n
      have o' : ownF k' = false := by
        cases z : ownF k' with
        | false => rfl
        | true => exact absurd ((flag2 a8).mp z) q
      obtain ⟨w, e1, r⟩ := E2.shr j d k' a7 o'
      rw [getM a5] at e1
      cases e1
      exact ⟨v, a4, r.step sub2 kp2⟩
  · rcases back_at ar e u l h with ⟨a1, a2⟩ | ⟨j, d0, k0, k', v, a1, a2, a3, a4, a5, a6, a7, a8, a9⟩
    · obtain ⟨b, e1, nb, t⟩ := E.own i d k a1 n
      have nl : ¬ Own (vs.map some) p b := fun y => by
        obtain ⟨j, i2, d2, k2, b1, b2, b3, b4, _⟩ := lent_own ar e y
        have q := E.inj i i2 d k d2 k2 b a1 n b2 b3 e1 b4
        subst q
        exact a2 n b e1 j b1
      exact ⟨b, e1, fun y => (hO b y).elim nb fun z => t.there z, t.step sub1 kp1 fun o z => fr b o z nl⟩
    · have q : k' = 2 := Classical.byContradiction fun q => by
        rw [if_neg q] at a9
        rw [a9, ownF_dem] at n
        cases n
      subst q
      obtain ⟨b, e1, nb, t⟩ := E2.own j d 2 a7 rfl
      rw [getM a5] at e1
      cases e1
      exact ⟨b, a4, fun y => nb (hO2 b (.inl y)), t.step sub2 kp2 fun _ z => z⟩
  · have f : ∀ {i : Nat} {d : D} {k : Nat}, (back ads p' ε)[i]? = some (some (d, k)) → ownF k = true → ∃ d0 k0, ε[i]? = some (some (d0, k0)) ∧ ownF k0 = true := fun {i d k} h n => by
      rcases back_at ar e u l h with ⟨a1, a2⟩ | ⟨j, d0, k0, k', v, a1, a2, a3, _⟩
      · exact ⟨d, k, a1, n⟩
      · exact ⟨d0, k0, a2, a3⟩
    obtain ⟨d0, k0, f1, f2⟩ := f h n
    obtain ⟨d1, k1, f3, f4⟩ := f h' n'
    exact E.inj i m d0 k0 d1 k1 b f1 f2 f3 f4 e1 e2
theorem back_le {ads : List Ad} {vs : List V} (ar : ArgR K ca O σ ε H vs ads) (e : mkP ε ads = some p) (u : (ownIx ε ads).Nodup) (l : Le p p') : Le ε (back ads p' ε) := by
  refine ⟨back_len, fun i s hs => ?_⟩
  by_cases c : ∃ j : Nat, ads[j]? = some (.sl i) ∧ slOwn ε i = true
  · obtain ⟨j, hj, o⟩ := c
    obtain ⟨d0, k0, hd, o0⟩ : ∃ (d0 : D) (k0 : Nat), ε[i]? = some (some (d0, k0)) ∧ ownF k0 = true := by
      unfold slOwn at o
      split at o
      · rename_i d0 k0 hd
        exact ⟨d0, k0, hd, o⟩
      · cases o
    have lj : j < p'.length := by rw [l.len, mkP_len e]; exact (List.getElem?_eq_some_iff.mp hj).1
    have z := back_lent u hj hd o0 (List.getElem?_eq_getElem lj)
    rw [hs] at hd
    cases hd
    refine ⟨_, z, ?_⟩
    cases q : p'[j] with
    | none => exact leS.refl _
    | some r =>
      obtain ⟨d', k'⟩ := r
      refine ⟨d', if k' = 2 then k0 else dem k0, rfl, ⟨fun z => absurd (o0.symm.trans z) (by decide), fun _ => ?_⟩⟩
      split
      · exact .inl rfl
      · exact .inr rfl
  · have z : ∀ j : Nat, ads[j]? = some (.sl i) → slOwn ε i = false := fun j hj => by
      cases q : slOwn ε i with
      | false => rfl
      | true => exact absurd ⟨j, hj, q⟩ c
    exact ⟨s, by rw [back_else z]; exact hs, leS.refl s⟩
end
end Tr

/-! What a def promises, by its function; its calls. -/
namespace Tr
open PySem PySem.Spec PyProof.Rows L2 Md
abbrev wE (E : XK) : WX := fun cls d _ H => E cls d H
/-- a def keeps what F tells of its parameters' slots -/
def spT (K : PySem.W.Frag) (ca : CA) (n : Nat) (F : ET) : Sp := fun vs H Q E => vs.length = n ∧ tEv K ca (wE E) F (vs.map some) H Q
/-- a function of n parameters -/
def Args (n : Nat) (F : ET) : Prop := ∀ p r, F p = some r → p.length = n

section
variable {K : PySem.W.Frag} {ca : CA} {W : WX} {O S : Addr → Prop} {H H1 H2 H' : Hp} {σ : L2.St} {ε ε1 ε' p p' : TEnv} {a : Addr} {d : D} {v : V} {Q : VK} {F : ET} {n : Nat}
/-- the call, from the operands' values -/
theorem call_at {ads : List Ad} {vs : List V} {r : R (D × Bool)} (E : EnvR K ca O H σ ε) (ar : ArgR K ca O σ ε H vs ads) (e : mkP ε ads = some p) (u : uniq (ownIx ε ads) = true) (hF : F p = some r) (an : Args n F)
    (post : PostE K ca W O σ ε H (outR ads ε r) Q) : spT K ca n F vs H Q (WE W σ) := by
  have un := uniq_nodup u
  have L := E.lend ar e un
  refine ⟨by rw [argR_len ar, ← mkP_len e]; exact an p r hF, Rst O σ ε vs p, p, r, L, hF, ?_⟩
  have step : ∀ {p' : TEnv} {H' : Hp}, Stp K ca (Rst O σ ε vs p) (vs.map some) p H p' H' → Stp K ca O σ ε H (back ads p' ε) H' := fun {p' H'} s => by
    have fr : ∀ b o, H b = some o → ¬ Own σ ε b → H' b = some o := fun b o h z => s.fr b o h fun y => z (by
      obtain ⟨j, i, d, k, _, a2, o, a3, _⟩ := lent_own ar e y
      exact ⟨i, d, k, a2, o, a3⟩)
    refine ⟨back_le ar e un s.le, fr, s.th, back_env E ar e un s.le s.fr (fun b z => .inl z) (fun b z => ?_) (fun b z y => ?_) s.env⟩
    · rcases z with z | z
      · refine ⟨.inl z, fun y => ?_⟩
        obtain ⟨j, i, d, k, _, a2, o, a3, _⟩ := lent_own ar e y
        exact (E.owned ⟨i, d, k, a2, o, a3⟩).1 z
      · exact ⟨.inr z.1, z.2⟩
    · exact E.out b z (s.th b y)
  have notO : ∀ b, Own (vs.map some) p b → ¬ O b := fun b y z => by
    obtain ⟨j, i, d, k, _, a2, o, a3, _⟩ := lent_own ar e y
    exact (E.owned ⟨i, d, k, a2, o, a3⟩).1 z
  have own2 : ∀ {p' : TEnv} {H' : Hp}, Stp K ca (Rst O σ ε vs p) (vs.map some) p H p' H' → ∀ b, Or2 O (Own σ (back ads p' ε)) b → Or2 (Rst O σ ε vs p) (Own (vs.map some) p') b := fun {p' H'} s b z => by
    rcases z with z | z
    · exact .inl ⟨.inl z, fun y => notO b y z⟩
    · obtain ⟨i, d, k, h1, h2, h3⟩ := z
      rcases back_at ar e un s.le h1 with ⟨a1, a2⟩ | ⟨j, d0, k0, k', v, a1, a2, a3, a4, a5, a6, a7, a8, a9⟩
      · refine .inl ⟨.inr ⟨i, d, k, a1, h2, h3⟩, fun y => ?_⟩
        obtain ⟨j, i2, d2, k2, b1, b2, b3, b4, _⟩ := lent_own ar e y
        have q := E.inj i i2 d k d2 k2 b a1 h2 b2 b3 h3 b4
        subst q
        exact a2 h2 b h3 j b1
      · rw [h3] at a4
        cases a4
        by_cases q : k' = 2
        · subst q
          exact .inr ⟨j, d, 2, a7, rfl, getM a5⟩
        · rw [if_neg q] at a9
          rw [a9, ownF_dem] at h2
          cases h2
  cases r with
  | ok x p' =>
    intro v H' s rr
    refine post v H' (step s) ?_
    obtain ⟨d, f⟩ := x
    cases f with
    | false =>
      have z : Rep K ca (Or2 (Rst O σ ε vs p) (Own (vs.map some) p')) H' v d := rr
      exact z.step (fun b y => .inl (own2 s b y)) fun _ _ h _ => h
    | true =>
      obtain ⟨a, rfl, na, nO, nw, t, E3⟩ := rr
      have nO2 : ¬ O a := fun z => E.out a z na
      refine ⟨a, rfl, na, nO2, fun z => (own2 s a (.inr z)).elim nO nw, t.step (fun b z => .inl ?_) (fun _ _ h _ => h) (fun _ h => h), ?_⟩
      · rcases z with (z | z) | z
        · exact (own2 s b (.inl z)).elim (fun y => .inl (.inl y)) .inr
        · exact .inl (.inr z)
        · exact (own2 s b (.inr z)).elim (fun y => .inl (.inl y)) .inr
      · refine back_env (O2 := With O a) (O2' := With (Rst O σ ε vs p) a) E ar e un s.le s.fr (fun b z => ?_) (fun b z => ?_) (fun b z y => ?_) E3
        · rcases z with z | z
          · exact .inl z
          · exact .inr (by rw [z]; exact na)
        · rcases z with (z | z) | z
          · exact .inl ⟨.inl z, fun y => notO b y z⟩
          · exact .inr z
          · exact .inl ⟨.inr z.1, z.2⟩
        · rcases z with z | z
          · exact E.out b z (s.th b y)
          · rw [z] at y
            exact t.there y
  | ex c d p' =>
    intro x v H' s hx rx
    exact post x v H' (step s) hx (rx.step (fun b y => .inl (own2 s b y)) fun _ _ h _ => h)
theorem callT_read {as : List AK} (an : Args n F) (h : tEv K ca W (callT F as) σ H Q) : tAks K ca W as σ H fun vs H1 => spT K ca n F vs H1 Q (WE W σ) := by
  obtain ⟨O, ε, r0, E, e, p⟩ := h
  unfold callT at e
  cases q : evA as ε with
  | none => rw [q] at e; cases e
  | some r1 =>
    rw [q] at e
    refine evA_read as E q ?_
    cases r1 with
    | ex c d ε1 =>
      cases e
      exact p
    | ok ads ε1 =>
      intro vs H1 s ar
      rw [bindE_ok] at e
      split at e
      · rename_i pp ep
        split at e
        · rename_i u
          rw [Option.map_eq_some_iff] at e
          obtain ⟨r, e1, e2⟩ := e
          subst e2
          exact call_at s.env ar ep u e1 an (p.later s)
        · cases e
      · cases e
end

/-- a def that is called: its promise, where it stands -/
structure DefT (P : Program) (w : World) (K : PySem.W.Frag) (mg : Str → Option Value) (base : Heap) (ca : CA) (f : Addr) (fd : FuncData) (ps : List Str) (n : Nat) (F : ET) : Prop where
  ok : ∀ k, FnG P w K mg base (L2.CX P w) (k + n) f fd ps (spT K ca ps.length F)
  an : Args ps.length F
  b : Binds K fd ps []
  kp : PySem.W.keepIn K (.ref f) = true
/-- where a body runs -/
structure CtxT (X : Cx) (W : WX) (k : Nat) : Prop where
  tk : Takes X W
  ng : NoG X.A
  room : Room k X.A
  calm : X.calm = true
  nd : X.N.Nodup
  own : PassesOwn (model X.prog X.w) X.A X.env X.xe
section
variable {X : Cx} {ca : CA} {W : WX} {k n : Nat} {f : Addr} {fd : FuncData} {ps : List Str} {F : ET} {x : Str} {p pos : Pos} {e : Expr} {es : List Expr} {as : List AK} {CX : CXT} {sp : Sp} {E : L2.St → XK} {t : TA}
theorem goes_fnS {pins : List (Addr × Obj)} {sl : L2.St} {H : Hp} {st : Shared} {Q : VK} {us : List Value} {vs : List V}
    (F : FnG X.prog X.w X.K X.mg X.base CX k f fd ps sp) (g : NoG X.A) (hr : Room k X.A) (hb : Binds X.K fd ps []) (hx : PassesAt CX X sl (E sl))
    (I : Inv X pins sl H st) (rv : Vals vs us) (h : sp vs H Q (E sl)) :
    wpAny (model X.prog X.w) X.A (call (.ref f) us) (EP X pins sl Q) X.xe st := by
  have same : us ++ [] = us := List.append_nil us
  have fits : (us ++ []).length = ps.length := by
    rw [same, ← rv.length]
    exact F.many _ _ _ _ h
  have bound := hb st us I.kIn fits
  rw [same] at bound
  refine wpAny_call (codeAny_mono (F.goes X.A X.stack st H ⟨us, []⟩ us vs Q (E sl) g hr I.env0 bound rv h) ?_)
  intro res st2 done
  match res, done with
  | .error er, done => exact hx pins H st er st2 I done
  | .ok (.ret u), done => exact I.after done
theorem FnG.mono {P : Program} {w : World} {K : PySem.W.Frag} {mg : Str → Option Value} {base : Heap} {j : Nat} (F : FnG P w K mg base CX j f fd ps sp) (h : j ≤ k) : FnG P w K mg base CX k f fd ps sp :=
  ⟨F.many, fun A around st H ag us vs Q E g hr => F.goes A around st H ag us vs Q E g (hr.mono h)⟩
theorem pe_callGS (F : FnG X.prog X.w X.K X.mg X.base CX k f fd ps sp) (g : NoG X.A) (hr : Room k X.A) (hg : Gl X x) (hm : X.mg x = some (.ref f)) (hk : PySem.W.keepIn X.K (.ref f) = true)
    (hb : Binds X.K fd ps []) (hx : ∀ sl, PassesAt CX X sl (E sl)) (ha : PA X (e :: es) t) (hdb : (x == ("__debug__" : Str)) = false := by decide)
    (first : starEach (e :: es) X.env = (false, eval e X.env) :: starEach es X.env := by rfl) (flat : (backTo pos (starEach es X.env)).any (·.1) = false := by rfl) :
    PE X (.Call (.Name x p) (e :: es) [] pos) (tCallS sp E t) := by
  constructor
  intro pins st sl H Q I h
  refine wpAny_Call_Name_kw (ld_glob I hg hm ?_ hdb)
  have args := thn (ha.run pos pins st sl H _ I h) (fun us st1 (w : AP X pins sl _ us st1) => w)
  refine PySem.W.callWith_K (h₀ := X.base) I.ok.mod.kin hk (thn args fun us st1 got => ?_) first flat
  obtain ⟨vs, H1, I1, rv, q⟩ := got
  exact ⟨I1.kIn, goes_fnS F g hr hb (hx sl) I1 rv q⟩
theorem pet_call (T : DefT X.prog X.w X.K X.mg X.base ca f fd ps n F) (C : CtxT X W k) (hk : n ≤ k) (hg : Gl X x) (hm : X.mg x = some (.ref f)) (ha : PAKs X ca W (e :: es) as) (hdb : (x == ("__debug__" : Str)) = false := by decide)
    (first : starEach (e :: es) X.env = (false, eval e X.env) :: starEach es X.env := by rfl) (flat : (backTo pos (starEach es X.env)).any (·.1) = false := by rfl) : PET X ca W (.Call (.Name x p) (e :: es) [] pos) (callT F as) :=
  peWeak (pe_callGS (E := WE W) (FnG.mono (T.ok 0) (by omega)) C.ng C.room hg hm T.kp T.b (fun sl => passAt C.tk sl) ha hdb first flat) fun _ _ _ h => callT_read T.an h
end
end Tr

/-! Statements as functions of slots. -/
namespace Tr
open PySem PySem.Spec PyProof.Rows L2 Md
inductive Fl where
  | nx (ε : TEnv)
  | rt (x : D × Bool) (ε : TEnv)
  | bk (ε : TEnv)
  | ct (ε : TEnv)
  | ex (c : Str) (d : D) (ε : TEnv)
abbrev ST := TEnv → Option Fl
/-- owned by a local -/
def Own1 (σ : L2.St) (ε : TEnv) (a : Addr) : Prop := ∃ (i : Nat) (d : D), ε[i]? = some (some (d, 1)) ∧ σ[i]? = some (some (V.ref a))
def parS (s s' : Slot) : Prop := match s with
  | some (d, k) => 2 ≤ k → ∃ d' k', s' = some (d', k') ∧ (k = 2 → k' = 2 ∨ k' = 3) ∧ (3 ≤ k → d' = d ∧ k' = k)
  | none => True
structure StpS (K : PySem.W.Frag) (ca : CA) (O : Addr → Prop) (σ : L2.St) (ε : TEnv) (H : Hp) (σ' : L2.St) (ε' : TEnv) (H' : Hp) : Prop where
  fr : ∀ b o, H b = some o → ¬ Own σ ε b → H' b = some o
  th : ∀ b, H' b = none → H b = none
  new : ∀ b, Own σ' ε' b → Own σ ε b ∨ H b = none
  new1 : ∀ b, Own1 σ' ε' b → Own1 σ ε b ∨ H b = none
  par : ∀ (i : Nat) (d : D) (k : Nat), ε[i]? = some (some (d, k)) → 2 ≤ k → σ'[i]? = σ[i]? ∧ ∃ s', ε'[i]? = some s' ∧ parS (some (d, k)) s'
  len : ε'.length = ε.length
  env : EnvR K ca O H' σ' ε'
def NewS (σ : L2.St) (ε : TEnv) (H : Hp) (a : Addr) : Prop := H a = none ∨ Own1 σ ε a
/-- a value that is returned -/
def ResS (K : PySem.W.Frag) (ca : CA) (O : Addr → Prop) (σ : L2.St) (ε : TEnv) (H : Hp) (σ' : L2.St) (ε' : TEnv) (H' : Hp) (v : V) : D × Bool → Prop
  | (d, false) => Rep K ca (Or2 O (Own σ' ε')) H' v d
  | (d, true) => ∃ a, v = .ref a ∧ NewS σ ε H a ∧ ¬ O a ∧ ¬ Own σ' ε' a ∧ Top K ca (Or2 (With O a) (Own σ' ε')) H' a d ∧ EnvR K ca (With O a) H' σ' ε'
def ErrS (K : PySem.W.Frag) (ca : CA) (W : WX) (O : Addr → Prop) (σ : L2.St) (ε : TEnv) (H : Hp) (c : Str) (d : D) (ε' : TEnv) : Prop :=
  ∀ x v σ' H', StpS K ca O σ ε H σ' ε' H' → H' x = some (.xd [("value", v)]) → Rep K ca (Or2 O (Own σ' ε')) H' v d → W (.ref (ca c)) (some x) σ' H'
def PostS (K : PySem.W.Frag) (ca : CA) (W : WX) (O : Addr → Prop) (σ : L2.St) (ε : TEnv) (H : Hp) (r : Fl) (D : Ends) : Prop :=
  match r with
  | .nx ε' => ∀ σ' H', StpS K ca O σ ε H σ' ε' H' → D.nx σ' H'
  | .rt x ε' => ∀ v σ' H', StpS K ca O σ ε H σ' ε' H' → ResS K ca O σ ε H σ' ε' H' v x → D.rt v H'
  | .bk ε' => ∀ σ' H', StpS K ca O σ ε H σ' ε' H' → D.bk σ' H'
  | .ct ε' => ∀ σ' H', StpS K ca O σ ε H σ' ε' H' → D.ct σ' H'
  | .ex c d ε' => ErrS K ca W O σ ε H c d ε'
def tSv (K : PySem.W.Frag) (ca : CA) (W : WX) (g : ST) : TS := fun D σ H => ∃ O ε r, EnvR K ca O H σ ε ∧ g ε = some r ∧ PostS K ca W O σ ε H r D
section
variable {K : PySem.W.Frag} {ca : CA} {W : WX} {O S : Addr → Prop} {H H1 H2 H' : Hp} {σ σ1 σ2 σ' : L2.St} {ε ε1 ε2 ε' p p' : TEnv} {a : Addr} {d : D} {v : V} {Q : VK} {D : Ends}
theorem parS.trans {s t u : Slot} (h1 : parS s t) (h2 : parS t u) (h : ∀ d k, s = some (d, k) → 2 ≤ k) : parS s u := by
  cases s with
  | none => trivial
  | some q =>
    obtain ⟨d, k⟩ := q
    intro hk
    obtain ⟨d1, k1, e1, a1, b1⟩ := h1 hk
    subst e1
    have hk1 : 2 ≤ k1 := by
      by_cases z : k = 2
      · rcases a1 z with e | e <;> omega
      · have := (b1 (by omega)).2
        omega
    obtain ⟨d2, k2, e2, a2, b2⟩ := h2 hk1
    refine ⟨d2, k2, e2, fun z => ?_, fun z => ?_⟩
    · rcases a1 z with e | e
      · exact a2 e
      · exact .inr ((b2 (by omega)).2.trans e)
    · obtain ⟨e3, e4⟩ := b1 z
      subst e3 e4
      exact b2 z
theorem StpS.trans (s : StpS K ca O σ ε H σ1 ε1 H1) (t : StpS K ca O σ1 ε1 H1 σ2 ε2 H2) : StpS K ca O σ ε H σ2 ε2 H2 := by
  refine ⟨fun b o h n => t.fr b o (s.fr b o h n) fun z => (s.new b z).elim n fun y => (by rw [y] at h; cases h), fun b h => s.th b (t.th b h), fun b z => ?_, fun b z => ?_, fun i d k h hk => ?_, t.len.trans s.len, t.env⟩
  · rcases t.new b z with y | y
    · exact s.new b y
    · exact .inr (s.th b y)
  · rcases t.new1 b z with y | y
    · exact s.new1 b y
    · exact .inr (s.th b y)
  · obtain ⟨e1, s1, h1, p1⟩ := s.par i d k h hk
    obtain ⟨d1, k1, e2, a1, b1⟩ := p1 hk
    subst e2
    have hk1 : 2 ≤ k1 := by
      by_cases z : k = 2
      · rcases a1 z with e | e <;> omega
      · have := (b1 (by omega)).2
        omega
    obtain ⟨e3, s2, h2, p2⟩ := t.par i d1 k1 h1 hk1
    exact ⟨e3.trans e1, s2, h2, parS.trans (t := some (d1, k1)) (fun _ => ⟨d1, k1, rfl, a1, b1⟩) p2 fun d' k' e => by cases e; exact hk⟩
theorem Le.own1 {ε ε' : TEnv} {σ : L2.St} {a : Addr} (l : Le ε ε') (h : Own1 σ ε' a) : Own1 σ ε a := by
  obtain ⟨i, d, h1, h3⟩ := h
  have hi : i < ε.length := by
    rw [← l.len]
    exact (List.getElem?_eq_some_iff.mp h1).1
  obtain ⟨s', e, le⟩ := l.at_ i ε[i] (List.getElem?_eq_getElem hi)
  rw [h1] at e
  cases e
  cases q : ε[i] with
  | none =>
    rw [q] at le
    cases (show some (d, 1) = none from le)
  | some p =>
    obtain ⟨d0, k0⟩ := p
    rw [q] at le
    obtain ⟨d1, k1, e1, a1, b1⟩ := le
    cases e1
    refine ⟨i, d0, ?_, h3⟩
    rw [List.getElem?_eq_getElem hi, q]
    cases z : ownF k0 with
    | true =>
      rcases b1 z with e | e
      · rw [← e]
      · rcases ownF_cases z with y | y <;> subst y <;> cases e
    | false => rw [← (a1 z).2]
/-- an expression's step is a statement's -/
theorem Stp.toS (s : Stp K ca O σ ε H ε' H') : StpS K ca O σ ε H σ ε' H' :=
  ⟨s.fr, s.th, fun b z => .inl (s.le.own z), fun b z => .inl (s.le.own1 z), fun i d k h hk => ⟨rfl, by
    obtain ⟨s', e, l⟩ := s.le.at_ i _ h
    obtain ⟨d', k', e2, a, b⟩ := l
    subst e2
    refine ⟨_, e, fun _ => ⟨d', k', rfl, fun z => ?_, fun z => ?_⟩⟩
    · subst z
      rcases b rfl with y | y
      · exact .inl y
      · exact .inr y
    · have o : ownF k = false := by
        cases q : ownF k with
        | false => rfl
        | true => rcases ownF_cases q with y | y <;> omega
      exact a o⟩, s.le.len, s.env⟩
theorem StpS.refl (E : EnvR K ca O H σ ε) : StpS K ca O σ ε H σ ε H := (Stp.refl E).toS
theorem ResS.old {x : Tr.D × Bool} (r : ResS K ca O σ1 ε1 H1 σ' ε' H' v x) (s : StpS K ca O σ ε H σ1 ε1 H1) : ResS K ca O σ ε H σ' ε' H' v x := by
  obtain ⟨d, f⟩ := x
  cases f with
  | false => exact r
  | true =>
    obtain ⟨a, e, n, z⟩ := r
    refine ⟨a, e, ?_, z⟩
    rcases n with n | n
    · exact .inl (s.th a n)
    · exact (s.new1 a n).elim .inr .inl
theorem PostS.later {r : Fl} (p : PostS K ca W O σ ε H r D) (s : StpS K ca O σ ε H σ1 ε1 H1) : PostS K ca W O σ1 ε1 H1 r D := by
  cases r with
  | nx ε' => exact fun σ' H' t => p σ' H' (s.trans t)
  | rt x ε' => exact fun v σ' H' t q => p v σ' H' (s.trans t) (q.old s)
  | bk ε' => exact fun σ' H' t => p σ' H' (s.trans t)
  | ct ε' => exact fun σ' H' t => p σ' H' (s.trans t)
  | ex c d ε' => exact fun x v σ' H' t hx rx => p x v σ' H' (s.trans t) hx rx
theorem ErrS.toE {c : Str} (p : ErrS K ca W O σ ε H c d ε') : Err K ca W O σ ε H c d ε' := fun x v H' s hx rx => p x v σ H' s.toS hx rx
/-- an expression, then the rest of a statement -/
def bindS {α : Type} (r : Option (R α)) (f : α → TEnv → Option Fl) : Option Fl := match r with
  | some (.ok a ε) => f a ε
  | some (.ex c d ε) => some (.ex c d ε)
  | none => none
@[simp] theorem bindS_ok {α : Type} {a : α} {ε : TEnv} {f : α → TEnv → Option Fl} : bindS (some (.ok a ε)) f = f a ε := rfl
@[simp] theorem bindS_ex {α : Type} {c : Str} {d : Tr.D} {ε : TEnv} {f : α → TEnv → Option Fl} : bindS (some (.ex c d ε)) f = some (.ex c d ε) := rfl
@[simp] theorem bindS_none {α : Type} {f : α → TEnv → Option Fl} : bindS none f = none := rfl
theorem tEv_bindS {g : ET} {k : Tr.D × Bool → TEnv → Option Fl} {r : Fl} {P : V → Hp → Prop} (E : EnvR K ca O H σ ε) (e : bindS (g ε) k = some r)
    (p : ∀ x ε1 v H1, Stp K ca O σ ε H ε1 H1 → ResR K ca O σ ε1 H H1 v x → k x ε1 = some r → P v H1) (px : ∀ c d ε1, r = .ex c d ε1 → ErrS K ca W O σ ε H c d ε1) : tEv K ca W g σ H P := by
  cases q : g ε with
  | none => rw [q] at e; cases e
  | some r1 =>
    rw [q] at e
    refine ⟨O, ε, r1, E, q, ?_⟩
    cases r1 with
    | ok b ε1 => exact fun v H1 s rr => p b ε1 v H1 s rr e
    | ex c d ε1 =>
      cases e
      exact (px c d ε1 rfl).toE
theorem tTv_bindS {g : GT} {k : Bool → TEnv → Option Fl} {r : Fl} {P : Bool → Hp → Prop} (E : EnvR K ca O H σ ε) (e : bindS (g ε) k = some r)
    (p : ∀ b ε1 H1, Stp K ca O σ ε H ε1 H1 → k b ε1 = some r → P b H1) (px : ∀ c d ε1, r = .ex c d ε1 → ErrS K ca W O σ ε H c d ε1) : tTv K ca W g σ H P := by
  cases q : g ε with
  | none => rw [q] at e; cases e
  | some r1 =>
    rw [q] at e
    refine ⟨O, ε, r1, E, q, ?_⟩
    cases r1 with
    | ok b ε1 => exact fun H1 s => p b ε1 H1 s e
    | ex c d ε1 =>
      cases e
      exact (px c d ε1 rfl).toE
theorem PostS.err {r : Fl} (p : PostS K ca W O σ ε H r D) : ∀ c d ε1, r = .ex c d ε1 → ErrS K ca W O σ ε H c d ε1 := fun c d ε1 e => by subst e; exact p

/-! ### blocks -/
def seqT (g1 g2 : ST) : ST := fun ε => match g1 ε with
  | some (.nx ε1) => g2 ε1
  | r => r
def nilT : ST := fun ε => some (.nx ε)
theorem seqT_read {g1 g2 : ST} (h : tSv K ca W (seqT g1 g2) D σ H) : tSeq (tSv K ca W g1) (tSv K ca W g2) D σ H := by
  obtain ⟨O, ε, r, E, e, p⟩ := h
  unfold seqT at e
  split at e
  · rename_i ε1 e1
    exact ⟨O, ε, _, E, e1, fun σ1 H1 s => ⟨O, ε1, r, s.env, e, p.later s⟩⟩
  · rename_i n
    refine ⟨O, ε, r, E, e, ?_⟩
    cases r with
    | nx ε1 => exact (n ε1 e).elim
    | rt x ε1 => exact p
    | bk ε1 => exact p
    | ct ε1 => exact p
    | ex c d ε1 => exact p
theorem nilT_read (h : tSv K ca W nilT D σ H) : tNext D σ H := by
  obtain ⟨O, ε, r, E, e, p⟩ := h
  cases e
  exact p σ H (StpS.refl E)
def ifS (c : GT) (g1 g2 : ST) : ST := fun ε => bindS (c ε) fun b ε1 => if b = true then g1 ε1 else g2 ε1
theorem ifS_read {c : GT} {g1 g2 : ST} (h : tSv K ca W (ifS c g1 g2) D σ H) : tIfS (tTv K ca W c) (tSv K ca W g1) (tSv K ca W g2) D σ H := by
  obtain ⟨O, ε, r, E, e, p⟩ := h
  refine tTv_bindS E e (fun b ε1 H1 s e1 => ?_) p.err
  cases b with
  | true => exact iteT ⟨O, ε1, r, s.env, by simpa using e1, p.later s.toS⟩
  | false => exact iteF ⟨O, ε1, r, s.env, by simpa using e1, p.later s.toS⟩
def dropT (g : ET) : ST := fun ε => bindS (g ε) fun _ ε1 => some (.nx ε1)
theorem dropT_read {g : ET} (h : tSv K ca W (dropT g) D σ H) : tDrop (tEv K ca W g) D σ H := by
  obtain ⟨O, ε, r, E, e, p⟩ := h
  refine tEv_bindS E e (fun x ε1 v H1 s rr e1 => ?_) p.err
  cases e1
  exact p σ H1 s.toS
def retT (g : ET) : ST := fun ε => bindS (g ε) fun x ε1 => some (.rt x ε1)
theorem ResR.toS {x : Tr.D × Bool} (r : ResR K ca O σ ε' H H' v x) : ResS K ca O σ ε H σ ε' H' v x := by
  obtain ⟨d, f⟩ := x
  cases f with
  | false => exact r
  | true =>
    obtain ⟨a, e, n, z⟩ := r
    exact ⟨a, e, .inl n, z⟩
theorem retT_read {g : ET} (h : tSv K ca W (retT g) D σ H) : tRet (tEv K ca W g) D σ H := by
  obtain ⟨O, ε, r, E, e, p⟩ := h
  refine tEv_bindS E e (fun x ε1 v H1 s rr e1 => ?_) p.err
  cases e1
  exact p v σ H1 s.toS rr.toS
/-- return of a name: a local's own object goes along -/
def retN (i : Nat) : ST := fun ε => match ε[i]? with
  | some (some (d, 1)) => some (.rt (d, true) (ε.set i none))
  | _ => retT (varT i) ε
theorem own_none {i : Nat} {b : Addr} (h : Own σ (ε.set i none) b) : ∃ (j : Nat) (d : Tr.D) (k : Nat), j ≠ i ∧ ε[j]? = some (some (d, k)) ∧ ownF k = true ∧ σ[j]? = some (some (.ref b)) := by
  obtain ⟨j, d2, k2, h1, h2, h3⟩ := h
  by_cases e : i = j
  · subst e
    by_cases l : i < ε.length
    · rw [List.getElem?_set_self l] at h1
      cases h1
    · rw [List.getElem?_eq_none (by simpa using l)] at h1
      cases h1
  · rw [List.getElem?_set_ne e] at h1
    exact ⟨j, d2, k2, fun z => e z.symm, h1, h2, h3⟩
theorem set_none {i j : Nat} {s : Tr.D × Nat} (h : (ε.set i none)[j]? = some (some s)) : j ≠ i ∧ ε[j]? = some (some s) := by
  by_cases e : i = j
  · subst e
    by_cases l : i < ε.length
    · rw [List.getElem?_set_self l] at h
      cases h
    · rw [List.getElem?_eq_none (by simpa using l)] at h
      cases h
  · rw [List.getElem?_set_ne e] at h
    exact ⟨fun z => e z.symm, h⟩
/-- a local's own object leaves its slot -/
theorem EnvR.take {i : Nat} (E : EnvR K ca O H σ ε) (h : ε[i]? = some (some (d, 1))) (hv : σ[i]? = some (some (.ref a))) :
    ¬ O a ∧ ¬ Own σ (ε.set i none) a ∧ Top K ca (Or2 (With O a) (Own σ (ε.set i none))) H a d ∧ EnvR K ca (With O a) H σ (ε.set i none) := by
  obtain ⟨b, eb, nb, t⟩ := E.own i d 1 h rfl
  rw [hv] at eb
  cases eb
  have nw : ¬ Own σ (ε.set i none) a := fun z => by
    obtain ⟨j, d2, k2, ne, e1, o1, e2⟩ := own_none z
    exact ne (E.inj j i d2 k2 d 1 a e1 o1 h rfl e2 hv)
  have sub : ∀ b, Or2 (With O a) (Own σ (ε.set i none)) b → Or2 O (Own σ ε) b ∨ H b = none := fun b z => by
    rcases z with (z | z) | z
    · exact .inl (.inl z)
    · rw [z]
      exact .inl (.inr ⟨i, d, 1, h, rfl, hv⟩)
    · obtain ⟨j, d2, k2, ne, e1, o1, e2⟩ := own_none z
      exact .inl (.inr ⟨j, d2, k2, e1, o1, e2⟩)
  have kk : Kp (Or2 O (Own σ ε)) H H := fun _ _ h _ => h
  refine ⟨nb, nw, t.step sub kk fun _ z => z, by rw [List.length_set]; exact E.len, fun j d1 k1 h1 n1 => ?_, fun j d1 k1 h1 n1 => ?_, fun j l d1 k1 d2 k2 b h1 n1 h2 n2 e1 e2 => ?_, fun b z => ?_⟩
  · obtain ⟨ne, h1⟩ := set_none h1
    obtain ⟨w, e1, r⟩ := E.shr j d1 k1 h1 n1
    exact ⟨w, e1, r.step sub kk⟩
  · obtain ⟨ne, h1⟩ := set_none h1
    obtain ⟨b, e1, nb, tb⟩ := E.own j d1 k1 h1 n1
    refine ⟨b, e1, fun z => z.elim nb fun y => ?_, tb.step sub kk fun _ z => z⟩
    rw [y] at e1
    exact ne (E.inj j i d1 k1 d 1 a h1 n1 h rfl e1 hv)
  · obtain ⟨ne, h1⟩ := set_none h1
    obtain ⟨ne2, h2⟩ := set_none h2
    exact E.inj j l d1 k1 d2 k2 b h1 n1 h2 n2 e1 e2
  · rcases z with z | z
    · exact E.out b z
    · rw [z]
      exact t.there
theorem EnvR.part (E : EnvR K ca (With O a) H σ ε) : EnvR K ca O H σ ε := by
  have sub : ∀ b, Or2 O (Own σ ε) b → Or2 (With O a) (Own σ ε) b ∨ H b = none := fun b z => .inl (z.elim (fun y => .inl (.inl y)) .inr)
  have kk : Kp (Or2 (With O a) (Own σ ε)) H H := fun _ _ h _ => h
  refine ⟨E.len, fun i d k h n => ?_, fun i d k h n => ?_, E.inj, fun b z => E.out b (.inl z)⟩
  · obtain ⟨w, e1, r⟩ := E.shr i d k h n
    exact ⟨w, e1, r.step sub kk⟩
  · obtain ⟨b, e1, nb, t⟩ := E.own i d k h n
    exact ⟨b, e1, fun y => nb (.inl y), t.step sub kk fun _ z => z⟩
theorem retN_read {i : Nat} (h : tSv K ca W (retN i) D σ H) : tRet (tVar i) D σ H := by
  obtain ⟨O, ε, r, E, e, p⟩ := h
  unfold retN at e
  split at e
  · rename_i d h
    cases e
    obtain ⟨a, ea, _⟩ := E.own i d 1 h rfl
    obtain ⟨n1, n2, t, E2⟩ := E.take h ea
    refine ⟨_, ea, p _ σ H ⟨fun _ _ z _ => z, fun _ z => z, fun b z => ?_, fun b z => ?_, fun j d1 k1 h1 hk => ?_, by rw [List.length_set], E2.part⟩ ⟨a, rfl, .inr ⟨i, d, h, ea⟩, n1, n2, t, E2⟩⟩
    · obtain ⟨j, d2, k2, ne, e1, o1, e2⟩ := own_none z
      exact .inl ⟨j, d2, k2, e1, o1, e2⟩
    · obtain ⟨j, d2, h1, h2⟩ := z
      obtain ⟨ne, h1⟩ := set_none h1
      exact .inl ⟨j, d2, h1, h2⟩
    · have ne : i ≠ j := fun z => by
        subst z
        rw [h] at h1
        cases h1
        omega
      exact ⟨rfl, _, by rw [List.getElem?_set_ne ne]; exact h1, fun _ => ⟨d1, k1, rfl, fun z => .inl z, fun _ => ⟨rfl, rfl⟩⟩⟩
  · exact (fun (z : tRet (tEv K ca W (varT i)) D σ H) => varT_read z) (retT_read ⟨O, ε, r, E, e, p⟩)
end
end Tr

/-! Names that are set. -/
namespace Tr
open PySem PySem.Spec PyProof.Rows L2 Md
/-- a slot that may be set: no lent object stands there -/
def canSet (ε : TEnv) (i : Nat) : Bool := match ε[i]? with
  | some (some (_, k)) => decide (k < 2)
  | some none => true
  | none => false
def putS (ε : TEnv) (i : Nat) (x : D × Bool) : Option TEnv := if canSet ε i = true then some (ε.set i (some (x.1, if x.2 = true then 1 else 0))) else none
def WithL (O : Addr → Prop) (A : List Addr) : Addr → Prop := fun b => O b ∨ b ∈ A
section
variable {K : PySem.W.Frag} {ca : CA} {W : WX} {O O' S : Addr → Prop} {H H1 H2 H' : Hp} {σ σ1 σ2 σ' : L2.St} {ε ε1 ε2 ε' p p' : TEnv} {a : Addr} {d : D} {v : V} {Q : VK} {E : Ends} {i : Nat} {k : Nat}
theorem canSet_lt (h : canSet ε i = true) : i < ε.length := by
  unfold canSet at h
  split at h
  · rename_i q; exact (List.getElem?_eq_some_iff.mp q).1
  · rename_i q; exact (List.getElem?_eq_some_iff.mp q).1
  · cases h
theorem canSet_k {d : D} {k : Nat} (h : canSet ε i = true) (e : ε[i]? = some (some (d, k))) : k < 2 := by
  unfold canSet at h
  rw [e] at h
  exact of_decide_eq_true h
theorem own_put {b : Addr} (h : Own (σ.set i (some v)) (ε.set i (some (d, k))) b) : (ownF k = true ∧ v = .ref b) ∨ ∃ (j : Nat) (d : D) (k : Nat), j ≠ i ∧ ε[j]? = some (some (d, k)) ∧ ownF k = true ∧ σ[j]? = some (some (.ref b)) := by
  obtain ⟨j, d2, k2, h1, h2, h3⟩ := h
  by_cases e : i = j
  · subst e
    by_cases l : i < ε.length
    · rw [List.getElem?_set_self l] at h1
      cases h1
      by_cases l2 : i < σ.length
      · rw [List.getElem?_set_self l2] at h3
        cases h3
        exact .inl ⟨h2, rfl⟩
      · rw [List.getElem?_eq_none (by simpa using l2)] at h3
        cases h3
    · rw [List.getElem?_eq_none (by simpa using l)] at h1
      cases h1
  · rw [List.getElem?_set_ne e] at h1 h3
    exact .inr ⟨j, d2, k2, fun z => e z.symm, h1, h2, h3⟩
theorem own1_put {b : Addr} (h : Own1 (σ.set i (some v)) (ε.set i (some (d, k))) b) : (k = 1 ∧ v = .ref b) ∨ Own1 σ ε b := by
  obtain ⟨j, d2, h1, h3⟩ := h
  by_cases e : i = j
  · subst e
    by_cases l : i < ε.length
    · rw [List.getElem?_set_self l] at h1
      cases h1
      by_cases l2 : i < σ.length
      · rw [List.getElem?_set_self l2] at h3
        cases h3
        exact .inl ⟨rfl, rfl⟩
      · rw [List.getElem?_eq_none (by simpa using l2)] at h3
        cases h3
    · rw [List.getElem?_eq_none (by simpa using l)] at h1
      cases h1
  · rw [List.getElem?_set_ne e] at h1 h3
    exact .inr ⟨j, d2, h1, h3⟩
/-- a shared value is put into a slot -/
theorem EnvR.put (E : EnvR K ca O H σ ε) (c : i < ε.length) (r : Rep K ca (Or2 O (Own σ ε)) H v d) : EnvR K ca O H (σ.set i (some v)) (ε.set i (some (d, 0))) := by
  have sub : ∀ b, Or2 O (Own (σ.set i (some v)) (ε.set i (some (d, 0)))) b → Or2 O (Own σ ε) b ∨ H b = none := fun b z => by
    rcases z with z | z
    · exact .inl (.inl z)
    · rcases own_put z with ⟨o, _⟩ | ⟨j, d2, k2, ne, h1, o, h3⟩
      · cases o
      · exact .inl (.inr ⟨j, d2, k2, h1, o, h3⟩)
  have kk : Kp (Or2 O (Own σ ε)) H H := fun _ _ h _ => h
  have cσ : i < σ.length := by rw [← E.len]; exact c
  refine ⟨by rw [List.length_set, List.length_set]; exact E.len, fun j d1 k1 h1 n1 => ?_, fun j d1 k1 h1 n1 => ?_, fun j l d1 k1 d2 k2 b h1 n1 h2 n2 e1 e2 => ?_, E.out⟩
  · by_cases e : i = j
    · subst e
      rw [List.getElem?_set_self c] at h1
      cases h1
      exact ⟨v, List.getElem?_set_self cσ, r.step sub kk⟩
    · rw [List.getElem?_set_ne e] at h1
      obtain ⟨w, e1, q⟩ := E.shr j d1 k1 h1 n1
      exact ⟨w, by rw [List.getElem?_set_ne e]; exact e1, q.step sub kk⟩
  · by_cases e : i = j
    · subst e
      rw [List.getElem?_set_self c] at h1
      cases h1
      cases n1
    · rw [List.getElem?_set_ne e] at h1
      obtain ⟨b, e1, nb, t⟩ := E.own j d1 k1 h1 n1
      exact ⟨b, by rw [List.getElem?_set_ne e]; exact e1, nb, t.step sub kk fun _ z => z⟩
  · have f : ∀ {j : Nat} {d1 : D} {k1 : Nat}, (ε.set i (some (d, 0)))[j]? = some (some (d1, k1)) → ownF k1 = true → i ≠ j ∧ ε[j]? = some (some (d1, k1)) := fun {j d1 k1} h1 n1 => by
      by_cases e : i = j
      · subst e
        rw [List.getElem?_set_self c] at h1
        cases h1
        cases n1
      · rw [List.getElem?_set_ne e] at h1
        exact ⟨e, h1⟩
    obtain ⟨ne1, f1⟩ := f h1 n1
    obtain ⟨ne2, f2⟩ := f h2 n2
    rw [List.getElem?_set_ne ne1] at e1
    rw [List.getElem?_set_ne ne2] at e2
    exact E.inj j l d1 k1 d2 k2 b f1 n1 f2 n2 e1 e2
/-- an object of its own is put into a slot -/
theorem EnvR.putOwn (E : EnvR K ca O' H σ ε) (hO : ∀ b, O b → O' b) (ha : O' a) (na : ¬ O a) (hO2 : ∀ b, O' b → O b ∨ b = a) (c : i < ε.length) (nw : ¬ Own σ ε a) (t : Top K ca (Or2 O' (Own σ ε)) H a d) : EnvR K ca O H (σ.set i (some (.ref a))) (ε.set i (some (d, 1))) := by
  have sub : ∀ b, Or2 O (Own (σ.set i (some (.ref a))) (ε.set i (some (d, 1)))) b → Or2 O' (Own σ ε) b ∨ H b = none := fun b z => by
    rcases z with z | z
    · exact .inl (.inl (hO b z))
    · rcases own_put z with ⟨_, e⟩ | ⟨j, d2, k2, ne, h1, o, h3⟩
      · cases e
        exact .inl (.inl ha)
      · exact .inl (.inr ⟨j, d2, k2, h1, o, h3⟩)
  have kk : Kp (Or2 O' (Own σ ε)) H H := fun _ _ h _ => h
  have cσ : i < σ.length := by rw [← E.len]; exact c
  refine ⟨by rw [List.length_set, List.length_set]; exact E.len, fun j d1 k1 h1 n1 => ?_, fun j d1 k1 h1 n1 => ?_, fun j l d1 k1 d2 k2 b h1 n1 h2 n2 e1 e2 => ?_, fun b z => E.out b (hO b z)⟩
  · by_cases e : i = j
    · subst e
      rw [List.getElem?_set_self c] at h1
      cases h1
      cases n1
    · rw [List.getElem?_set_ne e] at h1
      obtain ⟨w, e1, q⟩ := E.shr j d1 k1 h1 n1
      exact ⟨w, by rw [List.getElem?_set_ne e]; exact e1, q.step sub kk⟩
  · by_cases e : i = j
    · subst e
      rw [List.getElem?_set_self c] at h1
      cases h1
      exact ⟨a, List.getElem?_set_self cσ, na, t.step sub kk fun _ z => z⟩
    · rw [List.getElem?_set_ne e] at h1
      obtain ⟨b, e1, nb, tb⟩ := E.own j d1 k1 h1 n1
      exact ⟨b, by rw [List.getElem?_set_ne e]; exact e1, fun z => nb (hO b z), tb.step sub kk fun _ z => z⟩
  · have f : ∀ {j : Nat} {d1 : D} {k1 : Nat}, (ε.set i (some (d, 1)))[j]? = some (some (d1, k1)) → ownF k1 = true → (i = j) ∨ (i ≠ j ∧ ε[j]? = some (some (d1, k1))) := fun {j d1 k1} h1 n1 => by
      by_cases e : i = j
      · exact .inl e
      · rw [List.getElem?_set_ne e] at h1
        exact .inr ⟨e, h1⟩
    have no : ∀ {j : Nat} {d1 : D} {k1 : Nat}, ε[j]? = some (some (d1, k1)) → ownF k1 = true → σ[j]? = some (some (.ref a)) → False := fun {j d1 k1} h1 n1 e1 => nw ⟨j, d1, k1, h1, n1, e1⟩
    rcases f h1 n1 with z1 | ⟨ne1, f1⟩
    · rcases f h2 n2 with z2 | ⟨ne2, f2⟩
      · rw [← z1, ← z2]
      · subst z1
        rw [List.getElem?_set_self cσ] at e1
        cases e1
        rw [List.getElem?_set_ne ne2] at e2
        exact (no f2 n2 e2).elim
    · rcases f h2 n2 with z2 | ⟨ne2, f2⟩
      · subst z2
        rw [List.getElem?_set_self cσ] at e2
        cases e2
        rw [List.getElem?_set_ne ne1] at e1
        exact (no f1 n1 e1).elim
      · rw [List.getElem?_set_ne ne1] at e1
        rw [List.getElem?_set_ne ne2] at e2
        exact E.inj j l d1 k1 d2 k2 b f1 n1 f2 n2 e1 e2
/-- the step of a slot that is set: of shared, new or a local's values -/
theorem put_stp {k : Nat} (E : EnvR K ca O H σ ε) (c : canSet ε i = true) (hk : k = 0 ∨ (k = 1 ∧ ∃ a, v = .ref a ∧ (H' a = none ∨ Own1 σ ε a))) (E2 : EnvR K ca O H (σ.set i (some v)) (ε.set i (some (d, k)))) (th : ∀ b, H b = none → H' b = none) :
    (∀ b, Own (σ.set i (some v)) (ε.set i (some (d, k))) b → Own σ ε b ∨ H' b = none) ∧ (∀ b, Own1 (σ.set i (some v)) (ε.set i (some (d, k))) b → Own1 σ ε b ∨ H' b = none) ∧
    (∀ (j : Nat) (d1 : D) (k1 : Nat), ε[j]? = some (some (d1, k1)) → 2 ≤ k1 → (σ.set i (some v))[j]? = σ[j]? ∧ ∃ s', (ε.set i (some (d, k)))[j]? = some s' ∧ parS (some (d1, k1)) s') := by
  refine ⟨fun b z => ?_, fun b z => ?_, fun j d1 k1 h1 n1 => ?_⟩
  · rcases own_put z with ⟨o, e⟩ | ⟨j, d2, k2, ne, h1, o, h3⟩
    · rcases hk with e2 | ⟨_, a, ea, q⟩
      · rw [e2] at o
        cases o
      · rw [ea] at e
        cases e
        rcases q with q | ⟨j, d3, q1, q2⟩
        · exact .inr q
        · exact .inl ⟨j, d3, 1, q1, rfl, q2⟩
    · exact .inl ⟨j, d2, k2, h1, o, h3⟩
  · rcases own1_put z with ⟨e1, e⟩ | z
    · rcases hk with e2 | ⟨_, a, ea, q⟩
      · omega
      · rw [ea] at e
        cases e
        rcases q with q | q
        · exact .inr q
        · exact .inl q
    · exact .inl z
  · have ne : i ≠ j := fun z => by
      subst z
      have := canSet_k c h1
      omega
    exact ⟨List.getElem?_set_ne ne, _, by rw [List.getElem?_set_ne ne]; exact h1, fun _ => ⟨d1, k1, rfl, fun z => .inl z, fun _ => ⟨rfl, rfl⟩⟩⟩

/-! ### name = value -/
def setT (i : Nat) (g : ET) : ST := fun ε => bindS (g ε) fun x ε1 => (putS ε1 i x).map .nx
theorem setT_read {g : ET} (h : tSv K ca W (setT i g) E σ H) : tAsg (tEv K ca W g) (gName i) E σ H := by
  obtain ⟨O, ε, r, R, e, p⟩ := h
  refine tEv_bindS R e (fun x ε1 v H1 s rr e1 => ?_) p.err
  rw [Option.map_eq_some_iff] at e1
  obtain ⟨ε2, e2, e3⟩ := e1
  subst e3
  unfold putS at e2
  split at e2
  · rename_i c
    cases e2
    have lt := canSet_lt c
    obtain ⟨d, f⟩ := x
    cases f with
    | false =>
      have E2 := s.env.put lt rr
      obtain ⟨n1, n2, n3⟩ := put_stp (H' := H1) s.env c (.inl rfl) E2 (fun _ z => z)
      exact p _ H1 (s.toS.trans ⟨fun _ _ z _ => z, fun _ z => z, n1, n2, n3, by rw [List.length_set], E2⟩)
    | true =>
      obtain ⟨a, rfl, na, nO, nw, t, E1⟩ := rr
      have E2 := EnvR.putOwn (O := O) E1 (fun b z => .inl z) (.inr rfl) nO (fun b z => z) lt nw t
      obtain ⟨n1, n2, n3⟩ := put_stp (H' := H) s.env c (.inr ⟨rfl, a, rfl, .inl na⟩) E2 (fun b z => s.th b z)
      have own_of : ∀ b, Own σ ε1 b → Own σ ε b := fun b z => s.le.own z
      refine p _ H1 ⟨s.fr, s.th, fun b z => (n1 b z).elim (fun y => .inl (own_of b y)) .inr, fun b z => (n2 b z).elim (fun y => .inl (s.le.own1 y)) .inr, fun j d1 k1 h1 hk => ?_, by rw [List.length_set]; exact s.le.len, E2⟩
      obtain ⟨e1, s', h2, q2⟩ := s.toS.par j d1 k1 h1 hk
      obtain ⟨d', k', e3, a3, b3⟩ := q2 hk
      subst e3
      have hk' : 2 ≤ k' := by
        by_cases z : k1 = 2
        · rcases a3 z with e | e <;> omega
        · have := (b3 (by omega)).2
          omega
      obtain ⟨e4, s4, h4, q4⟩ := n3 j d' k' h2 hk'
      exact ⟨e4, s4, h4, parS.trans (t := some (d', k')) (fun _ => ⟨d', k', rfl, a3, b3⟩) q4 fun d0 k0 e => by cases e; exact hk⟩
  · cases e2

/-! ### targets of tuples and lists -/
mutual
inductive TgT where
  | nm (i : Nat)
  | tp (ts : TgTs)
inductive TgTs where
  | nil
  | cons (t : TgT) (ts : TgTs)
end
def TgTs.len : TgTs → Nat
  | .nil => 0
  | .cons _ ts => ts.len + 1
mutual
def bindG : TgT → D → TEnv → Option TEnv
  | .nm i, d, ε => if canSet ε i = true then some (ε.set i (some (d, 0))) else none
  | .tp ts, .tup ds, ε => bindGs ts ds ε
  | .tp ts, .lst ds, ε => bindGs ts ds ε
  | .tp _, _, _ => none
def bindGs : TgTs → List D → TEnv → Option TEnv
  | .nil, [], ε => some ε
  | .cons t ts, d :: ds, ε => (bindG t d ε).bind (bindGs ts ds)
  | .nil, _ :: _, _ => none
  | .cons _ _, [], _ => none
end
mutual
/-- the names that are bound -/
def TgT.ns : TgT → List Nat
  | .nm i => [i]
  | .tp ts => ts.ns
def TgTs.ns : TgTs → List Nat
  | .nil => []
  | .cons t ts => t.ns ++ ts.ns
end
/-- other slots stay -/
def Els (l : List Nat) (σ σ' : L2.St) : Prop := ∀ j, j ∉ l → σ'[j]? = σ[j]?
theorem Els.refl (l : List Nat) (σ : L2.St) : Els l σ σ := fun _ _ => rfl
theorem Els.trans {l m : List Nat} {σ σ1 σ2 : L2.St} (a : Els l σ σ1) (b : Els m σ1 σ2) : Els (l ++ m) σ σ2 := fun j h => (b j fun z => h (List.mem_append_right _ z)).trans (a j fun z => h (List.mem_append_left _ z))
theorem bindGs_len : ∀ {ts : TgTs} {ds : List D} {ε ε' : TEnv}, bindGs ts ds ε = some ε' → ds.length = ts.len
  | .nil, [], _, _, _ => rfl
  | .cons t ts, d :: ds, ε, ε', h => by
    unfold bindGs at h
    cases q : bindG t d ε with
    | none => rw [q] at h; cases h
    | some ε1 =>
      rw [q] at h
      simp [TgTs.len, bindGs_len (ts := ts) h]
  | .nil, _ :: _, _, _, h => by cases h
  | .cons _ _, [], _, _, h => by cases h
def tGv (K : PySem.W.Frag) (ca : CA) (t : TgT) : TG := fun v σ H Q => ∃ O ε d ε', EnvR K ca O H σ ε ∧ Rep K ca (Or2 O (Own σ ε)) H v d ∧ bindG t d ε = some ε' ∧ ∀ σ', StpS K ca O σ ε H σ' ε' H → Els t.ns σ σ' → Q σ' H
def tGvs (K : PySem.W.Frag) (ca : CA) (ts : TgTs) : TGs := fun vs σ H Q => ∃ O ε ds ε', EnvR K ca O H σ ε ∧ RepL K ca (Or2 O (Own σ ε)) H vs ds ∧ bindGs ts ds ε = some ε' ∧ ∀ σ', StpS K ca O σ ε H σ' ε' H → Els ts.ns σ σ' → Q σ' H
theorem put_nm (R : EnvR K ca O H σ ε) (r : Rep K ca (Or2 O (Own σ ε)) H v d) (c : canSet ε i = true) : StpS K ca O σ ε H (σ.set i (some v)) (ε.set i (some (d, 0))) H := by
  have E2 := R.put (canSet_lt c) r
  obtain ⟨n1, n2, n3⟩ := put_stp (H' := H) R c (.inl rfl) E2 (fun _ z => z)
  exact ⟨fun _ _ z _ => z, fun _ z => z, n1, n2, n3, by rw [List.length_set], E2⟩
theorem tGv_nm {Q : L2.St → Hp → Prop} (h : tGv K ca (.nm i) v σ H Q) : gName i v σ H Q := by
  obtain ⟨O, ε, d, ε', R, r, e, q⟩ := h
  unfold bindG at e
  split at e
  · rename_i c
    cases e
    refine q _ (put_nm R r c) fun j h => ?_
    exact List.getElem?_set_ne fun z => h (by rw [← z]; exact List.mem_cons_self ..)
  · cases e
/-- a state's later owned ones were owned, or are new -/
theorem StpS.rep (s : StpS K ca O σ ε H σ' ε' H') (R : EnvR K ca O H σ ε) (r : Rep K ca (Or2 O (Own σ ε)) H v d) : Rep K ca (Or2 O (Own σ' ε')) H' v d :=
  r.step (fun b z => z.elim (fun y => .inl (.inl y)) fun y => (s.new b y).elim (fun w => .inl (.inr w)) .inr) (R.kp s.fr)
theorem StpS.repL (s : StpS K ca O σ ε H σ' ε' H') (R : EnvR K ca O H σ ε) {vs : List V} {ds : List D} (r : RepL K ca (Or2 O (Own σ ε)) H vs ds) : RepL K ca (Or2 O (Own σ' ε')) H' vs ds :=
  r.step (fun b z => z.elim (fun y => .inl (.inl y)) fun y => (s.new b y).elim (fun w => .inl (.inr w)) .inr) (R.kp s.fr)
theorem tGvs_cons {t : TgT} {ts : TgTs} {vs : List V} {Q : L2.St → Hp → Prop} (h : tGvs K ca (.cons t ts) vs σ H Q) : gCons (tGv K ca t) (tGvs K ca ts) vs σ H Q := by
  obtain ⟨O, ε, ds, ε', R, r, e, q⟩ := h
  cases ds with
  | nil => cases e
  | cons d ds =>
    cases r with
    | cons a l =>
      unfold bindGs at e
      cases z : bindG t d ε with
      | none => rw [z] at e; cases e
      | some ε1 =>
        rw [z] at e
        refine ⟨_, _, rfl, O, ε, d, ε1, R, a, z, fun σ1 s x1 => ?_⟩
        exact ⟨O, ε1, ds, ε', s.env, s.repL R l, e, fun σ2 s2 x2 => q σ2 (s.trans s2) (x1.trans x2)⟩
theorem tGvs_nil {vs : List V} {Q : L2.St → Hp → Prop} (h : tGvs K ca .nil vs σ H Q) : gNil vs σ H Q := by
  obtain ⟨O, ε, ds, ε', R, r, e, q⟩ := h
  cases ds with
  | nil =>
    cases r
    cases e
    exact ⟨rfl, q σ (StpS.refl R) (Els.refl _ _)⟩
  | cons d ds => cases e
theorem tGv_tp {ts : TgTs} {Q : L2.St → Hp → Prop} (h : tGv K ca (.tp ts) v σ H Q) : gTup K ts.len (tGvs K ca ts) v σ H Q ∨ gLst K ts.len (tGvs K ca ts) v σ H Q := by
  obtain ⟨O, ε, d, ε', R, r, e, q⟩ := h
  cases d with
  | tup ds =>
    cases r with
    | tup t l =>
      exact .inl ⟨_, _, rfl, t, by rw [l.length]; exact bindGs_len e, O, ε, ds, ε', R, l, e, q⟩
  | lst ds =>
    cases r with
    | lst n t l =>
      exact .inr ⟨_, _, rfl, .inl (.inl t), by rw [l.length]; exact bindGs_len e, O, ε, ds, ε', R, l, e, q⟩
  | _ => cases e
/-- target = value, the value shared -/
def asgT (t : TgT) (g : ET) : ST := fun ε => bindS (g ε) fun x ε1 => (bindG t x.1 ε1).map .nx
theorem asgT_read {t : TgT} {g : ET} (h : tSv K ca W (asgT t g) E σ H) : tAsg (tEv K ca W g) (tGv K ca t) E σ H := by
  obtain ⟨O, ε, r, R, e, p⟩ := h
  refine tEv_bindS R e (fun x ε1 v H1 s rr e1 => ?_) p.err
  rw [Option.map_eq_some_iff] at e1
  obtain ⟨ε2, e2, e3⟩ := e1
  subst e3
  exact ⟨O, ε1, x.1, ε2, s.env, rr.rep, e2, fun σ' t _ => p σ' H1 (s.toS.trans t)⟩
end
section
variable {X : Cx} {ca : CA} {W : WX} {e : Expr} {es : List Expr} {g : ET} {g1 g2 : ST} {c : GT} {pos pos' : Pos} {st : Stmt} {rest sa sb : List Stmt} {t : TgT} {ts : TgTs}
abbrev PSt (X : Cx) (ca : CA) (W : WX) (st : Stmt) (g : ST) : Prop := PS X st (tSv X.K ca W g)
abbrev PSts (X : Cx) (ca : CA) (W : WX) (st : List Stmt) (g : ST) : Prop := PSs X st (tSv X.K ca W g)
theorem psWeak {t t' : TS} (h : PS X st t) (w : ∀ D σ H, t' D σ H → t D σ H) : PS X st t' := ⟨fun pins s σ H D I q => h.run pins s σ H D I (w D σ H q)⟩
theorem pssWeak {t t' : TS} (h : PSs X rest t) (w : ∀ D σ H, t' D σ H → t D σ H) : PSs X rest t' := ⟨fun pins s σ H D I q => h.run pins s σ H D I (w D σ H q)⟩
theorem pgWeak {t t' : TG} (h : PG X e t) (w : ∀ v σ H Q, t' v σ H Q → t v σ H Q) : PG X e t' := ⟨fun pins s σ H v u Q I r q => h.run pins s σ H v u Q I r (w v σ H Q q)⟩
theorem pgsWeak {t t' : TGs} (h : PGs X es t) (w : ∀ v σ H Q, t' v σ H Q → t v σ H Q) : PGs X es t' := ⟨fun pins s σ H v u Q I r q => h.run pins s σ H v u Q I r (w v σ H Q q)⟩
theorem pgOr {t t' : TG} (h : PG X e t) (h' : PG X e t') : PG X e (fun v σ H Q => t v σ H Q ∨ t' v σ H Q) := ⟨fun pins s σ H v u Q I r q => q.elim (h.run pins s σ H v u Q I r) (h'.run pins s σ H v u Q I r)⟩
theorem psts_nil : PSts X ca W [] nilT := pssWeak pss_nil fun _ _ _ h => nilT_read h
theorem psts_cons (h : PSt X ca W st g1) (h2 : PSts X ca W rest g2) : PSts X ca W (st :: rest) (seqT g1 g2) := pssWeak (pss_cons h h2) fun _ _ _ h => seqT_read h
theorem psts_one (h : PSt X ca W st g1) : PSts X ca W [st] g1 := pss_one h
theorem pst_if (hc : PTT X ca W e c) (ha : PSts X ca W sa g1) (hb : PSts X ca W sb g2) : PSt X ca W (.If e sa sb pos) (ifS c g1 g2) := psWeak (ps_if hc ha hb) fun _ _ _ h => ifS_read h
theorem pst_ret (h : PET X ca W e g) : PSt X ca W (.Return (some e) pos) (retT g) := psWeak (ps_ret h) fun _ _ _ h => retT_read h
theorem pst_retN (i : Nat) {x : Str} (hN : X.N[i]? = some x := by rfl) (hv : Vis X.env.scope x := by first | exact Or.inl rfl | exact Or.inr (Or.inl rfl) | exact Or.inr (Or.inr rfl)) (hd : (x == ("__debug__" : Str)) = false := by decide)
    (hcd : (x == ("__classdict__" : Str)) = false := by decide) : PSt X ca W (.Return (some (.Name x pos')) pos) (retN i) := psWeak (ps_ret (pe_var hN hv hd hcd)) fun _ _ _ h => retN_read h
theorem pst_drop (h : PET X ca W e g) (hs : swapsWith e none pos.line X.env = pure false := by rfl) : PSt X ca W (.Expr e pos) (dropT g) := psWeak (ps_expr h hs) fun _ _ _ h => dropT_read h
theorem pst_set {i : Nat} {x : Str} (hN : X.N.Nodup) (hi : X.N[i]? = some x) (hx : Loc X.env.scope x) (he : PET X ca W e g) (hs : swapsWith e (some (.Name x pos')) pos.line X.env = pure false := by rfl) (hf : X.fn x = true ∨ X.env.scope.names.lookup x = some .local := by first | exact .inl rfl | exact .inr rfl | assumption) :
    PSt X ca W (.Assign [.Name x pos'] e pos) (setT i g) := psWeak (ps_set hN hi hx he hs hf) fun _ _ _ h => setT_read h
abbrev PGt (X : Cx) (ca : CA) (e : Expr) (t : TgT) : Prop := PG X e (tGv X.K ca t)
abbrev PGts (X : Cx) (ca : CA) (es : List Expr) (ts : TgTs) : Prop := PGs X es (tGvs X.K ca ts)
theorem pgt_nm {i : Nat} {x : Str} (hN : X.N.Nodup) (hi : X.N[i]? = some x) (hx : Loc X.env.scope x) (hf : X.fn x = true ∨ X.env.scope.names.lookup x = some .local := by first | exact .inl rfl | exact .inr rfl | assumption) : PGt X ca (.Name x pos) (.nm i) := pgWeak (pg_name hN hi hx hf) fun _ _ _ _ h => tGv_nm h
theorem pgts_nil : PGts X ca [] .nil := pgsWeak pgs_nil fun _ _ _ _ h => tGvs_nil h
theorem pgts_cons (h1 : PGt X ca e t) (h2 : PGts X ca es ts) (hs : (assignEach (e :: es) X.env).map (·.2) = assign e X.env :: (assignEach es X.env).map (·.2) := by rfl) : PGts X ca (e :: es) (.cons t ts) := pgsWeak (pgs_cons h1 h2 hs) fun _ _ _ _ h => tGvs_cons h
theorem pgt_tp {k : Nat} (hc : X.calm = true) (h : PGts X ca es ts) (hn : (assignEach es X.env).length = ts.len := by rfl) (hst : (assignEach es X.env).findIdx? (·.1) = none := by rfl) : PGt X ca (.Tuple es k pos) (.tp ts) :=
  pgWeak (pgOr (pg_tup hc h hn hst) (pg_lst hc h hn hst)) fun _ _ _ _ h => tGv_tp h
theorem pst_asg {tg : Expr} (he : PET X ca W e g) (hg : PGt X ca tg t) (hs : swapsWithSole [tg] e pos.line X.env = pure false := by rfl) (hw : swappedStores [tg] e X.env = pure none := by rfl)
    (h1 : (assignEach [tg] X.env).map (·.2) = [assign tg X.env] := by rfl) : PSt X ca W (.Assign [tg] e pos) (asgT t g) := psWeak (ps_asg he hg hs hw h1) fun _ _ _ h => asgT_read h
end
end Tr

/-! Objects that are changed in their slots; several names set at once. -/
namespace Tr
open PySem PySem.Spec PyProof.Rows L2 Md
section
variable {K : PySem.W.Frag} {ca : CA} {W : WX} {O O' S : Addr → Prop} {H H0 H1 H2 H' : Hp} {σ σ1 σ2 σ' : L2.St} {ε ε1 ε2 ε' p p' : TEnv} {a : Addr} {d d' : D} {v : V} {Q : VK} {E : Ends} {i : Nat} {k : Nat}
/-- an owned object is changed in its slot -/
theorem EnvR.write (R : EnvR K ca O H σ ε) (h : ε[i]? = some (some (d, k))) (o : ownF k = true) (hv : σ[i]? = some (some (.ref a))) (fr : ∀ b, b ≠ a → H' b = H b) (t : Top K ca (Or2 O (Own σ ε)) H' a d') : Stp K ca O σ ε H (ε.set i (some (d', k))) H' := by
  obtain ⟨b, eb, na, t0⟩ := R.own i d k h o
  rw [hv] at eb
  cases eb
  have li : i < ε.length := (List.getElem?_eq_some_iff.mp h).1
  have oa : Own σ ε a := ⟨i, d, k, h, o, hv⟩
  have at_ : ∀ {j : Nat} {d1 : D} {k1 : Nat}, (ε.set i (some (d', k)))[j]? = some (some (d1, k1)) → (i = j ∧ d1 = d' ∧ k1 = k) ∨ (i ≠ j ∧ ε[j]? = some (some (d1, k1))) := fun {j d1 k1} h1 => by
    by_cases e : i = j
    · subst e
      rw [List.getElem?_set_self li] at h1
      cases h1
      exact .inl ⟨rfl, rfl, rfl⟩
    · rw [List.getElem?_set_ne e] at h1
      exact .inr ⟨e, h1⟩
  have own_ : ∀ b, Own σ (ε.set i (some (d', k))) b → Own σ ε b := fun b ⟨j, d1, k1, h1, h2, h3⟩ => by
    rcases at_ h1 with ⟨rfl, _, rfl⟩ | ⟨_, h1⟩
    · exact ⟨i, d, _, h, o, h3⟩
    · exact ⟨j, d1, k1, h1, h2, h3⟩
  have sub : ∀ b, Or2 O (Own σ (ε.set i (some (d', k)))) b → Or2 O (Own σ ε) b ∨ H b = none := fun b z => .inl (z.elim .inl fun y => .inr (own_ b y))
  have sub' : ∀ b, Or2 O (Own σ (ε.set i (some (d', k)))) b → Or2 O (Own σ ε) b ∨ H' b = none := fun b z => .inl (z.elim .inl fun y => .inr (own_ b y))
  have kk : Kp (Or2 O (Own σ ε)) H H' := fun b ob hb z => by
    by_cases e : b = a
    · subst e
      rw [t0.mut hb] at z
      exact absurd (z (.inr oa)) Bool.false_ne_true
    · rw [fr b e]
      exact hb
  have kk' : Kp (Or2 O (Own σ ε)) H' H' := fun _ _ h _ => h
  have th : ∀ b, H' b = none → H b = none := fun b z => by
    by_cases e : b = a
    · subst e
      exact absurd z t.there
    · rw [← fr b e]
      exact z
  refine ⟨⟨by rw [List.length_set], fun j s hs => ?_⟩, fun b ob hb n => ?_, th, ⟨by rw [List.length_set]; exact R.len, fun j d1 k1 h1 n1 => ?_, fun j d1 k1 h1 n1 => ?_, fun j l d1 k1 d2 k2 b h1 n1 h2 n2 e1 e2 => ?_, fun b z y => R.out b z (th b y)⟩⟩
  · by_cases e : i = j
    · subst e
      rw [h] at hs
      cases hs
      exact ⟨_, List.getElem?_set_self li, ⟨d', k, rfl, ⟨fun z => absurd (o.symm.trans z) (by decide), fun _ => .inl rfl⟩⟩⟩
    · exact ⟨s, by rw [List.getElem?_set_ne e]; exact hs, leS.refl s⟩
  · have e : b ≠ a := fun e => n (by rw [e]; exact oa)
    rw [fr b e]
    exact hb
  · rcases at_ h1 with ⟨_, _, rfl⟩ | ⟨_, h1⟩
    · rw [o] at n1
      cases n1
    · obtain ⟨w, e1, r⟩ := R.shr j d1 k1 h1 n1
      exact ⟨w, e1, r.step sub kk⟩
  · rcases at_ h1 with ⟨rfl, rfl, rfl⟩ | ⟨ne, h1⟩
    · exact ⟨a, hv, na, t.step sub' kk' fun _ z => z⟩
    · obtain ⟨b, e1, nb, tb⟩ := R.own j d1 k1 h1 n1
      refine ⟨b, e1, nb, tb.step sub kk fun ob z => ?_⟩
      have e : b ≠ a := fun e => by
        subst e
        exact ne (R.inj i j d k d1 k1 b h o h1 n1 hv e1)
      rw [fr b e]
      exact z
  · have f : ∀ {j : Nat} {d1 : D} {k1 : Nat}, (ε.set i (some (d', k)))[j]? = some (some (d1, k1)) → ownF k1 = true → ∃ d0, ε[j]? = some (some (d0, k1)) := fun {j d1 k1} h1 n1 => by
      rcases at_ h1 with ⟨rfl, _, rfl⟩ | ⟨_, h1⟩
      · exact ⟨d, h⟩
      · exact ⟨d1, h1⟩
    obtain ⟨x1, f1⟩ := f h1 n1
    obtain ⟨x2, f2⟩ := f h2 n2
    exact R.inj j l x1 k1 x2 k2 b f1 n1 f2 n2 e1 e2

/-! ### methods of a list that change it -/
/-- the reading of a changing method of a list keeps what f tells -/
def MutS (K : PySem.W.Frag) (ca : CA) (r : V → List V → Hp → VK → Prop) (f : List D → List D → Option (List D × D)) : Prop :=
  ∀ (S : Addr → Prop) (H : Hp) (a : Addr) (xs : List V) (cs : List D) (vs : List V) (ds : List D) (cs' : List D) (res : D) (Q : VK), S a → H a = some (.lst xs) → RepL K ca S H xs cs → RepL K ca S H vs ds →
    f cs ds = some (cs', res) → (∀ v xs', RepL K ca S H xs' cs' → Rep K ca S H v res → Q v (upd H a (.lst xs'))) → r (.ref a) vs H Q
def mutT (f : List D → List D → Option (List D × D)) (i : Nat) (as : List AK) : ET := fun ε => match ε[i]? with
  | some (some (.lst _, k0)) => if ownF k0 = true then bindE (evA as ε) fun ads ε1 => match ε1[i]?, tms ads with
      | some (some (.lst cs, k)), some ds => if ownF k = true then (f cs ds).map fun x => .ok (x.2, false) (ε1.set i (some (.lst x.1, k))) else none
      | _, _ => none
    else none
  | _ => none
theorem mutT_read {r : V → List V → Hp → VK → Prop} {f : List D → List D → Option (List D × D)} {as : List AK} (m : MutS K ca r f) (h : tEv K ca W (mutT f i as) σ H Q) : tBM K "list" r (tVar i) (tAks K ca W as) σ H Q := by
  obtain ⟨O, ε, r0, R, e, p⟩ := h
  unfold mutT at e
  split at e
  · rename_i cs0 k0 h0
    split at e
    · rename_i o0
      obtain ⟨a, ea, na, t0⟩ := R.own i _ k0 h0 o0
      obtain ⟨xs0, hx0, _⟩ := t0
      refine ⟨_, ea, .inl ⟨rfl, _, .inl (.inl hx0)⟩, ?_⟩
      cases q : evA as ε with
      | none => rw [q] at e; cases e
      | some r1 =>
        rw [q] at e
        refine evA_read as R q ?_
        cases r1 with
        | ex c d ε1 =>
          cases e
          exact p
        | ok ads ε1 =>
          intro vs H1 s ar
          rw [bindE_ok] at e
          split at e
          · rename_i cs k ds h1 et
            split at e
            · rename_i o1
              rw [Option.map_eq_some_iff] at e
              obtain ⟨x, e1, e2⟩ := e
              subst e2
              obtain ⟨b, eb, nb, t1⟩ := s.env.own i _ k h1 o1
              rw [ea] at eb
              cases eb
              obtain ⟨xs, hx, l⟩ := t1
              have rl := tms_rep ar et
              obtain ⟨cs', res⟩ := x
              refine m (Or2 O (Own σ ε1)) H1 a xs cs vs ds cs' res Q (.inr ⟨i, _, k, h1, o1, ea⟩) hx l rl e1 fun v xs' l' rr => ?_
              have kk : Kp (Or2 O (Own σ ε1)) H1 (upd H1 a (.lst xs')) := fun b ob hb z => by
                by_cases e : b = a
                · subst e
                  rw [hx] at hb
                  cases hb
                  exact absurd (show false = true from z (.inr ⟨i, _, k, h1, o1, ea⟩)) Bool.false_ne_true
                · rw [upd_ne e]
                  exact hb
              have st := s.env.write (d' := .lst cs') h1 o1 ea (H' := upd H1 a (.lst xs')) (fun b ne => upd_ne ne) ⟨xs', upd_same, l'.step (fun _ z => .inl z) kk⟩
              exact p v _ (s.trans st) (rr.step (fun b z => z.elim (fun y => .inl (.inl y)) fun y => .inl (.inr (st.le.own y))) kk)
            · cases e
          · cases e
    · cases e
  · cases e
def fAppend : List D → List D → Option (List D × D)
  | cs, [d] => if cs.length ≤ most then some (cs ++ [d], .non) else none
  | _, _ => none
theorem ms_append : MutS K ca rAppend fAppend := by
  intro S H a xs cs vs ds cs' res Q sa hx l rl e q
  unfold fAppend at e
  split at e
  · rename_i c
    split at e
    · rename_i c
      cases e
      cases rl with
      | cons r t =>
        cases t
        exact ⟨a, xs, _, rfl, rfl, hx, by rw [l.length]; exact most_line c, q _ _ (l.snoc r) .non⟩
    · cases e
  · cases e
def fClear : List D → List D → Option (List D × D)
  | _, [] => some ([], .non)
  | _, _ => none
def fReverse : List D → List D → Option (List D × D)
  | cs, [] => some (cs.reverse, .non)
  | _, _ => none
def fPop : List D → List D → Option (List D × D)
  | cs, [] => match cs[cs.length - 1]? with
    | some d => some (cs.dropLast, d)
    | none => none
  | _, _ => none
def fExtend : List D → List D → Option (List D × D)
  | cs, [.lst ds] => if cs.length + ds.length ≤ most then some (cs ++ ds, .non) else none
  | _, _ => none
theorem ms_extend : MutS K ca rExtend fExtend := by
  intro S H a xs cs vs ds cs' res Q sa hx l rl e q
  unfold fExtend at e
  split at e
  · split at e
    · rename_i c
      cases e
      cases rl with
      | cons r t =>
        cases t
        cases r with
        | lst n h l2 => exact ⟨a, _, xs, _, rfl, rfl, hx, h, by rw [l.length, l2.length]; exact most_le c, q _ _ (l.append l2) .non⟩
    · cases e
  · cases e
/-- methods without arguments -/
def mut0T (f : List D → List D → Option (List D × D)) (i : Nat) : ET := mutT f i []
/-- x[k] = value, x a list in its slot -/
def storeT (i : Nat) (gk g : ET) : ST := fun ε => bindS (g ε) fun x ε1 => if slOwn ε1 i = true then bindS (gk ε1) fun y ε2 => match ε2[i]?, y.1 with
    | some (some (.lst ds, k)), .int j => if ownF k = true then match ixN ds.length j with
        | some n => some (.nx (ε2.set i (some (.lst (ds.set n x.1), k))))
        | none => none
      else none
    | _, _ => none
  else none
theorem slOwn_at (R : EnvR K ca O H σ ε) (o : slOwn ε i = true) : ∃ a, σ[i]? = some (some (.ref a)) := by
  unfold slOwn at o
  split at o
  · rename_i d k h
    obtain ⟨a, e, _⟩ := R.own i d k h o
    exact ⟨a, e⟩
  · cases o
theorem storeT_read {gk g : ET} (h : tSv K ca W (storeT i gk g) E σ H) : tAsg (tEv K ca W g) (gSub (tVar i) (tEv K ca W gk) rSetL) E σ H := by
  obtain ⟨O, ε, r, R, e, p⟩ := h
  refine tEv_bindS R e (fun x ε1 v H1 s1 rx e1 => ?_) p.err
  split at e1
  · rename_i o1
    obtain ⟨a, ea⟩ := slOwn_at s1.env o1
    have p1 := p.later s1.toS
    refine ⟨_, ea, tEv_bindS s1.env e1 (fun y ε2 w H2 s2 ry e2 => ?_) p1.err⟩
    split at e2
    · rename_i ds k j h2 ej
      split at e2
      · rename_i o2
        split at e2
        · rename_i n hn
          cases e2
          obtain ⟨b, eb, nb, xs, hx, l⟩ := s2.env.own i _ k h2 o2
          rw [ea] at eb
          cases eb
          have ew : w = .int j := by
            have z := ry.rep
            rw [ej] at z
            cases z
            rfl
          subst ew
          refine ⟨a, xs, j, n, rfl, rfl, hx, by rw [l.length]; exact hn, ?_⟩
          have kk : Kp (Or2 O (Own σ ε2)) H2 (upd H2 a (.lst (xs.set n v))) := fun b ob hb z => by
            by_cases e : b = a
            · subst e
              rw [hx] at hb
              cases hb
              exact absurd (show false = true from z (.inr ⟨i, _, k, h2, o2, ea⟩)) Bool.false_ne_true
            · rw [upd_ne e]
              exact hb
          have st := s2.env.write (d' := .lst (ds.set n x.1)) h2 o2 ea (H' := upd H2 a (.lst (xs.set n v))) (fun b ne => upd_ne ne) ⟨_, upd_same, (l.set (s2.rep s1.env rx.rep) n).step (fun _ z => .inl z) kk⟩
          exact p1 σ _ (s2.trans st).toS
        · cases e2
      · cases e2
    · cases e2
  · cases e1

/-! ### a, b = x, y: new lists stay their names' own -/
def evF : List ET → TEnv → Option (R (List (D × Bool)))
  | [], ε => some (.ok [] ε)
  | g :: gs, ε => bindE (g ε) fun x ε1 => bindE (evF gs ε1) fun xs ε2 => some (.ok (x :: xs) ε2)
def putL : List Nat → List (D × Bool) → TEnv → Option TEnv
  | [], [], ε => some ε
  | i :: is, x :: xs, ε => (putS ε i x).bind (putL is xs)
  | _, _, _ => none
def parT (is : List Nat) (gs : List ET) : ST := fun ε => bindS (evF gs ε) fun xs ε1 => (putL is xs ε1).map .nx
def exs (gs : List ET) : List AK := gs.map .ex
/-- values, some of them new objects of their own -/
inductive ParV (K : PySem.W.Frag) (ca : CA) (S : Addr → Prop) (H : Hp) : List V → List (D × Bool) → List Addr → Prop
  | nil : ParV K ca S H [] [] []
  | sh {v : V} {d : D} {vs : List V} {xs : List (D × Bool)} {A : List Addr} : Rep K ca S H v d → ParV K ca S H vs xs A → ParV K ca S H (v :: vs) ((d, false) :: xs) A
  | fr {a : Addr} {d : D} {vs : List V} {xs : List (D × Bool)} {A : List Addr} : Top K ca S H a d → ParV K ca S H vs xs A → ParV K ca S H (.ref a :: vs) ((d, true) :: xs) (a :: A)
theorem ParV.step {S' : Addr → Prop} (hs : ∀ a, S' a → S a ∨ H a = none) (k : Kp S H H') : ∀ {vs : List V} {xs : List (D × Bool)} {A : List Addr}, (∀ a ∈ A, ∀ o, H a = some o → H' a = some o) → ParV K ca S H vs xs A → ParV K ca S' H' vs xs A
  | _, _, _, _, .nil => .nil
  | _, _, _, f, .sh r t => .sh (r.step hs k) (ParV.step hs k f t)
  | _, _, _, f, .fr r t => .fr (r.step hs k fun o z => f _ (List.mem_cons_self ..) o z) (ParV.step hs k (fun a ha => f a (List.mem_cons_of_mem _ ha)) t)
theorem EnvR.thin (R : EnvR K ca O' H σ ε) (h : ∀ b, O b → O' b) : EnvR K ca O H σ ε := by
  have sub : ∀ b, Or2 O (Own σ ε) b → Or2 O' (Own σ ε) b ∨ H b = none := fun b z => .inl (z.elim (fun y => .inl (h b y)) .inr)
  have kk : Kp (Or2 O' (Own σ ε)) H H := fun _ _ h _ => h
  refine ⟨R.len, fun i d k e n => ?_, fun i d k e n => ?_, R.inj, fun b z => R.out b (h b z)⟩
  · obtain ⟨w, e1, r⟩ := R.shr i d k e n
    exact ⟨w, e1, r.step sub kk⟩
  · obtain ⟨b, e1, nb, t⟩ := R.own i d k e n
    exact ⟨b, e1, fun y => nb (h b y), t.step sub kk fun _ z => z⟩
theorem Stp.thin (s : Stp K ca O' σ ε H ε' H') (h : ∀ b, O b → O' b) : Stp K ca O σ ε H ε' H' := ⟨s.le, s.fr, s.th, s.env.thin h⟩
/-- the operands, their new objects at A -/
theorem evF_read : ∀ (gs : List ET) {O : Addr → Prop} {H : Hp} {ε : TEnv} {r : R (List (D × Bool))} {A0 : List Addr} {H0 : Hp} {ε0 : TEnv} {P : List V → Hp → Prop},
    Stp K ca O σ ε0 H0 ε H → EnvR K ca (WithL O A0) H σ ε → (∀ a ∈ A0, ¬ O a ∧ ¬ Own σ ε a ∧ H0 a = none) → evF gs ε = some r →
    (match r with
      | .ok xs ε1 => ∀ vs H1 A, Stp K ca O σ ε0 H0 ε1 H1 → EnvR K ca (WithL O (A ++ A0)) H1 σ ε1 → (∀ a ∈ A, ¬ O a ∧ a ∉ A0 ∧ ¬ Own σ ε1 a ∧ H0 a = none) → A.Nodup → ParV K ca (Or2 (WithL O (A ++ A0)) (Own σ ε1)) H1 vs xs A → (∀ b o, H b = some o → ¬ Own σ ε b → H1 b = some o) → Le ε ε1 → (∀ a ∈ A, H a = none) → P vs H1
      | .ex c d ε1 => Err K ca W O σ ε0 H0 c d ε1) → tAks K ca W (exs gs) σ H P
  | [], O, H, ε, r, A0, H0, ε0, P, s0, R, hA, e, p => by
    cases e
    exact p [] H [] s0 R (fun _ h => nomatch h) .nil .nil (fun _ _ h _ => h) (Le.refl _) (fun _ h => nomatch h)
  | g :: gs, O, H, ε, r, A0, H0, ε0, P, s0, R, hA, e, p => by
    unfold evF at e
    cases q : g ε with
    | none => rw [q] at e; cases e
    | some r1 =>
      rw [q] at e
      refine ⟨WithL O A0, ε, r1, R, q, ?_⟩
      have thin : ∀ b, O b → WithL O A0 b := fun b z => .inl z
      cases r1 with
      | ex c d ε1 =>
        cases e
        intro x v H' s hx rx
        exact p x v H' (s0.trans (s.thin thin)) hx (rx.step (fun b z => .inl (z.elim (fun y => .inl (.inl y)) .inr)) fun _ _ h _ => h)
      | ok x ε1 =>
        intro v H1 s1 rv
        rw [bindE_ok] at e
        cases q2 : evF gs ε1 with
        | none => rw [q2] at e; cases e
        | some r2 =>
          rw [q2] at e
          have s01 := s0.trans (s1.thin thin)
          have nA : ∀ a ∈ A0, ¬ O a ∧ ¬ Own σ ε1 a ∧ H0 a = none := fun a ha => ⟨(hA a ha).1, fun z => (hA a ha).2.1 (s1.le.own z), (hA a ha).2.2⟩
          obtain ⟨d, f⟩ := x
          cases f with
          | false =>
            refine evF_read gs s01 s1.env nA q2 ?_
            cases r2 with
            | ex c d ε2 =>
              cases e
              exact p
            | ok xs ε2 =>
              cases e
              intro vs H2 A s2 R2 hA2 nd pv fr le new
              have kk : Kp (Or2 (WithL O A0) (Own σ ε1)) H1 H2 := s1.env.kp fr
              refine p (v :: vs) H2 A s2 R2 hA2 nd (.sh (ResR.rep rv |>.step (fun b z => ?_) kk) pv) (fun b o h n => fr b o (s1.fr b o h n) fun z => n (s1.le.own z)) (s1.le.trans le) (fun a ha => s1.th a (new a ha))
              rcases z with (z | z) | z
              · exact .inl (.inl (.inl z))
              · rcases List.mem_append.mp z with z | z
                · exact .inr (new b z)
                · exact .inl (.inl (.inr z))
              · exact .inl (.inr (le.own z))
          | true =>
            obtain ⟨a, rfl, na, nO, nw, t, R1⟩ := rv
            have R1' : EnvR K ca (WithL O (a :: A0)) H1 σ ε1 := R1.thin fun b z => by
              rcases z with z | z
              · exact .inl (.inl z)
              · rcases List.mem_cons.mp z with z | z
                · exact .inr z
                · exact .inl (.inr z)
            have nO1 : ¬ O a := fun z => nO (.inl z)
            have nA1 : a ∉ A0 := fun z => nO (.inr z)
            have n0 : H0 a = none := s0.th a na
            refine evF_read gs s01 R1' (fun b hb => ?_) q2 ?_
            · rcases List.mem_cons.mp hb with z | z
              · subst z
                exact ⟨nO1, nw, n0⟩
              · exact nA b z
            · cases r2 with
              | ex c d ε2 =>
                cases e
                exact p
              | ok xs ε2 =>
                cases e
                intro vs H2 A s2 R2 hA2 nd pv fr le new
                have ha : ∃ o, H1 a = some o := by
                  cases q : H1 a with
                  | none => exact absurd q t.there
                  | some o => exact ⟨o, rfl⟩
                obtain ⟨o, ho⟩ := ha
                have na2 : a ∉ A := fun z => by
                  have y := new a z
                  rw [ho] at y
                  cases y
                have kk : Kp (Or2 (With (WithL O A0) a) (Own σ ε1)) H1 H2 := R1.kp fr
                have same : ∀ b, WithL O (A ++ a :: A0) b ↔ WithL O ((a :: A) ++ A0) b := fun b => by
                  constructor
                  · rintro (z | z)
                    · exact .inl z
                    · refine .inr ?_
                      simp only [List.mem_append, List.mem_cons, List.cons_append] at z ⊢
                      rcases z with z | z | z
                      · exact .inr (.inl z)
                      · exact .inl z
                      · exact .inr (.inr z)
                  · rintro (z | z)
                    · exact .inl z
                    · refine .inr ?_
                      simp only [List.mem_append, List.mem_cons, List.cons_append] at z ⊢
                      rcases z with z | z | z
                      · exact .inr (.inl z)
                      · exact .inl z
                      · exact .inr (.inr z)
                refine p (.ref a :: vs) H2 (a :: A) s2 (R2.thin fun b z => (same b).mpr z) (fun b hb => ?_) (List.nodup_cons.mpr ⟨na2, nd⟩) (.fr (t.step (fun b z => ?_) kk fun o z => fr a o z nw) (pv.step (fun b z => .inl (z.elim (fun y => .inl ((same b).mpr y)) .inr)) (fun _ _ h _ => h) fun _ _ _ z => z)) (fun b o h n => fr b o (s1.fr b o h n) fun z => n (s1.le.own z)) (s1.le.trans le) (fun b hb => ?_)
                · rcases List.mem_cons.mp hb with z | z
                  · subst z
                    exact ⟨nO1, nA1, fun z => nw (le.own z), n0⟩
                  · obtain ⟨w1, w2, w3, w4⟩ := hA2 b z
                    exact ⟨w1, fun y => w2 (List.mem_cons_of_mem _ y), w3, w4⟩
                · rcases z with (z | z) | z
                  · exact .inl (.inl (.inl (.inl z)))
                  · simp only [List.mem_append, List.mem_cons, List.cons_append] at z
                    rcases z with z | z | z
                    · exact .inl (.inl (.inr z))
                    · exact .inr (new b z)
                    · exact .inl (.inl (.inl (.inr z)))
                  · exact .inl (.inr (le.own z))
                · rcases List.mem_cons.mp hb with z | z
                  · rw [z]
                    exact na
                  · exact s1.th b (new b z)
def gNms : List Nat → TGs
  | [] => gNil
  | i :: is => gCons (gName i) (gNms is)
theorem putL_len : ∀ {is : List Nat} {xs : List (D × Bool)} {ε ε' : TEnv}, putL is xs ε = some ε' → is.length = xs.length
  | [], [], _, _, _ => rfl
  | i :: is, x :: xs, ε, ε', h => by
    unfold putL at h
    cases q : putS ε i x with
    | none => rw [q] at h; cases h
    | some ε1 =>
      rw [q] at h
      simp [putL_len (is := is) h]
  | [], _ :: _, _, _, h => by cases h
  | _ :: _, [], _, _, h => by cases h
theorem par_names : ∀ (is : List Nat) {vs : List V} {xs : List (D × Bool)} {A : List Addr} {σ : L2.St} {ε ε' : TEnv} {P : L2.St → Hp → Prop}, EnvR K ca (WithL O A) H σ ε → ParV K ca (Or2 (WithL O A) (Own σ ε)) H vs xs A → A.Nodup →
    (∀ a ∈ A, ¬ O a ∧ ¬ Own σ ε a ∧ H0 a = none) → putL is xs ε = some ε' →
    (∀ σ', EnvR K ca O H σ' ε' → (∀ b, Own σ' ε' b → Own σ ε b ∨ H0 b = none) → (∀ b, Own1 σ' ε' b → Own1 σ ε b ∨ H0 b = none) →
      (∀ (j : Nat) (d1 : D) (k1 : Nat), ε[j]? = some (some (d1, k1)) → 2 ≤ k1 → σ'[j]? = σ[j]? ∧ ε'[j]? = ε[j]?) → ε'.length = ε.length → P σ' H) → gNms is vs σ H P
  | [], vs, xs, A, σ, ε, ε', P, R, pv, nd, hA, e, p => by
    cases xs with
    | cons _ _ => cases e
    | nil =>
      cases pv
      cases e
      exact ⟨rfl, p σ (R.thin fun b z => .inl z) (fun _ z => .inl z) (fun _ z => .inl z) (fun _ _ _ _ _ => ⟨rfl, rfl⟩) rfl⟩
  | i :: is, vs, xs, A, σ, ε, ε', P, R, pv, nd, hA, e, p => by
    cases xs with
    | nil => cases e
    | cons x xs =>
      unfold putL at e
      cases q : putS ε i x with
      | none => rw [q] at e; cases e
      | some ε1 =>
        rw [q] at e
        change putL is xs ε1 = some ε' at e
        unfold putS at q
        split at q
        · rename_i c
          cases q
          have lt := canSet_lt c
          have par1 : ∀ {v : V} {s : Slot} (j : Nat) (d1 : D) (k1 : Nat), ε[j]? = some (some (d1, k1)) → 2 ≤ k1 → (σ.set i (some v))[j]? = σ[j]? ∧ (ε.set i s)[j]? = ε[j]? := fun {v s} j d1 k1 h1 hk => by
            have ne : i ≠ j := fun z => by
              subst z
              have := canSet_k c h1
              omega
            exact ⟨List.getElem?_set_ne ne, List.getElem?_set_ne ne⟩
          cases pv with
          | @sh v d vs2 _ A r t =>
            have R1 := R.put lt r
            have ow : ∀ b, Own (σ.set i (some v)) (ε.set i (some (d, 0))) b → Own σ ε b := fun b z => by
              rcases own_put z with ⟨o, _⟩ | ⟨j, d2, k2, ne, h1, o, h3⟩
              · cases o
              · exact ⟨j, d2, k2, h1, o, h3⟩
            have ow1 : ∀ b, Own1 (σ.set i (some v)) (ε.set i (some (d, 0))) b → Own1 σ ε b := fun b z => by
              rcases own1_put z with ⟨o, _⟩ | z
              · cases o
              · exact z
            refine ⟨_, _, rfl, par_names is R1 (t.step (fun b z => .inl (z.elim .inl fun y => .inr (ow b y))) (fun _ _ h _ => h) fun _ _ _ z => z) nd (fun a ha => ⟨(hA a ha).1, fun z => (hA a ha).2.1 (ow a z), (hA a ha).2.2⟩) e fun σ' R2 n1 n2 n3 n4 => ?_⟩
            refine p σ' R2 (fun b z => (n1 b z).elim (fun y => .inl (ow b y)) .inr) (fun b z => (n2 b z).elim (fun y => .inl (ow1 b y)) .inr) (fun j d1 k1 h1 hk => ?_) (by rw [n4, List.length_set])
            obtain ⟨e1, e2⟩ := par1 (v := v) (s := some (d, 0)) j d1 k1 h1 hk
            obtain ⟨e3, e4⟩ := n3 j d1 k1 (e2.trans h1) hk
            exact ⟨e3.trans e1, e4.trans e2⟩
          | @fr a d vs _ A r t =>
            obtain ⟨nO, nw, na⟩ := hA a (List.mem_cons_self ..)
            have nd' := List.nodup_cons.mp nd
            have R1 : EnvR K ca (WithL O A) H (σ.set i (some (.ref a))) (ε.set i (some (d, 1))) := EnvR.putOwn (O := WithL O A) R (fun b z => z.elim .inl fun y => .inr (List.mem_cons_of_mem _ y)) (.inr (List.mem_cons_self ..)) (fun z => z.elim nO nd'.1) (fun b z => by
              rcases z with z | z
              · exact .inl (.inl z)
              · rcases List.mem_cons.mp z with z | z
                · exact .inr z
                · exact .inl (.inr z)) lt nw r
            have ow : ∀ b, Own (σ.set i (some (.ref a))) (ε.set i (some (d, 1))) b → Own σ ε b ∨ b = a := fun b z => by
              rcases own_put z with ⟨_, e⟩ | ⟨j, d2, k2, ne, h1, o, h3⟩
              · cases e
                exact .inr rfl
              · exact .inl ⟨j, d2, k2, h1, o, h3⟩
            have ow1 : ∀ b, Own1 (σ.set i (some (.ref a))) (ε.set i (some (d, 1))) b → Own1 σ ε b ∨ b = a := fun b z => by
              rcases own1_put z with ⟨_, e⟩ | z
              · cases e
                exact .inr rfl
              · exact .inl z
            refine ⟨_, _, rfl, par_names is R1 (t.step (fun b z => ?_) (fun _ _ h _ => h) fun _ _ _ z => z) nd'.2 (fun b hb => ?_) e fun σ' R2 n1 n2 n3 n4 => ?_⟩
            · rcases z with (z | z) | z
              · exact .inl (.inl (.inl z))
              · exact .inl (.inl (.inr (List.mem_cons_of_mem _ z)))
              · rcases ow b z with y | y
                · exact .inl (.inr y)
                · rw [y]
                  exact .inl (.inl (.inr (List.mem_cons_self ..)))
            · obtain ⟨w1, w2, w3⟩ := hA b (List.mem_cons_of_mem _ hb)
              refine ⟨w1, fun z => (ow b z).elim w2 fun y => ?_, w3⟩
              rw [y] at hb
              exact nd'.1 hb
            · refine p σ' R2 (fun b z => ?_) (fun b z => ?_) (fun j d1 k1 h1 hk => ?_) (by rw [n4, List.length_set])
              · rcases n1 b z with y | y
                · rcases ow b y with w | w
                  · exact .inl w
                  · rw [w]
                    exact .inr na
                · exact .inr y
              · rcases n2 b z with y | y
                · rcases ow1 b y with w | w
                  · exact .inl w
                  · rw [w]
                    exact .inr na
                · exact .inr y
              · obtain ⟨e1, e2⟩ := par1 (v := _) (s := _) j d1 k1 h1 hk
                obtain ⟨e3, e4⟩ := n3 j d1 k1 (e2.trans h1) hk
                exact ⟨e3.trans e1, e4.trans e2⟩
        · cases q
theorem parV_len : ∀ {vs : List V} {xs : List (D × Bool)} {A : List Addr}, ParV K ca S H vs xs A → vs.length = xs.length
  | _, _, _, .nil => rfl
  | _, _, _, .sh _ t => by simp [parV_len t]
  | _, _, _, .fr _ t => by simp [parV_len t]
theorem parT_read {is : List Nat} {gs : List ET} (l : is.length ≤ 1000) (h : tSv K ca W (parT is gs) E σ H) : tAsg (tTup (tAks K ca W (exs gs))) (gTup K is.length (gNms is)) E σ H := by
  obtain ⟨O, ε, r, R, e, p⟩ := h
  unfold parT at e
  cases q : evF gs ε with
  | none => rw [q] at e; cases e
  | some r1 =>
    rw [q] at e
    refine evF_read (A0 := []) (H0 := H) (ε0 := ε) gs (Stp.refl R) (R.thin fun b z => z.elim id fun y => nomatch y) (fun _ h => nomatch h) q ?_
    cases r1 with
    | ex c d ε1 =>
      cases e
      exact ErrS.toE p
    | ok xs ε1 =>
      intro vs H1 A s R1 hA nd pv fr le new
      rw [bindS_ok] at e
      rw [Option.map_eq_some_iff] at e
      obtain ⟨ε2, e2, e3⟩ := e
      subst e3
      have ll := putL_len e2
      have lv := parV_len pv
      refine ⟨by rw [lv, ← ll]; exact Nat.le_trans l (by decide), fun t nt => ?_⟩
      have sm : Same H1 (upd H1 t (.tup vs)) := new_same nt
      refine ⟨t, vs, rfl, .inl (.inl upd_same), by rw [lv, ll], ?_⟩
      have R2 : EnvR K ca (WithL O A) (upd H1 t (.tup vs)) σ ε1 := (R1.thin fun b z => z.elim .inl fun y => .inr (by simpa using y)).same sm
      have kk : Kp (Or2 (WithL O (A ++ [])) (Own σ ε1)) H1 (upd H1 t (.tup vs)) := Kp.of sm
      refine par_names (H0 := H) is R2 (pv.step (fun b z => .inl (z.elim (fun y => .inl (y.elim .inl fun w => .inr (by simpa using w))) .inr)) kk fun a _ o z => sm a o z) nd (fun a ha => ⟨(hA a ha).1, (hA a ha).2.2.1, (hA a ha).2.2.2⟩) e2 fun σ' R3 n1 n2 n3 n4 => ?_
      refine p σ' _ ⟨fun b o h n => sm b o (s.fr b o h n), fun b z => s.th b (sm.free z), fun b z => (n1 b z).elim (fun y => .inl (s.le.own y)) .inr, fun b z => (n2 b z).elim (fun y => .inl (s.le.own1 y)) .inr, fun j d1 k1 h1 hk => ?_, by rw [n4]; exact s.le.len, R3⟩
      obtain ⟨e1, s', h2, q2⟩ := s.toS.par j d1 k1 h1 hk
      obtain ⟨d', k', e5, a3, b3⟩ := q2 hk
      subst e5
      have hk' : 2 ≤ k' := by
        by_cases z : k1 = 2
        · rcases a3 z with e | e <;> omega
        · have := (b3 (by omega)).2
          omega
      obtain ⟨e6, e7⟩ := n3 j d' k' h2 hk'
      exact ⟨e6, _, by rw [e7]; exact h2, fun _ => ⟨d', k', rfl, a3, b3⟩⟩
end
section
variable {X : Cx} {ca : CA} {W : WX} {e e1 e2 : Expr} {es es2 : List Expr} {g gk : ET} {gs : List ET} {pos pos' tpos : Pos} {i : Nat} {is : List Nat} {as : List AK}
theorem pet_append {x : Str} {apos : Pos} (hv : PE X (.Name x pos') (tVar i)) (ha : PAKs X ca W (e :: es) as)
    (hbase : attributeBase (.Name x pos') "append" X.env (eval (.Name x pos') X.env) = eval (.Name x pos') X.env := by rfl)
    (hfew : ((backTo pos (starEach (e :: es) X.env)).all (fun x => !x.1) && (backToKw pos (keywordEach [] X.env)).all (fun x => x.1.isSome)
      && decide ((e :: es).length + ([] : List Keyword).length + (if ([] : List Keyword).isEmpty then 0 else 1) < 30)) = true := by rfl)
    (hline : (apos.endLine == pos.line) = true := by rfl) (hs : starEach (e :: es) X.env = (false, eval e X.env) :: starEach es X.env := by rfl) (hplain : (backTo pos (starEach es X.env)).any (·.1) = false := by rfl) :
    PET X ca W (.Call (.Attribute (.Name x pos') "append" apos) (e :: es) [] pos) (mutT fAppend i as) :=
  peWeak (pe_bm PySem.F.plainAttrs_list PySem.F.slot_list_append PySem.F.type_list_append mt_append hv ha hbase hfew hline hs hplain) fun _ _ _ h => mutT_read ms_append h
/-- a, b = x, y -/
theorem pst_par {kt k2 : Nat} {pt pt2 : Pos} (hc : X.calm = true) (ha : PAKs X ca W es2 (exs gs)) (hg : PGs X es (gNms is)) (l : is.length ≤ 1000 := by decide) (hn : (assignEach es X.env).length = is.length := by rfl) (hst : (assignEach es X.env).findIdx? (·.1) = none := by rfl)
    (hs : swapsWithSole [.Tuple es kt pt] (.Tuple es2 k2 pt2) pos.line X.env = pure false := by rfl) (hw : swappedStores [.Tuple es kt pt] (.Tuple es2 k2 pt2) X.env = pure none := by rfl)
    (h1 : (assignEach [.Tuple es kt pt] X.env).map (·.2) = [assign (.Tuple es kt pt) X.env] := by rfl) : PSt X ca W (.Assign [.Tuple es kt pt] (.Tuple es2 k2 pt2) pos) (parT is gs) :=
  psWeak (ps_asg (pe_tup ha) (pg_tup hc hg hn hst) hs hw h1) fun _ _ _ h => parT_read l h
end
end Tr

/-! Defs, loops. -/
namespace Tr
open PySem PySem.Spec PyProof.Rows L2 Md
/-! ### a def -/
def finS (s s' : Slot) : Slot := match s with
  | some (_, 2) => s'
  | s => s
def finP : TEnv → TEnv → TEnv
  | s :: p, s' :: ε' => finS s s' :: finP p ε'
  | _, _ => []
theorem finS_eq (d : D) (k : Nat) (s' : Slot) : finS (some (d, k)) s' = if k = 2 then s' else some (d, k) := by
  unfold finS
  split
  · rename_i h
    cases h
    rfl
  · rename_i h
    rw [if_neg fun e => h d (by rw [e])]
def okP : TEnv → Bool
  | [] => true
  | some (_, 0) :: p => okP p
  | some (_, 2) :: p => okP p
  | _ => false
def endF (p : TEnv) : Option Fl → Option (R (D × Bool))
  | some (.nx ε') => some (.ok (.non, false) (finP p ε'))
  | some (.rt x ε') => some (.ok x (finP p ε'))
  | some (.ex c d ε') => some (.ex c d (finP p ε'))
  | _ => none
def defT (n N : Nat) (g : ST) : ET := fun p => if p.length = n ∧ okP p = true then endF p (g (p ++ List.replicate (N - n) none)) else none
theorem defT_args (n N : Nat) (g : ST) : Args n (defT n N g) := fun p r h => by
  unfold defT at h
  split at h
  · rename_i c
    exact c.1
  · cases h
section
variable {K : PySem.W.Frag} {ca : CA} {W : WX} {O O' S : Addr → Prop} {H H0 H1 H2 H' : Hp} {σ σ1 σ2 σ' : L2.St} {ε ε1 ε2 ε' p p' : TEnv} {a : Addr} {d d' : D} {v : V} {Q : VK} {E : Ends} {i : Nat} {k : Nat}
theorem okP_at : ∀ {p : TEnv} {i : Nat} {s : Slot}, okP p = true → p[i]? = some s → ∃ d k, s = some (d, k) ∧ (k = 0 ∨ k = 2)
  | [], i, s, _, h => by simp at h
  | some (d, 0) :: p, 0, s, o, h => by
    simp at h
    exact ⟨d, 0, h.symm, .inl rfl⟩
  | some (d, 2) :: p, 0, s, o, h => by
    simp at h
    exact ⟨d, 2, h.symm, .inr rfl⟩
  | some (d, 0) :: p, i + 1, s, o, h => okP_at (p := p) (i := i) o (by simpa using h)
  | some (d, 2) :: p, i + 1, s, o, h => okP_at (p := p) (i := i) o (by simpa using h)
  | none :: p, i, s, o, h => by cases o
  | some (d, 1) :: p, i, s, o, h => by cases o
  | some (d, k + 3) :: p, i, s, o, h => by cases o
theorem finP_len : ∀ {p ε' : TEnv}, p.length ≤ ε'.length → (finP p ε').length = p.length
  | [], ε', _ => by cases ε' <;> rfl
  | s :: p, [], h => by simp at h
  | s :: p, s' :: ε', h => by
    have ih := finP_len (p := p) (ε' := ε') (by simpa using h)
    simp [finP, ih]
theorem finP_at : ∀ {p ε' : TEnv} {i : Nat} {d : D} {k : Nat} {s' : Slot}, p[i]? = some (some (d, k)) → ε'[i]? = some s' → (finP p ε')[i]? = some (if k = 2 then s' else some (d, k))
  | [], _, _, _, _, _, h, _ => by simp at h
  | _ :: _, [], _, _, _, _, _, h => by simp at h
  | s :: p, t :: ε', 0, d, k, s', h, h' => by
    simp at h h'
    subst h h'
    unfold finP
    rw [List.getElem?_cons_zero, finS_eq]
  | s :: p, t :: ε', i + 1, d, k, s', h, h' => by
    have ih := finP_at (p := p) (ε' := ε') (i := i) (by simpa using h) (by simpa using h')
    unfold finP
    rw [List.getElem?_cons_succ]
    exact ih
theorem app_at {l m : TEnv} {i : Nat} {d : D} {k n : Nat} (h : (l ++ List.replicate n none)[i]? = some (some (d, k))) : l[i]? = some (some (d, k)) := by
  by_cases c : i < l.length
  · rw [List.getElem?_append_left c] at h
    exact h
  · rw [List.getElem?_append_right (by omega)] at h
    rw [List.getElem?_replicate] at h
    split at h <;> cases h
theorem start_at {N : List Str} {vs : List V} {i : Nat} {v : V} (h : (vs.map some)[i]? = some (some v)) : (L2.start N vs)[i]? = some (some v) := by
  unfold L2.start
  rw [List.getElem?_append_left (List.getElem?_eq_some_iff.mp h).1]
  exact h
theorem start_at' {N : List Str} {vs : List V} {i : Nat} (l : i < vs.length) : (L2.start N vs)[i]? = (vs.map some)[i]? := by
  unfold L2.start
  rw [List.getElem?_append_left (by simpa using l)]
theorem EnvR.begin {N : List Str} {vs : List V} (R : EnvR K ca O H (vs.map some) p) (l : vs.length ≤ N.length) : EnvR K ca O H (L2.start N vs) (p ++ List.replicate (N.length - vs.length) none) ∧ ∀ b, Own (L2.start N vs) (p ++ List.replicate (N.length - vs.length) none) b ↔ Own (vs.map some) p b := by
  have lp : p.length = vs.length := by rw [R.len, List.length_map]
  have own_ : ∀ b, Own (L2.start N vs) (p ++ List.replicate (N.length - vs.length) none) b ↔ Own (vs.map some) p b := fun b => by
    constructor
    · rintro ⟨i, d, k, h1, h2, h3⟩
      have h1 := app_at (m := []) h1
      have li : i < vs.length := by rw [← lp]; exact (List.getElem?_eq_some_iff.mp h1).1
      exact ⟨i, d, k, h1, h2, by rw [← start_at' li]; exact h3⟩
    · rintro ⟨i, d, k, h1, h2, h3⟩
      exact ⟨i, d, k, by rw [List.getElem?_append_left (List.getElem?_eq_some_iff.mp h1).1]; exact h1, h2, start_at h3⟩
  have sub : ∀ b, Or2 O (Own (L2.start N vs) (p ++ List.replicate (N.length - vs.length) none)) b → Or2 O (Own (vs.map some) p) b ∨ H b = none := fun b z => .inl (z.elim .inl fun y => .inr ((own_ b).mp y))
  have kk : Kp (Or2 O (Own (vs.map some) p)) H H := fun _ _ h _ => h
  refine ⟨⟨by rw [List.length_append, List.length_replicate, lp]; unfold L2.start; rw [List.length_append, List.length_map, List.length_replicate], fun i d k h n => ?_, fun i d k h n => ?_, fun i j d k d' k' a h n h' n' e1 e2 => ?_, R.out⟩, own_⟩
  · obtain ⟨w, e1, r⟩ := R.shr i d k (app_at (m := []) h) n
    exact ⟨w, start_at e1, r.step sub kk⟩
  · obtain ⟨w, e1, nw, t⟩ := R.own i d k (app_at (m := []) h) n
    exact ⟨w, start_at e1, nw, t.step sub kk fun _ z => z⟩
  · have h := app_at (m := []) h
    have h' := app_at (m := []) h'
    have li : i < vs.length := by rw [← lp]; exact (List.getElem?_eq_some_iff.mp h).1
    have lj : j < vs.length := by rw [← lp]; exact (List.getElem?_eq_some_iff.mp h').1
    rw [start_at' li] at e1
    rw [start_at' lj] at e2
    exact R.inj i j d k d' k' a h n h' n' e1 e2
/-- a body's step is its def's -/
theorem fin_stp {N : List Str} {vs : List V} (R : EnvR K ca O H (vs.map some) p) (l : vs.length ≤ N.length) (ok : okP p = true) (s : StpS K ca O (L2.start N vs) (p ++ List.replicate (N.length - vs.length) none) H σ' ε' H') :
    Stp K ca O (vs.map some) p H (finP p ε') H' ∧ ∀ b, Own (vs.map some) (finP p ε') b → Own σ' ε' b := by
  have lp : p.length = vs.length := by rw [R.len, List.length_map]
  obtain ⟨R0, own_⟩ := R.begin (N := N) l
  have le : ε'.length = N.length := by rw [s.len, List.length_append, List.length_replicate, lp]; omega
  -- the slots of the parameters
  have at_ : ∀ {i : Nat} {d : D} {k : Nat}, (finP p ε')[i]? = some (some (d, k)) → (k = 0 ∧ p[i]? = some (some (d, 0))) ∨ ((k = 2 ∨ k = 3) ∧ ∃ d0, p[i]? = some (some (d0, 2)) ∧ ε'[i]? = some (some (d, k)) ∧ σ'[i]? = (vs.map some)[i]?) := fun {i d k} h => by
    have li : i < p.length := by
      rw [← finP_len (p := p) (ε' := ε') (by omega)]
      exact (List.getElem?_eq_some_iff.mp h).1
    obtain ⟨d0, k0, e0, hk⟩ := okP_at ok (List.getElem?_eq_getElem li)
    have h0 : p[i]? = some (some (d0, k0)) := by rw [List.getElem?_eq_getElem li, e0]
    have li' : i < ε'.length := by omega
    rw [finP_at h0 (List.getElem?_eq_getElem li')] at h
    rcases hk with z | z
    · subst z
      simp at h
      obtain ⟨rfl, rfl⟩ := h
      exact .inl ⟨rfl, h0⟩
    · subst z
      simp only [if_true] at h
      obtain ⟨e1, s', h2, q2⟩ := s.par i d0 2 (by rw [List.getElem?_append_left li]; exact h0) (by omega)
      obtain ⟨d', k', e3, a3, b3⟩ := q2 (by omega)
      subst e3
      rw [List.getElem?_eq_getElem li'] at h2
      rw [Option.some.inj h2] at h
      cases h
      exact .inr ⟨a3 rfl, d0, h0, by rw [List.getElem?_eq_getElem li']; exact h2, by rw [e1, start_at' (by omega)]⟩
  have own2 : ∀ b, Own (vs.map some) (finP p ε') b → Own σ' ε' b := fun b ⟨i, d, k, h1, h2, h3⟩ => by
    rcases at_ h1 with ⟨e, _⟩ | ⟨hk, d0, h0, h4, e⟩
    · subst e
      cases h2
    · exact ⟨i, d, k, h4, h2, by rw [e]; exact h3⟩
  have fr : ∀ b o, H b = some o → ¬ Own (vs.map some) p b → H' b = some o := fun b o h n => s.fr b o h fun z => n ((own_ b).mp z)
  have sub0 : ∀ b, Or2 O (Own (vs.map some) (finP p ε')) b → Or2 O (Own (vs.map some) p) b ∨ H b = none := fun b z => by
    rcases z with z | z
    · exact .inl (.inl z)
    · rcases s.new b (own2 b z) with y | y
      · exact .inl (.inr ((own_ b).mp y))
      · exact .inr y
  have sub1 : ∀ b, Or2 O (Own (vs.map some) (finP p ε')) b → Or2 O (Own σ' ε') b ∨ H' b = none := fun b z => .inl (z.elim .inl fun y => .inr (own2 b y))
  have kk1 : Kp (Or2 O (Own σ' ε')) H' H' := fun _ _ h _ => h
  refine ⟨⟨⟨finP_len (by omega), fun i s0 hs => ?_⟩, fr, s.th, ⟨by rw [finP_len (by omega), lp, List.length_map], fun i d k h n => ?_, fun i d k h n => ?_, fun i j d k d' k' a h n h' n' e1 e2 => ?_, fun b z y => R.out b z (s.th b y)⟩⟩, own2⟩
  · have li : i < (finP p ε').length := by rw [finP_len (by omega)]; exact (List.getElem?_eq_some_iff.mp hs).1
    obtain ⟨d0, k0, e0, hk⟩ := okP_at ok hs
    subst e0
    have li' : i < ε'.length := by
      have := (List.getElem?_eq_some_iff.mp hs).1
      omega
    refine ⟨_, finP_at hs (List.getElem?_eq_getElem li'), ?_⟩
    rcases hk with z | z
    · subst z
      exact leS.refl _
    · subst z
      obtain ⟨e1, s', h2, q2⟩ := s.par i d0 2 (by rw [List.getElem?_append_left (List.getElem?_eq_some_iff.mp hs).1]; exact hs) (by omega)
      obtain ⟨d', k', e3, a3, b3⟩ := q2 (by omega)
      subst e3
      rw [List.getElem?_eq_getElem li'] at h2
      rw [if_pos rfl, Option.some.inj h2]
      exact ⟨d', k', rfl, ⟨(fun z => nomatch z), fun _ => a3 rfl⟩⟩
  · rcases at_ h with ⟨e, h0⟩ | ⟨hk, d0, h0, h4, e⟩
    · subst e
      obtain ⟨w, e1, r⟩ := R.shr i d 0 h0 rfl
      exact ⟨w, e1, r.step sub0 (R.kp fr)⟩
    · obtain ⟨w, e1, r⟩ := s.env.shr i d k h4 n
      exact ⟨w, by rw [← e]; exact e1, r.step sub1 kk1⟩
  · rcases at_ h with ⟨e, h0⟩ | ⟨hk, d0, h0, h4, e⟩
    · subst e
      cases n
    · obtain ⟨w, e1, nw, t⟩ := s.env.own i d k h4 n
      exact ⟨w, by rw [← e]; exact e1, nw, t.step sub1 kk1 fun _ z => z⟩
  · rcases at_ h with ⟨e, h0⟩ | ⟨hk, d0, h0, h4, e⟩
    · subst e
      cases n
    · rcases at_ h' with ⟨e', h0'⟩ | ⟨hk', d0', h0', h4', e'⟩
      · subst e'
        cases n'
      · exact s.env.inj i j d k d' k' a h4 n h4' n' (by rw [e]; exact e1) (by rw [e']; exact e2)
theorem defT_read {N : List Str} {n : Nat} {vs : List V} {g : ST} {X : XK} (l : n ≤ N.length) (h : spT K ca n (defT n N.length g) vs H Q X) : tSv K ca (wE X) g { nx := fun _ H' => Q .non H', rt := Q } (L2.start N vs) H := by
  obtain ⟨lv, O, p, r, R, e, post⟩ := h
  unfold defT at e
  split at e
  · rename_i c
    obtain ⟨lp, ok⟩ := c
    have lp2 : p.length = vs.length := by rw [R.len, List.length_map]
    have lN : vs.length ≤ N.length := by omega
    obtain ⟨R0, own_⟩ := R.begin (N := N) lN
    have en : N.length - n = N.length - vs.length := by rw [lv]
    rw [en] at e
    cases q : g (p ++ List.replicate (N.length - vs.length) none) with
    | none => rw [q] at e; cases e
    | some r1 =>
      rw [q] at e
      refine ⟨O, _, r1, R0, q, ?_⟩
      cases r1 with
      | bk ε' => cases e
      | ct ε' => cases e
      | nx ε' =>
        cases e
        intro σ' H' s
        obtain ⟨st, _⟩ := fin_stp R lN ok s
        exact post .non H' st .non
      | ex c d ε' =>
        cases e
        intro x v σ' H' s hx rx
        obtain ⟨st, ow⟩ := fin_stp R lN ok s
        exact post x v H' st hx (rx.step (fun b z => .inl (z.elim .inl fun y => .inr (ow b y))) fun _ _ h _ => h)
      | rt x ε' =>
        cases e
        intro v σ' H' s rr
        obtain ⟨st, ow⟩ := fin_stp R lN ok s
        refine post v H' st ?_
        obtain ⟨d, f⟩ := x
        cases f with
        | false => exact Rep.step (fun b z => .inl (z.elim .inl fun y => .inr (ow b y))) (fun _ _ h _ => h) rr
        | true =>
          obtain ⟨a, rfl, na, nO, nw, t, R1⟩ := rr
          have sub : ∀ b, Or2 (With O a) (Own (vs.map some) (finP p ε')) b → Or2 (With O a) (Own σ' ε') b ∨ H' b = none := fun b z => .inl (z.elim .inl fun y => .inr (ow b y))
          have nH : H a = none := by
            rcases na with z | ⟨i, d1, h1, h3⟩
            · exact z
            · obtain ⟨d0, k0, e0, hk⟩ := okP_at ok (app_at (m := []) h1)
              cases e0
              omega
          refine ⟨a, rfl, nH, nO, fun z => nw (ow a z), t.step sub (fun _ _ h _ => h) (fun _ h => h), ?_⟩
          obtain ⟨st2, _⟩ := fin_stp R lN ok s
          have kk : Kp (Or2 (With O a) (Own σ' ε')) H' H' := fun _ _ h _ => h
          refine ⟨st.env.len, fun i d k h n => ?_, fun i d k h n => ?_, st.env.inj, fun b z => ?_⟩
          · -- again by the slots of the body
            obtain ⟨w, e1, r0⟩ := st.env.shr i d k h n
            have li : i < p.length := by
              rw [← st.le.len]
              exact (List.getElem?_eq_some_iff.mp h).1
            obtain ⟨d0, k0, e0, hk⟩ := okP_at ok (List.getElem?_eq_getElem li)
            have h0 : p[i]? = some (some (d0, k0)) := by rw [List.getElem?_eq_getElem li, e0]
            have li' : i < ε'.length := by rw [s.len, List.length_append]; omega
            rw [finP_at h0 (List.getElem?_eq_getElem li')] at h
            rcases hk with z | z
            · subst z
              simp at h
              obtain ⟨rfl, rfl⟩ := h
              obtain ⟨w0, e2, r2⟩ := R.shr i d0 0 h0 rfl
              rw [e1] at e2
              cases e2
              refine ⟨w, e1, r2.step (fun b z => ?_) (R.kp st.fr)⟩
              rcases z with (z | z) | z
              · exact .inl (.inl z)
              · exact .inr (by rw [z]; exact nH)
              · exact .inl (.inr (st.le.own z))
            · subst z
              simp only [if_true] at h
              obtain ⟨e5, s', h2, q2⟩ := s.par i d0 2 (by rw [List.getElem?_append_left li]; exact h0) (by omega)
              rw [List.getElem?_eq_getElem li'] at h2
              have h4 : ε'[i]? = some (some (d, k)) := by rw [List.getElem?_eq_getElem li']; exact h
              obtain ⟨w2, e2, r2⟩ := R1.shr i d k h4 n
              rw [e5, start_at' (by omega), e1] at e2
              cases e2
              exact ⟨w, e1, r2.step sub kk⟩
          · obtain ⟨w, e1, nw2, t2⟩ := st.env.own i d k h n
            have li : i < p.length := by
              rw [← st.le.len]
              exact (List.getElem?_eq_some_iff.mp h).1
            obtain ⟨d0, k0, e0, hk⟩ := okP_at ok (List.getElem?_eq_getElem li)
            have h0 : p[i]? = some (some (d0, k0)) := by rw [List.getElem?_eq_getElem li, e0]
            have li' : i < ε'.length := by rw [s.len, List.length_append]; omega
            rw [finP_at h0 (List.getElem?_eq_getElem li')] at h
            rcases hk with z | z
            · subst z
              simp at h
              obtain ⟨rfl, rfl⟩ := h
              cases n
            · subst z
              simp only [if_true] at h
              obtain ⟨e5, s', h2, q2⟩ := s.par i d0 2 (by rw [List.getElem?_append_left li]; exact h0) (by omega)
              have h4 : ε'[i]? = some (some (d, k)) := by rw [List.getElem?_eq_getElem li']; exact h
              obtain ⟨w2, e2, nw3, t3⟩ := R1.own i d k h4 n
              rw [e5, start_at' (by omega), e1] at e2
              cases e2
              exact ⟨w, e1, nw3, t3.step sub kk fun _ z => z⟩
          · rcases z with z | z
            · exact st.env.out b z
            · rw [z]
              exact t.there
  · cases e
end
end Tr

/-! What loops walk; for. -/
namespace Tr
open PySem PySem.Spec PyProof.Rows L2 Md
abbrev IT := TEnv → Option (R (List D × Option Nat))
def SrcAt (K : PySem.W.Frag) (ca : CA) (S : Addr → Prop) (H2 : Hp) (σ : L2.St) (ε : TEnv) (i : Nat) : Prop :=
  ∀ d k, ε[i]? = some (some (d, k)) → ownF k = true → ∃ a, σ[i]? = some (some (.ref a)) ∧ Top K ca S H2 a d
/-- it yields these trees, whatever is changed but its source -/
def WalkD (K : PySem.W.Frag) (ca : CA) (O : Addr → Prop) (σ : L2.St) (ε : TEnv) (H : Hp) (J : It) (ds : List D) (src : Option Nat) : Prop :=
  ∀ (S2 : Addr → Prop) (H2 : Hp), Kp (Or2 O (Own σ ε)) H H2 → (∀ b, S2 b → Or2 O (Own σ ε) b ∨ H b = none) → (∀ i, src = some i → SrcAt K ca S2 H2 σ ε i) →
    (∀ i, i < ds.length → J.go i H2 ∧ ∀ x H3, J.yld i H2 x H3 → Same H2 H3 ∧ ∃ d, ds[i]? = some d ∧ Rep K ca S2 H3 x d) ∧ J.stop ds.length H2
def tIv (K : PySem.W.Frag) (ca : CA) (W : WX) (it : IT) : TI := fun σ H P => ∃ O ε r, EnvR K ca O H σ ε ∧ it ε = some r ∧ match r with
  | .ok x ε' => ∀ J H', Stp K ca O σ ε H ε' H' → WalkD K ca O σ ε' H' J x.1 x.2 → P J H'
  | .ex c d ε' => Err K ca W O σ ε H c d ε'
abbrev PIT (X : Cx) (ca : CA) (W : WX) (tg iter : Expr) (it : IT) : Prop := PI X tg iter (tIv X.K ca W it)
theorem piWeak {X : Cx} {tg iter : Expr} {t t' : TI} (h : PI X tg iter t) (w : ∀ σ H P, t' σ H P → t σ H P) : PI X tg iter t' := ⟨fun pins s σ H P I q => h.run pins s σ H P I (w σ H P q)⟩
theorem piOr {X : Cx} {tg iter : Expr} {t t' : TI} (h : PI X tg iter t) (h' : PI X tg iter t') : PI X tg iter (fun σ H P => t σ H P ∨ t' σ H P) := ⟨fun pins s σ H P I q => q.elim (h.run pins s σ H P I) (h'.run pins s σ H P I)⟩
def srcOf : AK → Option Nat
  | .nm i => some i
  | .ex _ => none
/-- the items of a list or a tuple -/
def itSeq (a : AK) : IT := fun ε => bindE (evA [a] ε) fun ads ε1 => match late ε1 ads with
  | some [.lst ds] => some (.ok (ds, srcOf a) ε1)
  | some [.tup ds] => some (.ok (ds, none) ε1)
  | some [.str z] => some (.ok (z.cps.toList.map fun c => D.str ⟨#[c]⟩, none) ε1)
  | _ => none
section
variable {K : PySem.W.Frag} {ca : CA} {W : WX} {O O' S : Addr → Prop} {H H0 H1 H2 H' : Hp} {σ σ1 σ2 σ' : L2.St} {ε ε1 ε2 ε' p p' : TEnv} {a : Addr} {d d' : D} {v : V} {Q : VK} {E : Ends} {i : Nat} {k : Nat}
theorem argR_one {x : AK} {ads : List Ad} {v : V} (e : evA [x] ε = some (.ok ads ε1)) (ar : ArgR K ca O σ ε1 H [v] ads) : (∃ d, ads = [.tm d] ∧ Rep K ca (Or2 O (Own σ ε1)) H v d) ∨ ∃ i, x = .nm i ∧ ads = [.sl i] ∧ σ[i]? = some (some v) := by
  cases x with
  | nm i =>
    unfold evA at e
    split at e
    · cases e
      cases ar with
      | sl hv hs t => exact .inr ⟨i, rfl, rfl, hv⟩
    · cases e
  | ex g =>
    unfold evA at e
    cases q : g ε with
    | none => rw [q] at e; cases e
    | some r =>
      rw [q] at e
      cases r with
      | ex c d ε2 => cases e
      | ok y ε2 =>
        cases e
        cases ar with
        | tm r t => exact .inl ⟨_, rfl, r⟩
/-- the list as it stands later -/
theorem list_later {x : AK} {ads : List Ad} {ds : List D} (R : EnvR K ca O H σ ε1) (e : evA [x] ε = some (.ok ads ε1)) (ar : ArgR K ca O σ ε1 H [v] ads) (l : late ε1 ads = some [.lst ds]) : ∃ a, v = .ref a ∧ (∃ vs, H a = some (.lst vs)) ∧
    ∀ (S2 : Addr → Prop) (H2 : Hp), Kp (Or2 O (Own σ ε1)) H H2 → (∀ b, S2 b → Or2 O (Own σ ε1) b ∨ H b = none) → (∀ i, srcOf x = some i → SrcAt K ca S2 H2 σ ε1 i) → ∃ vs, H2 a = some (.lst vs) ∧ RepL K ca S2 H2 vs ds := by
  have shared : Rep K ca (Or2 O (Own σ ε1)) H v (.lst ds) → ∃ a, v = .ref a ∧ (∃ vs, H a = some (.lst vs)) ∧ ∀ (S2 : Addr → Prop) (H2 : Hp), Kp (Or2 O (Own σ ε1)) H H2 → (∀ b, S2 b → Or2 O (Own σ ε1) b ∨ H b = none) → ∃ vs, H2 a = some (.lst vs) ∧ RepL K ca S2 H2 vs ds := fun r => by
    cases r with
    | lst n h l => exact ⟨_, rfl, ⟨_, h⟩, fun S2 H2 fr hs => ⟨_, fr _ _ h fun z => absurd z n, l.step hs fr⟩⟩
  rcases argR_one e ar with ⟨d, rfl, r⟩ | ⟨i, rfl, rfl, hv⟩
  · simp [late] at l
    subst l
    obtain ⟨a, e1, h, f⟩ := shared r
    exact ⟨a, e1, h, fun S2 H2 fr hs _ => f S2 H2 fr hs⟩
  · unfold late at l
    split at l
    · rename_i d k hd
      simp [late] at l
      subst l
      cases o : ownF k with
      | false =>
        obtain ⟨w, e1, r⟩ := R.shr i _ k hd o
        rw [hv] at e1
        cases e1
        obtain ⟨a, e1, h, f⟩ := shared r
        exact ⟨a, e1, h, fun S2 H2 fr hs _ => f S2 H2 fr hs⟩
      | true =>
        obtain ⟨a, e1, _, vs, hx, _⟩ := R.own i _ k hd o
        rw [hv] at e1
        cases e1
        refine ⟨a, rfl, ⟨vs, hx⟩, fun S2 H2 fr hs hsrc => ?_⟩
        obtain ⟨b, e2, t⟩ := hsrc i rfl _ k hd o
        rw [hv] at e2
        cases e2
        exact t
    · cases l
theorem tuple_later {x : AK} {ads : List Ad} {ds : List D} (R : EnvR K ca O H σ ε1) (e : evA [x] ε = some (.ok ads ε1)) (ar : ArgR K ca O σ ε1 H [v] ads) (l : late ε1 ads = some [.tup ds]) : ∃ a vs, v = .ref a ∧ SqT K H a vs ∧ RepL K ca (Or2 O (Own σ ε1)) H vs ds := by
  obtain ⟨w, e1, b⟩ := pair1 (late_bor R ar l)
  cases e1
  exact b.tup
theorem tAk_of {x : AK} {P : List V → Hp → Prop} (h : tAks K ca W [x] σ H P) : tAk K ca W x σ H fun v H1 => P [v] H1 := h
theorem itSeq_read {x : AK} {P : It → Hp → Prop} (h : tIv K ca W (itSeq x) σ H P) : iList K (tAk K ca W x) σ H P ∨ iTup K (tAk K ca W x) σ H P ∨ iStr (tAk K ca W x) σ H P := by
  obtain ⟨O, ε, r, R, e, p⟩ := h
  unfold itSeq at e
  cases q : evA [x] ε with
  | none => rw [q] at e; cases e
  | some r1 =>
    rw [q] at e
    cases r1 with
    | ex c d ε1 =>
      cases e
      exact .inl (tAk_of (evA_read (W := W) (Q := fun vs H1 => ∀ x, vs = [x] → ∃ a, x = .ref a ∧ (∃ xs, SqL K H1 a xs) ∧ P (Itl K a) H1) [x] R q p) |> fun z => tAk_mono z fun v H1 y => y v rfl)
    | ok ads ε1 =>
      rw [bindE_ok] at e
      split at e
      · rename_i ds el
        cases e
        refine .inl (tAk_of (P := fun vs H1 => ∀ x, vs = [x] → ∃ a, x = .ref a ∧ (∃ xs, SqL K H1 a xs) ∧ P (Itl K a) H1) (evA_read [x] R q ?_) |> fun z => tAk_mono z fun v H1 y => y v rfl)
        intro vs H1 s ar v ev
        subst ev
        obtain ⟨a, rfl, ⟨xs, hx⟩, f⟩ := list_later s.env q ar el
        refine ⟨a, rfl, ⟨xs, .inl (.inl hx)⟩, p _ H1 s fun S2 H2 fr hs hsrc => ?_⟩
        obtain ⟨vs, hv, l⟩ := f S2 H2 fr hs hsrc
        have hq : SqL K H2 a vs := .inl (.inl hv)
        refine ⟨fun i hi => ?_, vs, hq, by rw [l.length]; exact Nat.le_refl _⟩
        obtain ⟨w, hw, rw_⟩ := l.get (List.getElem?_eq_getElem hi)
        refine ⟨⟨vs, w, hq, hw⟩, fun y H3 z => ?_⟩
        obtain ⟨e3, z⟩ := z
        subst e3
        have z := z vs hq
        rw [hw] at z
        cases z
        exact ⟨Same.refl _, _, List.getElem?_eq_getElem hi, rw_⟩
      · rename_i ds el
        cases e
        refine .inr (.inl (tAk_of (P := fun vs H1 => ∀ x, vs = [x] → ∃ a, x = .ref a ∧ (∃ xs, SqT K H1 a xs) ∧ P (Itt K a) H1) (evA_read [x] R q ?_) |> fun z => tAk_mono z fun v H1 y => y v rfl))
        intro vs H1 s ar v ev
        subst ev
        obtain ⟨a, vs, rfl, hx, l0⟩ := tuple_later s.env q ar el
        refine ⟨a, rfl, ⟨vs, hx⟩, p _ H1 s fun S2 H2 fr hs hsrc => ?_⟩
        have hq : SqT K H2 a vs := sqT_keep hx fr
        have l := l0.step hs fr
        refine ⟨fun i hi => ?_, vs, hq, by rw [l.length]; exact Nat.le_refl _⟩
        obtain ⟨w, hw, rw_⟩ := l.get (List.getElem?_eq_getElem hi)
        refine ⟨⟨vs, w, hq, hw⟩, fun y H3 z => ?_⟩
        obtain ⟨e3, z⟩ := z
        subst e3
        have z := z vs hq
        rw [hw] at z
        cases z
        exact ⟨Same.refl _, _, List.getElem?_eq_getElem hi, rw_⟩
      · rename_i z el
        cases e
        refine .inr (.inr (tAk_of (P := fun vs H1 => ∀ x, vs = [x] → ∃ y, x = .str y ∧ P (Its y) H1) (evA_read [x] R q ?_) |> fun z => tAk_mono z fun v H1 y => y v rfl))
        intro vs H1 s ar v ev
        subst ev
        obtain ⟨w, e1, bw⟩ := pair1 (late_bor s.env ar el)
        cases e1
        refine ⟨z, bw.str, p _ H1 s fun S2 H2 fr hs hsrc => ?_⟩
        refine ⟨fun i hi => ?_, ?_⟩
        · rw [List.length_map, Array.length_toList] at hi
          refine ⟨hi, fun y H3 zz => ?_⟩
          obtain ⟨e3, c, hc, ey⟩ := zz
          subst e3 ey
          refine ⟨Same.refl _, _, ?_, .str _⟩
          rw [List.getElem?_map, Array.getElem?_toList, hc]
          rfl
        · rw [List.length_map, Array.length_toList]
          exact Nat.le_refl _
      · cases e
/-- lo, lo + 1, .. -/
def rngD (lo : Int) (n : Nat) : List D := (List.range n).map fun (i : Nat) => D.int (lo + (i : Int))
theorem rngD_len {lo : Int} {n : Nat} : (rngD lo n).length = n := by simp [rngD]
theorem rngD_at {lo : Int} {n i : Nat} (h : i < n) : (rngD lo n)[i]? = some (.int (lo + i)) := by simp [rngD, h]
abbrev midI (i : Int) : Prop := -(2 ^ 62) ≤ i ∧ i < 2 ^ 62
def itRng1 (g : AK) : IT := fun ε => bindE (evA [g] ε) fun ads ε1 => match late ε1 ads with
  | some [.int j] => if midI j then some (.ok (rngD 0 j.toNat, none) ε1) else none
  | _ => none
def itRng2 (g g2 : AK) : IT := fun ε => bindE (evA [g, g2] ε) fun ads ε1 => match late ε1 ads with
  | some [.int i, .int j] => if midI i ∧ midI j then some (.ok (rngD i (j - i).toNat, none) ε1) else none
  | _ => none
theorem walk_rng {lo : Int} {n : Nat} : WalkD K ca O σ ε H (Itr lo n) (rngD lo n) none := fun S2 H2 _ _ _ => by
  rw [rngD_len]
  refine ⟨fun i hi => ⟨hi, fun x H3 z => ?_⟩, Nat.le_refl n⟩
  obtain ⟨e1, e2⟩ := z
  subst e1 e2
  exact ⟨Same.refl _, _, rngD_at hi, .int _⟩
theorem itRng1_read {x : AK} {P : It → Hp → Prop} (h : tIv K ca W (itRng1 x) σ H P) : iRng1 (tAks K ca W [x]) σ H P := by
  obtain ⟨O, ε, r, R, e, p⟩ := h
  unfold itRng1 at e
  cases q : evA [x] ε with
  | none => rw [q] at e; cases e
  | some r1 =>
    rw [q] at e
    refine evA_read [x] R q ?_
    cases r1 with
    | ex c d ε1 =>
      cases e
      exact p
    | ok ads ε1 =>
      rw [bindE_ok] at e
      intro vs H1 s ar
      split at e
      · rename_i j el
        split at e
        · rename_i c
          cases e
          obtain ⟨v, rfl, b⟩ := pair1 (late_bor s.env ar el)
          exact ⟨j, by rw [b.int], c.1, c.2, p _ H1 s walk_rng⟩
        · cases e
      · cases e
theorem itRng2_read {x y : AK} {P : It → Hp → Prop} (h : tIv K ca W (itRng2 x y) σ H P) : iRng2 (tAks K ca W [x, y]) σ H P := by
  obtain ⟨O, ε, r, R, e, p⟩ := h
  unfold itRng2 at e
  cases q : evA [x, y] ε with
  | none => rw [q] at e; cases e
  | some r1 =>
    rw [q] at e
    refine evA_read [x, y] R q ?_
    cases r1 with
    | ex c d ε1 =>
      cases e
      exact p
    | ok ads ε1 =>
      rw [bindE_ok] at e
      intro vs H1 s ar
      split at e
      · rename_i i j el
        split at e
        · rename_i c
          cases e
          obtain ⟨v, w, rfl, b, b2⟩ := pair2 (late_bor s.env ar el)
          exact ⟨i, j, by rw [b.int, b2.int], ⟨c.1.1, c.1.2, c.2.1, c.2.2⟩, p _ H1 s walk_rng⟩
        · cases e
      · cases e
/-- enumerate(list) -/
def enumD : Nat → List D → List D
  | _, [] => []
  | n, d :: ds => .tup [.int n, d] :: enumD (n + 1) ds
def itEnum (a : AK) : IT := fun ε => bindE (evA [a] ε) fun ads ε1 => match late ε1 ads with
  | some [.lst ds] => some (.ok (enumD 0 ds, srcOf a) ε1)
  | _ => none
/-- zip of two lists -/
def zipD : List D → List D → List D
  | x :: xs, y :: ys => .tup [x, y] :: zipD xs ys
  | _, _ => []
theorem zipD_at : ∀ {xs ys : List D} {i : Nat} {x y : D}, xs[i]? = some x → ys[i]? = some y → (zipD xs ys)[i]? = some (.tup [x, y])
  | [], _, _, _, _, h, _ => by simp at h
  | _ :: _, [], _, _, _, _, h => by simp at h
  | a :: xs, b :: ys, 0, x, y, h, h' => by
    simp at h h'
    subst h h'
    rfl
  | a :: xs, b :: ys, i + 1, x, y, h, h' => by
    have z := zipD_at (i := i) (xs := xs) (ys := ys) (x := x) (y := y) (by simpa using h) (by simpa using h')
    simpa [zipD] using z
theorem zipD_len : ∀ {xs ys : List D}, (zipD xs ys).length = min xs.length ys.length
  | [], ys => by cases ys <;> simp [zipD]
  | _ :: _, [] => by simp [zipD]
  | a :: xs, b :: ys => by
    simp [zipD, zipD_len (xs := xs) (ys := ys)]
def shrOf (a : AK) (ε : TEnv) : Bool := match a with
  | .nm i => !(slOwn ε i)
  | .ex _ => true
/-- zip(a, b), neither owned -/
def itZip (a b : AK) : IT := fun ε => bindE (evA [a, b] ε) fun ads ε1 => match late ε1 ads with
  | some [.lst xs, .lst ys] => if shrOf a ε1 = true ∧ shrOf b ε1 = true then some (.ok (zipD xs ys, none) ε1) else none
  | _ => none
theorem bor_shr {as : List AK} {ads : List Ad} {vs : List V} {ds : List D} (R : EnvR K ca O H σ ε1) (e : evA as ε = some (.ok ads ε1)) (ar : ArgR K ca O σ ε1 H vs ads) (l : late ε1 ads = some ds) (sh : ∀ a ∈ as, shrOf a ε1 = true) : RepL K ca (Or2 O (Own σ ε1)) H vs ds := by
  induction as generalizing ε ads vs ds with
  | nil =>
    cases e
    cases ar
    cases l
    exact .nil
  | cons a as ih =>
    have sh' : ∀ b ∈ as, shrOf b ε1 = true := fun b hb => sh b (List.mem_cons_of_mem _ hb)
    cases a with
    | nm i =>
      unfold evA at e
      split at e
      · cases q : evA as ε with
        | none => rw [q] at e; cases e
        | some r =>
          rw [q] at e
          cases r with
          | ex _ _ _ => cases e
          | ok ads2 ε3 =>
            cases e
            cases ar with
            | sl hv hs t =>
              unfold late at l
              split at l
              · rename_i d k hd
                cases q2 : late ε1 ads2 with
                | none => rw [q2] at l; cases l
                | some ds2 =>
                  rw [q2] at l
                  cases l
                  have o : ownF k = false := by
                    have z : (!(slOwn ε1 i)) = true := sh (.nm i) (List.mem_cons_self ..)
                    rw [slOwn_of hd] at z
                    simpa using z
                  obtain ⟨w, e1, r⟩ := R.shr i d k hd o
                  rw [hv] at e1
                  cases e1
                  exact .cons r (ih q t q2 sh')
              · cases l
      · cases e
    | ex g =>
      unfold evA at e
      cases q0 : g ε with
      | none => rw [q0] at e; cases e
      | some r0 =>
        rw [q0] at e
        cases r0 with
        | ex _ _ _ => cases e
        | ok y ε2 =>
          rw [bindE_ok] at e
          cases q : evA as ε2 with
          | none => rw [q] at e; cases e
          | some r =>
            rw [q] at e
            cases r with
            | ex _ _ _ => cases e
            | ok ads2 ε3 =>
              cases e
              cases ar with
              | tm r t =>
                unfold late at l
                cases q2 : late ε1 ads2 with
                | none => rw [q2] at l; cases l
                | some ds2 =>
                  rw [q2] at l
                  cases l
                  exact .cons r (ih q t q2 sh')
theorem itZip_read {x y : AK} {P : It → Hp → Prop} (h : tIv K ca W (itZip x y) σ H P) : iZip K (tAks K ca W [x, y]) σ H P := by
  obtain ⟨O, ε, r, R, e, p⟩ := h
  unfold itZip at e
  cases q : evA [x, y] ε with
  | none => rw [q] at e; cases e
  | some r1 =>
    rw [q] at e
    refine evA_read [x, y] R q ?_
    cases r1 with
    | ex c d ε1 =>
      cases e
      exact p
    | ok ads ε1 =>
      rw [bindE_ok] at e
      intro vs H1 s ar
      split at e
      · rename_i xs ys el
        split at e
        · rename_i c
          cases e
          have rl := bor_shr s.env q ar el (fun a ha => by
            rcases List.mem_cons.mp ha with z | ha
            · subst z; exact c.1
            · rcases List.mem_cons.mp ha with z | ha
              · subst z; exact c.2
              · cases ha)
          cases rl with
          | cons r1 rl =>
            cases rl with
            | cons r2 rl =>
              cases rl
              cases r1 with
              | lst n1 h1 l1 =>
                cases r2 with
                | lst n2 h2 l2 =>
                  refine ⟨_, _, _, _, rfl, .inl (.inl h1), .inl (.inl h2), p _ H1 s fun S2 H2 fr hs _ => ?_⟩
                  have k1 := l1.step hs fr
                  have k2 := l2.step hs fr
                  have g1 : SqL K H2 _ _ := .inl (.inl (fr _ _ h1 fun z => absurd z n1))
                  have g2 : SqL K H2 _ _ := .inl (.inl (fr _ _ h2 fun z => absurd z n2))
                  rw [zipD_len]
                  refine ⟨fun i hi => ?_, _, _, g1, g2, by rw [k1.length, k2.length]; omega⟩
                  have i1 : i < xs.length := by omega
                  have i2 : i < ys.length := by omega
                  obtain ⟨w1, hw1, q1⟩ := k1.get (List.getElem?_eq_getElem i1)
                  obtain ⟨w2, hw2, q2⟩ := k2.get (List.getElem?_eq_getElem i2)
                  refine ⟨⟨_, _, w1, w2, g1, g2, hw1, hw2⟩, fun z H3 yl => ?_⟩
                  obtain ⟨T, a, b, rfl, nT, rfl, z1, z2⟩ := yl
                  have z1 := z1 _ g1
                  have z2 := z2 _ g2
                  rw [hw1] at z1
                  rw [hw2] at z2
                  cases z1
                  cases z2
                  exact ⟨new_same nT, _, zipD_at (List.getElem?_eq_getElem i1) (List.getElem?_eq_getElem i2), .tup (.inl (.inl upd_same)) (.cons (q1.same (new_same nT)) (.cons (q2.same (new_same nT)) .nil))⟩
        · cases e
      · cases e

/-! ### for -/
/-- the list that is walked stands in its slot as it was -/
def chkS (src : Option (Nat × D)) (ε : TEnv) : Prop := match src with
  | none => True
  | some (i, d) => ε[i]? = some (some (d, 2))
open Classical in
noncomputable def loopF (t : TgT) (body : ST) (src : Option (Nat × D)) : List D → TEnv → Option Fl
  | [], ε => some (.nx ε)
  | d :: ds, ε => match bindG t d ε with
    | none => none
    | some ε1 => match body ε1 with
      | some (.nx ε2) => if chkS src ε2 then loopF t body src ds ε2 else none
      | some (.ct ε2) => if chkS src ε2 then loopF t body src ds ε2 else none
      | some (.bk ε2) => some (.nx ε2)
      | r => r
def unF (i : Nat) : Option Fl → Option Fl
  | some (.nx ε) => match ε[i]? with
    | some (some (d, 2)) => some (.nx (ε.set i (some (d, 1))))
    | _ => some (.nx ε)
  | r => r
noncomputable def forT (it : IT) (t : TgT) (body : ST) : ST := fun ε => bindS (it ε) fun x ε1 => match x.2 with
  | none => loopF t body none x.1 ε1
  | some i => match ε1[i]? with
    | some (some (d, 1)) => unF i (loopF t body (some (i, d)) x.1 (ε1.set i (some (d, 2))))
    | some (some (d, 2)) => loopF t body (some (i, d)) x.1 ε1
    | some (some _) => loopF t body none x.1 ε1
    | _ => none
/-- a slot's own object, lent to a loop -/
theorem EnvR.relabel {k k' : Nat} (R : EnvR K ca O H σ ε) (h : ε[i]? = some (some (d, k))) (o : ownF k = true) (o' : ownF k' = true) : EnvR K ca O H σ (ε.set i (some (d, k'))) ∧ ∀ b, Own σ (ε.set i (some (d, k'))) b ↔ Own σ ε b := by
  have li : i < ε.length := (List.getElem?_eq_some_iff.mp h).1
  have at_ : ∀ {j : Nat} {d1 : D} {k1 : Nat}, (ε.set i (some (d, k')))[j]? = some (some (d1, k1)) → ∃ k0, ε[j]? = some (some (d1, k0)) ∧ ownF k0 = ownF k1 := fun {j d1 k1} h1 => by
    by_cases e : i = j
    · subst e
      rw [List.getElem?_set_self li] at h1
      cases h1
      exact ⟨k, h, by rw [o, o']⟩
    · rw [List.getElem?_set_ne e] at h1
      exact ⟨k1, h1, rfl⟩
  have own_ : ∀ b, Own σ (ε.set i (some (d, k'))) b ↔ Own σ ε b := fun b => by
    constructor
    · rintro ⟨j, d1, k1, h1, h2, h3⟩
      obtain ⟨k0, e1, e2⟩ := at_ h1
      exact ⟨j, d1, k0, e1, by rw [e2]; exact h2, h3⟩
    · rintro ⟨j, d1, k1, h1, h2, h3⟩
      by_cases e : i = j
      · subst e
        rw [h] at h1
        cases h1
        exact ⟨i, d, k', List.getElem?_set_self li, o', h3⟩
      · exact ⟨j, d1, k1, by rw [List.getElem?_set_ne e]; exact h1, h2, h3⟩
  have sub : ∀ b, Or2 O (Own σ (ε.set i (some (d, k')))) b → Or2 O (Own σ ε) b ∨ H b = none := fun b z => .inl (z.elim .inl fun y => .inr ((own_ b).mp y))
  have kk : Kp (Or2 O (Own σ ε)) H H := fun _ _ h _ => h
  refine ⟨⟨by rw [List.length_set]; exact R.len, fun j d1 k1 h1 n1 => ?_, fun j d1 k1 h1 n1 => ?_, fun j l d1 k1 d2 k2 b h1 n1 h2 n2 e1 e2 => ?_, R.out⟩, own_⟩
  · obtain ⟨k0, e1, e2⟩ := at_ h1
    obtain ⟨w, e3, r⟩ := R.shr j d1 k0 e1 (by rw [e2]; exact n1)
    exact ⟨w, e3, r.step sub kk⟩
  · obtain ⟨k0, e1, e2⟩ := at_ h1
    obtain ⟨w, e3, nw, t⟩ := R.own j d1 k0 e1 (by rw [e2]; exact n1)
    exact ⟨w, e3, nw, t.step sub kk fun _ z => z⟩
  · obtain ⟨k0, f1, f2⟩ := at_ h1
    obtain ⟨k3, f3, f4⟩ := at_ h2
    exact R.inj j l d1 k0 d2 k3 b f1 (by rw [f2]; exact n1) f3 (by rw [f4]; exact n2) e1 e2
/-- from the lent state -/
theorem StpS.unlend (R : EnvR K ca O H σ ε) (h : ε[i]? = some (some (d, 1))) (s : StpS K ca O σ (ε.set i (some (d, 2))) H σ' ε' H') : StpS K ca O σ ε H σ' ε' H' := by
  obtain ⟨R2, ow⟩ := R.relabel (k' := 2) h rfl rfl
  have li : i < ε.length := (List.getElem?_eq_some_iff.mp h).1
  refine ⟨fun b o hb n => s.fr b o hb fun z => n ((ow b).mp z), s.th, fun b z => (s.new b z).elim (fun y => .inl ((ow b).mp y)) .inr, fun b z => (s.new1 b z).elim (fun y => .inl ?_) .inr, fun j d1 k1 h1 hk => ?_, by rw [s.len, List.length_set], s.env⟩
  · obtain ⟨j, d1, h1, h3⟩ := y
    by_cases e : i = j
    · subst e
      rw [List.getElem?_set_self li] at h1
      cases h1
    · rw [List.getElem?_set_ne e] at h1
      exact ⟨j, d1, h1, h3⟩
  · have e : i ≠ j := fun e => by
      subst e
      rw [h] at h1
      cases h1
      omega
    exact s.par j d1 k1 (by rw [List.getElem?_set_ne e]; exact h1) hk
/-- .. back to the local's -/
theorem StpS.back1 (R : EnvR K ca O H σ ε) (h : ε[i]? = some (some (d, 1))) (s : StpS K ca O σ (ε.set i (some (d, 2))) H σ' ε' H') (h' : ε'[i]? = some (some (d', 2))) : StpS K ca O σ ε H σ' (ε'.set i (some (d', 1))) H' := by
  have u := s.unlend R h
  obtain ⟨R2, ow⟩ := s.env.relabel (k' := 1) h' rfl rfl
  have li : i < ε.length := (List.getElem?_eq_some_iff.mp h).1
  have li' : i < ε'.length := (List.getElem?_eq_some_iff.mp h').1
  have same : σ'[i]? = σ[i]? := (s.par i d 2 (List.getElem?_set_self li) (by omega)).1
  refine ⟨u.fr, u.th, fun b z => u.new b ((ow b).mp z), fun b z => ?_, fun j d1 k1 h1 hk => ?_, by rw [List.length_set]; exact u.len, R2⟩
  · obtain ⟨j, d1, h1, h3⟩ := z
    by_cases e : i = j
    · subst e
      exact .inl ⟨i, d, h, by rw [← same]; exact h3⟩
    · rw [List.getElem?_set_ne e] at h1
      exact u.new1 b ⟨j, d1, h1, h3⟩
  · have e : i ≠ j := fun e => by
      subst e
      rw [h] at h1
      cases h1
      omega
    obtain ⟨e1, s', h2, q⟩ := u.par j d1 k1 h1 hk
    exact ⟨e1, s', by rw [List.getElem?_set_ne e]; exact h2, q⟩
theorem StpS.srcAt {src : Option (Nat × D)} (s : StpS K ca O σ ε H σ' ε' H') (hs : ∀ i d, src = some (i, d) → ε[i]? = some (some (d, 2))) (c : chkS src ε') : ∀ i d, src = some (i, d) → ∃ a, σ[i]? = some (some (.ref a)) ∧ Top K ca (Or2 O (Own σ' ε')) H' a d := fun i d e => by
  subst e
  have h := hs i d rfl
  obtain ⟨e1, _⟩ := s.par i d 2 h (by omega)
  obtain ⟨a, e2, _, t⟩ := s.env.own i d 2 c rfl
  exact ⟨a, by rw [← e1]; exact e2, t⟩
/-- the loop, its source lent -/
theorem loop_core {t : TgT} {body : ST} {src : Option (Nat × D)} {ds : List D} {J : It} {r : Fl} {isrc : Option Nat} (R : EnvR K ca O H σ ε) (hsrc : ∀ i d, src = some (i, d) → ε[i]? = some (some (d, 2)))
    (walk : WalkD K ca O σ ε H J ds isrc) (hi : ∀ i, isrc = some i → (∃ d, src = some (i, d)) ∨ slOwn ε i = false) (e : loopF t body src ds ε = some r) (post : PostS K ca W O σ ε H r E) :
    ∃ Wi : Nat → Nat → L2.St → Hp → Prop, (∃ m, Wi 0 m σ H) ∧ ∀ i m σ1 H1, Wi i m σ1 H1 →
      (J.stop i H1 ∧ E.nx σ1 H1) ∨ (J.go i H1 ∧ ∃ N : L2.St → Hp → Prop, (∀ σ' H', N σ' H' → ∃ m', m' < m ∧ Wi (i + 1) m' σ' H') ∧ ∀ x H', J.yld i H1 x H' → tGv K ca t x σ1 H' fun σ2 H2 => tSv K ca W body { E with nx := N, ct := N, bk := E.nx } σ2 H2) := by
  refine ⟨fun i m σ1 H1 => m = ds.length - i ∧ i ≤ ds.length ∧ ∃ ε1, StpS K ca O σ ε H σ1 ε1 H1 ∧ chkS src ε1 ∧ loopF t body src (ds.drop i) ε1 = some r, ⟨ds.length, rfl, Nat.zero_le _, ε, StpS.refl R, ?_, e⟩, ?_⟩
  · cases src with
    | none => trivial
    | some p => exact hsrc p.1 p.2 rfl
  rintro i m σ1 H1 ⟨hm, hle, ε1, s, c, e1⟩
  have w := walk (Or2 O (Own σ1 ε1)) H1 (R.kp s.fr) (fun b z => z.elim (fun y => .inl (.inl y)) fun y => (s.new b y).elim (fun u => .inl (.inr u)) .inr) (fun j hj => by
    intro d k hd ho
    rcases hi j hj with ⟨d2, e2⟩ | z
    · have hd2 := hsrc j d2 e2
      rw [hd] at hd2
      cases hd2
      exact s.srcAt hsrc c j _ e2
    · rw [slOwn_of hd, ho] at z
      cases z)
  by_cases hlt : i < ds.length
  · refine .inr ⟨(w.1 i hlt).1, fun σ' H' => ∃ ε2, StpS K ca O σ ε H σ' ε2 H' ∧ chkS src ε2 ∧ loopF t body src (ds.drop (i + 1)) ε2 = some r, fun σ' H' ⟨ε2, s2, c2, e2⟩ => ⟨ds.length - (i + 1), by omega, rfl, hlt, ε2, s2, c2, e2⟩, fun x H' y => ?_⟩
    obtain ⟨sm, d, hd, rd⟩ := (w.1 i hlt).2 x H' y
    rw [List.drop_eq_getElem_cons hlt] at e1
    have ed : ds[i] = d := by
      rw [List.getElem?_eq_getElem hlt] at hd
      exact Option.some.inj hd
    rw [ed] at e1
    unfold loopF at e1
    split at e1
    · cases e1
    · rename_i ε2 eb
      have st := Stp.same s.env sm
      refine ⟨O, ε1, d, ε2, s.env.same sm, rd, eb, fun σ2 s2 _ => ?_⟩
      have s12 := (s.trans st.toS).trans s2
      cases q : body ε2 with
      | none => rw [q] at e1; cases e1
      | some rb =>
        rw [q] at e1
        refine ⟨O, ε2, rb, s2.env, q, ?_⟩
        cases rb with
        | nx ε3 =>
          intro σ3 H3 s3
          simp only at e1
          split at e1
          · rename_i c3
            exact ⟨ε3, s12.trans s3, c3, e1⟩
          · cases e1
        | ct ε3 =>
          intro σ3 H3 s3
          simp only at e1
          split at e1
          · rename_i c3
            exact ⟨ε3, s12.trans s3, c3, e1⟩
          · cases e1
        | bk ε3 =>
          intro σ3 H3 s3
          cases e1
          exact post σ3 H3 (s12.trans s3)
        | rt x ε3 =>
          cases e1
          exact fun v σ3 H3 s3 rr => post v σ3 H3 (s12.trans s3) (rr.old s12)
        | ex c d ε3 =>
          cases e1
          exact fun x v σ3 H3 s3 hx rx => post x v σ3 H3 (s12.trans s3) hx rx
  · have ei : i = ds.length := by omega
    subst ei
    rw [List.drop_length] at e1
    cases e1
    exact .inl ⟨w.2, post σ1 H1 s⟩
theorem forT_read {it : IT} {t : TgT} {body : ST} (h : tSv K ca W (forT it t body) E σ H) : tFor (tIv K ca W it) (tGv K ca t) (tSv K ca W body) E σ H := by
  obtain ⟨O, ε, r, R, e, p⟩ := h
  unfold forT at e
  cases q : it ε with
  | none => rw [q] at e; cases e
  | some r1 =>
    rw [q] at e
    refine ⟨O, ε, r1, R, q, ?_⟩
    cases r1 with
    | ex c d ε1 =>
      cases e
      exact ErrS.toE p
    | ok x ε1 =>
      intro J H1 s w
      rw [bindS_ok] at e
      have p1 := p.later s.toS
      split at e
      · rename_i ex
        rw [ex] at w
        exact loop_core s.env (fun _ _ z => by cases z) w (fun _ z => by cases z) e p1
      · rename_i i ex
        rw [ex] at w
        split at e
        · rename_i d hd
          -- a local's own list, lent to the loop
          have li : i < ε1.length := (List.getElem?_eq_some_iff.mp hd).1
          obtain ⟨RL, ow⟩ := s.env.relabel (k' := 2) hd rfl rfl
          have wL : WalkD K ca O σ (ε1.set i (some (d, 2))) H1 J x.1 (some i) := fun S2 H2 fr hs hsrc => by
            refine w S2 H2 (fun b o hb n => fr b o hb fun z => n (z.elim .inl fun y => .inr ((ow b).mp y))) (fun b z => (hs b z).elim (fun y => .inl (y.elim .inl fun u => .inr ((ow b).mp u))) .inr) fun j hj d1 k1 h1 o1 => ?_
            cases hj
            rw [hd] at h1
            cases h1
            exact hsrc i rfl d 2 (List.getElem?_set_self li) rfl
          cases ql : loopF t body (some (i, d)) x.1 (ε1.set i (some (d, 2))) with
          | none => rw [ql] at e; cases e
          | some rl =>
            rw [ql] at e
            refine loop_core RL (fun j d1 z => ?_) wL (fun j z => ?_) ql ?_
            · cases z
              exact List.getElem?_set_self li
            · cases z
              exact .inl ⟨d, rfl⟩
            · cases rl with
              | nx ε2 =>
                intro σ' H' s2
                have e : (match ε2[i]? with
                  | some (some (d, 2)) => some (Fl.nx (ε2.set i (some (d, 1))))
                  | _ => some (Fl.nx ε2)) = some r := e
                split at e
                · rename_i d2 h2
                  cases e
                  exact p1 σ' H' (s2.back1 s.env hd h2)
                · cases e
                  exact p1 σ' H' (s2.unlend s.env hd)
              | bk ε2 =>
                cases e
                exact fun σ' H' s2 => p1 σ' H' (s2.unlend s.env hd)
              | ct ε2 =>
                cases e
                exact fun σ' H' s2 => p1 σ' H' (s2.unlend s.env hd)
              | rt y ε2 =>
                cases e
                intro v σ' H' s2 rr
                refine p1 v σ' H' (s2.unlend s.env hd) ?_
                obtain ⟨dy, fy⟩ := y
                cases fy with
                | false => exact rr
                | true =>
                  obtain ⟨a, ea, na, z⟩ := rr
                  refine ⟨a, ea, na.elim .inl fun y => .inr ?_, z⟩
                  obtain ⟨j, d1, h1, h3⟩ := y
                  by_cases e : i = j
                  · subst e
                    rw [List.getElem?_set_self li] at h1
                    cases h1
                  · rw [List.getElem?_set_ne e] at h1
                    exact ⟨j, d1, h1, h3⟩
              | ex c d1 ε2 =>
                cases e
                exact fun x v σ' H' s2 hx rx => p1 x v σ' H' (s2.unlend s.env hd) hx rx
        · rename_i d hd
          refine loop_core s.env (fun j d1 z => ?_) w (fun j z => ?_) e p1
          · cases z
            exact hd
          · cases z
            exact .inl ⟨d, rfl⟩
        · rename_i sl n1 n2 hd
          refine loop_core s.env (fun _ _ z => by cases z) w (fun j z => ?_) e p1
          cases z
          refine .inr ?_
          obtain ⟨d, k⟩ := sl
          rw [slOwn_of hd]
          cases o : ownF k with
          | false => rfl
          | true =>
            rcases ownF_cases o with z | z
            · subst z
              exact (n1 d rfl).elim
            · subst z
              exact (n2 d rfl).elim
        · cases e
end
section
variable {X : Cx} {ca : CA} {W : WX} {e e1 e2 tg iter : Expr} {es : List Expr} {g : ET} {a b : AK} {pos p tpos : Pos} {t : TgT} {it : IT} {body : List Stmt} {gb : ST} {k kk : Nat}
theorem pit_seq (h : PAK X ca W e a) : PIT X ca W tg e (itSeq a) := piWeak (piOr (pi_list h) (piOr (pi_tup h) (pi_str h))) fun _ _ _ h => itSeq_read h
theorem pit_rng1 (hg : Gl X "range") (hm : X.mg "range" = none) (ha : PAKs X ca W [e] [a]) (hs : starEach [e] X.env = [(false, eval e X.env)] := by rfl) : PIT X ca W tg (.Call (.Name "range" p) [e] [] pos) (itRng1 a) := piWeak (pi_range1 hg hm ha hs) fun _ _ _ h => itRng1_read h
theorem pit_rng2 (hg : Gl X "range") (hm : X.mg "range" = none) (ha : PAKs X ca W [e, e1] [a, b]) (hs : starEach [e, e1] X.env = [(false, eval e X.env), (false, eval e1 X.env)] := by rfl) (hs2 : starEach [e1] X.env = [(false, eval e1 X.env)] := by rfl) : PIT X ca W tg (.Call (.Name "range" p) [e, e1] [] pos) (itRng2 a b) :=
  piWeak (pi_range2 hg hm ha hs hs2) fun _ _ _ h => itRng2_read h
theorem pit_zip {elts : List Expr} (hg : Gl X "zip") (hm : X.mg "zip" = none) (ha : PAKs X ca W [e, e2] [a, b]) (hs : starEach [e, e2] X.env = (false, eval e X.env) :: starEach [e2] X.env := by rfl) (hpl : (backTo pos (starEach [e2] X.env)).any (·.1) = false := by rfl) :
    PIT X ca W (.Tuple elts kk tpos) (.Call (.Name "zip" p) [e, e2] [] pos) (itZip a b) := piWeak (pi_zip hg hm ha hs hpl) fun _ _ _ h => itZip_read h
theorem pst_for (C : CtxT X W k) (hi : PIT X ca W tg iter it) (hg : PGt X ca tg t) (hb : PSts X ca W body gb) (hs : ∀ x, foldedSetIterable iter X.env x = pure x := by intro _; rfl) : PSt X ca W (.For tg iter body [] pos) (forT it t gb) :=
  psWeak (ps_for C.own C.calm hi hg hb hs) fun _ _ _ h => forT_read h
end
end Tr

/-! List comprehensions. -/
namespace Tr
open PySem PySem.Spec PyProof.Rows L2 Md
/-- the slots of a block's own names forgotten -/
def wipeE (ε : TEnv) : List Nat → TEnv
  | [] => ε
  | v :: vs => (wipeE ε vs).set v none
def restE (ε1 : TEnv) (ε2 : TEnv) : List Nat → TEnv
  | [] => ε2
  | v :: vs => (restE ε1 ε2 vs).set v (ε1[v]?.getD none)
def chkC (ε1 : TEnv) (src : Option Nat) (ε : TEnv) : Prop := match src with
  | some i => slOwn ε1 i = true → ε[i]? = ε1[i]?
  | none => True
open Classical in
noncomputable def loopG (turn : D → TEnv → Option (List D × TEnv)) (chk : TEnv → Prop) : List D → TEnv → Option (List D × TEnv)
  | [], ε => some ([], ε)
  | d :: ds, ε => match turn d ε with
    | none => none
    | some z => if chk z.2 then (loopG turn chk ds z.2).map fun w => (z.1 ++ w.1, w.2) else none
def turn1 (t : TgT) (cond : GT) (elt : ET) (vs : List Nat) (d : D) (ε : TEnv) : Option (List D × TEnv) := match bindG t d ε with
  | none => none
  | some ε1 => match cond ε1 with
    | some (.ok true ε2) => match elt ε2 with
      | some (.ok x ε3) => some ([x.1], wipeE ε3 vs)
      | _ => none
    | some (.ok false ε2) => some ([], wipeE ε2 vs)
    | _ => none
def noOwn (ε : TEnv) (vs : List Nat) : Bool := vs.all fun i => !(slOwn ε i)
noncomputable def turn2 (t : TgT) (cond : GT) (it1 : IT) (t1 : TgT) (cond1 : GT) (elt : ET) (vs vs1 : List Nat) (d : D) (ε : TEnv) : Option (List D × TEnv) := match bindG t d ε with
  | none => none
  | some ε1 => match cond ε1 with
    | some (.ok true ε2) => match it1 ε2 with
      | some (.ok x ε3) => if noOwn ε3 vs1 = true then (loopG (turn1 t1 cond1 elt vs1) (chkC ε3 x.2) x.1 (wipeE ε3 vs1)).map fun z => (z.1, wipeE z.2 vs) else none
      | _ => none
    | some (.ok false ε2) => some ([], wipeE ε2 vs)
    | _ => none
noncomputable def compT (it : IT) (turn : D → TEnv → Option (List D × TEnv)) (vs : List Nat) : ET := fun ε => bindE (it ε) fun x ε1 =>
  if noOwn ε1 vs = true then match loopG turn (chkC ε1 x.2) x.1 (wipeE ε1 vs) with
    | some z => if z.1.length ≤ most then some (.ok (.lst z.1, true) (restE ε1 z.2 vs)) else none
    | none => none
  else none
noncomputable abbrev lcT (it : IT) (t : TgT) (cond : GT) (elt : ET) (vs : List Nat) : ET := compT it (turn1 t cond elt vs) vs
noncomputable abbrev lc2T (it : IT) (t : TgT) (cond : GT) (it1 : IT) (t1 : TgT) (cond1 : GT) (elt : ET) (vs vs1 : List Nat) : ET := compT it (turn2 t cond it1 t1 cond1 elt vs vs1) vs
def yesG : GT := fun ε => some (.ok true ε)
/-- no error leaves -/
abbrev WF : WX := fun _ _ _ _ => False
section
variable {K : PySem.W.Frag} {ca : CA} {W : WX} {O O' S : Addr → Prop} {H H0 H1 H2 H' : Hp} {σ σ1 σ2 σ' : L2.St} {ε ε1 ε2 ε' p p' : TEnv} {a : Addr} {d d' : D} {v : V} {Q : VK} {E : Ends} {i : Nat} {k : Nat} {vs : List Nat}
theorem wipeE_len : ∀ {vs : List Nat}, (wipeE ε vs).length = ε.length
  | [] => rfl
  | v :: vs => by unfold wipeE; rw [List.length_set, wipeE_len]
theorem wipeE_some : ∀ {vs : List Nat} {i : Nat} {s : D × Nat}, (wipeE ε vs)[i]? = some (some s) → ε[i]? = some (some s) ∧ i ∉ vs
  | [], i, s, h => ⟨h, by simp⟩
  | v :: vs, i, s, h => by
    unfold wipeE at h
    by_cases hi : v = i
    · subst hi
      by_cases hv : v < (wipeE ε vs).length
      · rw [List.getElem?_set_self hv] at h; cases h
      · rw [List.getElem?_eq_none (by simpa using hv)] at h; cases h
    · rw [List.getElem?_set_ne hi] at h
      obtain ⟨h1, h2⟩ := wipeE_some h
      exact ⟨h1, by simp only [List.mem_cons, not_or]; exact ⟨fun e => hi e.symm, h2⟩⟩
theorem wipeE_out : ∀ {vs : List Nat} {i : Nat}, i ∉ vs → (wipeE ε vs)[i]? = ε[i]?
  | [], i, _ => rfl
  | v :: vs, i, h => by
    unfold wipeE
    rw [List.getElem?_set_ne fun e => h (by rw [e]; exact List.mem_cons_self ..)]
    exact wipeE_out fun z => h (List.mem_cons_of_mem _ z)
theorem wipeE_in : ∀ {vs : List Nat} {i : Nat}, i ∈ vs → i < ε.length → (wipeE ε vs)[i]? = some none
  | [], i, h, _ => by cases h
  | v :: vs, i, h, l => by
    unfold wipeE
    by_cases e : v = i
    · subst e
      exact List.getElem?_set_self (by rw [wipeE_len]; exact l)
    · rw [List.getElem?_set_ne e]
      exact wipeE_in ((List.mem_cons.mp h).resolve_left fun z => e z.symm) l
theorem wipe_out : ∀ {vs : List Nat} {i : Nat}, i ∉ vs → (wipe σ vs)[i]? = σ[i]?
  | [], i, _ => rfl
  | v :: vs, i, h => by
    unfold wipe
    rw [List.getElem?_set_ne fun e => h (by rw [e]; exact List.mem_cons_self ..)]
    exact wipe_out fun z => h (List.mem_cons_of_mem _ z)
theorem wipe_in : ∀ {vs : List Nat} {i : Nat}, i ∈ vs → i < σ.length → (wipe σ vs)[i]? = some none
  | [], i, h, _ => by cases h
  | v :: vs, i, h, l => by
    unfold wipe
    by_cases e : v = i
    · subst e
      exact List.getElem?_set_self (by rw [wipe_length]; exact l)
    · rw [List.getElem?_set_ne e]
      exact wipe_in ((List.mem_cons.mp h).resolve_left fun z => e z.symm) l
theorem wipe_same (l : σ'.length = σ.length) (h : ∀ j, j ∉ vs → σ'[j]? = σ[j]?) : wipe σ' vs = wipe σ vs := by
  refine List.ext_getElem? fun j => ?_
  by_cases c : j ∈ vs
  · by_cases lt : j < σ.length
    · rw [wipe_in c (by omega), wipe_in c lt]
    · rw [List.getElem?_eq_none (by rw [wipe_length]; omega), List.getElem?_eq_none (by rw [wipe_length]; omega)]
  · rw [wipe_out c, wipe_out c]
    exact h j c
theorem restE_len : ∀ {vs : List Nat}, (restE ε1 ε2 vs).length = ε2.length
  | [] => rfl
  | v :: vs => by unfold restE; rw [List.length_set, restE_len]
theorem restE_out : ∀ {vs : List Nat} {i : Nat}, i ∉ vs → (restE ε1 ε2 vs)[i]? = ε2[i]?
  | [], i, _ => rfl
  | v :: vs, i, h => by
    unfold restE
    rw [List.getElem?_set_ne fun e => h (by rw [e]; exact List.mem_cons_self ..)]
    exact restE_out fun z => h (List.mem_cons_of_mem _ z)
theorem restE_in : ∀ {vs : List Nat} {i : Nat}, i ∈ vs → i < ε2.length → (restE ε1 ε2 vs)[i]? = some (ε1[i]?.getD none)
  | [], i, h, _ => by cases h
  | v :: vs, i, h, l => by
    unfold restE
    by_cases e : v = i
    · subst e
      exact List.getElem?_set_self (by rw [restE_len]; exact l)
    · rw [List.getElem?_set_ne e]
      exact restE_in ((List.mem_cons.mp h).resolve_left fun z => e z.symm) l
mutual
theorem bindG_out : ∀ {t : TgT} {d : D} {ε ε' : TEnv} {j : Nat}, bindG t d ε = some ε' → j ∉ t.ns → ε'[j]? = ε[j]?
  | .nm i, d, ε, ε', j, h, n => by
    unfold bindG at h
    split at h
    · cases h
      exact List.getElem?_set_ne fun e => n (by rw [← e]; exact List.mem_cons_self ..)
    · cases h
  | .tp ts, .tup ds, ε, ε', j, h, n => bindGs_out (ts := ts) (ds := ds) h n
  | .tp ts, .lst ds, ε, ε', j, h, n => bindGs_out (ts := ts) (ds := ds) h n
  | .tp _, .non, _, _, _, h, _ => by cases h
  | .tp _, .bl _, _, _, _, h, _ => by cases h
  | .tp _, .int _, _, _, _, h, _ => by cases h
  | .tp _, .str _, _, _, _, h, _ => by cases h
  | .tp _, .dct _, _, _, _, h, _ => by cases h
  | .tp _, .ins _ _, _, _, _, h, _ => by cases h
  | .tp _, .set _, _, _, _, h, _ => by cases h
theorem bindGs_out : ∀ {ts : TgTs} {ds : List D} {ε ε' : TEnv} {j : Nat}, bindGs ts ds ε = some ε' → j ∉ ts.ns → ε'[j]? = ε[j]?
  | .nil, [], ε, ε', j, h, n => by cases h; rfl
  | .cons t ts, d :: ds, ε, ε', j, h, n => by
    unfold bindGs at h
    cases q : bindG t d ε with
    | none => rw [q] at h; cases h
    | some ε1 =>
      rw [q] at h
      have z1 := bindG_out (t := t) q fun z => n (List.mem_append_left _ z)
      have z2 := bindGs_out (ts := ts) (ds := ds) (ε := ε1) (ε' := ε') (j := j) h fun z => n (List.mem_append_right _ z)
      exact z2.trans z1
  | .nil, _ :: _, _, _, _, h, _ => by cases h
  | .cons _ _, [], _, _, _, h, _ => by cases h
end
theorem EnvR.wipe (R : EnvR K ca O H σ ε) : EnvR K ca O H (L2.wipe σ vs) (wipeE ε vs) ∧ ∀ b, Own (L2.wipe σ vs) (wipeE ε vs) b → Own σ ε b := by
  have own_ : ∀ b, Own (L2.wipe σ vs) (wipeE ε vs) b → Own σ ε b := fun b ⟨i, d, k, h1, h2, h3⟩ => by
    obtain ⟨h1, n⟩ := wipeE_some h1
    rw [wipe_out n] at h3
    exact ⟨i, d, k, h1, h2, h3⟩
  have sub : ∀ b, Or2 O (Own (L2.wipe σ vs) (wipeE ε vs)) b → Or2 O (Own σ ε) b ∨ H b = none := fun b z => .inl (z.elim .inl fun y => .inr (own_ b y))
  have kk : Kp (Or2 O (Own σ ε)) H H := fun _ _ h _ => h
  refine ⟨⟨by rw [wipeE_len, wipe_length]; exact R.len, fun i d k h n => ?_, fun i d k h n => ?_, fun i j d k d' k' a h n h' n' e1 e2 => ?_, R.out⟩, own_⟩
  · obtain ⟨h, z⟩ := wipeE_some h
    obtain ⟨w, e, r⟩ := R.shr i d k h n
    exact ⟨w, by rw [wipe_out z]; exact e, r.step sub kk⟩
  · obtain ⟨h, z⟩ := wipeE_some h
    obtain ⟨w, e, nw, t⟩ := R.own i d k h n
    exact ⟨w, by rw [wipe_out z]; exact e, nw, t.step sub kk fun _ z => z⟩
  · obtain ⟨h, z⟩ := wipeE_some h
    obtain ⟨h', z'⟩ := wipeE_some h'
    rw [wipe_out z] at e1
    rw [wipe_out z'] at e2
    exact R.inj i j d k d' k' a h n h' n' e1 e2
/-- the object at a, kept off by all, is changed -/
theorem EnvR.outer {o' : HO} {xs : List V} (R : EnvR K ca O H σ ε) (ho : O a) (ha : H a = some (.lst xs)) : EnvR K ca O (upd H a o') σ ε ∧ Kp (Or2 O (Own σ ε)) H (upd H a o') := by
  have kk : Kp (Or2 O (Own σ ε)) H (upd H a o') := fun b ob hb z => by
    by_cases e : b = a
    · subst e
      rw [ha] at hb
      cases hb
      exact absurd (show false = true from z (.inl ho)) Bool.false_ne_true
    · rw [upd_ne e]
      exact hb
  refine ⟨⟨R.len, fun i d k h n => ?_, fun i d k h n => ?_, R.inj, fun b z => ?_⟩, kk⟩
  · obtain ⟨w, e, r⟩ := R.shr i d k h n
    exact ⟨w, e, r.step (fun _ z => .inl z) kk⟩
  · obtain ⟨w, e, nw, t⟩ := R.own i d k h n
    refine ⟨w, e, nw, t.step (fun _ z => .inl z) kk fun ob z => ?_⟩
    have ne : w ≠ a := fun e => nw (by rw [e]; exact ho)
    rw [upd_ne ne]
    exact z
  · by_cases e : b = a
    · subst e
      rw [upd_same]
      exact fun z => nomatch z
    · rw [upd_ne e]
      exact R.out b z
/-- a comprehension's state between its turns; its list at D0 is kept off by all -/
structure CI (K : PySem.W.Frag) (ca : CA) (O : Addr → Prop) (σw : L2.St) (εw : TEnv) (B : Hp) (D0 : Addr) (Hk : Hp) (εk : TEnv) (ys : List D) : Prop where
  env : EnvR K ca O Hk σw εk
  fr : ∀ b o, b ≠ D0 → B b = some o → ¬ Own σw εw b → Hk b = some o
  th : ∀ b, b ≠ D0 → Hk b = none → B b = none
  le : Le εw εk
  lst : ∃ acc, Hk D0 = some (.lst acc) ∧ RepL K ca (Or2 O (Own σw εk)) Hk acc ys
theorem own_wiped (nv : ∀ i ∈ vs, slOwn ε i = false) {b : Addr} : Own (L2.wipe σ vs) (wipeE ε vs) b ↔ Own σ ε b := by
  constructor
  · rintro ⟨i, d, k, h1, h2, h3⟩
    obtain ⟨h1, n⟩ := wipeE_some h1
    rw [wipe_out n] at h3
    exact ⟨i, d, k, h1, h2, h3⟩
  · rintro ⟨i, d, k, h1, h2, h3⟩
    have n : i ∉ vs := fun c => by
      have z := nv i c
      rw [slOwn_of h1, h2] at z
      cases z
    exact ⟨i, d, k, by rw [wipeE_out n]; exact h1, h2, by rw [wipe_out n]; exact h3⟩
theorem noOwn_all (h : noOwn ε vs = true) : ∀ i ∈ vs, slOwn ε i = false := fun i hi => by
  have z := List.all_eq_true.mp h i hi
  simpa using z
theorem loopG_some {turn : D → TEnv → Option (List D × TEnv)} {chk : TEnv → Prop} {ds : List D} {z : List D × TEnv} (h : loopG turn chk (d :: ds) ε = some z) :
    ∃ w zs, turn d ε = some w ∧ chk w.2 ∧ loopG turn chk ds w.2 = some (zs, z.2) ∧ z.1 = w.1 ++ zs := by
  unfold loopG at h
  split at h
  · cases h
  · rename_i w e1
    split at h
    · rename_i c
      rw [Option.map_eq_some_iff] at h
      obtain ⟨u, h1, h2⟩ := h
      subst h2
      exact ⟨w, u.1, e1, c, h1, rfl⟩
    · cases h
/-- the loop of a comprehension: TR tells what a turn wants -/
theorem comp_walk {turn : D → TEnv → Option (List D × TEnv)} {TR : V → Hp → (Hp → Prop) → Prop} {ds : List D} {J : It} {D0 : Addr} {B B1 : Hp} {src : Option Nat} {ys0 zs0 : List D} {εf : TEnv} {Fin : Hp → Prop}
    (oD : O D0) (R : EnvR K ca O' B1 σ ε) (nv : ∀ i ∈ vs, slOwn ε i = false) (hO : ∀ b, O b → O' b ∨ B1 b = none) (hD : ∀ o, B1 D0 = some o → O' D0 ∧ tupO o = false) (B1B : ∀ b o, b ≠ D0 → B1 b = some o → B b = some o)
    (walk : WalkD K ca O' σ ε B1 J ds src) (C0 : CI K ca O (L2.wipe σ vs) (wipeE ε vs) B D0 B (wipeE ε vs) ys0) (e : loopG turn (chkC ε src) ds (wipeE ε vs) = some (zs0, εf)) (few : (ys0 ++ zs0).length ≤ most)
    (wiped : ∀ d εk w, turn d εk = some w → ∃ ε0, w.2 = wipeE ε0 vs)
    (step : ∀ {x : V} {d : D} {εk : TEnv} {ys : List D} {w : List D × TEnv} {Hk H3 : Hp} {Nx : Hp → Prop}, CI K ca O (L2.wipe σ vs) (wipeE ε vs) B D0 Hk εk ys → (∃ ε0, εk = wipeE ε0 vs) → Same Hk H3 → Rep K ca (Or2 O (Own (L2.wipe σ vs) εk)) H3 x d → turn d εk = some w → (ys ++ w.1).length ≤ most →
      (∀ H', CI K ca O (L2.wipe σ vs) (wipeE ε vs) B D0 H' w.2 (ys ++ w.1) → Nx H') → TR x H3 Nx)
    (fin : ∀ H', CI K ca O (L2.wipe σ vs) (wipeE ε vs) B D0 H' εf (ys0 ++ zs0) → (∃ ε0, εf = wipeE ε0 vs) → Fin H') :
    ∃ Wi : Nat → Nat → Hp → Prop, (∃ m, Wi 0 m B) ∧ ∀ i m H, Wi i m H →
      (J.stop i H ∧ Fin H) ∨ (J.go i H ∧ ∃ Nx : Hp → Prop, (∀ H', Nx H' → ∃ m', m' < m ∧ Wi (i + 1) m' H') ∧ ∀ x H', J.yld i H x H' → TR x H' Nx) := by
  refine ⟨fun i m H => m = ds.length - i ∧ i ≤ ds.length ∧ ∃ εk ys zs, CI K ca O (L2.wipe σ vs) (wipeE ε vs) B D0 H εk ys ∧ (∃ ε0, εk = wipeE ε0 vs) ∧ chkC ε src εk ∧ loopG turn (chkC ε src) (ds.drop i) εk = some (zs, εf) ∧ ys0 ++ zs0 = ys ++ zs,
    ⟨ds.length, rfl, Nat.zero_le _, wipeE ε vs, ys0, zs0, C0, ⟨ε, rfl⟩, ?_, e, rfl⟩, ?_⟩
  · unfold chkC
    split
    · rename_i i
      intro o
      exact wipeE_out fun c => by rw [nv i c] at o; cases o
    · trivial
  rintro i m Hk ⟨hm, hle, εk, ys, zs, C, hw, ck, e1, e2⟩
  have w := walk (Or2 O (Own (L2.wipe σ vs) εk)) Hk (fun b o hb z => by
    by_cases n : b = D0
    · subst n
      obtain ⟨h1, h2⟩ := hD o hb
      rw [h2] at z
      exact absurd (z (.inl h1)) Bool.false_ne_true
    · refine C.fr b o n (B1B b o n hb) fun y => ?_
      obtain ⟨_, d1, tp⟩ := R.owned ((own_wiped nv).mp y)
      rw [tp.mut hb] at z
      exact absurd (z (.inr ((own_wiped nv).mp y))) Bool.false_ne_true) (fun b z => by
    rcases z with z | z
    · exact (hO b z).elim (fun y => .inl (.inl y)) .inr
    · exact .inl (.inr ((own_wiped nv).mp (C.le.own z)))) (fun j hj => by
    intro d k hd ho
    subst hj
    have o : slOwn ε j = true := by rw [slOwn_of hd]; exact ho
    have cj : j ∉ vs := fun c => by rw [nv j c] at o; cases o
    have hk : εk[j]? = some (some (d, k)) := (ck o).trans hd
    obtain ⟨a, e3, _, tp⟩ := C.env.own j d k hk ho
    exact ⟨a, by rw [← wipe_out cj]; exact e3, tp⟩)
  by_cases hlt : i < ds.length
  · refine .inr ⟨(w.1 i hlt).1, fun H' => ∃ εk ys zs, CI K ca O (L2.wipe σ vs) (wipeE ε vs) B D0 H' εk ys ∧ (∃ ε0, εk = wipeE ε0 vs) ∧ chkC ε src εk ∧ loopG turn (chkC ε src) (ds.drop (i + 1)) εk = some (zs, εf) ∧ ys0 ++ zs0 = ys ++ zs, fun H' z => ⟨ds.length - (i + 1), by omega, rfl, hlt, z⟩, fun x H' y => ?_⟩
    obtain ⟨sm, d, hd, rd⟩ := (w.1 i hlt).2 x H' y
    rw [List.drop_eq_getElem_cons hlt] at e1
    have ed : ds[i] = d := by
      rw [List.getElem?_eq_getElem hlt] at hd
      exact Option.some.inj hd
    rw [ed] at e1
    obtain ⟨u, zs', t1, t2, t3, t4⟩ := loopG_some e1
    simp only at t4
    have e5 : ys0 ++ zs0 = (ys ++ u.1) ++ zs' := by rw [e2, t4, List.append_assoc]
    refine step C hw sm rd t1 ?_ fun H'' C' => ⟨_, _, zs', C', wiped _ _ _ t1, t2, t3, e5⟩
    have l := congrArg List.length e5
    rw [List.length_append (as := ys ++ u.1)] at l
    omega
  · have ei : i = ds.length := by omega
    subst ei
    rw [List.drop_length] at e1
    cases e1
    rw [List.append_nil] at e2
    exact .inl ⟨w.2, fin Hk (by rw [e2]; exact C) hw⟩
theorem Le.wiped {ε3 : TEnv} (l0 : Le (wipeE ε vs) (wipeE ε1 vs)) (l1 : Le ε2 ε3) (hl : ε2.length = ε1.length) (e2 : ∀ j, j ∉ vs → ε2[j]? = (wipeE ε1 vs)[j]?) : Le (wipeE ε vs) (wipeE ε3 vs) := by
  have len0 : ε1.length = ε.length := by
    have := l0.len
    rw [wipeE_len, wipeE_len] at this
    exact this
  refine ⟨by rw [wipeE_len, wipeE_len, l1.len, hl, len0], fun j s hs => ?_⟩
  by_cases c : j ∈ vs
  · have lj : j < ε.length := by
      have := (List.getElem?_eq_some_iff.mp hs).1
      rw [wipeE_len] at this
      exact this
    rw [wipeE_in c lj] at hs
    cases hs
    exact ⟨none, wipeE_in c (by rw [l1.len, hl, len0]; exact lj), rfl⟩
  · obtain ⟨s1, h1, q1⟩ := l0.at_ j s hs
    rw [← e2 j c] at h1
    obtain ⟨s2, h2, q2⟩ := l1.at_ j s1 h1
    exact ⟨s2, by rw [wipeE_out c]; exact h2, q1.trans q2⟩
/-- within a turn: behind the target's store -/
structure Mid (K : PySem.W.Frag) (ca : CA) (O : Addr → Prop) (σ : L2.St) (vs : List Nat) (ε : TEnv) (B : Hp) (D0 : Addr) (σ2 : L2.St) (ε2 : TEnv) (H2 : Hp) (ys : List D) : Prop where
  env : EnvR K ca O H2 σ2 ε2
  wp : L2.wipe σ2 vs = L2.wipe σ vs
  fr : ∀ b o, b ≠ D0 → B b = some o → ¬ Own (L2.wipe σ vs) (wipeE ε vs) b → H2 b = some o
  th : ∀ b, b ≠ D0 → H2 b = none → B b = none
  own : ∀ b, Own σ2 ε2 b → Own (L2.wipe σ vs) (wipeE ε vs) b
  le : Le (wipeE ε vs) (wipeE ε2 vs)
  lst : ∃ acc, H2 D0 = some (.lst acc) ∧ RepL K ca (Or2 O (Own σ2 ε2)) H2 acc ys
theorem Mid.step {D0 : Addr} {B : Hp} {ys : List D} (oD : O D0) (M : Mid K ca O σ vs ε B D0 σ2 ε2 H2 ys) (s : Stp K ca O σ2 ε2 H2 ε' H') : Mid K ca O σ vs ε B D0 σ2 ε' H' ys := by
  obtain ⟨acc, hD, rl⟩ := M.lst
  have nD : ¬ Own σ2 ε2 D0 := fun z => (M.env.owned z).1 oD
  refine ⟨s.env, M.wp, fun b o ne h n => s.fr b o (M.fr b o ne h n) fun z => n (M.own b z), fun b ne h => M.th b ne (s.th b h), fun b z => M.own b (s.le.own z), M.le.trans ?_, acc, s.fr _ _ hD nD, s.repL M.env rl⟩
  refine ⟨by rw [wipeE_len, wipeE_len, s.le.len], fun j t ht => ?_⟩
  by_cases c : j ∈ vs
  · have lj : j < ε2.length := by
      have := (List.getElem?_eq_some_iff.mp ht).1
      rw [wipeE_len] at this
      exact this
    rw [wipeE_in c lj] at ht
    cases ht
    exact ⟨none, wipeE_in c (by rw [s.le.len]; exact lj), rfl⟩
  · rw [wipeE_out c] at ht
    obtain ⟨t', h', q⟩ := s.le.at_ j t ht
    exact ⟨t', by rw [wipeE_out c]; exact h', q⟩
/-- the store of a turn's item -/
theorem CI.bind {D0 : Addr} {B Hk H3 : Hp} {εk : TEnv} {ys : List D} {t : TgT} {x : V} {P : L2.St → Hp → Prop} (oD : O D0) (C : CI K ca O (L2.wipe σ vs) (wipeE ε vs) B D0 Hk εk ys) (hw : ∃ ε0, εk = wipeE ε0 vs) (sub : ∀ i ∈ t.ns, i ∈ vs) (sm : Same Hk H3)
    (rx : Rep K ca (Or2 O (Own (L2.wipe σ vs) εk)) H3 x d) (eb : bindG t d εk = some ε2) (p : ∀ σ2, Mid K ca O σ vs ε B D0 σ2 ε2 H3 ys → P σ2 H3) : tGv K ca t x (L2.wipe σ vs) H3 P := by
  refine ⟨O, εk, d, ε2, C.env.same sm, rx, eb, fun σ2 s2 els => p σ2 ?_⟩
  have lσ : σ2.length = σ.length := by
    have h1 := s2.env.len
    have h2 := s2.len
    have h3 := C.env.len
    rw [wipe_length] at h3
    omega
  have wp : L2.wipe σ2 vs = L2.wipe σ vs := wipe_same lσ fun j hj => by
    have z := els j fun y => hj (sub j y)
    rw [wipe_out hj] at z
    exact z
  obtain ⟨acc, hD, rl⟩ := C.lst
  have ownk : ∀ b, Own σ2 ε2 b → Own (L2.wipe σ vs) εk b := fun b z => by
    obtain ⟨j, d1, k1, h1, h2, h3⟩ := z
    by_cases c : j ∈ t.ns
    · exact (s2.new b ⟨j, d1, k1, h1, h2, h3⟩).elim id fun q => by
        obtain ⟨_, dd, tt⟩ := s2.env.owned ⟨j, d1, k1, h1, h2, h3⟩
        exact absurd q tt.there
    · rw [bindG_out eb c] at h1
      rw [els j c] at h3
      exact ⟨j, d1, k1, h1, h2, h3⟩
  obtain ⟨ε0, ek⟩ := hw
  have len2 : ε2.length = ε0.length := by rw [s2.len, ek, wipeE_len]
  refine ⟨s2.env, wp, fun b o ne h n => sm _ _ (C.fr b o ne h n), fun b ne h => C.th b ne (sm.free h), fun b z => C.le.own (ownk b z), ?_, acc, sm _ _ hD, (rl.same sm).step (fun b z => .inl (z.elim .inl fun y => .inr (ownk b y))) fun _ _ h _ => h⟩
  have l0 : Le (wipeE ε vs) (wipeE ε0 vs) := by
    rw [← ek]
    exact C.le
  exact l0.wiped (Le.refl ε2) len2 fun j hj => by rw [bindG_out eb fun y => hj (sub j y), ek]
/-- the end of a turn; acc' is what its list holds then -/
theorem Mid.done {D0 : Addr} {B : Hp} {ys zs : List D} (oD : O D0) (M : Mid K ca O σ vs ε B D0 σ2 ε2 H2 ys) {acc : List V} (hD : H2 D0 = some (.lst acc)) {acc' : List V} (hz : RepL K ca (Or2 O (Own σ2 ε2)) H2 acc' zs) :
    CI K ca O (L2.wipe σ vs) (wipeE ε vs) B D0 (upd H2 D0 (.lst acc')) (wipeE ε2 vs) zs := by
  obtain ⟨Rw, oww⟩ := M.env.wipe (vs := vs)
  rw [M.wp] at Rw oww
  obtain ⟨R5, kp5⟩ := Rw.outer (o' := .lst acc') (a := D0) oD hD
  refine ⟨R5, fun b o ne h n => by rw [upd_ne ne]; exact M.fr b o ne h n, fun b ne h => by rw [upd_ne ne] at h; exact M.th b ne h, M.le, acc', upd_same, ?_⟩
  exact (hz.step (fun b z => .inl (z.elim .inl fun y => .inr (oww b y))) (fun _ _ h _ => h)).step (fun _ z => .inl z) kp5
/-- what an element wants -/
theorem turn_end {D0 : Addr} {B : Hp} {ys : List D} {elt : ET} {Nx : Hp → Prop} {y : D × Bool} (oD : O D0) (M : Mid K ca O σ vs ε B D0 σ2 ε2 H2 ys) (e : elt ε2 = some (.ok y ε')) (few : (ys ++ [y.1]).length ≤ most)
    (nx : ∀ H', CI K ca O (L2.wipe σ vs) (wipeE ε vs) B D0 H' (wipeE ε' vs) (ys ++ [y.1]) → Nx H') : tEv K ca WF elt σ2 H2 fun v H4 => ∃ acc, H4 D0 = some (.lst acc) ∧ acc.length < sizeLine ∧ Nx (upd H4 D0 (.lst (acc ++ [v]))) := by
  refine ⟨O, ε2, _, M.env, e, fun v H5 s5 rv => ?_⟩
  have M5 := M.step oD s5
  obtain ⟨acc, hD, rl⟩ := M5.lst
  refine ⟨acc, hD, ?_, nx _ (M5.done oD hD (rl.snoc rv.rep))⟩
  rw [rl.length]
  rw [List.length_append] at few
  exact most_line (by simp at few; omega)
theorem turn_none {D0 : Addr} {B : Hp} {ys : List D} {Nx : Hp → Prop} (oD : O D0) (M : Mid K ca O σ vs ε B D0 σ2 ε2 H2 ys) (nx : ∀ H', CI K ca O (L2.wipe σ vs) (wipeE ε vs) B D0 H' (wipeE ε2 vs) ys → Nx H') : Nx H2 := by
  obtain ⟨acc, hD, rl⟩ := M.lst
  have C := M.done oD hD rl
  have same : upd H2 D0 (.lst acc) = H2 := by
    funext b
    by_cases e : b = D0
    · rw [e, upd_same, hD]
    · exact upd_ne e
  rw [same] at C
  exact nx _ C
theorem lc_turn {D0 : Addr} {B Hk H3 : Hp} {εk : TEnv} {ys : List D} {t : TgT} {x : V} {cond : GT} {elt : ET} {Nx : Hp → Prop} {w : List D × TEnv} (oD : O D0) (sub : ∀ i ∈ t.ns, i ∈ vs) (C : CI K ca O (L2.wipe σ vs) (wipeE ε vs) B D0 Hk εk ys) (hw : ∃ ε0, εk = wipeE ε0 vs) (sm : Same Hk H3)
    (rx : Rep K ca (Or2 O (Own (L2.wipe σ vs) εk)) H3 x d) (e : turn1 t cond elt vs d εk = some w) (few : (ys ++ w.1).length ≤ most) (nx : ∀ H', CI K ca O (L2.wipe σ vs) (wipeE ε vs) B D0 H' w.2 (ys ++ w.1) → Nx H') :
    tGv K ca t x (L2.wipe σ vs) H3 fun σ2 H2 => L2.wipe σ2 vs = L2.wipe σ vs ∧ tTv K ca WF cond σ2 H2 fun b H3 => if b = true then tEv K ca WF elt σ2 H3 fun y H4 => ∃ acc, H4 D0 = some (.lst acc) ∧ acc.length < sizeLine ∧ Nx (upd H4 D0 (.lst (acc ++ [y]))) else Nx H3 := by
  unfold turn1 at e
  split at e
  · cases e
  · rename_i ε2 eb
    refine C.bind oD hw sub sm rx eb fun σ2 M => ⟨M.wp, ?_⟩
    split at e
    · rename_i ε3 h1
      split at e
      · rename_i y ε4 h2
        cases e
        exact ⟨O, ε2, _, M.env, h1, fun H4 s4 => iteT (turn_end oD (M.step oD s4) h2 few nx)⟩
      · cases e
    · rename_i ε3 h1
      cases e
      rw [List.append_nil] at nx
      exact ⟨O, ε2, _, M.env, h1, fun H4 s4 => iteF (turn_none oD (M.step oD s4) nx)⟩
    · cases e
theorem turn1_wiped {t : TgT} {cond : GT} {elt : ET} {w : List D × TEnv} (e : turn1 t cond elt vs d ε = some w) : ∃ ε0, w.2 = wipeE ε0 vs := by
  unfold turn1 at e
  split at e
  · cases e
  · split at e
    · split at e
      · cases e; exact ⟨_, rfl⟩
      · cases e
    · cases e; exact ⟨_, rfl⟩
    · cases e
/-- behind the last turn -/
theorem CI.fin {D0 : Addr} {Hn : Hp} {εn : TEnv} {ys : List D} (R : EnvR K ca O H1 σ ε) (nv : ∀ i ∈ vs, slOwn ε i = false) (nD : H1 D0 = none) (C : CI K ca (With O D0) (L2.wipe σ vs) (wipeE ε vs) (upd H1 D0 (.lst [])) D0 Hn εn ys) (hw : ∃ ε0, εn = wipeE ε0 vs) :
    Stp K ca O σ ε H1 (restE ε εn vs) Hn ∧ ResR K ca O σ (restE ε εn vs) H1 Hn (.ref D0) (.lst ys, true) := by
  obtain ⟨acc, hD, rl⟩ := C.lst
  have neD : ∀ {b : Addr} {o : HO}, H1 b = some o → b ≠ D0 := fun {b o} h e => by rw [e, nD] at h; cases h
  have ln : εn.length = ε.length := by
    have := C.le.len
    rw [wipeE_len] at this
    exact this
  obtain ⟨ε0, e0⟩ := hw
  have at_ : ∀ {j : Nat} {d : D} {k : Nat}, (restE ε εn vs)[j]? = some (some (d, k)) → (j ∈ vs ∧ ε[j]? = some (some (d, k)) ∧ ownF k = false) ∨ (j ∉ vs ∧ εn[j]? = some (some (d, k)) ∧ (L2.wipe σ vs)[j]? = σ[j]?) := fun {j d k} h => by
    have lj : j < εn.length := by
      have := (List.getElem?_eq_some_iff.mp h).1
      rw [restE_len] at this
      exact this
    by_cases c : j ∈ vs
    · rw [restE_in c lj] at h
      cases q : ε[j]? with
      | none =>
        rw [q] at h
        cases h
      | some s =>
        rw [q] at h
        simp only [Option.getD_some, Option.some.injEq] at h
        subst h
        have z := nv j c
        rw [slOwn_of q] at z
        exact .inl ⟨c, rfl, z⟩
    · rw [restE_out c] at h
      exact .inr ⟨c, h, wipe_out c⟩
  have own2 : ∀ b, Own σ (restE ε εn vs) b → Own (L2.wipe σ vs) εn b := fun b ⟨j, d, k, h1, h2, h3⟩ => by
    rcases at_ h1 with ⟨_, _, z⟩ | ⟨_, h4, e⟩
    · rw [z] at h2
      cases h2
    · exact ⟨j, d, k, h4, h2, by rw [e]; exact h3⟩
  have own1 : ∀ b, Own σ (restE ε εn vs) b → Own σ ε b := fun b z => (own_wiped nv).mp (C.le.own (own2 b z))
  have fr : ∀ b o, H1 b = some o → ¬ Own σ ε b → Hn b = some o := fun b o h n => C.fr b o (neD h) (by rw [upd_ne (neD h)]; exact h) fun z => n ((own_wiped nv).mp z)
  have th : ∀ b, Hn b = none → H1 b = none := fun b h => by
    by_cases e : b = D0
    · rw [e]
      exact nD
    · have z := C.th b e h
      rw [upd_ne e] at z
      exact z
  have env : EnvR K ca (With O D0) Hn σ (restE ε εn vs) := by
    have sub1 : ∀ b, Or2 (With O D0) (Own σ (restE ε εn vs)) b → Or2 O (Own σ ε) b ∨ H1 b = none := fun b z => by
      rcases z with (z | z) | z
      · exact .inl (.inl z)
      · exact .inr (by rw [z]; exact nD)
      · exact .inl (.inr (own1 b z))
    have sub2 : ∀ b, Or2 (With O D0) (Own σ (restE ε εn vs)) b → Or2 (With O D0) (Own (L2.wipe σ vs) εn) b ∨ Hn b = none := fun b z => .inl (z.elim .inl fun y => .inr (own2 b y))
    have kk : Kp (Or2 (With O D0) (Own (L2.wipe σ vs) εn)) Hn Hn := fun _ _ h _ => h
    refine ⟨by rw [restE_len, ln]; exact R.len, fun j d k h n => ?_, fun j d k h n => ?_, fun i j d k d' k' a h n h' n' e1 e2 => ?_, C.env.out⟩
    · rcases at_ h with ⟨_, h0, _⟩ | ⟨_, h4, e⟩
      · obtain ⟨w, e1, r⟩ := R.shr j d k h0 n
        exact ⟨w, e1, r.step sub1 (R.kp fr)⟩
      · obtain ⟨w, e1, r⟩ := C.env.shr j d k h4 n
        exact ⟨w, by rw [← e]; exact e1, r.step sub2 kk⟩
    · rcases at_ h with ⟨_, h0, z⟩ | ⟨_, h4, e⟩
      · rw [z] at n
        cases n
      · obtain ⟨w, e1, nw, t⟩ := C.env.own j d k h4 n
        exact ⟨w, by rw [← e]; exact e1, nw, t.step sub2 kk fun _ z => z⟩
    · rcases at_ h with ⟨_, h0, z⟩ | ⟨_, h4, e⟩
      · rw [z] at n
        cases n
      · rcases at_ h' with ⟨_, h0', z'⟩ | ⟨_, h4', e'⟩
        · rw [z'] at n'
          cases n'
        · exact C.env.inj i j d k d' k' a h4 n h4' n' (by rw [e]; exact e1) (by rw [e']; exact e2)
  refine ⟨⟨⟨by rw [restE_len, ln], fun j s hs => ?_⟩, fr, th, env.part⟩, D0, rfl, nD, fun z => R.out D0 z nD, fun z => (C.env.owned (own2 D0 z)).1 (.inr rfl), ⟨acc, hD, rl.step (fun b z => .inl (z.elim .inl fun y => .inr (own2 b y))) fun _ _ h _ => h⟩, env⟩
  have lj : j < εn.length := by
    rw [ln]
    exact (List.getElem?_eq_some_iff.mp hs).1
  by_cases c : j ∈ vs
  · refine ⟨s, ?_, leS.refl s⟩
    rw [restE_in c lj, hs]
    rfl
  · obtain ⟨s', h', q⟩ := C.le.at_ j s (by rw [wipeE_out c]; exact hs)
    exact ⟨s', by rw [restE_out c]; exact h', q⟩
/-- a comprehension of any turns -/
theorem compT_read {it : IT} {turn : D → TEnv → Option (List D × TEnv)} {TR : L2.St → Addr → V → Hp → (Hp → Prop) → Prop} (wiped : ∀ d εk w, turn d εk = some w → ∃ ε0, w.2 = wipeE ε0 vs)
    (step : ∀ {O : Addr → Prop} {D0 : Addr} {B : Hp} {ε : TEnv} {x : V} {d : D} {εk : TEnv} {ys : List D} {w : List D × TEnv} {Hk H3 : Hp} {Nx : Hp → Prop}, O D0 → CI K ca O (L2.wipe σ vs) (wipeE ε vs) B D0 Hk εk ys → (∃ ε0, εk = wipeE ε0 vs) → Same Hk H3 → Rep K ca (Or2 O (Own (L2.wipe σ vs) εk)) H3 x d → turn d εk = some w → (ys ++ w.1).length ≤ most →
      (∀ H', CI K ca O (L2.wipe σ vs) (wipeE ε vs) B D0 H' w.2 (ys ++ w.1) → Nx H') → TR σ D0 x H3 Nx)
    (h : tEv K ca W (compT it turn vs) σ H Q) : tIv K ca W it σ H fun J H1 => ∀ D0, H1 D0 = none → ∃ Wi : Nat → Nat → Hp → Prop, (∃ m, Wi 0 m (upd H1 D0 (.lst []))) ∧ ∀ i m H, Wi i m H →
      (J.stop i H ∧ Q (.ref D0) H) ∨ (J.go i H ∧ ∃ Nx : Hp → Prop, (∀ H', Nx H' → ∃ m', m' < m ∧ Wi (i + 1) m' H') ∧ ∀ x H', J.yld i H x H' → TR σ D0 x H' Nx) := by
  obtain ⟨O, ε, r, R, e, p⟩ := h
  unfold compT at e
  cases q : it ε with
  | none => rw [q] at e; cases e
  | some r1 =>
    rw [q] at e
    refine ⟨O, ε, r1, R, q, ?_⟩
    cases r1 with
    | ex c d ε1 =>
      cases e
      exact p
    | ok x ε1 =>
      intro J H1 s w D0 nD
      rw [bindE_ok] at e
      split at e
      · rename_i c
        have nv := noOwn_all c
        split at e
        · rename_i zf e1
          split at e
          · rename_i few
            cases e
            have sm0 : Same H1 (upd H1 D0 (.lst [])) := new_same nD
            obtain ⟨Rw, _⟩ := s.env.wipe (vs := vs)
            refine comp_walk (O := With O D0) (B := upd H1 D0 (.lst [])) (ys0 := []) (zs0 := zf.1) (εf := zf.2) (.inr rfl) s.env nv (fun b z => z.elim .inl fun y => .inr (by rw [y]; exact nD)) (fun o h => by rw [nD] at h; cases h) (fun b o ne h => by rw [upd_ne ne]; exact h) w ?_ e1 (by simpa using few) wiped (fun {x d εk ys w Hk H3 Nx} C hw sm rx t1 t2 t3 => step (.inr rfl) C hw sm rx t1 t2 t3) fun H' C hw => ?_
            · exact ⟨Rw.with nD sm0 (by rw [upd_same]; exact fun z => nomatch z), fun b o _ h _ => h, fun b _ h => h, Le.refl _, [], upd_same, .nil⟩
            · rw [List.nil_append] at C
              obtain ⟨s2, rr⟩ := C.fin s.env nv nD hw
              exact p _ H' (s.trans s2) (rr.old s.th)
          · cases e
        · cases e
      · cases e
theorem lcT_read {it : IT} {t : TgT} {cond : GT} {elt : ET} (sub : ∀ i ∈ t.ns, i ∈ vs) (h : tEv K ca W (lcT it t cond elt vs) σ H Q) : tLc (tIv K ca W it) (tGv K ca t) (tTv K ca WF cond) (tEv K ca WF elt) vs σ H Q :=
  compT_read (TR := fun σ D0 x H' Nx => tGv K ca t x (L2.wipe σ vs) H' fun σ2 H2 => L2.wipe σ2 vs = L2.wipe σ vs ∧ tTv K ca WF cond σ2 H2 fun b H3 => if b = true then tEv K ca WF elt σ2 H3 fun y H4 => ∃ acc, H4 D0 = some (.lst acc) ∧ acc.length < sizeLine ∧ Nx (upd H4 D0 (.lst (acc ++ [y]))) else Nx H3)
    (fun _ _ _ e => turn1_wiped e) (fun {O D0 B ε x d εk ys w Hk H3 Nx} oD C hw sm rx e few nx => lc_turn oD sub C hw sm rx e few nx) h
theorem asg_of {i : Nat} {te : TE} {g : ET} {D : Ends} (r : ∀ {Q : VK}, tEv K ca W g σ H Q → te σ H Q) (h : tSv K ca W (setT i g) D σ H) : tAsg te (gName i) D σ H := r (setT_read h)
end
section
variable {X : Cx} {ca : CA} {W : WX} {e elt tg iter tg1 iter1 : Expr} {ifs ifs1 : List Expr} {scope : Scope} {own : List (Str × Nat)} {vs1 : List Nat} {g : ET} {c c1 : GT} {a b : AK} {pos spos py : Pos} {t t1 : TgT} {it it1 : IT} {k i : Nat} {y : Str}
abbrev PTTs (X : Cx) (ca : CA) (W : WX) (es : List Expr) (g : GT) : Prop := PTs X es (tTv X.K ca W g)
theorem yesG_read {K : PySem.W.Frag} {σ : L2.St} {H : Hp} {Q : Bool → Hp → Prop} (h : tTv K ca W yesG σ H Q) : tYes σ H Q := by
  obtain ⟨O, ε, r, R, e, p⟩ := h
  cases e
  exact p H (Stp.refl R)
theorem ptts_nil : PTTs X ca W [] yesG := ⟨fun pins s σ H Q I h => pts_nil.run pins s σ H Q I (yesG_read h)⟩
theorem ptts_one (h : PTT X ca W e c) : PTTs X ca W [e] c := pts_one h
/-- a block's context -/
abbrev Bk (X : Cx) (scope : Scope) (s : Shared) (H : Hp) (A : Addr) (cl : List (Str × Addr)) (fp : List Addr) : Cx := X.blk s H scope (compEnvC scope cl A X.env) fp
theorem CtxT.blk {s : Shared} {H : Hp} {cl : List (Str × Addr)} {A : Addr} {fp : List Addr} (C : CtxT X W k) : CtxT (Bk X scope s H A cl fp) WF k := ⟨takes0, C.ng, C.room, C.calm, C.nd, PassesOwn.never⟩
theorem pet_lc (C : CtxT X W k) (hi : PIT X ca W tg iter it) (ok : BlkOk X.N X.env.scope scope own)
    (hg : ∀ (s : Shared) (H : Hp) (A : Addr) (cl : List (Str × Addr)) (fp : List Addr), PGt (Bk X scope s H A cl fp) ca tg t) (ht : ∀ (s : Shared) (H : Hp) (A : Addr) (cl : List (Str × Addr)) (fp : List Addr), CtxT (Bk X scope s H A cl fp) WF k → PTTs (Bk X scope s H A cl fp) ca WF ifs c)
    (he : ∀ (s : Shared) (H : Hp) (A : Addr) (cl : List (Str × Addr)) (fp : List Addr), CtxT (Bk X scope s H A cl fp) WF k → PET (Bk X scope s H A cl fp) ca WF elt g) (sub : ∀ i ∈ t.ns, i ∈ own.map (·.2) := by decide) (hs : ∀ x, foldedSetIterable iter X.env x = pure x := by intro _; rfl) :
    PET X ca W (.ListComp elt [⟨tg, iter, ifs, 0⟩] scope pos) (lcT it t c g (own.map (·.2))) :=
  peWeak (pe_lc C.calm C.nd hi ok hg (fun s H A cl fp => ht s H A cl fp C.blk) (fun s H A cl fp => he s H A cl fp C.blk) hs) fun _ _ _ h => lcT_read sub h
theorem pst_setLc (C : CtxT X W k) (hy : X.N[i]? = some y) (hyl : X.env.scope.names.lookup y = some .local) (hsw : swapsWith (.ListComp elt [⟨tg, iter, ifs, 0⟩] scope pos) (some (.Name y py)) spos.line X.env = pure true) (hi : PIT X ca W tg iter it) (ok : BlkOk X.N X.env.scope scope own)
    (hg : ∀ (s : Shared) (H : Hp) (A : Addr) (cl : List (Str × Addr)) (fp : List Addr), PGt (Bk X scope s H A cl fp) ca tg t) (ht : ∀ (s : Shared) (H : Hp) (A : Addr) (cl : List (Str × Addr)) (fp : List Addr), CtxT (Bk X scope s H A cl fp) WF k → PTTs (Bk X scope s H A cl fp) ca WF ifs c)
    (he : ∀ (s : Shared) (H : Hp) (A : Addr) (cl : List (Str × Addr)) (fp : List Addr), CtxT (Bk X scope s H A cl fp) WF k → PET (Bk X scope s H A cl fp) ca WF elt g) (sub : ∀ i ∈ t.ns, i ∈ own.map (·.2) := by decide) (hs : ∀ x, foldedSetIterable iter X.env x = pure x := by intro _; rfl) :
    PSt X ca W (.Assign [.Name y py] (.ListComp elt [⟨tg, iter, ifs, 0⟩] scope pos) spos) (setT i (lcT it t c g (own.map (·.2)))) :=
  psWeak (ps_setLc C.calm C.nd hy hyl hsw hi ok hg (fun s H A cl fp => ht s H A cl fp C.blk) (fun s H A cl fp => he s H A cl fp C.blk) hs) fun _ _ _ h => asg_of (lcT_read sub) h
end
end Tr

/-! Slices; methods that change nothing. -/
namespace Tr
open PySem PySem.Spec PyProof.Rows L2 Md
def cutD (ds : List D) (lo hi : Option Int) : List D := (ds.drop (HT.sIx ds.length 0 lo)).take (HT.sIx ds.length ds.length hi - HT.sIx ds.length 0 lo)
def fCut (d : D) (lo hi : Option Int) : Option (D × Bool) := match d with
  | .str z => if z.length ≤ most then some (.str (cutS z lo hi), false) else none
  | .lst ds => some (.lst (cutD ds lo hi), true)
  | .tup ds => some (.tup (cutD ds lo hi), false)
  | _ => none
def fSl (l h : Bool) : List D → Option (D × Bool)
  | [d] => if l = false ∧ h = false then fCut d none none else none
  | [d, .int i] => if l = true ∧ h = false then fCut d (some i) none else if l = false ∧ h = true then fCut d none (some i) else none
  | [d, .int i, .int j] => if l = true ∧ h = true then fCut d (some i) (some j) else none
  | _ => none
abbrev rSlAll (K : PySem.W.Frag) : V → Option Int → Option Int → Hp → VK → Prop := fun x lo hi H Q => rSlS x lo hi H Q ∨ rSlL K x lo hi H Q ∨ rSlA K x lo hi H Q
theorem sl_all {X : Cx} : SlR X (rSlAll X.K) := sl_str.or (sl_list.or sl_tupA)
section
variable {K : PySem.W.Frag} {ca : CA} {W : WX} {O O' S : Addr → Prop} {H H0 H1 H2 H' : Hp} {σ σ1 σ2 σ' : L2.St} {ε ε1 ε2 ε' p p' : TEnv} {a : Addr} {d d' : D} {v : V} {Q : VK} {E : Ends} {i : Nat} {k : Nat} {vs : List V} {ds : List D}
theorem RepL.cut (l : RepL K ca S H vs ds) (lo hi : Option Int) : RepL K ca S H (cutV vs lo hi) (cutD ds lo hi) := by
  unfold cutV cutD
  rw [l.length]
  exact (l.drop _).take _
theorem cutD_whole {lo hi : Option Int} (h1 : HT.sIx ds.length 0 lo = 0) (h2 : HT.sIx ds.length ds.length hi = ds.length) : cutD ds lo hi = ds := by
  unfold cutD
  rw [h1, h2]
  simp
theorem cut_read {lo hi : Option Int} {res : D × Bool} (b : Bor K ca S H v d) (e : fCut d lo hi = some res) (q : ∀ v H', Same H H' → NewR K ca S H H' v res → Q v H') : rSlAll K v lo hi H Q := by
  unfold fCut at e
  split at e
  · split at e
    · rename_i c
      cases e
      exact .inl ⟨_, b.str, most_le c, q _ _ (Same.refl _) (.str _)⟩
    · cases e
  · cases e
    obtain ⟨a, us, rfl, h, l⟩ := b.lst
    exact .inr (.inl ⟨a, us, rfl, .inl (.inl h), fun p np => q _ _ (new_same np) (new_lst (l.cut lo hi) np)⟩)
  · cases e
    obtain ⟨a, us, rfl, h, l⟩ := b.tup
    refine .inr (.inr ⟨a, us, rfl, h, fun z => q _ _ (Same.refl _) ?_, fun _ p np => q _ _ (new_same np) (new_tup (l.cut lo hi) np)⟩)
    rw [l.length] at z
    rw [cutD_whole z.1 z.2]
    exact .tup h l
  · cases e
abbrev rS0 (K : PySem.W.Frag) : List V → Hp → VK → Prop := fun vs H Q => ∃ x, vs = [x] ∧ rSlAll K x none none H Q
abbrev rS1 (K : PySem.W.Frag) : List V → Hp → VK → Prop := fun vs H Q => ∃ x i, vs = [x, .int i] ∧ rSlAll K x (some i) none H Q
abbrev rS2 (K : PySem.W.Frag) : List V → Hp → VK → Prop := fun vs H Q => ∃ x i, vs = [x, .int i] ∧ rSlAll K x none (some i) H Q
abbrev rS3 (K : PySem.W.Frag) : List V → Hp → VK → Prop := fun vs H Q => ∃ x i j, vs = [x, .int i, .int j] ∧ rSlAll K x (some i) (some j) H Q
theorem pair3 {F : V → D → Prop} {vs : List V} {d e f : D} (h : Paired F vs [d, e, f]) : ∃ v w u, vs = [v, w, u] ∧ F v d ∧ F w e ∧ F u f := by
  cases h with
  | cons a t =>
    obtain ⟨w, u, rfl, b, c⟩ := pair2 t
    exact ⟨_, w, u, rfl, a, b, c⟩
theorem os_s1 : OpS K ca (rS1 K) (fSl true false) := by
  intro S H vs ds res Q hp hf q
  unfold fSl at hf
  split at hf
  · simp at hf
  · obtain ⟨v, w, rfl, b, c⟩ := pair2 hp
    simp at hf
    exact ⟨v, _, by rw [c.int], cut_read b hf q⟩
  · simp at hf
  · cases hf
theorem os_s2 : OpS K ca (rS2 K) (fSl false true) := by
  intro S H vs ds res Q hp hf q
  unfold fSl at hf
  split at hf
  · simp at hf
  · obtain ⟨v, w, rfl, b, c⟩ := pair2 hp
    simp at hf
    exact ⟨v, _, by rw [c.int], cut_read b hf q⟩
  · simp at hf
  · cases hf
end
section
variable {X : Cx} {ca : CA} {W : WX} {e e1 e2 : Expr} {es : List Expr} {g gk : ET} {pos pos' p2 tpos : Pos} {i : Nat} {a b c : AK} {as : List AK}
theorem pet_sl1 (h : PAK X ca W e a) (h1 : PET X ca W e1 g) : PET X ca W (.Subscript e (.Slice (some e1) none none p2) pos) (opT (fSl true false) [a, .ex g]) :=
  peWeak (pe_slice sl_all h (po_some h1) po_none) fun σ H Q z => tAk_mono (opT_read os_s1 z) fun v H1 y => tEv_mono y fun w H2 y => by
    obtain ⟨x, i, e, r⟩ := y
    cases e
    exact ⟨i, rfl, r⟩
theorem pet_sl2 (h : PAK X ca W e a) (h1 : PET X ca W e1 g) : PET X ca W (.Subscript e (.Slice none (some e1) none p2) pos) (opT (fSl false true) [a, .ex g]) :=
  peWeak (pe_slice sl_all h po_none (po_some h1)) fun σ H Q z => tAk_mono (opT_read os_s2 z) fun v H1 y => tEv_mono y fun w H2 y => by
    obtain ⟨x, i, e, r⟩ := y
    cases e
    exact ⟨i, rfl, r⟩
end
/-- a[i:j] -/
def sl3T (a : AK) (g gk : ET) : ET := fun ε => bindE (evA [a] ε) fun ads ε1 => bindE (g ε1) fun x ε2 => match x.1 with
  | .int i => bindE (gk ε2) fun y ε3 => match y.1, late ε3 ads with
    | .int j, some [d] => (fCut d (some i) (some j)).map fun u => .ok u ε3
    | _, _ => none
  | _ => none
section
variable {K : PySem.W.Frag} {ca : CA} {W : WX} {O O' S : Addr → Prop} {H H0 H1 H2 H' : Hp} {σ σ1 σ2 σ' : L2.St} {ε ε1 ε2 ε' p p' : TEnv} {a : Addr} {d d' : D} {v : V} {Q : VK} {E : Ends} {i : Nat} {k : Nat} {vs : List V} {ds : List D}
theorem argR_later : ∀ {vs : List V} {ads : List Ad}, EnvR K ca O H1 σ ε1 → ArgR K ca O σ ε1 H1 vs ads → Stp K ca O σ ε1 H1 ε2 H2 → ArgR K ca O σ ε2 H2 vs ads
  | _, _, R, .nil, s => .nil
  | _, _, R, .sl h1 h2 t, s => by
    obtain ⟨s', e⟩ := s.le.some_ h2
    exact .sl h1 e (argR_later R t s)
  | _, _, R, .tm r t, s => .tm (s.rep R r) (argR_later R t s)
theorem tAks_one {x : AK} {P : V → Hp → Prop} (h : tAks K ca W [x] σ H fun vs H1 => ∃ v, vs = [v] ∧ P v H1) : tAk K ca W x σ H P := tAk_mono h fun v H1 z => by
  obtain ⟨w, e, p⟩ := z
  cases e
  exact p
theorem arg_val {x : AK} {ads : List Ad} {vs : List V} (e : evA [x] ε = some (.ok ads ε1)) (ar : ArgR K ca O σ ε1 H vs ads) : ∃ v, vs = [v] := by
  have l := evA_len e
  have l2 : vs.length = ads.length := argR_len ar
  match vs, l2 with
  | [v], _ => exact ⟨v, rfl⟩
  | [], l2 => simp [l] at l2
  | _ :: _ :: _, l2 => simp [l] at l2
theorem tEv_of {g : ET} {r : R (D × Bool)} {P : VK} (R : EnvR K ca O H σ ε) (e : g ε = some r) (ok : ∀ x ε1 v H1, r = .ok x ε1 → Stp K ca O σ ε H ε1 H1 → ResR K ca O σ ε1 H H1 v x → P v H1) (ex : ∀ c d ε1, r = .ex c d ε1 → Err K ca W O σ ε H c d ε1) : tEv K ca W g σ H P := by
  refine ⟨O, ε, r, R, e, ?_⟩
  cases r with
  | ok x ε1 => exact fun v H1 s rr => ok x ε1 v H1 rfl s rr
  | ex c d ε1 => exact ex c d ε1 rfl
theorem resR_int {x : D × Bool} {i : Int} (r : ResR K ca O σ ε H H1 v x) (e : x.1 = .int i) : v = .int i := by
  have z := r.rep
  rw [e] at z
  cases z
  rfl
theorem sl3T_read {x : AK} {g gk : ET} (h : tEv K ca W (sl3T x g gk) σ H Q) : tSl (rSlAll K) (tAk K ca W x) (tPart (tEv K ca W g)) (tPart (tEv K ca W gk)) σ H Q := by
  obtain ⟨O, ε, r0, R, e, p⟩ := h
  unfold sl3T at e
  cases q : evA [x] ε with
  | none => rw [q] at e; cases e
  | some r1 =>
    rw [q] at e
    refine tAks_one (evA_read [x] R q ?_)
    cases r1 with
    | ex c d ε1 =>
      cases e
      exact p
    | ok ads ε1 =>
      intro vs H1 s ar
      rw [bindE_ok] at e
      obtain ⟨v, rfl⟩ := arg_val q ar
      refine ⟨v, rfl, ?_⟩
      cases q1 : g ε1 with
      | none => rw [q1] at e; cases e
      | some r2 =>
        rw [q1] at e
        refine tEv_of s.env q1 (fun y ε2 w H2 er s2 rr => ?_) (fun c d ε2 er => ?_)
        · subst er
          rw [bindE_ok] at e
          split at e
          · rename_i i ei
            refine ⟨i, resR_int rr ei, ?_⟩
            cases q2 : gk ε2 with
            | none => rw [q2] at e; cases e
            | some r3 =>
              rw [q2] at e
              refine tEv_of s2.env q2 (fun z ε3 u H3 er s3 rr2 => ?_) (fun c d ε3 er => ?_)
              · subst er
                rw [bindE_ok] at e
                split at e
                · rename_i j d ej el
                  refine ⟨j, resR_int rr2 ej, ?_⟩
                  rw [Option.map_eq_some_iff] at e
                  obtain ⟨res, e1, e2⟩ := e
                  subst e2
                  have st := (s.trans s2).trans s3
                  have bo := late_bor s3.env (argR_later s.env ar (s2.trans s3)) el
                  obtain ⟨v', ev, b⟩ := pair1 bo
                  cases ev
                  exact cut_read b e1 fun w H4 sm nr => p w H4 (st.trans (Stp.same st.env sm)) ((nr.res s3.env sm).old st.th)
                · cases e
              · subst er
                cases e
                exact (Err.later p (s.trans s2))
          · cases e
        · subst er
          cases e
          exact (Err.later p s)
/-! ### methods -/
/-- a method of a value of one type, by its values -/
def mthT (isT : D → Bool) (f : List D → Option (D × Bool)) (a : AK) (as : List AK) : ET := fun ε => bindE (evA [a] ε) fun ads ε1 => match late ε1 ads with
  | some [d] => if isT d = true then bindE (evA as ε1) fun bds ε2 => ((late ε2 (ads ++ bds)).bind f).map fun x => .ok x ε2 else none
  | _ => none
def isStrD : D → Bool
  | .str _ => true
  | _ => false
def isLstD : D → Bool
  | .lst _ => true
  | _ => false
def TyD (K : PySem.W.Frag) (ca : CA) (T : String) (isT : D → Bool) : Prop := ∀ S H v d, isT d = true → Bor K ca S H v d → tyV K T v H
def toSs : List D → Option (List Str)
  | [] => some []
  | .str x :: r => (toSs r).map (x :: ·)
  | _ :: _ => none
def fJoin : List D → Option (D × Bool)
  | [.str a, .lst ds] => (toSs ds).bind fun ys => if (ys.map (·.length)).sum + ys.length * a.length ≤ 16777216 then some (.str (Txt.join a ys), false) else none
  | [.str a, .tup ds] => (toSs ds).bind fun ys => if (ys.map (·.length)).sum + ys.length * a.length ≤ 16777216 then some (.str (Txt.join a ys), false) else none
  | _ => none
abbrev rJoin (K : PySem.W.Frag) : V → List V → Hp → VK → Prop := fun x xs H Q => ∃ a p, ∃ ys : List Str, x = .str a ∧ xs = [.ref p] ∧ (SqL K H p (ys.map V.str) ∨ SqT K H p (ys.map V.str)) ∧
    (ys.map (·.length)).sum + ys.length * a.length ≤ 16777216 ∧ Q (.str (Txt.join a ys)) H
/-- list.index of flat things -/
def fIndex : List D → Option (D × Bool)
  | [.lst ds, x] => match sv x, svs ds with
    | some u, some us => match us.findIdx? fun z => eqV z u with
      | some j => some (.int (j : Nat), false)
      | none => none
    | _, _ => none
  | _ => none
end
section
variable {X : Cx} {ca : CA} {W : WX} {e e1 e2 : Expr} {es : List Expr} {g gk : ET} {pos pos' p2 tpos apos : Pos} {i : Nat} {a b c : AK} {as : List AK}
theorem pet_sl3 (h : PAK X ca W e a) (h1 : PET X ca W e1 g) (h2 : PET X ca W e2 gk) : PET X ca W (.Subscript e (.Slice (some e1) (some e2) none p2) pos) (sl3T a g gk) :=
  peWeak (pe_slice sl_all h (po_some h1) (po_some h2)) fun σ H Q z => sl3T_read z
/-- xs[::-1], xs a list -/
def fRev : List D → Option (D × Bool)
  | [.lst ds] => some (.lst ds.reverse, true)
  | _ => none
end
/-- the built-in names that stay so -/
structure Blt3 (mg : Str → Option Value) : Prop where
  len : mg "len" = none
  max : mg "max" = none
  min : mg "min" = none
  abs : mg "abs" = none
  int : mg "int" = none
  list : mg "list" = none
  tuple : mg "tuple" = none
  set : mg "set" = none
  sorted : mg "sorted" = none
  range : mg "range" = none
  repr : mg "repr" = none
  isinstance : mg "isinstance" = none
  all : mg "all" = none
  any : mg "any" = none
  sum : mg "sum" = none
  zip : mg "zip" = none
  str : mg "str" = none
  enum : mg "enumerate" = none
end Tr

/-! Pairs of plain names set at once. -/
namespace Tr
open PySem PySem.Spec PyProof.Rows L2 Md
section
variable {K : PySem.W.Frag} {ca : CA} {W : WX} {O O' S : Addr → Prop} {H H0 H1 H2 H' : Hp} {σ σ1 σ2 σ' : L2.St} {ε ε1 ε2 ε' p p' : TEnv} {a : Addr} {d d' : D} {v : V} {Q : VK} {E : Ends} {i : Nat} {k : Nat}
theorem parT_read0 {is : List Nat} {gs : List ET} (h : tSv K ca W (parT is gs) E σ H) : tAks K ca W (exs gs) σ H fun vs H1 => gNms is vs σ H1 E.nx := by
  obtain ⟨O, ε, r, R, e, p⟩ := h
  unfold parT at e
  cases q : evF gs ε with
  | none => rw [q] at e; cases e
  | some r1 =>
    rw [q] at e
    refine evF_read (A0 := []) (H0 := H) (ε0 := ε) gs (Stp.refl R) (R.thin fun b z => z.elim id fun y => nomatch y) (fun _ h => nomatch h) q ?_
    cases r1 with
    | ex c d ε1 =>
      cases e
      exact ErrS.toE p
    | ok xs ε1 =>
      intro vs H1 A s R1 hA nd pv fr le new
      rw [bindS_ok] at e
      rw [Option.map_eq_some_iff] at e
      obtain ⟨ε2, e2, e3⟩ := e
      subst e3
      have R2 : EnvR K ca (WithL O A) H1 σ ε1 := R1.thin fun b z => z.elim .inl fun y => .inr (by simpa using y)
      refine par_names (H0 := H) is R2 (pv.step (fun b z => .inl (z.elim (fun y => .inl (y.elim .inl fun w => .inr (by simpa using w))) .inr)) (fun _ _ h _ => h) fun a _ o z => z) nd (fun a ha => ⟨(hA a ha).1, (hA a ha).2.2.1, (hA a ha).2.2.2⟩) e2 fun σ' R3 n1 n2 n3 n4 => ?_
      refine p σ' _ ⟨fun b o h n => s.fr b o h n, fun b z => s.th b z, fun b z => (n1 b z).elim (fun y => .inl (s.le.own y)) .inr, fun b z => (n2 b z).elim (fun y => .inl (s.le.own1 y)) .inr, fun j d1 k1 h1 hk => ?_, by rw [n4]; exact s.le.len, R3⟩
      obtain ⟨e1, s', h2, q2⟩ := s.toS.par j d1 k1 h1 hk
      obtain ⟨d', k', e5, a3, b3⟩ := q2 hk
      subst e5
      have hk' : 2 ≤ k' := by
        by_cases z : k1 = 2
        · rcases a3 z with e | e <;> omega
        · have := (b3 (by omega)).2
          omega
      obtain ⟨e6, e7⟩ := n3 j d' k' h2 hk'
      exact ⟨e6, _, by rw [e7]; exact h2, fun _ => ⟨d', k', rfl, a3, b3⟩⟩
theorem tAks_mono {as : List AK} {P1 P2 : List V → Hp → Prop} {H : Hp} (h : tAks K ca W as σ H P1) (m : ∀ vs H', P1 vs H' → P2 vs H') : tAks K ca W as σ H P2 := by
  induction as generalizing H P1 P2 with
  | nil => exact m _ _ h
  | cons a as ih => exact tAk_mono h fun v H1 z => ih z fun vs H2 y => m _ _ y
end
section
variable {X : Cx} {ca : CA} {W : WX} {gs : List ET} {pos pos' tpos : Pos} {i j l : Nat} {is : List Nat} {as : List AK} {k : Nat}
theorem pst_par2 {x y : Str} {a b : Expr} {px py pt pt2 : Pos} {kt k2 : Nat} (C : CtxT X W k) (hi : X.N[i]? = some x) (hj : X.N[j]? = some y) (hij : i ≠ j)
    (hx : X.env.scope.names.lookup x = some .local) (hy : X.env.scope.names.lookup y = some .local) (ha : PAKs X ca W [a, b] (exs gs))
    (hw : swappedStores [.Tuple [.Name x px, .Name y py] kt pt] (.Tuple [a, b] k2 pt2) X.env = pure (some [x, y]))
    (hs : swapsWithSole [.Tuple [.Name x px, .Name y py] kt pt] (.Tuple [a, b] k2 pt2) pos.line X.env = pure false := by rfl) :
    PSt X ca W (.Assign [.Tuple [.Name x px, .Name y py] kt pt] (.Tuple [a, b] k2 pt2) pos) (parT [i, j] gs) :=
  psWeak (ps_par C.calm C.nd hi hj hij hx hy ha hw hs) fun _ _ _ h => tAks_mono (parT_read0 h) fun vs H1 z => by
    obtain ⟨v, r, rfl, w, r', rfl, rfl, q⟩ := z
    exact ⟨v, w, rfl, q⟩
end
end Tr

/-! How a function of slots is run: step by step, what comes after as a continuation. -/
namespace Tr
open PySem PySem.Spec PyProof.Rows L2 Md
/-- what comes later is left alone while a step stands -/
class Tg {α : Type} (a : α) : Type where
instance instTg {α : Type} (a : α) : Tg a := ⟨⟩
def qR {α : Type} (r : Option (R α)) (P : α → TEnv → Prop) (X : Str → D → TEnv → Prop) : Prop := match r with
  | some (.ok a ε) => P a ε
  | some (.ex c d ε) => X c d ε
  | none => False
def qE (r : Option (R (D × Bool))) (P : D → Bool → TEnv → Prop) (X : Str → D → TEnv → Prop) [Tg P] : Prop := qR r (fun x ε => P x.1 x.2 ε) X
def qA (r : Option (R (List Ad))) (P : List Ad → TEnv → Prop) (X : Str → D → TEnv → Prop) [Tg P] : Prop := qR r P X
def qT (r : Option (R Bool)) (P : Bool → TEnv → Prop) (X : Str → D → TEnv → Prop) [Tg P] : Prop := qR r P X
def qEs (r : Option (R (List (D × Bool)))) (P : List (D × Bool) → TEnv → Prop) (X : Str → D → TEnv → Prop) [Tg P] : Prop := qR r P X
def qI (r : Option (R (List D × Option Nat))) (P : List D → Option Nat → TEnv → Prop) (X : Str → D → TEnv → Prop) [Tg P] : Prop := qR r (fun x ε => P x.1 x.2 ε) X
def qF (r : Option Fl) (nx : TEnv → Prop) (rt : D → Bool → TEnv → Prop) (bk ct : TEnv → Prop) (X : Str → D → TEnv → Prop) [Tg nx] [Tg rt] : Prop := match r with
  | some (.nx ε) => nx ε
  | some (.rt x ε) => rt x.1 x.2 ε
  | some (.bk ε) => bk ε
  | some (.ct ε) => ct ε
  | some (.ex c d ε) => X c d ε
  | none => False
def qO (r : Option (D × Bool)) (P : D → Bool → Prop) [Tg P] : Prop := match r with
  | some x => P x.1 x.2
  | none => False
def qV (ε : TEnv) (i : Nat) (Q : D → Nat → Prop) [Tg Q] : Prop := match ε[i]? with
  | some (some (d, k)) => Q d k
  | _ => False
def qSet (ε : TEnv) (i : Nat) (s : Slot) (Q : TEnv → Prop) [Tg Q] : Prop := Q (ε.set i s)
def qG (k : Nat) (a b c d : Prop) : Prop := match k with
  | 0 => a
  | 1 => b
  | 2 => c
  | _ => d
def qB (b : Bool) (A B : Prop) [Tg A] [Tg B] : Prop := (b = true → A) ∧ (b = false → B)
def qBl (d : D) (Q : Bool → Prop) [Tg Q] : Prop := match d with
  | .bl b => Q b
  | _ => False
def qTr (ds : List D) (Q : Bool → Prop) [Tg Q] : Prop := match ds with
  | [d] => match truD d with
    | some b => Q b
    | none => False
  | _ => False
def qL (ε : TEnv) (ads : List Ad) (Q : List D → Prop) [Tg Q] : Prop := match late ε ads with
  | some ds => Q ds
  | none => False
def qM (ads : List Ad) (Q : List D → Prop) [Tg Q] : Prop := match tms ads with
  | some ds => Q ds
  | none => False
def qMk (ε : TEnv) (ads : List Ad) (Q : TEnv → Prop) : Prop := match mkP ε ads with
  | some p => Q p
  | none => False
def qU (l : List Nat) (Q : Prop) : Prop := uniq l = true ∧ Q
def qOx (ε : TEnv) (ads : List Ad) (Q : List Nat → Prop) : Prop := Q (ownIx ε ads)
def qBack (ads : List Ad) (p' ε : TEnv) (Q : TEnv → Prop) [Tg Q] : Prop := Q (back ads p' ε)
def qCan (ε : TEnv) (i : Nat) (Q : Prop) : Prop := canSet ε i = true ∧ Q
def qPut (ε : TEnv) (i : Nat) (d : D) (b : Bool) (Q : TEnv → Prop) [Tg Q] : Prop := match putS ε i (d, b) with
  | some ε' => Q ε'
  | none => False
def qOpt (o : Option TEnv) (Q : TEnv → Prop) [Tg Q] : Prop := match o with
  | some ε' => Q ε'
  | none => False
def qSt (ds : List D) (j : D) (x : D) (Q : List D → Prop) [Tg Q] : Prop := match j with
  | .int j => match ixN ds.length j with
    | some n => Q (ds.set n x)
    | none => False
  | _ => False
def qMu (o : Option (List D × D)) (Q : List D → D → Prop) [Tg Q] : Prop := match o with
  | some x => Q x.1 x.2
  | none => False
def qIs (isT : D → Bool) (ds : List D) (A : Prop) : Prop := match ds with
  | [d] => isT d = true ∧ A
  | _ => False
def qInt (d : D) (Q : Int → Prop) [Tg Q] : Prop := match d with
  | .int i => Q i
  | _ => False
def qHd (ds : List D) (Q : D → Prop) [Tg Q] : Prop := match ds with
  | [d] => Q d
  | _ => False
def qLst (d : D) (Q : List D → Prop) [Tg Q] : Prop := match d with
  | .lst ds => Q ds
  | _ => False
def qSeq (ds : List D) (s : Option Nat) (Q : List D → Option Nat → Prop) [Tg Q] : Prop := match ds with
  | [.lst xs] => Q xs s
  | [.tup xs] => Q xs none
  | [.str z] => Q (z.cps.toList.map fun c => D.str ⟨#[c]⟩) none
  | _ => False
section
variable {α β : Type} {ε ε1 p' : TEnv} {i j k n : Nat} {d e : D} {b c : Bool} {s : Slot} {P : D → Bool → TEnv → Prop} {X : Str → D → TEnv → Prop} {Q : D → Nat → Prop} {PA : List Ad → TEnv → Prop} {PT : Bool → TEnv → Prop} {g g1 g2 gk : ET} {c1 c2 : GT} {as : List AK} {ads : List Ad} {a a2 : AK}
  {f f2 : List D → Option (D × Bool)} {A A2 : Prop} {QD : List D → Prop} {QE : TEnv → Prop} {nx bk ct : TEnv → Prop} {rt : D → Bool → TEnv → Prop} {s1 s2 : ST} {PO : D → Bool → Prop} {ds xs : List D} {F : ET} {gs : List ET} {is : List Nat} {PI : List D → Option Nat → TEnv → Prop}
theorem qR_bind {r : Option (R α)} {f : α → TEnv → Option (R β)} {P : β → TEnv → Prop} : qR (bindE r f) P X ↔ qR r (fun a ε => qR (f a ε) P X) X := by
  cases r with
  | none => exact Iff.rfl
  | some r => cases r <;> exact Iff.rfl
theorem qF_bind {r : Option (R α)} {f : α → TEnv → Option Fl} : qF (bindS r f) nx rt bk ct X ↔ qR r (fun a ε => qF (f a ε) nx rt bk ct X) X := by
  cases r with
  | none => exact Iff.rfl
  | some r => cases r <;> exact Iff.rfl
-- slots
theorem qV_z : qV (some (d, k) :: ε) 0 Q ↔ Q d k := Iff.rfl
theorem qV_s : qV (s :: ε) (i + 1) Q ↔ qV ε i Q := Iff.rfl
theorem qSet_z : qSet (s1' :: ε) 0 s QE ↔ QE (s :: ε) := Iff.rfl
theorem qSet_s : qSet (s1' :: ε) (i + 1) s QE ↔ qSet ε i s (fun ε' => QE (s1' :: ε')) := Iff.rfl
theorem qG_0 {a b c d : Prop} : qG 0 a b c d ↔ a := Iff.rfl
theorem qG_1 {a b c d : Prop} : qG 1 a b c d ↔ b := Iff.rfl
theorem qG_2 {a b c d : Prop} : qG 2 a b c d ↔ c := Iff.rfl
theorem qG_3 {a b c d : Prop} : qG 3 a b c d ↔ d := Iff.rfl
theorem qB_t : qB true A A2 ↔ A := by simp [qB]
theorem qB_f : qB false A A2 ↔ A2 := by simp [qB]
theorem qB_n : qB (!b) A A2 ↔ qB b A2 A := by cases b <;> simp [qB]
theorem qB_d {q : Prop} [Decidable q] : qB (decide q) A A2 ↔ (q → A) ∧ (¬ q → A2) := by simp [qB]
-- expressions
theorem w_cT : qE (cT d ε) P X ↔ P d false ε := Iff.rfl
theorem w_varT : qE (varT i ε) P X ↔ qV ε i fun d k => qG k (P d false ε) (qSet ε i (some (d, 0)) fun ε' => P d false ε') (qSet ε i (some (d, 3)) fun ε' => P d false ε') (P d false ε) := by
  unfold varT qV
  cases q : ε[i]? with
  | none => exact Iff.rfl
  | some s =>
    cases s with
    | none => exact Iff.rfl
    | some x =>
      obtain ⟨d, k⟩ := x
      match k with
      | 0 => exact Iff.rfl
      | 1 => exact Iff.rfl
      | 2 => exact Iff.rfl
      | k + 3 => exact Iff.rfl
theorem qA_nil : qA (evA [] ε) PA X ↔ PA [] ε := Iff.rfl
theorem qA_nm : qA (evA (.nm i :: as) ε) PA X ↔ qV ε i fun _ _ => qA (evA as ε) (fun ads ε1 => PA (.sl i :: ads) ε1) X := by
  unfold qA
  conv => lhs; unfold evA
  unfold qV
  split
  · rename_i s h
    obtain ⟨d, k⟩ := s
    rw [h]
    exact qR_bind
  · rename_i h
    split
    · rename_i d k h'
      exact absurd h' (h _)
    · exact Iff.rfl
theorem qA_ex : qA (evA (.ex g :: as) ε) PA X ↔ qE (g ε) (fun d _ ε1 => qA (evA as ε1) (fun ads ε2 => PA (.tm d :: ads) ε2) X) X := by
  unfold qA qE
  conv => lhs; unfold evA
  rw [qR_bind]
  simp only [qR_bind]
  exact Iff.rfl
theorem qL_nil : qL ε [] QD ↔ QD [] := Iff.rfl
theorem qL_tm : qL ε (.tm d :: ads) QD ↔ qL ε ads fun ds => QD (d :: ds) := by
  unfold qL
  conv => lhs; unfold late
  cases late ε ads <;> exact Iff.rfl
theorem qL_sl : qL ε (.sl i :: ads) QD ↔ qV ε i fun d _ => qL ε ads fun ds => QD (d :: ds) := by
  unfold qL qV
  conv => lhs; unfold late
  cases q : ε[i]? with
  | none => exact Iff.rfl
  | some s =>
    cases s with
    | none => exact Iff.rfl
    | some x => cases late ε ads <;> exact Iff.rfl
theorem qM_nil : qM [] QD ↔ QD [] := Iff.rfl
theorem qM_tm : qM (.tm d :: ads) QD ↔ qM ads fun ds => QD (d :: ds) := by
  unfold qM
  conv => lhs; unfold tms
  cases tms ads <;> exact Iff.rfl
theorem qR_map {o : Option (D × Bool)} : qR (o.map fun x => R.ok x ε) (fun x ε => P x.1 x.2 ε) X ↔ qO o fun d b => P d b ε := by cases o <;> exact Iff.rfl
theorem qR_late : qR (((late ε ads).bind f).map fun x => R.ok x ε1) (fun x ε => P x.1 x.2 ε) X ↔ qL ε ads fun ds => qO (f ds) fun d b => P d b ε1 := by
  unfold qL
  cases late ε ads with
  | none => exact Iff.rfl
  | some ds => exact qR_map (o := f ds)
theorem w_opT : qE (opT f as ε) P X ↔ qA (evA as ε) (fun ads ε1 => qL ε1 ads fun ds => qO (f ds) fun d b => P d b ε1) X := by
  unfold qE opT qA
  rw [qR_bind]
  simp only [qR_late]
theorem qL_n_app {bds : List Ad} : qL ε ([] ++ bds) QD ↔ qL ε bds QD := Iff.rfl
theorem qL_tm_app {bds : List Ad} : qL ε ((.tm d :: ads) ++ bds) QD ↔ qL ε (ads ++ bds) fun ds => QD (d :: ds) := qL_tm
theorem qL_sl_app {bds : List Ad} : qL ε ((.sl i :: ads) ++ bds) QD ↔ qV ε i fun d _ => qL ε (ads ++ bds) fun ds => QD (d :: ds) := qL_sl
theorem qIs_str {z : Str} : qIs isStrD [.str z] A ↔ A := by simp [qIs, isStrD]
theorem qIs_lst : qIs isLstD [.lst xs] A ↔ A := by simp [qIs, isLstD]
theorem w_mthT {isT : D → Bool} : qE (mthT isT f a as ε) P X ↔ qA (evA [a] ε) (fun ads ε1 => qL ε1 ads fun ds => qIs isT ds (qA (evA as ε1) (fun bds ε2 => qL ε2 (ads ++ bds) fun ds => qO (f ds) fun d b => P d b ε2) X)) X := by
  unfold mthT qE
  rw [qR_bind]
  unfold qA
  cases evA [a] ε with
  | none => exact Iff.rfl
  | some r =>
    cases r with
    | ex c d ε1 => exact Iff.rfl
    | ok ads ε1 =>
      show qR (match late ε1 ads with | some [d] => _ | _ => none) _ _ ↔ qL ε1 ads _
      unfold qL
      cases late ε1 ads with
      | none => exact Iff.rfl
      | some ds =>
        match ds with
        | [] => exact Iff.rfl
        | _ :: _ :: _ => exact Iff.rfl
        | [d] =>
          show qR (if isT d = true then _ else none) _ _ ↔ isT d = true ∧ _
          by_cases c : isT d = true
          · rw [if_pos c, qR_bind]
            simp only [qR_late]
            exact ⟨fun h => ⟨c, h⟩, fun h => h.2⟩
          · rw [if_neg c]
            exact ⟨fun h => h.elim, fun h => absurd h.1 c⟩
theorem w_sl3T : qE (sl3T a g gk ε) P X ↔ qA (evA [a] ε) (fun ads ε1 => qE (g ε1) (fun x _ ε2 => qInt x fun i => qE (gk ε2) (fun y _ ε3 => qInt y fun j => qL ε3 ads fun ds => qHd ds fun d => qO (fCut d (some i) (some j)) fun d b => P d b ε3) X) X) X := by
  unfold sl3T qE qA
  rw [qR_bind]
  have e : ∀ (x : D × Bool) (ads : List Ad) (ε2 : TEnv), qR (match x.1 with
      | .int i => bindE (gk ε2) fun y ε3 => match y.1, late ε3 ads with
        | .int j, some [d] => (fCut d (some i) (some j)).map fun u => R.ok u ε3
        | _, _ => none
      | _ => none) (fun x ε => P x.1 x.2 ε) X ↔ qInt x.1 fun i => qR (gk ε2) (fun y ε3 => qInt y.1 fun j => qL ε3 ads fun ds => qHd ds fun d => qO (fCut d (some i) (some j)) fun d b => P d b ε3) X := fun x ads ε2 => by
    obtain ⟨x, b⟩ := x
    cases x with
    | int i =>
      show qR (bindE (gk ε2) _) _ _ ↔ qR (gk ε2) _ _
      rw [qR_bind]
      have e2 : ∀ (y : D × Bool) (ε3 : TEnv), qR (match y.1, late ε3 ads with
        | .int j, some [d] => (fCut d (some i) (some j)).map fun u => R.ok u ε3
        | _, _ => none) (fun x ε => P x.1 x.2 ε) X ↔ qInt y.1 fun j => qL ε3 ads fun ds => qHd ds fun d => qO (fCut d (some i) (some j)) fun d b => P d b ε3 := fun y ε3 => by
        obtain ⟨y, b⟩ := y
        cases y with
        | int j =>
          unfold qL
          show qR (match D.int j, late ε3 ads with | .int j, some [d] => _ | _, _ => none) _ _ ↔ match late ε3 ads with | some ds => _ | none => False
          cases late ε3 ads with
          | none => exact Iff.rfl
          | some ds =>
            match ds with
            | [] => exact Iff.rfl
            | _ :: _ :: _ => exact Iff.rfl
            | [d] => exact qR_map
        | _ => exact Iff.rfl
      simp only [e2]
    | _ => exact Iff.rfl
  cases evA [a] ε with
  | none => exact Iff.rfl
  | some r =>
    cases r with
    | ex c d ε1 => exact Iff.rfl
    | ok ads ε1 =>
      show qR (bindE (g ε1) _) _ _ ↔ qR (g ε1) _ _
      rw [qR_bind]
      cases g ε1 with
      | none => exact Iff.rfl
      | some r =>
        cases r with
        | ex c d ε2 => exact Iff.rfl
        | ok x ε2 => exact e x ads ε2
end
end Tr

namespace Tr
open PySem PySem.Spec PyProof.Rows L2 Md
section
variable {α β : Type} {ε ε1 p p' : TEnv} {i j k n : Nat} {d e : D} {b c : Bool} {s s' : Slot} {P : D → Bool → TEnv → Prop} {X : Str → D → TEnv → Prop} {Q : D → Nat → Prop} {PA : List Ad → TEnv → Prop} {PT : Bool → TEnv → Prop} {g g1 g2 gk ga gb gc : ET} {c1 c2 : GT} {as : List AK} {ads : List Ad} {a a2 : AK}
  {f f2 f' : List D → Option (D × Bool)} {A A2 : Prop} {QD : List D → Prop} {QE : TEnv → Prop} {QB : Bool → Prop} {nx bk ct : TEnv → Prop} {rt : D → Bool → TEnv → Prop} {s1 s2 : ST} {PO : D → Bool → Prop} {ds xs : List D} {F : ET} {gs : List ET} {is : List Nat} {PI : List D → Option Nat → TEnv → Prop} {PL : List (D × Bool) → TEnv → Prop} {t : TgT} {ts : TgTs}
-- tests
theorem qBl_b : qBl (.bl b) QB ↔ QB b := Iff.rfl
theorem w_boolT : qT (boolT g ε) PT X ↔ qE (g ε) (fun d _ ε1 => qBl d fun b => PT b ε1) X := by
  unfold qT boolT qE
  rw [qR_bind]
  cases g ε with
  | none => exact Iff.rfl
  | some r =>
    cases r with
    | ex c d ε2 => exact Iff.rfl
    | ok x ε2 =>
      obtain ⟨x, b⟩ := x
      cases x <;> exact Iff.rfl
theorem qTr_bl : qTr [.bl b] QB ↔ QB b := Iff.rfl
theorem qTr_int {i : Int} : qTr [.int i] QB ↔ QB (i != 0) := Iff.rfl
theorem qTr_lst : qTr [.lst xs] QB ↔ QB (!xs.isEmpty) := Iff.rfl
theorem qTr_tup : qTr [.tup xs] QB ↔ QB (!xs.isEmpty) := Iff.rfl
theorem qTr_non : qTr [.non] QB ↔ QB false := Iff.rfl
theorem qTr_str {z : Str} : qTr [.str z] QB ↔ z.length ≤ most ∧ QB ((z.length : Int) != 0) := by
  unfold qTr truD
  by_cases c : z.length ≤ most <;> simp [c]
theorem w_truT : qT (truT a ε) PT X ↔ qA (evA [a] ε) (fun ads ε1 => qL ε1 ads fun ds => qTr ds fun b => PT b ε1) X := by
  unfold qT truT qA
  rw [qR_bind]
  cases evA [a] ε with
  | none => exact Iff.rfl
  | some r =>
    cases r with
    | ex c d ε2 => exact Iff.rfl
    | ok ads ε2 =>
      show qR (match late ε2 ads with | some [d] => _ | _ => none) _ _ ↔ qL ε2 ads _
      unfold qL
      cases late ε2 ads with
      | none => exact Iff.rfl
      | some ds =>
        match ds with
        | [] => exact Iff.rfl
        | _ :: _ :: _ => exact Iff.rfl
        | [d] =>
          unfold qTr
          show qR ((truD d).map _) _ _ ↔ match [d] with | [d] => _ | _ => False
          dsimp only
          cases truD d <;> exact Iff.rfl
theorem w_notG : qT (notG c1 ε) PT X ↔ qT (c1 ε) (fun b ε1 => PT (!b) ε1) X := by
  unfold qT notG
  rw [qR_bind]
  exact Iff.rfl
theorem w_andG : qT (andG c1 c2 ε) PT X ↔ qT (c1 ε) (fun b ε1 => qB b (qT (c2 ε1) PT X) (PT false ε1)) X := by
  unfold qT andG
  rw [qR_bind]
  cases c1 ε with
  | none => exact Iff.rfl
  | some r =>
    cases r with
    | ex c d ε2 => exact Iff.rfl
    | ok b ε2 => cases b <;> simp [qR, qB]
theorem w_orG : qT (orG c1 c2 ε) PT X ↔ qT (c1 ε) (fun b ε1 => qB b (PT true ε1) (qT (c2 ε1) PT X)) X := by
  unfold qT orG
  rw [qR_bind]
  cases c1 ε with
  | none => exact Iff.rfl
  | some r =>
    cases r with
    | ex c d ε2 => exact Iff.rfl
    | ok b ε2 => cases b <;> simp [qR, qB]
theorem w_yesG : qT (yesG ε) PT X ↔ PT true ε := Iff.rfl
theorem w_ifT : qE (ifT c1 g1 g2 ε) P X ↔ qT (c1 ε) (fun b ε1 => qB b (qE (g1 ε1) P X) (qE (g2 ε1) P X)) X := by
  unfold qT ifT qE
  rw [qR_bind]
  cases c1 ε with
  | none => exact Iff.rfl
  | some r =>
    cases r with
    | ex c d ε2 => exact Iff.rfl
    | ok b ε2 => cases b <;> simp [qR, qB]
theorem w_andT : qE (andT g1 g2 ε) P X ↔ qT (boolT g1 ε) (fun b ε1 => qB b (qE (g2 ε1) P X) (P (.bl false) false ε1)) X := by
  unfold qT andT qE
  rw [qR_bind]
  cases boolT g1 ε with
  | none => exact Iff.rfl
  | some r =>
    cases r with
    | ex c d ε2 => exact Iff.rfl
    | ok b ε2 => cases b <;> simp [qR, qB]
theorem w_orT : qE (orT g1 g2 ε) P X ↔ qT (boolT g1 ε) (fun b ε1 => qB b (P (.bl true) false ε1) (qE (g2 ε1) P X)) X := by
  unfold qT orT qE
  rw [qR_bind]
  cases boolT g1 ε with
  | none => exact Iff.rfl
  | some r =>
    cases r with
    | ex c d ε2 => exact Iff.rfl
    | ok b ε2 => cases b <;> simp [qR, qB]
theorem w_notT : qE (notT a ε) P X ↔ qT (truT a ε) (fun b ε1 => P (.bl (!b)) false ε1) X := by
  unfold qT notT qE
  rw [qR_bind]
  exact Iff.rfl
theorem w_chT : qE (chT f f' ga gb gc ε) P X ↔ qE (ga ε) (fun x _ ε1 => qE (gb ε1) (fun y _ ε2 => qO (f [x, y]) fun u _ => qBl u fun b => qB b (qE (gc ε2) (fun z _ ε3 => qO (f' [y, z]) fun d b => P d b ε3) X) (P (.bl false) false ε2)) X) X := by
  unfold chT qE
  rw [qR_bind]
  cases ga ε with
  | none => exact Iff.rfl
  | some r =>
    cases r with
    | ex c d ε2 => exact Iff.rfl
    | ok x ε1 =>
      show qR (bindE (gb ε1) _) _ _ ↔ qR (gb ε1) _ _
      rw [qR_bind]
      cases gb ε1 with
      | none => exact Iff.rfl
      | some r =>
        cases r with
        | ex c d ε2 => exact Iff.rfl
        | ok y ε2 =>
          unfold qO
          dsimp only [qR]
          cases f [x.1, y.1] with
          | none => exact Iff.rfl
          | some u =>
            obtain ⟨u, b⟩ := u
            cases u with
            | bl b =>
              cases b with
              | false => simp [qBl, qB]
              | true =>
                show qR (bindE (gc ε2) _) (fun (x : D × Bool) ε => P x.1 x.2 ε) X ↔ qBl (.bl true) _
                rw [qR_bind]
                refine Iff.trans (b := qR (gc ε2) (fun z ε3 => qO (f' [y.1, z.1]) fun d b => P d b ε3) X) ?_ (Iff.symm ?_)
                · simp only [qR_map]
                · exact (qB_t : qB true (qR (gc ε2) (fun z ε3 => qO (f' [y.1, z.1]) fun d b => P d b ε3) X) (P (.bl false) false ε2) ↔ _)
            | _ => exact Iff.rfl
-- displays
theorem w_tupT : qE (tupT as ε) P X ↔ qA (evA as ε) (fun ads ε1 => qM ads fun ds => P (.tup ds) false ε1) X := by
  unfold qE tupT dispT qA
  rw [qR_bind]
  have e : ∀ (ads : List Ad) (ε1 : TEnv), qR ((tms ads).map fun ds => R.ok (D.tup ds, false) ε1) (fun x ε => P x.1 x.2 ε) X ↔ qM ads fun ds => P (.tup ds) false ε1 := fun ads ε1 => by
    unfold qM
    cases tms ads <;> exact Iff.rfl
  simp only [e]
theorem w_lstT : qE (lstT as ε) P X ↔ qA (evA as ε) (fun ads ε1 => qM ads fun ds => P (.lst ds) true ε1) X := by
  unfold qE lstT dispT qA
  rw [qR_bind]
  have e : ∀ (ads : List Ad) (ε1 : TEnv), qR ((tms ads).map fun ds => R.ok (D.lst ds, true) ε1) (fun x ε => P x.1 x.2 ε) X ↔ qM ads fun ds => P (.lst ds) true ε1 := fun ads ε1 => by
    unfold qM
    cases tms ads <;> exact Iff.rfl
  simp only [e]
-- calls
end
/-- the slots of a call's parameters, and which are lent -/
def qC (ε : TEnv) (ads : List Ad) (Q : TEnv → List Nat → Prop) [Tg Q] : Prop := match mkP ε ads with
  | some p => Q p (ownIx ε ads)
  | none => False
section
variable {α β : Type} {ε ε1 p p' : TEnv} {i j k n : Nat} {d d' e : D} {b c : Bool} {s s' : Slot} {P : D → Bool → TEnv → Prop} {X : Str → D → TEnv → Prop} {Q : D → Nat → Prop} {QC : TEnv → List Nat → Prop} {PA : List Ad → TEnv → Prop} {PT : Bool → TEnv → Prop} {g g1 g2 gk ga gb gc : ET} {c1 c2 : GT} {as : List AK} {ads : List Ad} {a a2 : AK}
  {f f2 f' : List D → Option (D × Bool)} {A A2 : Prop} {QD : List D → Prop} {QE : TEnv → Prop} {QB : Bool → Prop} {nx bk ct : TEnv → Prop} {rt : D → Bool → TEnv → Prop} {s1 s2 : ST} {PO : D → Bool → Prop} {ds xs : List D} {F : ET} {gs : List ET} {is : List Nat} {PI : List D → Option Nat → TEnv → Prop} {PL : List (D × Bool) → TEnv → Prop} {t : TgT} {ts : TgTs}
theorem qC_nil : qC ε [] QC ↔ QC [] [] := Iff.rfl
theorem qC_tm : qC ε (.tm d :: ads) QC ↔ qC ε ads fun p l => QC (some (d, 0) :: p) l := by
  unfold qC
  have e2 : ownIx ε (.tm d :: ads) = ownIx ε ads := rfl
  rw [e2]
  conv => lhs; unfold mkP
  cases mkP ε ads <;> exact Iff.rfl
theorem qC_sl : qC ε (.sl i :: ads) QC ↔ qV ε i fun d k => qG k (qC ε ads fun p l => QC (some (d, 0) :: p) l) (qC ε ads fun p l => QC (some (d, 2) :: p) (i :: l)) (qC ε ads fun p l => QC (some (d, 2) :: p) (i :: l)) (qC ε ads fun p l => QC (some (d, 0) :: p) l) := by
  unfold qC qV
  have e2 : ownIx ε (.sl i :: ads) = if slOwn ε i = true then i :: ownIx ε ads else ownIx ε ads := rfl
  rw [e2]
  conv => lhs; unfold mkP slOwn
  cases ε[i]? with
  | none => exact Iff.rfl
  | some s =>
    cases s with
    | none => exact Iff.rfl
    | some x =>
      obtain ⟨d, k⟩ := x
      match k with
      | 0 => cases mkP ε ads <;> exact Iff.rfl
      | 1 => cases mkP ε ads <;> exact Iff.rfl
      | 2 => cases mkP ε ads <;> exact Iff.rfl
      | k + 3 => cases mkP ε ads <;> exact Iff.rfl
theorem qU_0 : qU [] A ↔ A := by simp [qU, uniq]
theorem qU_1 : qU [i] A ↔ A := by simp [qU, uniq]
theorem qU_2 : qU [i, j] A ↔ i ≠ j ∧ A := by
  unfold qU
  have e : uniq [i, j] = true ↔ i ≠ j := by simp [uniq]
  rw [e]
theorem qBack_0 : qBack [] p' ε QE ↔ QE ε := Iff.rfl
theorem qBack_tm : qBack (.tm d :: ads) (s' :: p') ε QE ↔ qBack ads p' ε QE := Iff.rfl
theorem back_sl (h : ε[i]? = some (some (d, k))) : back (.sl i :: ads) (s' :: p') ε = back ads p' (if ownF k = true then ε.set i (backS (some (d, k)) s') else ε) := by
  have e : slOwn ε i = ownF k := by unfold slOwn; rw [h]
  show back ads p' (if slOwn ε i = true then ε.set i (backS (ε[i]?.getD none) s') else ε) = _
  rw [e, h]
  rfl
theorem w_callT : qE (callT F as ε) P X ↔ qA (evA as ε) (fun ads ε1 => qC ε1 ads fun p l => qU l (qE (F p) (fun d b p' => qBack ads p' ε1 fun ε2 => P d b ε2) (fun c d p' => qBack ads p' ε1 fun ε2 => X c d ε2))) X := by
  unfold qE callT qA
  rw [qR_bind]
  cases evA as ε with
  | none => exact Iff.rfl
  | some r =>
    cases r with
    | ex c d ε2 => exact Iff.rfl
    | ok ads ε1 =>
      unfold qC
      dsimp only [qR]
      cases mkP ε1 ads with
      | none => exact Iff.rfl
      | some p =>
        unfold qU
        dsimp only
        by_cases u : uniq (ownIx ε1 ads) = true
        · rw [if_pos u]
          refine Iff.trans ?_ (Iff.symm (and_iff_right u))
          cases F p with
          | none => exact Iff.rfl
          | some r => cases r <;> exact Iff.rfl
        · rw [if_neg u]
          exact ⟨fun h => h.elim, fun h => absurd h.1 u⟩
-- statements
theorem w_seqT : qF (seqT s1 s2 ε) nx rt bk ct X ↔ qF (s1 ε) (fun ε1 => qF (s2 ε1) nx rt bk ct X) rt bk ct X := by
  unfold qF seqT
  cases s1 ε with
  | none => exact Iff.rfl
  | some r => cases r <;> exact Iff.rfl
theorem w_nilT : qF (nilT ε) nx rt bk ct X ↔ nx ε := Iff.rfl
theorem w_ifS : qF (ifS c1 s1 s2 ε) nx rt bk ct X ↔ qT (c1 ε) (fun b ε1 => qB b (qF (s1 ε1) nx rt bk ct X) (qF (s2 ε1) nx rt bk ct X)) X := by
  unfold ifS qT
  rw [qF_bind]
  cases c1 ε with
  | none => exact Iff.rfl
  | some r =>
    cases r with
    | ex c d ε2 => exact Iff.rfl
    | ok b ε2 => cases b <;> simp [qR, qB]
theorem w_dropT : qF (dropT g ε) nx rt bk ct X ↔ qE (g ε) (fun _ _ ε1 => nx ε1) X := by
  unfold dropT qE
  rw [qF_bind]
  exact Iff.rfl
theorem w_retT : qF (retT g ε) nx rt bk ct X ↔ qE (g ε) (fun d b ε1 => rt d b ε1) X := by
  unfold retT qE
  rw [qF_bind]
  exact Iff.rfl
theorem w_retN : qF (retN i ε) nx rt bk ct X ↔ qV ε i fun d k => qG k (rt d false ε) (qSet ε i none fun ε' => rt d true ε') (qSet ε i (some (d, 3)) fun ε' => rt d false ε') (rt d false ε) := by
  unfold retN qV
  cases h : ε[i]? with
  | none =>
    show qF (retT (varT i) ε) nx rt bk ct X ↔ False
    rw [w_retT, w_varT]
    unfold qV
    rw [h]
  | some s =>
    cases s with
    | none =>
      show qF (retT (varT i) ε) nx rt bk ct X ↔ False
      rw [w_retT, w_varT]
      unfold qV
      rw [h]
    | some x =>
      obtain ⟨d, k⟩ := x
      match k with
      | 0 =>
        show qF (retT (varT i) ε) nx rt bk ct X ↔ _
        rw [w_retT, w_varT]
        unfold qV
        rw [h]
        exact Iff.rfl
      | 1 => exact Iff.rfl
      | 2 =>
        show qF (retT (varT i) ε) nx rt bk ct X ↔ _
        rw [w_retT, w_varT]
        unfold qV
        rw [h]
        exact Iff.rfl
      | k + 3 =>
        show qF (retT (varT i) ε) nx rt bk ct X ↔ _
        rw [w_retT, w_varT]
        unfold qV
        rw [h]
        exact Iff.rfl
theorem w_setT : qF (setT i g ε) nx rt bk ct X ↔ qE (g ε) (fun d b ε1 => qPut ε1 i d b nx) X := by
  unfold setT qE
  rw [qF_bind]
  have e : ∀ (x : D × Bool) (ε1 : TEnv), qF ((putS ε1 i x).map .nx) nx rt bk ct X ↔ qPut ε1 i x.1 x.2 nx := fun x ε1 => by
    unfold qPut
    cases putS ε1 i x <;> exact Iff.rfl
  simp only [e]
theorem qPut_s : qPut (s :: ε) (i + 1) d b QE ↔ qPut ε i d b fun ε' => QE (s :: ε') := by
  unfold qPut putS
  have e : canSet (s :: ε) (i + 1) = canSet ε i := rfl
  rw [e]
  by_cases c : canSet ε i = true
  · rw [if_pos c, if_pos c]
    exact Iff.rfl
  · rw [if_neg c, if_neg c]
theorem qPut_n0 : qPut (none :: ε) 0 d false QE ↔ QE (some (d, 0) :: ε) := by simp [qPut, putS, canSet]
theorem qPut_n1 : qPut (none :: ε) 0 d true QE ↔ QE (some (d, 1) :: ε) := by simp [qPut, putS, canSet]
theorem qPut_s00 : qPut (some (e, 0) :: ε) 0 d false QE ↔ QE (some (d, 0) :: ε) := by simp [qPut, putS, canSet]
theorem qPut_s01 : qPut (some (e, 0) :: ε) 0 d true QE ↔ QE (some (d, 1) :: ε) := by simp [qPut, putS, canSet]
theorem qPut_s10 : qPut (some (e, 1) :: ε) 0 d false QE ↔ QE (some (d, 0) :: ε) := by simp [qPut, putS, canSet]
theorem qPut_s11 : qPut (some (e, 1) :: ε) 0 d true QE ↔ QE (some (d, 1) :: ε) := by simp [qPut, putS, canSet]
theorem w_asgT : qF (asgT t g ε) nx rt bk ct X ↔ qE (g ε) (fun d _ ε1 => qOpt (bindG t d ε1) nx) X := by
  unfold asgT qE
  rw [qF_bind]
  have e : ∀ (x : D × Bool) (ε1 : TEnv), qF ((bindG t x.1 ε1).map .nx) nx rt bk ct X ↔ qOpt (bindG t x.1 ε1) nx := fun x ε1 => by
    unfold qOpt
    cases bindG t x.1 ε1 <;> exact Iff.rfl
  simp only [e]
theorem qBG_nm : qOpt (bindG (.nm i) d ε) QE ↔ qPut ε i d false QE := by
  unfold qPut putS bindG
  by_cases c : canSet ε i = true
  · rw [if_pos c, if_pos c]; exact Iff.rfl
  · rw [if_neg c, if_neg c]; exact Iff.rfl
theorem qBG_tt : qOpt (bindG (.tp ts) (.tup ds) ε) QE ↔ qOpt (bindGs ts ds ε) QE := by unfold bindG; exact Iff.rfl
theorem qBG_tl : qOpt (bindG (.tp ts) (.lst ds) ε) QE ↔ qOpt (bindGs ts ds ε) QE := by unfold bindG; exact Iff.rfl
theorem qBGs_nil : qOpt (bindGs .nil [] ε) QE ↔ QE ε := by unfold bindGs; exact Iff.rfl
theorem qBGs_cons : qOpt (bindGs (.cons t ts) (d :: ds) ε) QE ↔ qOpt (bindG t d ε) fun ε1 => qOpt (bindGs ts ds ε1) QE := by
  conv => lhs; unfold bindGs
  cases bindG t d ε <;> exact Iff.rfl
theorem w_parT : qF (parT is gs ε) nx rt bk ct X ↔ qEs (evF gs ε) (fun xs ε1 => qOpt (putL is xs ε1) nx) X := by
  unfold parT qEs
  rw [qF_bind]
  have e : ∀ (xs : List (D × Bool)) (ε1 : TEnv), qF ((putL is xs ε1).map .nx) nx rt bk ct X ↔ qOpt (putL is xs ε1) nx := fun xs ε1 => by
    unfold qOpt
    cases putL is xs ε1 <;> exact Iff.rfl
  simp only [e]
theorem qEs_nil : qEs (evF [] ε) PL X ↔ PL [] ε := Iff.rfl
theorem qEs_cons : qEs (evF (g :: gs) ε) PL X ↔ qE (g ε) (fun d b ε1 => qEs (evF gs ε1) (fun xs ε2 => PL ((d, b) :: xs) ε2) X) X := by
  unfold qEs qE
  conv => lhs; unfold evF
  rw [qR_bind]
  simp only [qR_bind]
  exact Iff.rfl
theorem qPL_nil : qOpt (putL [] [] ε) QE ↔ QE ε := Iff.rfl
theorem qPL_cons {xs : List (D × Bool)} : qOpt (putL (i :: is) ((d, b) :: xs) ε) QE ↔ qPut ε i d b fun ε1 => qOpt (putL is xs ε1) QE := by
  conv => lhs; unfold putL
  unfold qPut
  cases putS ε i (d, b) <;> exact Iff.rfl
end
end Tr

namespace Tr
open PySem PySem.Spec PyProof.Rows L2 Md
section
variable {α β : Type} {ε ε1 p p' : TEnv} {i j k n : Nat} {d d' e x y z : D} {b c : Bool} {s s' : Slot} {P : D → Bool → TEnv → Prop} {X : Str → D → TEnv → Prop} {Q : D → Nat → Prop} {PA : List Ad → TEnv → Prop} {PT : Bool → TEnv → Prop} {g g1 g2 gk ga gb gc : ET} {c1 c2 : GT} {as : List AK} {ads : List Ad} {a a2 : AK}
  {f f2 f' : List D → Option (D × Bool)} {A A2 : Prop} {QD : List D → Prop} {QE : TEnv → Prop} {QB : Bool → Prop} {nx bk ct : TEnv → Prop} {rt : D → Bool → TEnv → Prop} {s1 s2 : ST} {PO : D → Bool → Prop} {ds xs ys : List D} {F : ET} {gs : List ET} {is : List Nat} {PI : List D → Option Nat → TEnv → Prop} {PL : List (D × Bool) → TEnv → Prop} {t : TgT} {ts : TgTs} {l m r : Int} {u w : Str} {it : IT} {body : ST} {src : Option (Nat × D)}
-- operations
theorem qO_ite {q : Prop} [Decidable q] : qO (if q then some (d, b) else none) PO ↔ q ∧ PO d b := by
  by_cases c : q <;> simp [c, qO]
theorem qO_add_i : qO (fAdd [.int l, .int m]) PO ↔ PO (.int (l + m)) false := Iff.rfl
theorem qO_add_s : qO (fAdd [.str u, .str w]) PO ↔ u.length + w.length ≤ most ∧ PO (.str (u ++ w)) false := by
  unfold fAdd; by_cases c : u.length + w.length ≤ most <;> simp [c, qO]
theorem qO_add_l : qO (fAdd [.lst xs, .lst ys]) PO ↔ xs.length + ys.length ≤ most ∧ PO (.lst (xs ++ ys)) true := by
  unfold fAdd; by_cases c : xs.length + ys.length ≤ most <;> simp [c, qO]
theorem qO_add_t : qO (fAdd [.tup xs, .tup ys]) PO ↔ xs.length + ys.length ≤ most ∧ PO (.tup (xs ++ ys)) false := by
  unfold fAdd; by_cases c : xs.length + ys.length ≤ most <;> simp [c, qO]
theorem qO_sub : qO (fSub [.int l, .int m]) PO ↔ PO (.int (l - m)) false := Iff.rfl
theorem qO_mul : qO (fMul [.int l, .int m]) PO ↔ (wideI l ∧ wideI m) ∧ PO (.int (l * m)) false := qO_ite
theorem qO_div : qO (fDiv [.int l, .int m]) PO ↔ (0 < m ∧ wideI m) ∧ PO (.int (l / m)) false := qO_ite
theorem qO_mod : qO (fMod [.int l, .int m]) PO ↔ 0 < m ∧ PO (.int (l % m)) false := qO_ite
theorem qO_pow : qO (fPow [.int l, .int m]) PO ↔ ((0 ≤ m ∧ m ≤ 10 ∧ l.natAbs < 2 ^ 200) ∨ (0 ≤ m ∧ m ≤ 1000000 ∧ l.natAbs < 2 ^ 64)) ∧ PO (.int (l ^ m.toNat)) false := qO_ite
theorem qO_neg : qO (fNeg [.int l]) PO ↔ PO (.int (-l)) false := Iff.rfl
theorem qO_lt : qO (fLt [.int l, .int m]) PO ↔ PO (.bl (decide (l < m))) false := Iff.rfl
theorem qO_le : qO (fLe [.int l, .int m]) PO ↔ PO (.bl (decide (l ≤ m))) false := Iff.rfl
theorem qO_gt : qO (fGt [.int l, .int m]) PO ↔ PO (.bl (decide (m < l))) false := Iff.rfl
theorem qO_ge : qO (fGe [.int l, .int m]) PO ↔ PO (.bl (decide (m ≤ l))) false := Iff.rfl
theorem shaped_int (l : Int) : SeqAt.shaped (.int l) = true := by unfold SeqAt.shaped; simp [PyData.canLay0, PyData.depth]
theorem eqv_int (l m : Int) : PyData.eqv (.int l) (.int m) = decide (l = m) := by
  simp only [PyData.eqv]
  rw [Bool.eq_iff_iff]
  simp
theorem qO_eq_i : qO (fEq [.int l, .int m]) PO ↔ PO (.bl (decide (l = m))) false := by
  unfold fEq toP
  simp [shaped_int, qO, eqv_int]
theorem qO_ne_i : qO (fNe [.int l, .int m]) PO ↔ PO (.bl (!decide (l = m))) false := by
  unfold fNe toP
  simp [shaped_int, qO, eqv_int]
theorem qO_int_i : qO (fInt [.int l]) PO ↔ PO (.int l) false := Iff.rfl
theorem qO_int_b : qO (fInt [.bl b]) PO ↔ PO (.int (if b = true then 1 else 0)) false := Iff.rfl
theorem qO_abs : qO (fAbs [.int l]) PO ↔ PO (.int (if l < 0 then -l else l)) false := Iff.rfl
theorem qO_max : qO (fMax [.int l, .int m]) PO ↔ PO (.int (if m > l then m else l)) false := Iff.rfl
theorem qO_min : qO (fMin [.int l, .int m]) PO ↔ PO (.int (if m < l then m else l)) false := Iff.rfl
theorem qO_len_l : qO (fLen [.lst xs]) PO ↔ PO (.int xs.length) false := Iff.rfl
theorem qO_len_t : qO (fLen [.tup xs]) PO ↔ PO (.int xs.length) false := Iff.rfl
theorem qO_len_s : qO (fLen [.str u]) PO ↔ u.length ≤ most ∧ PO (.int u.length) false := by
  unfold fLen; by_cases c : u.length ≤ most <;> simp [c, qO]
theorem qO_list_l : qO (fList [.lst xs]) PO ↔ PO (.lst xs) true := Iff.rfl
theorem qO_list_t : qO (fList [.tup xs]) PO ↔ PO (.lst xs) true := Iff.rfl
theorem qO_tup_l : qO (fTuple [.lst xs]) PO ↔ PO (.tup xs) false := Iff.rfl
theorem qO_tup_t : qO (fTuple [.tup xs]) PO ↔ PO (.tup xs) false := Iff.rfl
theorem atI_nat' {α : Type} {xs : List α} {i : Nat} {x : α} (h : xs[i]? = some x) : atI xs (i : Nat) = some x := by
  have l := (List.getElem?_eq_some_iff.mp h).1
  unfold atI ixN
  rw [if_pos (by omega), if_pos (by omega)]
  simpa using h
theorem qO_ixl_0 : qO (fIx [.lst (x :: xs), .int 0]) PO ↔ PO x false := by
  show qO ((atI (x :: xs) ((0 : Nat) : Int)).map _) _ ↔ _
  rw [atI_nat' (i := 0) (x := x) rfl]; exact Iff.rfl
theorem qO_ixl_1 : qO (fIx [.lst (x :: y :: xs), .int 1]) PO ↔ PO y false := by
  show qO ((atI (x :: y :: xs) ((1 : Nat) : Int)).map _) _ ↔ _
  rw [atI_nat' (i := 1) (x := y) rfl]; exact Iff.rfl
theorem qO_ixl_2 : qO (fIx [.lst (x :: y :: z :: xs), .int 2]) PO ↔ PO z false := by
  show qO ((atI (x :: y :: z :: xs) ((2 : Nat) : Int)).map _) _ ↔ _
  rw [atI_nat' (i := 2) (x := z) rfl]; exact Iff.rfl
theorem qO_ixt_0 : qO (fIx [.tup (x :: xs), .int 0]) PO ↔ PO x false := by
  show qO ((atI (x :: xs) ((0 : Nat) : Int)).map _) _ ↔ _
  rw [atI_nat' (i := 0) (x := x) rfl]; exact Iff.rfl
theorem qO_ixt_1 : qO (fIx [.tup (x :: y :: xs), .int 1]) PO ↔ PO y false := by
  show qO ((atI (x :: y :: xs) ((1 : Nat) : Int)).map _) _ ↔ _
  rw [atI_nat' (i := 1) (x := y) rfl]; exact Iff.rfl
theorem qO_ixt_2 : qO (fIx [.tup (x :: y :: z :: xs), .int 2]) PO ↔ PO z false := by
  show qO ((atI (x :: y :: z :: xs) ((2 : Nat) : Int)).map _) _ ↔ _
  rw [atI_nat' (i := 2) (x := z) rfl]; exact Iff.rfl
theorem qO_ixl {i : Nat} (h : xs[i]? = some x) : qO (fIx [.lst xs, .int i]) PO ↔ PO x false := by
  show qO ((atI xs i).map _) _ ↔ _
  rw [atI_nat' h]; exact Iff.rfl
-- stores
theorem w_storeT : qF (storeT i gk g ε) nx rt bk ct X ↔ qE (g ε) (fun x _ ε1 => slOwn ε1 i = true ∧ qE (gk ε1) (fun y _ ε2 => qV ε2 i fun d k => ownF k = true ∧ qLst d fun ds => qSt ds y x fun ds' => qSet ε2 i (some (.lst ds', k)) nx) X) X := by
  unfold storeT qE
  rw [qF_bind]
  cases g ε with
  | none => exact Iff.rfl
  | some r =>
    cases r with
    | ex c d ε2 => exact Iff.rfl
    | ok x ε1 =>
      dsimp only [qR]
      by_cases o : slOwn ε1 i = true
      · rw [if_pos o, qF_bind]
        refine Iff.trans ?_ (Iff.symm (and_iff_right o))
        cases gk ε1 with
        | none => exact Iff.rfl
        | some r =>
          cases r with
          | ex c d ε2 => exact Iff.rfl
          | ok y ε2 =>
            dsimp only [qR]
            unfold qV
            cases ε2[i]? with
            | none => exact Iff.rfl
            | some s =>
              cases s with
              | none => exact Iff.rfl
              | some q =>
                obtain ⟨d, k⟩ := q
                obtain ⟨y, b⟩ := y
                cases d with
                | lst ds =>
                  cases y with
                  | int j =>
                    dsimp only [qLst, qSt]
                    by_cases ok : ownF k = true
                    · rw [if_pos ok]
                      refine Iff.trans ?_ (Iff.symm (and_iff_right ok))
                      cases ixN ds.length j <;> exact Iff.rfl
                    · rw [if_neg ok]
                      exact ⟨fun h => h.elim, fun h => absurd h.1 ok⟩
                  | _ => exact ⟨fun h => h.elim, fun h => h.2.elim⟩
                | _ => exact ⟨fun h => h.elim, fun h => h.2.elim⟩
      · rw [if_neg o]
        exact ⟨fun h => h.elim, fun h => absurd h.1 o⟩
theorem slOwn_z : slOwn (some (d, k) :: ε) 0 = ownF k := rfl
theorem slOwn_s : slOwn (s :: ε) (i + 1) = slOwn ε i := rfl
theorem ownF_1 : (ownF 1 = true) = True := by simp [ownF]
theorem ownF_2 : (ownF 2 = true) = True := by simp [ownF]
theorem qLst_l : qLst (.lst xs) QD ↔ QD xs := Iff.rfl
theorem qSt_nat {i : Nat} (h : i < xs.length) : qSt xs (.int i) x QD ↔ QD (xs.set i x) := by
  unfold qSt ixN
  simp [h]
theorem qSt_0 : qSt (y :: xs) (.int 0) x QD ↔ QD (x :: xs) := qSt_nat (i := 0) (by rw [List.length_cons]; omega)
theorem qSt_1 : qSt (y :: z :: xs) (.int 1) x QD ↔ QD (y :: x :: xs) := qSt_nat (i := 1) (by rw [List.length_cons, List.length_cons]; omega)
theorem qSt_2 : qSt (y :: z :: d :: xs) (.int 2) x QD ↔ QD (y :: z :: x :: xs) := qSt_nat (i := 2) (by rw [List.length_cons, List.length_cons, List.length_cons]; omega)
-- changing methods
theorem w_mutT {h : List D → List D → Option (List D × D)} : qE (mutT h i as ε) P X ↔ qV ε i fun d0 k0 => ownF k0 = true ∧ qLst d0 fun _ => qA (evA as ε) (fun ads ε1 => qV ε1 i fun d k => qLst d fun cs => qM ads fun ds => ownF k = true ∧ qMu (h cs ds) fun cs' r => qSet ε1 i (some (.lst cs', k)) fun ε2 => P r false ε2) X := by
  unfold mutT qV
  cases ε[i]? with
  | none => exact Iff.rfl
  | some s =>
    cases s with
    | none => exact Iff.rfl
    | some q =>
      obtain ⟨d, k0⟩ := q
      cases d with
      | lst cs0 =>
        dsimp only [qLst]
        by_cases ok : ownF k0 = true
        · rw [if_pos ok]
          refine Iff.trans ?_ (Iff.symm (and_iff_right ok))
          unfold qE qA
          rw [qR_bind]
          cases evA as ε with
          | none => exact Iff.rfl
          | some r =>
            cases r with
            | ex c d ε2 => exact Iff.rfl
            | ok ads ε1 =>
              dsimp only [qR]
              unfold qM
              cases ε1[i]? with
              | none => exact Iff.rfl
              | some s =>
                cases s with
                | none => exact Iff.rfl
                | some q =>
                  obtain ⟨d, k⟩ := q
                  cases d with
                  | lst cs =>
                    dsimp only
                    cases tms ads with
                    | none => exact Iff.rfl
                    | some ds =>
                      dsimp only
                      by_cases o : ownF k = true
                      · rw [if_pos o]
                        refine Iff.trans ?_ (Iff.symm (and_iff_right o))
                        cases h cs ds <;> exact Iff.rfl
                      · rw [if_neg o]
                        exact ⟨fun h => h.elim, fun h => absurd h.1 o⟩
                  | _ => cases tms ads <;> exact Iff.rfl
        · rw [if_neg ok]
          exact ⟨fun h => h.elim, fun h => absurd h.1 ok⟩
      | _ => exact ⟨fun h => h.elim, fun h => h.2.elim⟩
theorem qMu_app {Q : List D → D → Prop} : qMu (fAppend xs [d]) Q ↔ xs.length ≤ most ∧ Q (xs ++ [d]) .non := by
  unfold fAppend qMu; by_cases c : xs.length ≤ most <;> simp [c]
-- defs
theorem qE_defT {N : Nat} {g : ST} : qE (defT n N g p) P X ↔ p.length = n ∧ okP p = true ∧ qF (g (p ++ List.replicate (N - n) none)) (fun ε' => P .non false (finP p ε')) (fun d b ε' => P d b (finP p ε')) (fun _ => False) (fun _ => False) (fun c d ε' => X c d (finP p ε')) := by
  unfold defT qE
  by_cases c : p.length = n ∧ okP p = true
  · rw [if_pos c]
    unfold endF
    refine Iff.trans ?_ (Iff.symm (and_iff_right c.1))
    refine Iff.trans ?_ (Iff.symm (and_iff_right c.2))
    cases g (p ++ List.replicate (N - n) none) with
    | none => exact Iff.rfl
    | some r => cases r <;> exact Iff.rfl
  · rw [if_neg c]
    exact ⟨fun h => h.elim, fun h => absurd ⟨h.1, h.2.1⟩ c⟩
-- iterators
def qRn (d : D) (Q : List D → Prop) [Tg Q] : Prop := match d with
  | .int j => midI j ∧ Q (rngD 0 j.toNat)
  | _ => False
def qRn2 (d e : D) (Q : List D → Prop) [Tg Q] : Prop := match d, e with
  | .int i, .int j => (midI i ∧ midI j) ∧ Q (rngD i (j - i).toNat)
  | _, _ => False
theorem qRn_i {l : Int} : qRn (.int l) QD ↔ midI l ∧ QD (rngD 0 l.toNat) := Iff.rfl
theorem qRn2_i : qRn2 (.int l) (.int m) QD ↔ (midI l ∧ midI m) ∧ QD (rngD l (m - l).toNat) := Iff.rfl
theorem w_rng1 : qI (itRng1 a ε) PI X ↔ qA (evA [a] ε) (fun ads ε1 => qL ε1 ads fun ds => qHd ds fun d => qRn d fun xs => PI xs none ε1) X := by
  unfold itRng1 qI qA
  rw [qR_bind]
  cases evA [a] ε with
  | none => exact Iff.rfl
  | some r =>
    cases r with
    | ex c d ε2 => exact Iff.rfl
    | ok ads ε1 =>
      dsimp only [qR]
      unfold qL
      cases late ε1 ads with
      | none => exact Iff.rfl
      | some ds =>
        match ds with
        | [] => exact Iff.rfl
        | d :: _ :: _ => cases d <;> exact Iff.rfl
        | [d] =>
          cases d with
          | int j =>
            dsimp only [qHd, qRn]
            by_cases c : midI j
            · rw [if_pos c]; exact Iff.symm (and_iff_right c)
            · rw [if_neg c]; exact ⟨fun h => h.elim, fun h => absurd h.1 c⟩
          | _ => exact Iff.rfl
def qHd2 (ds : List D) (Q : D → D → Prop) [Tg Q] : Prop := match ds with
  | [d, e] => Q d e
  | _ => False
theorem w_rng2 : qI (itRng2 a a2 ε) PI X ↔ qA (evA [a, a2] ε) (fun ads ε1 => qL ε1 ads fun ds => qHd2 ds fun d e => qRn2 d e fun xs => PI xs none ε1) X := by
  unfold itRng2 qI qA
  rw [qR_bind]
  cases evA [a, a2] ε with
  | none => exact Iff.rfl
  | some r =>
    cases r with
    | ex c d ε2 => exact Iff.rfl
    | ok ads ε1 =>
      dsimp only [qR]
      unfold qL
      cases late ε1 ads with
      | none => exact Iff.rfl
      | some ds =>
        match ds with
        | [] => exact Iff.rfl
        | [d] => cases d <;> exact Iff.rfl
        | d :: e :: _ :: _ => cases d <;> first | exact Iff.rfl | (cases e <;> exact Iff.rfl)
        | [d, e] =>
          cases d with
          | int i =>
            cases e with
            | int j =>
              dsimp only [qHd2, qRn2]
              by_cases c : midI i ∧ midI j
              · rw [if_pos c]; exact Iff.symm (and_iff_right c)
              · rw [if_neg c]; exact ⟨fun h => h.elim, fun h => absurd h.1 c⟩
            | _ => exact Iff.rfl
          | _ => exact Iff.rfl
theorem qHd_1 {Q : D → Prop} : qHd [d] Q ↔ Q d := Iff.rfl
theorem qHd2_1 {Q : D → D → Prop} : qHd2 [d, e] Q ↔ Q d e := Iff.rfl
theorem qSeq_l {s : Option Nat} {Q : List D → Option Nat → Prop} : qSeq [.lst xs] s Q ↔ Q xs s := Iff.rfl
theorem qSeq_t {s : Option Nat} {Q : List D → Option Nat → Prop} : qSeq [.tup xs] s Q ↔ Q xs none := Iff.rfl
theorem qSeq_s {s : Option Nat} {u : Str} {Q : List D → Option Nat → Prop} : qSeq [.str u] s Q ↔ Q (u.cps.toList.map fun c => D.str ⟨#[c]⟩) none := Iff.rfl
theorem w_seq : qI (itSeq a ε) PI X ↔ qA (evA [a] ε) (fun ads ε1 => qL ε1 ads fun ds => qSeq ds (srcOf a) fun xs s => PI xs s ε1) X := by
  unfold itSeq qI qA
  rw [qR_bind]
  cases evA [a] ε with
  | none => exact Iff.rfl
  | some r =>
    cases r with
    | ex c d ε2 => exact Iff.rfl
    | ok ads ε1 =>
      dsimp only [qR]
      unfold qL
      cases late ε1 ads with
      | none => exact Iff.rfl
      | some ds =>
        match ds with
        | [] => exact Iff.rfl
        | d :: _ :: _ => cases d <;> exact Iff.rfl
        | [d] => cases d <;> exact Iff.rfl
theorem w_enum : qI (itEnum a ε) PI X ↔ qA (evA [a] ε) (fun ads ε1 => qL ε1 ads fun ds => qHd ds fun d => qLst d fun xs => PI (enumD 0 xs) (srcOf a) ε1) X := by
  unfold itEnum qI qA
  rw [qR_bind]
  cases evA [a] ε with
  | none => exact Iff.rfl
  | some r =>
    cases r with
    | ex c d ε2 => exact Iff.rfl
    | ok ads ε1 =>
      dsimp only [qR]
      unfold qL
      cases late ε1 ads with
      | none => exact Iff.rfl
      | some ds =>
        match ds with
        | [] => exact Iff.rfl
        | d :: _ :: _ => cases d <;> exact Iff.rfl
        | [d] => cases d <;> exact Iff.rfl
theorem srcOf_nm : srcOf (.nm i) = some i := rfl
theorem srcOf_ex : srcOf (.ex g) = none := rfl
-- loops
/-- a loop over these items -/
def qLp (t : TgT) (body : ST) (src : Option (Nat × D)) (xs : List D) (ε : TEnv) (nx : TEnv → Prop) (rt : D → Bool → TEnv → Prop) (X : Str → D → TEnv → Prop) [Tg nx] [Tg rt] : Prop := qF (loopF t body src xs ε) nx rt (fun _ => False) (fun _ => False) X
def qFor (s : Option Nat) (t : TgT) (body : ST) (xs : List D) (ε : TEnv) (nx : TEnv → Prop) (rt : D → Bool → TEnv → Prop) (X : Str → D → TEnv → Prop) [Tg nx] [Tg rt] : Prop := match s with
  | none => qLp t body none xs ε nx rt X
  | some i => qV ε i fun d k => qG k (qLp t body none xs ε nx rt X) (qSet ε i (some (d, 2)) fun ε' => qLp t body (some (i, d)) xs ε' (fun ε2 => qV ε2 i fun d2 k2 => qG k2 (nx ε2) (nx ε2) (qSet ε2 i (some (d2, 1)) nx) (nx ε2)) rt X) (qLp t body (some (i, d)) xs ε nx rt X) (qLp t body none xs ε nx rt X)
theorem loopF_bk : ∀ {xs : List D} {ε : TEnv} {r : Fl}, loopF t body src xs ε = some r → (∀ ε', r ≠ .bk ε') ∧ ∀ ε', r ≠ .ct ε'
  | [], ε, r, h => by cases h; exact ⟨fun _ => nofun, fun _ => nofun⟩
  | d :: ds, ε, r, h => by
    unfold loopF at h
    split at h
    · cases h
    · split at h
      · split at h
        · exact loopF_bk h
        · cases h
      · split at h
        · exact loopF_bk h
        · cases h
      · cases h
        exact ⟨fun _ => nofun, fun _ => nofun⟩
      · rename_i h1 h2 h3
        exact ⟨fun ε' e => h3 ε' (e ▸ h), fun ε' e => h2 ε' (e ▸ h)⟩
theorem qF_loop {nx bk' ct' : TEnv → Prop} : qF (loopF t body src xs ε) nx rt bk' ct' X ↔ qLp t body src xs ε nx rt X := by
  unfold qLp
  cases q : loopF t body src xs ε with
  | none => exact Iff.rfl
  | some r =>
    obtain ⟨h1, h2⟩ := loopF_bk q
    cases r with
    | bk ε' => exact absurd rfl (h1 ε')
    | ct ε' => exact absurd rfl (h2 ε')
    | _ => exact Iff.rfl
theorem qF_unF {nx bk' ct' : TEnv → Prop} : qF (unF i (loopF t body src xs ε)) nx rt bk' ct' X ↔ qLp t body src xs ε (fun ε2 => qF (unF i (some (.nx ε2))) nx rt bk' ct' X) rt X := by
  unfold qLp
  cases q : loopF t body src xs ε with
  | none => exact Iff.rfl
  | some r =>
    obtain ⟨h1, h2⟩ := loopF_bk q
    cases r with
    | bk ε' => exact absurd rfl (h1 ε')
    | ct ε' => exact absurd rfl (h2 ε')
    | _ => exact Iff.rfl
theorem qLp_mono {nx nx' : TEnv → Prop} (m : ∀ ε, nx ε → nx' ε) (h : qLp t body src xs ε nx rt X) : qLp t body src xs ε nx' rt X := by
  unfold qLp qF at *
  revert h
  cases loopF t body src xs ε with
  | none => exact id
  | some r => cases r <;> first | exact m _ | exact id
theorem unF_fit {nx bk' ct' : TEnv → Prop} {ε2 : TEnv} (h : qV ε2 i fun d2 k2 => qG k2 (nx ε2) (nx ε2) (qSet ε2 i (some (d2, 1)) nx) (nx ε2)) : qF (unF i (some (.nx ε2))) nx rt bk' ct' X := by
  unfold qV at h
  unfold unF
  dsimp only
  cases q : ε2[i]? with
  | none => rw [q] at h; exact h.elim
  | some s =>
    rw [q] at h
    cases s with
    | none => exact h.elim
    | some x =>
      obtain ⟨d, k⟩ := x
      match k with
      | 0 => exact h
      | 1 => exact h
      | 2 => exact h
      | k + 3 => exact h
theorem w_forT (h : qI (it ε) (fun xs s ε1 => qFor s t body xs ε1 nx rt X) X) : qF (forT it t body ε) nx rt bk ct X := by
  unfold forT
  rw [qF_bind]
  unfold qI at h
  revert h
  cases it ε with
  | none => exact id
  | some r =>
    cases r with
    | ex c d ε2 => exact id
    | ok x ε1 =>
      obtain ⟨xs, s⟩ := x
      dsimp only [qR]
      cases s with
      | none => exact fun h => qF_loop.mpr h
      | some i =>
        dsimp only [qFor]
        unfold qV
        cases ε1[i]? with
        | none => exact fun h => h.elim
        | some s =>
          cases s with
          | none => exact fun h => h.elim
          | some x =>
            obtain ⟨d, k⟩ := x
            match k with
            | 0 => exact fun h => qF_loop.mpr h
            | 1 => exact fun h => qF_unF.mpr (qLp_mono (fun ε2 z => unF_fit z) h)
            | 2 => exact fun h => qF_loop.mpr h
            | k + 3 => exact fun h => qF_loop.mpr h
open Classical in
/-- THE RULE for a loop: what holds before each turn -/
theorem qLp_ind (I : Nat → TEnv → Prop) : ∀ {xs : List D} {ε : TEnv} (m : Nat), I m ε →
    (∀ (i : Nat) (d : D) (ε : TEnv), xs[i]? = some d → I (m + i) ε → qOpt (bindG t d ε) fun ε1 => qF (body ε1) (fun ε2 => chkS src ε2 ∧ I (m + i + 1) ε2) rt nx (fun ε2 => chkS src ε2 ∧ I (m + i + 1) ε2) X) →
    (∀ ε, I (m + xs.length) ε → nx ε) → qLp t body src xs ε nx rt X
  | [], ε, m, h0, _, fin => fin ε h0
  | d :: xs, ε, m, h0, step, fin => by
    have h1 := step 0 d ε rfl h0
    unfold qLp loopF
    unfold qOpt at h1
    cases q : bindG t d ε with
    | none => rw [q] at h1; exact h1.elim
    | some ε1 =>
      rw [q] at h1
      dsimp only at h1 ⊢
      have more : ∀ ε2, chkS src ε2 ∧ I (m + 0 + 1) ε2 → qF (if chkS src ε2 then loopF t body src xs ε2 else none) nx rt (fun _ => False) (fun _ => False) X := fun ε2 h2 => by
        rw [if_pos h2.1]
        refine qLp_ind I (m + 1) h2.2 (fun i d ε h3 h4 => ?_) (fun ε h3 => fin ε ?_)
        · have := step (i + 1) d ε h3 (by rw [show m + (i + 1) = m + 1 + i by omega]; exact h4)
          rw [show m + (i + 1) = m + 1 + i by omega] at this
          exact this
        · rw [List.length_cons, show m + (xs.length + 1) = m + 1 + xs.length by omega]
          exact h3
      cases q2 : body ε1 with
      | none => rw [q2] at h1; exact h1.elim
      | some r =>
        rw [q2] at h1
        cases r with
        | nx ε2 => exact more ε2 h1
        | ct ε2 => exact more ε2 h1
        | bk ε2 => exact h1
        | rt x ε2 => exact h1
        | ex c d ε2 => exact h1
-- comprehensions
end
def qTn (o : Option (List D × TEnv)) (Q : List D → TEnv → Prop) [Tg Q] : Prop := match o with
  | some z => Q z.1 z.2
  | none => False
def qWi (ε : TEnv) (vs : List Nat) (Q : TEnv → Prop) [Tg Q] : Prop := Q (wipeE ε vs)
def qRe (ε1 ε2 : TEnv) (vs : List Nat) (Q : TEnv → Prop) [Tg Q] : Prop := Q (restE ε1 ε2 vs)
def qGet (ε : TEnv) (i : Nat) (Q : Slot → Prop) [Tg Q] : Prop := Q (ε[i]?.getD none)
def qNo (ε : TEnv) (vs : List Nat) (A : Prop) : Prop := noOwn ε vs = true ∧ A
section
variable {ε ε1 ε2 : TEnv} {i v : Nat} {d : D} {s : Slot} {A : Prop} {QE : TEnv → Prop} {QS : Slot → Prop} {QT : List D → TEnv → Prop} {vs vs1 : List Nat} {t t1 : TgT} {cond cond1 : GT} {elt : ET} {it it1 : IT} {turn : D → TEnv → Option (List D × TEnv)} {chk : TEnv → Prop} {xs : List D} {P : D → Bool → TEnv → Prop} {X : Str → D → TEnv → Prop}
theorem qWi_nil : qWi ε [] QE ↔ QE ε := Iff.rfl
theorem qWi_cons : qWi ε (v :: vs) QE ↔ qWi ε vs fun ε' => qSet ε' v none QE := Iff.rfl
theorem qRe_nil : qRe ε1 ε2 [] QE ↔ QE ε2 := Iff.rfl
theorem qRe_cons : qRe ε1 ε2 (v :: vs) QE ↔ qRe ε1 ε2 vs fun ε' => qGet ε1 v fun s => qSet ε' v s QE := Iff.rfl
theorem qGet_z : qGet (s :: ε) 0 QS ↔ QS s := Iff.rfl
theorem qGet_s : qGet (s :: ε) (i + 1) QS ↔ qGet ε i QS := Iff.rfl
theorem qNo_nil : qNo ε [] A ↔ A := by simp [qNo, noOwn]
theorem qNo_cons : qNo ε (v :: vs) A ↔ slOwn ε v = false ∧ qNo ε vs A := by
  unfold qNo noOwn
  rw [List.all_cons]
  simp [and_assoc]
theorem slOwn_n : slOwn (none :: ε) 0 = false := rfl
theorem ownF_0 : (ownF 0 = false) = True := by simp [ownF]
theorem ownF_3 : (ownF 3 = false) = True := by simp [ownF]
theorem w_turn1 : qTn (turn1 t cond elt vs d ε) QT ↔ qOpt (bindG t d ε) fun ε1 => qT (cond ε1) (fun b ε2 => qB b (qE (elt ε2) (fun x _ ε3 => qWi ε3 vs fun ε4 => QT [x] ε4) fun _ _ _ => False) (qWi ε2 vs fun ε4 => QT [] ε4)) fun _ _ _ => False := by
  unfold turn1 qOpt
  cases bindG t d ε with
  | none => exact Iff.rfl
  | some ε1 =>
    dsimp only
    unfold qT
    cases cond ε1 with
    | none => exact Iff.rfl
    | some r =>
      cases r with
      | ex c d ε2 => exact Iff.rfl
      | ok b ε2 =>
        cases b with
        | false => simp [qR, qB, qTn, qWi]
        | true =>
          dsimp only [qR]
          rw [qB_t]
          unfold qE
          cases elt ε2 with
          | none => exact Iff.rfl
          | some r => cases r <;> exact Iff.rfl
theorem w_turn2 : qTn (turn2 t cond it1 t1 cond1 elt vs vs1 d ε) QT ↔ qOpt (bindG t d ε) fun ε1 => qT (cond ε1) (fun b ε2 => qB b (qI (it1 ε2) (fun xs s ε3 => qNo ε3 vs1 (qWi ε3 vs1 fun ε4 => qTn (loopG (turn1 t1 cond1 elt vs1) (chkC ε3 s) xs ε4) fun ys ε5 => qWi ε5 vs fun ε6 => QT ys ε6)) fun _ _ _ => False) (qWi ε2 vs fun ε4 => QT [] ε4)) fun _ _ _ => False := by
  unfold turn2 qOpt
  cases bindG t d ε with
  | none => exact Iff.rfl
  | some ε1 =>
    dsimp only
    unfold qT
    cases cond ε1 with
    | none => exact Iff.rfl
    | some r =>
      cases r with
      | ex c d ε2 => exact Iff.rfl
      | ok b ε2 =>
        cases b with
        | false => simp [qR, qB, qTn, qWi]
        | true =>
          dsimp only [qR]
          rw [qB_t]
          unfold qI
          cases it1 ε2 with
          | none => exact Iff.rfl
          | some r =>
            cases r with
            | ex c d ε3 => exact Iff.rfl
            | ok x ε3 =>
              dsimp only [qR, qNo, qWi]
              by_cases c : noOwn ε3 vs1 = true
              · rw [if_pos c]
                refine Iff.trans ?_ (Iff.symm (and_iff_right c))
                cases loopG (turn1 t1 cond1 elt vs1) (chkC ε3 x.2) x.1 (wipeE ε3 vs1) <;> exact Iff.rfl
              · rw [if_neg c]
                exact ⟨fun h => h.elim, fun h => absurd h.1 c⟩
theorem w_compT : qE (compT it turn vs ε) P X ↔ qI (it ε) (fun xs s ε1 => qNo ε1 vs (qWi ε1 vs fun ε2 => qTn (loopG turn (chkC ε1 s) xs ε2) fun ys ε3 => ys.length ≤ most ∧ qRe ε1 ε3 vs fun ε4 => P (.lst ys) true ε4)) X := by
  unfold compT qE qI
  rw [qR_bind]
  cases it ε with
  | none => exact Iff.rfl
  | some r =>
    cases r with
    | ex c d ε3 => exact Iff.rfl
    | ok x ε1 =>
      dsimp only [qR, qNo, qWi]
      by_cases c : noOwn ε1 vs = true
      · rw [if_pos c]
        refine Iff.trans ?_ (Iff.symm (and_iff_right c))
        cases loopG turn (chkC ε1 x.2) x.1 (wipeE ε1 vs) with
        | none => exact Iff.rfl
        | some z =>
          dsimp only [qTn, qRe]
          by_cases l : z.1.length ≤ most
          · rw [if_pos l]
            exact Iff.symm (and_iff_right l)
          · rw [if_neg l]
            exact ⟨fun h => h.elim, fun h => absurd h.1 l⟩
      · rw [if_neg c]
        exact ⟨fun h => h.elim, fun h => absurd h.1 c⟩
/-- THE RULE for a comprehension's turns -/
theorem qTn_ind (I : Nat → List D → TEnv → Prop) : ∀ {xs : List D} {ε : TEnv} {QT : List D → TEnv → Prop} (ys : List D) (m : Nat), I m ys ε →
    (∀ (i : Nat) (d : D) (ys : List D) (ε : TEnv), xs[i]? = some d → I (m + i) ys ε → qTn (turn d ε) fun zs ε2 => chk ε2 ∧ I (m + i + 1) (ys ++ zs) ε2) →
    (∀ zs ε, I (m + xs.length) (ys ++ zs) ε → QT zs ε) → qTn (loopG turn chk xs ε) QT
  | [], ε, QT, ys, m, h0, _, fin => fin [] ε (by rw [List.append_nil]; exact h0)
  | d :: xs, ε, QT, ys, m, h0, step, fin => by
    have h1 := step 0 d ys ε rfl h0
    unfold loopG
    cases q : turn d ε with
    | none => rw [q] at h1; exact h1.elim
    | some z =>
      rw [q] at h1
      obtain ⟨h1, h2⟩ := h1
      dsimp only
      rw [if_pos h1]
      have ih : qTn (loopG turn chk xs z.2) fun zs ε => QT (z.1 ++ zs) ε := by
        refine qTn_ind I (ys ++ z.1) (m + 1) h2 (fun i d ys ε h3 h4 => ?_) (fun zs ε h3 => fin (z.1 ++ zs) ε ?_)
        · have := step (i + 1) d ys ε h3 (by rw [show m + (i + 1) = m + 1 + i by omega]; exact h4)
          rw [show m + (i + 1) = m + 1 + i by omega] at this
          exact this
        · rw [List.length_cons, show m + (xs.length + 1) = m + 1 + xs.length by omega, ← List.append_assoc]
          exact h3
      unfold qTn at ih ⊢
      cases q2 : loopG turn chk xs z.2 with
      | none => rw [q2] at ih; exact ih.elim
      | some w => rw [q2] at ih; exact ih
end
end Tr

/-! (what comes later is left alone while a step stands: underLambda := false in EV) -/
namespace Tr
open PySem PySem.Spec PyProof.Rows L2 Md
end Tr

/-! Instances: attributes, methods, properties, and how they are made. -/
namespace Tr
open PySem PySem.Spec PyProof.Rows L2 Md
def fFld (c f : Str) : List D → Option (D × Bool)
  | [.ins c' fs] => if c' = c then (fs.lookup f).map fun d => (d, false) else none
  | _ => none
def putD (f : Str) (v : D) : List (Str × D) → List (Str × D)
  | [] => [(f, v)]
  | (k, x) :: r => if k = f then (k, v) :: r else (k, x) :: putD f v r
section
variable {K : PySem.W.Frag} {ca : CA} {W : WX} {O O' S : Addr → Prop} {H H0 H1 H2 H' : Hp} {σ σ1 σ2 σ' : L2.St} {ε ε1 ε2 ε' p p' : TEnv} {a : Addr} {d d' : D} {v : V} {Q : VK} {E : Ends} {i : Nat} {k : Nat} {c f : Str}
theorem RepF.look : ∀ {fs : List (Str × V)} {es : List (Str × D)} {d : D}, RepF K ca S H fs es → es.lookup f = some d → ∃ v, fs.lookup f = some v ∧ Rep K ca S H v d
  | _, _, _, .nil, h => by cases h
  | (k, v) :: fs, (_, x) :: es, d, .cons r l, h => by
    by_cases e : (f == k) = true
    · rw [List.lookup_cons, e] at h
      cases h
      exact ⟨v, by rw [List.lookup_cons, e], r⟩
    · rw [Bool.not_eq_true] at e
      rw [List.lookup_cons, e] at h
      obtain ⟨w, h1, h2⟩ := RepF.look l h
      exact ⟨w, by rw [List.lookup_cons, e]; exact h1, h2⟩
theorem RepF.len : ∀ {fs : List (Str × V)} {es : List (Str × D)}, RepF K ca S H fs es → fs.length = es.length
  | _, _, .nil => rfl
  | _, _, .cons _ l => by simp [RepF.len l]
theorem RepF.put {v : V} {d : D} (r : Rep K ca S H v d) : ∀ {fs : List (Str × V)} {es : List (Str × D)}, RepF K ca S H fs es → RepF K ca S H (putF f v fs) (putD f d es)
  | _, _, .nil => .cons r .nil
  | (k, w) :: fs, (_, x) :: es, .cons r2 l => by
    show RepF K ca S H (if k = f then (k, v) :: fs else (k, w) :: putF f v fs) (if k = f then (k, d) :: es else (k, x) :: putD f d es)
    by_cases e : k = f
    · rw [if_pos e, if_pos e]; exact .cons r l
    · rw [if_neg e, if_neg e]; exact .cons r2 (RepF.put r l)
/-- x.f = value, x an own instance -/
def storeF (c f : Str) (i : Nat) (g : ET) : ST := fun ε => bindS (g ε) fun x ε1 => match ε1[i]? with
  | some (some (.ins c' fs, k)) => if c' = c ∧ ownF k = true ∧ fs.length < 1000 then some (.nx (ε1.set i (some (.ins c' (putD f x.1 fs), k)))) else none
  | _ => none
/-! ### methods -/
def noAt (fs : List (Str × D)) : Option Str → Bool
  | some m => (fs.lookup m).isNone
  | none => true
/-- o.m(..): o is an instance of c without an attribute of that name -/
def methT (c : Str) (m : Option Str) (F : ET) (a : AK) (as : List AK) : ET := fun ε => match evA [a] ε with
  | some (.ok ads ε1) => match late ε1 ads with
    | some [.ins c' fs] => if c' = c ∧ noAt fs m = true then callT F (a :: as) ε else none
    | _ => none
  | some (.ex c d ε1) => some (.ex c d ε1)
  | none => none
end
end Tr

namespace Tr
open PySem PySem.Spec PyProof.Rows L2 Md
section
variable {X : Cx} {ca : CA} {W : WX} {k n j : Nat} {f C g : Addr} {fd : FuncData} {ps : List Str} {F : ET} {x m fl c : Str} {p pos apos : Pos} {e o : Expr} {es : List Expr} {a : AK} {as : List AK} {CX : CXT} {sp : Sp} {E : L2.St → XK} {t : TA} {ta : TE} {pr : Addr}
/-- o.m(..) -/
def tMethG (C : Addr) (m : Str) (sp : Sp) (E : L2.St → XK) (ta : TE) (t : TA) : TE := fun sl H Q => ta sl H fun x H1 => ∃ a dx fs, x = .ref a ∧ H1 a = some (.ins C dx fs) ∧ fs.lookup m = none ∧ t sl H1 fun vs H2 => sp (x :: vs) H2 Q (E sl)
/-- o.f, a property -/
def tPropG (C : Addr) (sp : Sp) (E : L2.St → XK) (ta : TE) : TE := fun sl H Q => ta sl H fun x H1 => ∃ a dx fs, x = .ref a ∧ H1 a = some (.ins C dx fs) ∧ sp [.ref a] H1 Q (E sl)
/-- C(..) -/
def tMakeG (C : Addr) (sp : Sp) (E : L2.St → XK) (t : TA) : TE := fun σ H Q => t σ H fun vs H1 => ∀ x dx, H1 x = none → H1 dx = none → dx ≠ x →
  sp (.ref x :: vs) (upd (upd H1 dx (.own x)) x (.ins C dx [])) (fun v H2 => v = .non ∧ Q (.ref x) H2) (E σ)
end
end Tr

namespace Tr
open PySem PySem.Spec PyProof.Rows L2 Md
/-- what __init__ made -/
def mkR (ads : List Ad) (ε : TEnv) : R (D × Bool) → Option (R (D × Bool))
  | .ok (.non, _) (some (.ins c' fs, 2) :: p') => some (.ok (.ins c' fs, true) (back ads p' ε))
  | .ex cc d (some (_, 2) :: p') => some (.ex cc d (back ads p' ε))
  | _ => none
/-- c(..): __init__ is F -/
def makeT (c : Str) (F : ET) (as : List AK) : ET := fun ε => bindE (evA as ε) fun ads ε1 => match mkP ε1 ads with
  | some p => if uniq (ownIx ε1 ads) = true then (F (some (.ins c [], 2) :: p)).bind (mkR ads ε1) else none
  | none => none
section
variable {K : PySem.W.Frag} {ca : CA} {W : WX} {O O' S : Addr → Prop} {H H0 H1 H2 H' : Hp} {σ σ1 σ2 σ' : L2.St} {ε ε1 ε2 ε' p p' : TEnv} {a : Addr} {d d' : D} {v : V} {Q : VK} {i : Nat} {k : Nat} {c f : Str} {s : Slot} {ads : List Ad} {vs : List V} {F : ET} {n : Nat}
/-- o.f, a property that raises nothing -/
def propT (c : Str) (F : ET) (a : AK) : ET := fun ε => match methT c none F a [] ε with
  | some (.ok x ε') => some (.ok x ε')
  | _ => none
end
section
variable {X : Cx} {ca : CA} {W : WX} {k n : Nat} {f g pr : Addr} {fd : FuncData} {ps : List Str} {F : ET} {x m fl c : Str} {p pos apos pos' : Pos} {e o : Expr} {es : List Expr} {a : AK} {as : List AK} {i : Nat} {ge : ET}
end
end Tr

/-! Nothing promised; all, any; bits; sets; dicts. -/
namespace Tr
open PySem PySem.Spec PyProof.Rows L2 Md
/-- nothing is promised -/
def noS : ST := fun _ => none
def noT : ET := fun _ => none
section
variable {X : Cx} {ca : CA} {W : WX} {e : Expr} {st : Stmt}
theorem peOr {t t' : TE} (h : PE X e t) (h' : PE X e t') : PE X e (fun σ H Q => t σ H Q ∨ t' σ H Q) := ⟨fun pins s σ H Q I q => q.elim (h.run pins s σ H Q I) (h'.run pins s σ H Q I)⟩
theorem psOr {t t' : TS} (h : PS X st t) (h' : PS X st t') : PS X st (fun D σ H => t D σ H ∨ t' D σ H) := ⟨fun pins s σ H D I q => q.elim (h.run pins s σ H D I) (h'.run pins s σ H D I)⟩
end
/-! ### all, any -/
def toBs : List D → Option (List Bool)
  | [] => some []
  | .bl b :: r => (toBs r).map (b :: ·)
  | _ => none
def fAll : List D → Option (D × Bool)
  | [.lst ds] => (toBs ds).map fun bs => (.bl (bs.all id), false)
  | _ => none
def fAny : List D → Option (D × Bool)
  | [.lst ds] => (toBs ds).map fun bs => (.bl (bs.any id), false)
  | _ => none
section
variable {K : PySem.W.Frag} {ca : CA} {W : WX} {O O' S : Addr → Prop} {H H0 H1 H2 H' : Hp} {σ σ1 σ2 σ' : L2.St} {ε ε1 ε2 ε' p p' : TEnv} {a : Addr} {d d' : D} {v : V} {Q : VK} {E : Ends} {i : Nat} {k : Nat} {c f : Str}
/-! ### bits -/
def fShl : List D → Option (D × Bool)
  | [.int i, .int j] => if 0 ≤ j ∧ j ≤ 1000000 ∧ i.natAbs < 2 ^ 64 then some (.int (i * 2 ^ j.toNat), false) else none
  | _ => none
def fShr : List D → Option (D × Bool)
  | [.int i, .int j] => if 0 ≤ j then some (.int (i / 2 ^ j.toNat), false) else none
  | _ => none
def fBand : List D → Option (D × Bool)
  | [.int i, .int j] => some (.int (Builtin.bitAnd i j), false)
  | _ => none
def fBor : List D → Option (D × Bool)
  | [.int i, .int j] => some (.int (Builtin.bitOr i j), false)
  | _ => none
/-! ### keys -/
def keyD : D → Option Key
  | .int i => some (.inl i)
  | .str x => some (.inr x)
  | _ => none
theorem Bor.key {ky : Key} (b : Bor K ca S H v d) (e : keyD d = some ky) : v = kV ky := by
  cases d with
  | int i => cases e; exact b.int
  | str x => cases e; exact b.str
  | _ => cases e
theorem Rep.key {ky : Key} (r : Rep K ca S H v d) (e : keyD d = some ky) : v = kV ky := Bor.key (.inl r) e
theorem Bor.set {ks : List Key} (b : Bor K ca S H v (.set ks)) : ∃ a, v = .ref a ∧ H a = some (SetK ca.P ca.w a (inK ks) ks.length) := by
  rcases b with r | ⟨a, e, t⟩
  · cases r with
    | set n h => exact ⟨_, rfl, h⟩
  · exact ⟨a, e, t⟩
def valD (es : List (Key × D)) (k : Key) : Option D := (es.find? fun kv => decide (kv.1 = k)).map (·.2)
theorem RepK.val {ky : Key} : ∀ {kvs : List (Key × V)} {es : List (Key × D)}, RepK K ca S H kvs es → (∀ d, valD es ky = some d → ∃ v, valV kvs ky = some v ∧ Rep K ca S H v d) ∧ (valD es ky = none → valV kvs ky = none)
  | _, _, .nil => ⟨fun d h => (by cases h), fun _ => rfl⟩
  | (k, v) :: kvs, (_, d0) :: es, .cons r l => by
    obtain ⟨h1, h2⟩ := RepK.val (ky := ky) l
    by_cases e : k = ky
    · have e1 : valD ((k, d0) :: es) ky = some d0 := by simp [valD, List.find?_cons, e]
      refine ⟨fun d h => ?_, fun h => ?_⟩
      · rw [e1] at h
        cases h
        exact ⟨v, valV_pos e, r⟩
      · rw [e1] at h
        cases h
    · have e1 : valD ((k, d0) :: es) ky = valD es ky := by simp [valD, List.find?_cons, e]
      rw [e1, valV_neg (p := (k, v)) (r := kvs) e]
      exact ⟨h1, h2⟩
/-! ### in, for sets and dicts too -/
def fInA : List D → Option (D × Bool)
  | [x, .set ks] => (keyD x).map fun k => (.bl (inK ks k), false)
  | [x, .dct es] => (keyD x).map fun k => (.bl (valD es k).isSome, false)
  | ds => fIn ds
def fNotInA : List D → Option (D × Bool)
  | [x, .set ks] => (keyD x).map fun k => (.bl (!inK ks k), false)
  | [x, .dct es] => (keyD x).map fun k => (.bl (!(valD es k).isSome), false)
  | ds => fNotIn ds
abbrev rInD (neg : Bool) : R2 := fun y x H Q => ∃ a o, x = .ref a ∧ DGet H a y o ∧ Q (.bl (if neg then !o.isSome else o.isSome)) H
theorem op_inD {X : Cx} (hu : X.A.units + 1 < cLine) : OpR X (compareOp .In) (rInD false) := by
  intro pins s σ H x y v u Q I rx ry h
  obtain ⟨a, o, rfl, g, q⟩ := h
  cases ry
  exact d_in hu I g rx fun s3 I3 => ⟨.bl o.isSome, H, I3, rfl, q⟩
theorem op_notInD {X : Cx} (hu : X.A.units + 1 < cLine) : OpR X (compareOp .NotIn) (rInD true) := by
  intro pins s σ H x y v u Q I rx ry h
  obtain ⟨a, o, rfl, g, q⟩ := h
  cases ry
  exact d_notIn hu I g rx fun s3 I3 => ⟨.bl (!o.isSome), H, I3, rfl, q⟩
abbrev rInAA (K : PySem.W.Frag) (P : Program) (w : World) : R2 := fun x y H Q => rInAll K x y H Q ∨ rSInK P w false x y H Q ∨ rInD false x y H Q
abbrev rNotInAA (K : PySem.W.Frag) (P : Program) (w : World) : R2 := fun x y H Q => rIn K true x y H Q ∨ rSInK P w true x y H Q ∨ rInD true x y H Q
theorem op_inAA {X : Cx} (hu : X.A.units + 1 < cLine) : OpR X (compareOp .In) (rInAA X.K X.prog X.w) := op_inAll.or (or_sinK.or (op_inD hu))
theorem op_notInAA {X : Cx} (hu : X.A.units + 1 < cLine) : OpR X (compareOp .NotIn) (rNotInAA X.K X.prog X.w) := op_notIn_seq.or (or_snotinK.or (op_notInD hu))
theorem os_inAA {P : Program} {w : World} (eP : ca.P = P) (ew : ca.w = w) : OpS K ca (lift2 (rInAA K P w)) fInA := by
  intro S H vs ds res Q hp hf q
  unfold fInA at hf
  split at hf
  · rw [Option.map_eq_some_iff] at hf
    obtain ⟨k, e, rfl⟩ := hf
    obtain ⟨v, y, rfl, b1, b2⟩ := pair2 hp
    obtain ⟨a, rfl, h⟩ := b2.set
    rw [eP, ew] at h
    exact ⟨v, _, rfl, .inr (.inl ⟨k, a, _, _, b1.key e, rfl, h, q _ _ (Same.refl _) (.bl _)⟩)⟩
  · rename_i x es
    rw [Option.map_eq_some_iff] at hf
    obtain ⟨k, e, rfl⟩ := hf
    obtain ⟨v, y, rfl, b1, b2⟩ := pair2 hp
    obtain ⟨a, kvs, rfl, h, l⟩ := b2.dct
    obtain ⟨g1, g2⟩ := l.val (ky := k)
    refine ⟨v, _, rfl, .inr (.inr ⟨a, valV kvs k, rfl, by rw [b1.key e]; exact DGet.k h, q _ _ (Same.refl _) ?_⟩)⟩
    have e2 : (valV kvs k).isSome = (valD es k).isSome := by
      cases z : valD es k with
      | none => rw [g2 z]; rfl
      | some d =>
        obtain ⟨v, ev, _⟩ := g1 d z
        rw [ev]
        rfl
    show Rep K ca S H (.bl (valV kvs k).isSome) _
    rw [e2]
    exact .bl _
  · obtain ⟨x, y, e, r⟩ := os_in S H vs _ res Q hp hf q
    exact ⟨x, y, e, .inl r⟩
theorem os_notInAA {P : Program} {w : World} (eP : ca.P = P) (ew : ca.w = w) : OpS K ca (lift2 (rNotInAA K P w)) fNotInA := by
  intro S H vs ds res Q hp hf q
  unfold fNotInA at hf
  split at hf
  · rw [Option.map_eq_some_iff] at hf
    obtain ⟨k, e, rfl⟩ := hf
    obtain ⟨v, y, rfl, b1, b2⟩ := pair2 hp
    obtain ⟨a, rfl, h⟩ := b2.set
    rw [eP, ew] at h
    exact ⟨v, _, rfl, .inr (.inl ⟨k, a, _, _, b1.key e, rfl, h, q _ _ (Same.refl _) (.bl _)⟩)⟩
  · rename_i x es
    rw [Option.map_eq_some_iff] at hf
    obtain ⟨k, e, rfl⟩ := hf
    obtain ⟨v, y, rfl, b1, b2⟩ := pair2 hp
    obtain ⟨a, kvs, rfl, h, l⟩ := b2.dct
    obtain ⟨g1, g2⟩ := l.val (ky := k)
    refine ⟨v, _, rfl, .inr (.inr ⟨a, valV kvs k, rfl, by rw [b1.key e]; exact DGet.k h, q _ _ (Same.refl _) ?_⟩)⟩
    have e2 : (valV kvs k).isSome = (valD es k).isSome := by
      cases z : valD es k with
      | none => rw [g2 z]; rfl
      | some d =>
        obtain ⟨v, ev, _⟩ := g1 d z
        rw [ev]
        rfl
    show Rep K ca S H (.bl (!(valV kvs k).isSome)) _
    rw [e2]
    exact .bl _
  · obtain ⟨x, y, e, r⟩ := os_notIn S H vs _ res Q hp hf q
    exact ⟨x, y, e, .inl r⟩
/-! ### d[k] -/
def fOr (f g : List D → Option (D × Bool)) : List D → Option (D × Bool) := fun ds => match f ds with
  | some x => some x
  | none => g ds
theorem opT_or {f g : List D → Option (D × Bool)} {as : List AK} (h : tEv K ca W (opT (fOr f g) as) σ H Q) : tEv K ca W (opT f as) σ H Q ∨ tEv K ca W (opT g as) σ H Q := by
  obtain ⟨O, ε, r0, E, e, p⟩ := h
  have key : opT f as ε = some r0 ∨ opT g as ε = some r0 := by
    unfold opT at e ⊢
    cases q : evA as ε with
    | none => rw [q] at e; cases e
    | some r1 =>
      rw [q] at e
      cases r1 with
      | ex c d ε1 => exact .inl e
      | ok ads ε1 =>
        rw [bindE_ok] at e
        show (((late ε1 ads).bind f).map fun x => Tr.R.ok x ε1) = some r0 ∨ (((late ε1 ads).bind g).map fun x => Tr.R.ok x ε1) = some r0
        cases q2 : late ε1 ads with
        | none => rw [q2] at e; cases e
        | some ds =>
          rw [q2] at e
          change (fOr f g ds).map _ = some r0 at e
          show (f ds).map _ = some r0 ∨ (g ds).map _ = some r0
          unfold fOr at e
          cases q3 : f ds with
          | none => rw [q3] at e; exact .inr e
          | some x => rw [q3] at e; exact .inl e
  exact key.imp (fun k => ⟨O, ε, r0, E, k, p⟩) fun k => ⟨O, ε, r0, E, k, p⟩
def fDGet : List D → Option (D × Bool)
  | [.dct es, x] => (keyD x).bind fun k => (valD es k).map fun d => (d, false)
  | _ => none
theorem os_dget : OpS K ca (fun vs H Q => ∃ x y, vs = [x, y] ∧ ∃ a v, x = .ref a ∧ DGet H a y (some v) ∧ Q v H) fDGet := by
  intro S H vs ds res Q hp hf q
  unfold fDGet at hf
  split at hf
  · obtain ⟨k, e, hf⟩ := Option.bind_eq_some_iff.mp hf
    rw [Option.map_eq_some_iff] at hf
    obtain ⟨d, e2, rfl⟩ := hf
    obtain ⟨v, y, rfl, b1, b2⟩ := pair2 hp
    obtain ⟨a, kvs, rfl, h, l⟩ := b1.dct
    obtain ⟨u, e3, r⟩ := (l.val (ky := k)).1 d e2
    refine ⟨_, y, rfl, a, u, rfl, ?_, q _ _ (Same.refl _) r⟩
    have g := DGet.k (k := k) h
    rw [e3] at g
    rw [b2.key e]
    exact g
  · cases hf
end
section
variable {X : Cx} {ca : CA} {W : WX} {e e1 e2 : Expr} {es : List Expr} {g gk : ET} {pos pos' p2 tpos apos p : Pos} {i k : Nat} {a b c : AK} {as : List AK}
theorem tAk2 {P : V → V → Hp → Prop} {σ : L2.St} {H : Hp} (h : tAks X.K ca W [a, b] σ H fun vs H2 => ∃ x y, vs = [x, y] ∧ P x y H2) : tAk X.K ca W a σ H fun x H1 => tAk X.K ca W b σ H1 fun y H2 => P x y H2 :=
  tAk_mono h fun x H1 z => tAk_mono z fun y H2 z => by
    obtain ⟨x', y', e, r⟩ := z
    cases e
    exact r
theorem pet_ixA (C : CtxT X W k) (h1 : PAK X ca W e1 a) (h2 : PAK X ca W e2 b) (hs : PlainIx e2) (hn : NoSl e2) : PET X ca W (.Subscript e1 e2 pos) (opT (fOr fIx fDGet) [a, b]) :=
  peWeak (peOr (pe_ix ix_seq h1 h2 hs) (pe_dget (by have := C.room.units; omega) h1 h2 hn)) fun σ H Q h => (opT_or h).imp (fun h => opT_read2 os_ix h) fun h => tAk2 (opT_read os_dget h)
end
end Tr

namespace Md
open PySem PySem.Spec PyProof.Rows L2
/-- the heap behind so many turns of a comprehension that changes nothing else -/
abbrev grown (H1 : Hp) (D : Addr) (ys : List V) (i : Nat) : Hp := upd H1 D (.lst (ys.take i))
section
variable {K : PySem.W.Frag} {g : TG} {te : TE} {vs : List Nat} {sl : L2.St} {H1 : Hp} {D : Addr} {Qd : Hp → Prop}
end
end Md

set_option maxHeartbeats 1000000
/-! a written set of one thing -/
namespace Md
open PySem PySem.Spec PyProof.Rows L2
section
variable {P : Program} {w : World} {A : Around} {E : Value → Shared → Prop} {s : Shared} {D : Addr}
end
/-- {e} -/
def tSet1 (P : Program) (w : World) (te : TE) : TE := fun σ H Q => ∀ p, H p = none → te σ (upd H p (SetK P w p (fun _ => false) 0)) fun x H1 => ∃ k : Key, x = kV k ∧ H1 p = some (SetK P w p (fun _ => false) 0) ∧ Q (.ref p) (upd H1 p (SetK P w p (fun j => decide (j = k)) 1))
section
variable {X : Cx} {e : Expr} {te : TE} {pos : Pos}
end
/-! ### comprehensions of two clauses -/
section
variable {J J1 : It} {n n1 : Nat} {G G1 : Hp → Prop} {Y Y1 : Nat → Hp → V → Hp → Prop}
end
end Md

/-! New sets and dicts, and how they are changed. -/
namespace Tr
open PySem PySem.Spec PyProof.Rows L2 Md
section
variable {K : PySem.W.Frag} {ca : CA} {W : WX} {O O' S : Addr → Prop} {H H0 H1 H2 H' : Hp} {σ σ1 σ2 σ' : L2.St} {ε ε1 ε2 ε' p p' : TEnv} {a : Addr} {d d' : D} {v : V} {Q : VK} {E : Ends} {i : Nat} {k : Nat} {c f : Str}
/-! ### {e} -/
def set1T (g : ET) : ET := fun ε => bindE (g ε) fun x ε1 => (keyD x.1).map fun k => .ok (.set [k], true) ε1
/-! ### {} -/
def dnewT : ET := fun ε => some (.ok (.dct [], true) ε)
/-! ### s.add(x) -/
def addK (ks : List Key) (k : Key) : List Key := if inK ks k = true then ks else ks ++ [k]
def addT (i : Nat) (a : AK) : ET := fun ε => match ε[i]? with
  | some (some (.set _, k0)) => if ownF k0 = true then bindE (evA [a] ε) fun ads ε1 => match ε1[i]?, tms ads with
      | some (some (.set ks, k)), some [x] => match keyD x with
        | some ky => if ownF k = true ∧ ks.length ≤ 1000 then some (.ok (.non, false) (ε1.set i (some (.set (addK ks ky), k)))) else none
        | none => none
      | _, _ => none
    else none
  | _ => none
/-! ### d[k] = v -/
def putKD (es : List (Key × D)) (k : Key) (v : D) : List (Key × D) :=
  if (es.any fun kv => decide (kv.1 = k)) = true then es.map (fun kv => if kv.1 = k then (kv.1, v) else kv) else es ++ [(k, v)]
theorem RepK.app : ∀ {kvs kvs2 : List (Key × V)} {es es2 : List (Key × D)}, RepK K ca S H kvs es → RepK K ca S H kvs2 es2 → RepK K ca S H (kvs ++ kvs2) (es ++ es2)
  | _, _, _, _, .nil, z => z
  | _, _, _, _, .cons r l, z => .cons r (RepK.app l z)
theorem RepK.any {ky : Key} : ∀ {kvs : List (Key × V)} {es : List (Key × D)}, RepK K ca S H kvs es → (kvs.any fun kv => decide (kv.1 = ky)) = es.any fun kv => decide (kv.1 = ky)
  | _, _, .nil => rfl
  | (k, v) :: _, (_, d) :: _, .cons r l => by
    show (decide (k = ky) || _) = (decide (k = ky) || _)
    rw [RepK.any l]
theorem RepK.upd {ky : Key} {v : V} {d : D} (r : Rep K ca S H v d) : ∀ {kvs : List (Key × V)} {es : List (Key × D)}, RepK K ca S H kvs es → RepK K ca S H (kvs.map fun kv => if kv.1 = ky then (kv.1, v) else kv) (es.map fun kv => if kv.1 = ky then (kv.1, d) else kv)
  | _, _, .nil => .nil
  | (k, w) :: _, (_, x) :: _, .cons r2 l => by
    show RepK K ca S H ((if k = ky then (k, v) else (k, w)) :: _) ((if k = ky then (k, d) else (k, x)) :: _)
    by_cases e : k = ky
    · rw [if_pos e, if_pos e]
      exact .cons r (RepK.upd r l)
    · rw [if_neg e, if_neg e]
      exact .cons r2 (RepK.upd r l)
theorem RepK.put {ky : Key} {v : V} {d : D} {kvs : List (Key × V)} {es : List (Key × D)} (l : RepK K ca S H kvs es) (r : Rep K ca S H v d) : RepK K ca S H (putK kvs ky v) (putKD es ky d) := by
  unfold putK putKD
  rw [l.any]
  split
  · exact l.upd r
  · exact l.app (.cons r .nil)
theorem RepK.len : ∀ {kvs : List (Key × V)} {es : List (Key × D)}, RepK K ca S H kvs es → kvs.length = es.length
  | _, _, .nil => rfl
  | _, _, .cons _ l => by simp [RepK.len l]
def storeD (i : Nat) (gk g : ET) : ST := fun ε => bindS (g ε) fun x ε1 => if slOwn ε1 i = true then bindS (gk ε1) fun y ε2 => match ε2[i]?, keyD y.1 with
    | some (some (.dct es, k)), some ky => if ownF k = true ∧ es.length ≤ 1000000 then some (.nx (ε2.set i (some (.dct (putKD es ky x.1), k)))) else none
    | _, _ => none
  else none
theorem storeD_read {gk g : ET} (h : tSv K ca W (storeD i gk g) E σ H) : tAsg (tEv K ca W g) (gSub (tVar i) (tEv K ca W gk) rSetD) E σ H := by
  obtain ⟨O, ε, r, R, e, p⟩ := h
  refine tEv_bindS R e (fun x ε1 v H1 s1 rx e1 => ?_) p.err
  split at e1
  · rename_i o1
    obtain ⟨a, ea⟩ := slOwn_at s1.env o1
    have p1 := p.later s1.toS
    refine ⟨_, ea, tEv_bindS s1.env e1 (fun y ε2 w H2 s2 ry e2 => ?_) p1.err⟩
    split at e2
    · rename_i es k ky h2 ek
      split at e2
      · rename_i cc
        obtain ⟨o2, le⟩ := cc
        cases e2
        obtain ⟨b, eb, nb, kvs, hx, l⟩ := s2.env.own i _ k h2 o2
        rw [ea] at eb
        cases eb
        have ew := Rep.key ry.rep ek
        subst ew
        unfold rSetD
        refine ⟨a, _, rfl, DPut.k hx (by rw [RepK.len l]; exact Nat.lt_of_le_of_lt le (by unfold sizeLine; decide)), ?_⟩
        have kk : Kp (Or2 O (Own σ ε2)) H2 (upd H2 a (.dK (putK kvs ky v))) := fun b ob hb z => by
          by_cases e : b = a
          · subst e
            rw [hx] at hb
            cases hb
            exact absurd (show false = true from z (.inr ⟨i, _, k, h2, o2, ea⟩)) Bool.false_ne_true
          · rw [upd_ne e]
            exact hb
        have st := s2.env.write (d' := .dct (putKD es ky x.1)) h2 o2 ea (H' := upd H2 a (.dK (putK kvs ky v))) (fun b ne => upd_ne ne) ⟨_, upd_same, (l.put (s2.rep s1.env rx.rep)).step (fun _ z => .inl z) kk⟩
        exact p1 σ _ (s2.trans st).toS
      · cases e2
    · cases e2
  · cases e1
/-- a list or a dict -/
def storeA (i : Nat) (gk g : ET) : ST := fun ε => match storeT i gk g ε with
  | some r => some r
  | none => storeD i gk g ε
theorem storeA_or {gk g : ET} (h : tSv K ca W (storeA i gk g) E σ H) : tSv K ca W (storeT i gk g) E σ H ∨ tSv K ca W (storeD i gk g) E σ H := by
  obtain ⟨O, ε, r, R, e, p⟩ := h
  unfold storeA at e
  cases q : storeT i gk g ε with
  | none => rw [q] at e; exact .inr ⟨O, ε, r, R, e, p⟩
  | some r2 => rw [q] at e; cases e; exact .inl ⟨O, ε, r, R, q, p⟩
end
end Tr

/-! Written dicts; the module's own dicts; how many unlike texts; methods that change a list. -/
namespace Tr
open PySem PySem.Spec PyProof.Rows L2 Md
/-- keys and values, from the left -/
def evPs : List (ET × ET) → TEnv → Option (R (List (Key × D)))
  | [], ε => some (.ok [] ε)
  | (gk, gv) :: r, ε => bindE (gk ε) fun x ε1 => match keyD x.1 with
    | some k => bindE (gv ε1) fun y ε2 => bindE (evPs r ε2) fun kvs ε3 => some (.ok ((k, y.1) :: kvs) ε3)
    | none => none
def mergeD (kvs more : List (Key × D)) : List (Key × D) := more.foldl (fun acc kv => putKD acc kv.1 kv.2) kvs
def dctT (ps : List (ET × ET)) : ET := fun ε => bindE (evPs ps ε) fun kvs ε1 => if kvs.length ≤ 15 then some (.ok (.dct (mergeD [] kvs), true) ε1) else none
def kdGetT (kv : List (Str × D)) (a : AK) : ET := opT (fun ds => match ds with
  | [.str z] => match kv.lookup z with
    | some d => some (d, false)
    | none => some (.non, false)
  | _ => none) [a]
def kdIxT (kv : List (Str × D)) (a : AK) : ET := opT (fun ds => match ds with
  | [.str z] => (kv.lookup z).map fun d => (d, false)
  | _ => none) [a]
def fLenTexts : List D → Option (D × Bool)
  | [.lst ds] => (toSs ds).bind fun zs => if zs.length ≤ 1000 then some (.int (unlike zs zs.length : Nat), false) else none
  | _ => none
/-- a dict of the module -/
structure KG (X : Cx) (ca : CA) (x : Str) (d : Addr) (es : Array DictEntry) (n : Nat) (kv : List (Str × D)) : Prop where
  mg : X.mg x = some (.ref d)
  at_ : KDict X.K X.w d es n
  vals : ∀ z dd, kv.lookup z = some dd → ∃ v u, PySem.W.nsIn X.K d z = some (some u) ∧ RelV v u ∧ ∀ S H, Rep X.K ca S H v dd
section
variable {K : PySem.W.Frag} {ca : CA} {W : WX} {O O' S : Addr → Prop} {H H0 H1 H2 H' : Hp} {σ σ1 σ2 σ' : L2.St} {ε ε1 ε2 ε' p p' : TEnv} {a : Addr} {d d' : D} {v : V} {Q : VK} {E : Ends} {i : Nat} {k : Nat} {c f : Str}
def pTs (K : PySem.W.Frag) (ca : CA) (W : WX) (ps : List (ET × ET)) : List (TE × TE) := ps.map fun p => (tEv K ca W p.1, tEv K ca W p.2)
def fInsert : List D → List D → Option (List D × D)
  | cs, [.int i, x] => if cs.length < most ∧ 0 ≤ i ∧ i < 2 ^ 63 then some (cs.take i.toNat ++ [x] ++ cs.drop i.toNat, .non) else none
  | _, _ => none
abbrev rInsert : V → List V → Hp → VK → Prop := fun x vs H Q => ∃ (l : Addr) (xs : List V) (i : Int) (y : V), x = .ref l ∧ vs = [.int i, y] ∧ H l = some (.lst xs) ∧ xs.length < sizeLine ∧ 0 ≤ i ∧ i < 2 ^ 63 ∧
    Q .non (upd H l (.lst (xs.take i.toNat ++ [y] ++ xs.drop i.toNat)))
end
section
variable {X : Cx} {ca : CA} {W : WX} {e e1 e2 : Expr} {es : List Expr} {g gk gv : ET} {pos pos' p2 tpos apos p : Pos} {i k n : Nat} {a b c : AK} {as : List AK} {x : Str} {ps : List (ET × ET)}
theorem pst_storeA {x : Str} (C : CtxT X W k) (hv : PE X (.Name x pos') (tVar i)) (hk : PET X ca W e1 gk) (he : PET X ca W e g)
    (ha : ∀ v, assign (.Subscript (.Name x pos') e1 tpos) X.env v = (do
      let ov ← holding [v] (eval (.Name x pos') X.env)
      let iv ← holding [v, ov] (eval e1 X.env)
      standAt tpos
      holding [v, ov, iv] (setItem ov iv v)
      release [v, ov, iv] []) := by intro _; rfl)
    (hs : swapsWithSole [.Subscript (.Name x pos') e1 tpos] e pos.line X.env = pure false := by rfl) (hw : swappedStores [.Subscript (.Name x pos') e1 tpos] e X.env = pure none := by rfl)
    (h1 : (assignEach [.Subscript (.Name x pos') e1 tpos] X.env).map (·.2) = [assign (.Subscript (.Name x pos') e1 tpos) X.env] := by rfl) :
    PSt X ca W (.Assign [.Subscript (.Name x pos') e1 tpos] e pos) (storeA i gk g) :=
  psWeak (psOr (ps_asg he (pg_sub hv hk set_list ha) hs hw h1) (ps_asg he (pg_sub hv hk (set_dict (by have := C.room.units; omega)) ha) hs hw h1)) fun _ _ _ h => (storeA_or h).imp storeT_read storeD_read
theorem pet_extend {apos : Pos} (hv : PE X (.Name x pos') (tVar i)) (ha : PAKs X ca W (e :: es) as)
    (hbase : attributeBase (.Name x pos') "extend" X.env (eval (.Name x pos') X.env) = eval (.Name x pos') X.env := by rfl)
    (hfew : ((backTo pos (starEach (e :: es) X.env)).all (fun x => !x.1) && (backToKw pos (keywordEach [] X.env)).all (fun x => x.1.isSome)
      && decide ((e :: es).length + ([] : List Keyword).length + (if ([] : List Keyword).isEmpty then 0 else 1) < 30)) = true := by rfl)
    (hline : (apos.endLine == pos.line) = true := by rfl) (hs : starEach (e :: es) X.env = (false, eval e X.env) :: starEach es X.env := by rfl) (hplain : (backTo pos (starEach es X.env)).any (·.1) = false := by rfl) :
    PET X ca W (.Call (.Attribute (.Name x pos') "extend" apos) (e :: es) [] pos) (mutT fExtend i as) :=
  peWeak (pe_bm PySem.F.plainAttrs_list PySem.F.slot_list_extend PySem.F.type_list_extend mt_extend hv ha hbase hfew hline hs hplain) fun _ _ _ h => mutT_read ms_extend h
end
end Tr

/-! while; a name set to a comprehension of two clauses; a def with what its code tells. -/
namespace Tr
open PySem PySem.Spec PyProof.Rows L2 Md
def whileN (c : GT) (body : ST) : Nat → ST
  | 0, _ => none
  | n + 1, ε => bindS (c ε) fun b ε1 => if b = true then match body ε1 with
      | some (.nx ε2) => whileN c body n ε2
      | some (.ct ε2) => whileN c body n ε2
      | some (.bk ε2) => some (.nx ε2)
      | r => r
    else some (.nx ε1)
def whileT (c : GT) (body : ST) : ST := whileN c body 1000000
section
variable {K : PySem.W.Frag} {ca : CA} {W : WX} {O O' S : Addr → Prop} {H H0 H1 H2 H' : Hp} {σ σ1 σ2 σ' : L2.St} {ε ε1 ε2 ε' p p' : TEnv} {a : Addr} {d d' : D} {v : V} {Q : VK} {E : Ends} {i : Nat} {k : Nat}
end
section
variable {X : Cx} {ca : CA} {W : WX} {e elt tg iter tg1 iter1 : Expr} {ifs ifs1 : List Expr} {scope : Scope} {own : List (Str × Nat)} {vs1 : List Nat} {g : ET} {c c1 : GT} {a b : AK} {pos spos py : Pos} {t t1 : TgT} {it it1 : IT} {k i : Nat} {y : Str} {body : List Stmt} {gb : ST}
end
theorem kds_of {K : PySem.W.Frag} {cd : Value} {q : Str} (e : PySem.W.codeIn K cd q = true) : PySem.W.kdsCode K cd = true := by
  unfold PySem.W.codeIn at e
  unfold PySem.W.kdsCode
  cases cd with
  | ref c =>
    dsimp only at e ⊢
    split at e
    · rename_i h
      rw [h]
    · cases e
  | _ => cases e
/-- THE RULE for a def, with what its code tells -/
theorem mkDefC {P : Program} {w : World} {K : PySem.W.Frag} {mg : Str → Option Value} {base : Heap} {ca : CA} {x qual : Str} {st : Stmt} {f : Addr} {fd : FuncData} {N ps : List Str} {n : Nat} {g : ST}
    (F : Fun K x qual st f fd) (S : FnScope N ps (defScope st)) (b : Binds K fd ps [])
    (body : ∀ (k : Nat) (cdv : Value) (A : Around) (outer : List Env) (s : Shared) (H : Hp) (E : XK), PySem.W.kdsCode K cdv = true → CtxT (cxOf (L2.CX P w) P w K mg base N qual (defScope st) f cdv A outer s H E) (wE E) (k + n) →
      PSts (cxOf (L2.CX P w) P w K mg base N qual (defScope st) f cdv A outer s H E) ca (wE E) (defBody st) g) : DefT P w K mg base ca f fd ps (n + 1) (defT ps.length N.length g) := by
  refine ⟨fun k => ?_, defT_args _ _ _, b, F.kp⟩
  obtain ⟨oc, od, kV, doc, pm, an, cdv, ct, osl, same, lk, hcd⟩ := F.ex
  subst same
  have lN : ps.length ≤ N.length := by
    have := congrArg List.length S.pre
    rw [List.length_take] at this
    omega
  refine fn_g lk hcd S (fun vs H Q E h => h.1) ?_
  intro A around s H vs Q E ng hr asked
  exact ⟨_, body k cdv A around s H E (kds_of hcd) ⟨takes_of rfl rfl rfl rfl, ng, hr, rfl, S.nd, passes_of rfl⟩, defT_read lN asked⟩
end Tr

namespace Tr
open PySem PySem.Spec PyProof.Rows L2 Md
theorem hu1 {X : Cx} {W : WX} {k : Nat} (C : CtxT X W k) : X.A.units + 1 < cLine := by
  have := C.room.units
  omega
/-- a dict of the module, of a row -/
structure KGm (K : PySem.W.Frag) (w : World) (mg : Str → Option Value) (ca : CA) (x : Str) (d : Addr) (es : Array DictEntry) (n : Nat) (kv : List (Str × D)) : Prop where
  mg : mg x = some (.ref d)
  at_ : KDict K w d es n
  vals : ∀ z dd, kv.lookup z = some dd → ∃ v u, PySem.W.nsIn K d z = some (some u) ∧ RelV v u ∧ ∀ S H, Rep K ca S H v dd
end Tr

/-! Calls by keywords in the parameters' order; len of an own instance. -/
namespace Tr
open PySem PySem.Spec PyProof.Rows L2 Md
def all0 : List Value → List Value → List Value := fun _ ws => ws
def all0V : List V → List V → List V := fun _ ws => ws
section
variable {X : Cx} {ca : CA} {W : WX} {k n : Nat} {f C : Addr} {fd : FuncData} {ps ks : List Str} {F : ET} {x c m : Str} {p pos kpos : Pos} {e : Expr} {es : List Expr} {kws : List Keyword} {a : AK} {as : List AK} {CX : CXT} {sp : Sp} {E : L2.St → XK} {tk : TA} {nm : Option Str}
def tCallK0 (m : Nat) (sp : Sp) (E : L2.St → XK) (tk : TA) : TE := fun σ H Q => tk σ H fun zs H2 => zs.length = m ∧ sp zs H2 Q (E σ)
theorem pe_callK0G (F : FnG X.prog X.w X.K X.mg X.base CX k f fd ps sp) (g : NoG X.A) (hr : Room k X.A) (hg : Gl X x) (hm : X.mg x = some (.ref f)) (hk : PySem.W.keepIn X.K (.ref f) = true) (hb : KBn X.K fd ps 0 ks all0 all0V) (hx : ∀ sl, PassesAt CX X sl (E sl))
    (hkw : PK X kws tk) (hall : (backToKw pos (keywordEach kws X.env)).all (·.1.isSome) = true := by rfl) (hks : (backToKw pos (keywordEach kws X.env)).filterMap (·.1) = ks := by rfl)
    (hdb : (x == ("__debug__" : Str)) = false := by decide) (hpl : ((backTo pos (starEach [] X.env)).any (·.1) || (backToKw pos (keywordEach kws X.env)).any (·.1.isNone)) = false := by rfl) :
    PE X (.Call (.Name x p) [] kws pos) (tCallK0 ks.length sp E tk) := by
  refine ⟨fun pins s σ H Q I h => ?_⟩
  refine wpAny_Call_Name_kw (ld_glob I hg hm ?_ hdb)
  refine PySem.W.callWith_KW0 (first := []) (h₀ := X.base) I.ok.mod.kin hk hall ?_ hpl
  refine thn (hkw.run pos pins s σ H _ I h) fun ws s2 got2 => ?_
  obtain ⟨zs, H2, I2, rz, l1, q2⟩ := got2
  refine ⟨I2.kIn, ?_⟩
  rw [hks]
  have rel : Vals zs ws := rz
  have bound := hb.to s2 [] ws I2.kIn rfl (rz.length.symm.trans l1)
  refine wpAny_call (codeAny_mono (F.goes X.A X.stack s2 H2 ⟨[], ks.zip ws⟩ ws zs Q (E σ) g hr I2.env0 bound rel q2) fun r s' hq => ?_)
  match r, hq with
  | .error er, hq => exact hx σ pins H2 s2 er s' I2 hq
  | .ok (.ret u), hq => exact I2.after hq
abbrev PKs (X : Cx) (ca : CA) (W : WX) (kws : List Keyword) (as : List AK) : Prop := PK X kws (tAks X.K ca W as)
theorem pks_nil : PKs X ca W [] [] := pk_nil
theorem pks_cons (h : PAK X ca W e a) (t : PKs X ca W kws as) : PKs X ca W (⟨nm, e, kpos⟩ :: kws) (a :: as) := pk_cons h t
theorem pet_callK0 (T : DefT X.prog X.w X.K X.mg X.base ca f fd ps n F) (kb : KBn X.K fd ps 0 ks all0 all0V) (C : CtxT X W k) (hk : n ≤ k) (hg : Gl X x) (hm : X.mg x = some (.ref f)) (ha : PKs X ca W kws as) (hl : as.length = ks.length := by rfl)
    (hall : (backToKw pos (keywordEach kws X.env)).all (·.1.isSome) = true := by rfl) (hks : (backToKw pos (keywordEach kws X.env)).filterMap (·.1) = ks := by rfl)
    (hdb : (x == ("__debug__" : Str)) = false := by decide) (hpl : ((backTo pos (starEach [] X.env)).any (·.1) || (backToKw pos (keywordEach kws X.env)).any (·.1.isNone)) = false := by rfl) : PET X ca W (.Call (.Name x p) [] kws pos) (callT F as) :=
  peWeak (pe_callK0G (E := WE W) (FnG.mono (T.ok 0) (by omega)) C.ng C.room hg hm T.kp kb (fun sl => passAt C.tk sl) ha hall hks hdb hpl) fun σ H Q h => by
    obtain ⟨O, ε, r0, R, e, p⟩ := h
    unfold callT at e
    cases q : evA as ε with
    | none => rw [q] at e; cases e
    | some r1 =>
      rw [q] at e
      refine evA_read as R q ?_
      cases r1 with
      | ex c d ε1 =>
        cases e
        exact p
      | ok ads ε1 =>
        intro vs H1 s ar
        rw [bindE_ok] at e
        split at e
        · rename_i pp ep
          split at e
          · rename_i u
            rw [Option.map_eq_some_iff] at e
            obtain ⟨r, e1, e2⟩ := e
            subst e2
            exact ⟨by rw [argR_len ar, evA_len q, hl], call_at s.env ar ep u e1 T.an (p.later s)⟩
          · cases e
        · cases e
/-! ### len of an own instance -/
abbrev rLenG (C : Addr) (sp : Sp) : List V → Hp → VK → Prop := fun xs H Q => ∃ a dx fs, xs = [.ref a] ∧ H a = some (.ins C dx fs) ∧
  sp [.ref a] H (fun v H' => ∃ n : Nat, v = .int n ∧ n < 2 ^ 62 ∧ Q (.int n) H') fun _ _ _ => False
end
end Tr

namespace Tr
open PySem PySem.Spec PyProof.Rows L2 Md
def lenOwnT (c : Str) (F : ET) (a : AK) : ET := fun ε => bindE (propT c F a ε) fun x ε1 => match x.1 with
  | .int i => if 0 ≤ i ∧ i < 2 ^ 62 then some (.ok (.int i, false) ε1) else none
  | _ => none
/-- len of whatever it is -/
def lenT (c : Str) (F : ET) (a : AK) : ET := fun ε => match opT fLen [a] ε with
  | some r => some r
  | none => lenOwnT c F a ε
section
variable {K : PySem.W.Frag} {ca : CA} {W : WX} {σ : L2.St} {H : Hp} {Q : VK} {c : Str} {F : ET}
end
section
variable {X : Cx} {ca : CA} {W : WX} {k n : Nat} {f : Addr} {fd : FuncData} {F : ET} {c : Str} {p pos : Pos} {e : Expr} {a : AK}
end
end Tr

/-! More steps of evaluation. -/
namespace Tr
open PySem PySem.Spec PyProof.Rows L2 Md
def qVal (o : Option D) (PO : D → Bool → Prop) [Tg PO] : Prop := match o with
  | some d => PO d false
  | none => False
def qStA (d y x : D) (Q : D → Prop) [Tg Q] : Prop := match d with
  | .lst ds => qSt ds y x fun ds' => Q (.lst ds')
  | .dct es => match keyD y with
    | some k => es.length ≤ 1000000 ∧ Q (.dct (putKD es k x))
    | none => False
  | _ => False
section
variable {α β : Type} {ε ε1 p p' : TEnv} {i j k n : Nat} {d d' e x y z : D} {b c : Bool} {s s' : Slot} {P : D → Bool → TEnv → Prop} {X : Str → D → TEnv → Prop} {Q : D → Nat → Prop} {g g1 g2 gk ga gb gc : ET} {as : List AK} {ads : List Ad} {a a2 : AK}
  {QD : List D → Prop} {QE : TEnv → Prop} {QB : Bool → Prop} {nx bk ct : TEnv → Prop} {rt : D → Bool → TEnv → Prop} {PO : D → Bool → Prop} {ds xs ys : List D} {F : ET} {l m r : Int} {u w cn fl : Str} {es : List (Key × D)} {ks : List Key} {kv : List (Str × D)} {fs : List (Str × D)}
theorem qO_or_l : qO (fOr fIx fDGet [.lst xs, y]) PO ↔ qO (fIx [.lst xs, y]) PO := by
  unfold fOr
  cases fIx [.lst xs, y] <;> exact Iff.rfl
theorem qO_or_t : qO (fOr fIx fDGet [.tup xs, y]) PO ↔ qO (fIx [.tup xs, y]) PO := by
  unfold fOr
  cases fIx [.tup xs, y] <;> exact Iff.rfl
theorem qO_or_s : qO (fOr fIx fDGet [.str u, y]) PO ↔ qO (fIx [.str u, y]) PO := by
  unfold fOr
  cases fIx [.str u, y] <;> exact Iff.rfl
theorem qO_or_di : qO (fOr fIx fDGet [.dct es, .int l]) PO ↔ qVal (valD es (.inl l)) PO := by
  show qO ((valD es (.inl l)).map _) PO ↔ _
  cases valD es (.inl l) <;> exact Iff.rfl
theorem qO_or_ds : qO (fOr fIx fDGet [.dct es, .str u]) PO ↔ qVal (valD es (.inr u)) PO := by
  show qO ((valD es (.inr u)).map _) PO ↔ _
  cases valD es (.inr u) <;> exact Iff.rfl
theorem qO_in_l : qO (fInA [x, .lst ys]) PO ↔ qO (fIn [x, .lst ys]) PO := Iff.rfl
theorem qO_in_t : qO (fInA [x, .tup ys]) PO ↔ qO (fIn [x, .tup ys]) PO := Iff.rfl
theorem qO_in_s : qO (fInA [x, .str u]) PO ↔ qO (fIn [x, .str u]) PO := Iff.rfl
theorem qO_in_si : qO (fInA [.int l, .set ks]) PO ↔ PO (.bl (inK ks (.inl l))) false := Iff.rfl
theorem qO_in_ss : qO (fInA [.str u, .set ks]) PO ↔ PO (.bl (inK ks (.inr u))) false := Iff.rfl
theorem qO_in_di : qO (fInA [.int l, .dct es]) PO ↔ PO (.bl (valD es (.inl l)).isSome) false := Iff.rfl
theorem qO_in_ds : qO (fInA [.str u, .dct es]) PO ↔ PO (.bl (valD es (.inr u)).isSome) false := Iff.rfl
theorem qO_nin_l : qO (fNotInA [x, .lst ys]) PO ↔ qO (fNotIn [x, .lst ys]) PO := Iff.rfl
theorem qO_nin_t : qO (fNotInA [x, .tup ys]) PO ↔ qO (fNotIn [x, .tup ys]) PO := Iff.rfl
theorem qO_nin_si : qO (fNotInA [.int l, .set ks]) PO ↔ PO (.bl (!inK ks (.inl l))) false := Iff.rfl
theorem qO_nin_ss : qO (fNotInA [.str u, .set ks]) PO ↔ PO (.bl (!inK ks (.inr u))) false := Iff.rfl
theorem qO_nin_di : qO (fNotInA [.int l, .dct es]) PO ↔ PO (.bl (!(valD es (.inl l)).isSome)) false := Iff.rfl
theorem qO_nin_ds : qO (fNotInA [.str u, .dct es]) PO ↔ PO (.bl (!(valD es (.inr u)).isSome)) false := Iff.rfl
theorem qO_shl : qO (fShl [.int l, .int m]) PO ↔ (0 ≤ m ∧ m ≤ 1000000 ∧ l.natAbs < 2 ^ 64) ∧ PO (.int (l * 2 ^ m.toNat)) false := qO_ite
theorem qO_shr : qO (fShr [.int l, .int m]) PO ↔ 0 ≤ m ∧ PO (.int (l / 2 ^ m.toNat)) false := qO_ite
theorem qO_band : qO (fBand [.int l, .int m]) PO ↔ PO (.int (Builtin.bitAnd l m)) false := Iff.rfl
theorem qO_bor : qO (fBor [.int l, .int m]) PO ↔ PO (.int (Builtin.bitOr l m)) false := Iff.rfl
theorem qO_fld : qO (fFld cn fl [.ins cn fs]) PO ↔ qVal (fs.lookup fl) PO := by
  have e : fFld cn fl [.ins cn fs] = (fs.lookup fl).map fun d => (d, false) := if_pos rfl
  rw [e]
  cases fs.lookup fl <;> exact Iff.rfl
theorem qVal_some {d : D} : qVal (some d) PO ↔ PO d false := Iff.rfl
theorem w_dnewT : qE (dnewT ε) P X ↔ P (.dct []) true ε := Iff.rfl
theorem w_set1T : qE (set1T g ε) P X ↔ qE (g ε) (fun d _ ε1 => match keyD d with | some k => P (.set [k]) true ε1 | none => False) X := by
  unfold set1T qE
  rw [qR_bind]
  cases g ε with
  | none => exact Iff.rfl
  | some r =>
    cases r with
    | ex c d ε1 => exact Iff.rfl
    | ok x ε1 =>
      dsimp only [qR]
      cases keyD x.1 <;> exact Iff.rfl
theorem w_storeA : qF (storeA i gk g ε) nx rt bk ct X ↔ qE (g ε) (fun x _ ε1 => slOwn ε1 i = true ∧ qE (gk ε1) (fun y _ ε2 => qV ε2 i fun d k => ownF k = true ∧ qStA d y x fun d' => qSet ε2 i (some (d', k)) nx) X) X := by
  unfold storeA storeT storeD qE
  cases g ε with
  | none => exact Iff.rfl
  | some r =>
    cases r with
    | ex c d ε2 => exact Iff.rfl
    | ok x ε1 =>
      rw [bindS_ok, bindS_ok]
      dsimp only [qR]
      by_cases o : slOwn ε1 i = true
      · rw [if_pos o, if_pos o]
        refine Iff.trans ?_ (Iff.symm (and_iff_right o))
        cases gk ε1 with
        | none => exact Iff.rfl
        | some r =>
          cases r with
          | ex c d ε2 => exact Iff.rfl
          | ok y ε2 =>
            rw [bindS_ok, bindS_ok]
            dsimp only [qR]
            unfold qV
            cases ε2[i]? with
            | none => exact Iff.rfl
            | some s =>
              cases s with
              | none => exact Iff.rfl
              | some q =>
                obtain ⟨d, k⟩ := q
                obtain ⟨y, b⟩ := y
                cases d with
                | lst ds =>
                  cases y with
                  | int j =>
                    dsimp only [qStA, qSt]
                    by_cases ok : ownF k = true
                    · rw [if_pos ok]
                      refine Iff.trans ?_ (Iff.symm (and_iff_right ok))
                      cases ixN ds.length j <;> exact Iff.rfl
                    · rw [if_neg ok]
                      exact ⟨fun h => h.elim, fun h => absurd h.1 ok⟩
                  | _ => exact ⟨fun h => h.elim, fun h => h.2.elim⟩
                | dct es =>
                  dsimp only [qStA]
                  by_cases ok : ownF k = true
                  · refine Iff.trans ?_ (Iff.symm (and_iff_right ok))
                    cases q : keyD y with
                    | none => cases y <;> first | exact Iff.rfl | cases q
                    | some ky =>
                      have e : ∀ (A B : Option Fl), (match (match (some (some (D.dct es, k)) : Option Slot), y with
                        | some (some (.lst ds, k)), .int j => A
                        | _, _ => none) with
                        | some r => some r
                        | none => B) = B := fun A B => by cases y <;> rfl
                      refine Iff.trans (Iff.of_eq (congrArg (fun z => qF z nx rt bk ct X) (by cases y <;> rfl))) (?_ : qF (if ownF k = true ∧ es.length ≤ 1000000 then some (.nx (ε2.set i (some (.dct (putKD es ky x.1), k)))) else none) nx rt bk ct X ↔ _)
                      by_cases le : es.length ≤ 1000000
                      · rw [if_pos ⟨ok, le⟩]
                        exact Iff.symm (and_iff_right le)
                      · rw [if_neg fun h => le h.2]
                        exact ⟨fun h => h.elim, fun h => absurd h.1 le⟩
                  · refine ⟨fun h => ?_, fun h => absurd h.1 ok⟩
                    exfalso
                    revert h
                    cases q : keyD y with
                    | none => cases y <;> first | exact id | cases q
                    | some ky =>
                      cases y with
                      | int l =>
                        cases q
                        show qF (if ownF k = true ∧ es.length ≤ 1000000 then some (.nx (ε2.set i (some (.dct (putKD es (.inl l) x.1), k)))) else none) nx rt bk ct X → False
                        rw [if_neg fun h => ok h.1]
                        exact id
                      | str u =>
                        cases q
                        show qF (if ownF k = true ∧ es.length ≤ 1000000 then some (.nx (ε2.set i (some (.dct (putKD es (.inr u) x.1), k)))) else none) nx rt bk ct X → False
                        rw [if_neg fun h => ok h.1]
                        exact id
                      | _ => cases q
                | _ => cases y <;> exact ⟨fun h => h.elim, fun h => h.2.elim⟩
      · rw [if_neg o, if_neg o]
        exact ⟨fun h => h.elim, fun h => absurd h.1 o⟩
theorem qStA_l {Q : D → Prop} : qStA (.lst xs) y x Q ↔ qSt xs y x fun ds' => Q (.lst ds') := Iff.rfl
theorem qStA_di {Q : D → Prop} : qStA (.dct es) (.int l) x Q ↔ es.length ≤ 1000000 ∧ Q (.dct (putKD es (.inl l) x)) := Iff.rfl
theorem qStA_ds {Q : D → Prop} : qStA (.dct es) (.str u) x Q ↔ es.length ≤ 1000000 ∧ Q (.dct (putKD es (.inr u) x)) := Iff.rfl
theorem w_storeF : qF (storeF cn fl i g ε) nx rt bk ct X ↔ qE (g ε) (fun v _ ε1 => qV ε1 i fun d k => match d with | .ins c' fs => (c' = cn ∧ ownF k = true ∧ fs.length < 1000) ∧ qSet ε1 i (some (.ins c' (putD fl v fs), k)) nx | _ => False) X := by
  unfold storeF qE
  rw [qF_bind]
  cases g ε with
  | none => exact Iff.rfl
  | some r =>
    cases r with
    | ex c d ε2 => exact Iff.rfl
    | ok x ε1 =>
      dsimp only [qR]
      unfold qV
      cases ε1[i]? with
      | none => exact Iff.rfl
      | some s =>
        cases s with
        | none => exact Iff.rfl
        | some q =>
          obtain ⟨d, k⟩ := q
          cases d with
          | ins c' fs =>
            dsimp only
            by_cases c : c' = cn ∧ ownF k = true ∧ fs.length < 1000
            · rw [if_pos c]
              exact Iff.symm (and_iff_right c)
            · rw [if_neg c]
              exact ⟨fun h => h.elim, fun h => absurd h.1 c⟩
          | _ => exact Iff.rfl
end
def qMade (d : D) (p' : TEnv) (Q : Str → List (Str × D) → TEnv → Prop) [Tg Q] : Prop := match d, p' with
  | .non, some (.ins c fs, 2) :: p'' => Q c fs p''
  | _, _ => False
def qMadeX (p' : TEnv) (Q : TEnv → Prop) [Tg Q] : Prop := match p' with
  | some (_, 2) :: p'' => Q p''
  | _ => False
section
variable {ε p p' : TEnv} {d : D} {P : D → Bool → TEnv → Prop} {X : Str → D → TEnv → Prop} {as : List AK} {F : ET} {cn : Str} {fs : List (Str × D)} {Q : Str → List (Str × D) → TEnv → Prop}
theorem qMade_ok : qMade .non (some (.ins cn fs, 2) :: p) Q ↔ Q cn fs p := Iff.rfl
theorem w_makeT : qE (makeT cn F as ε) P X ↔ qA (evA as ε) (fun ads ε1 => qC ε1 ads fun p l => qU l (qE (F (some (.ins cn [], 2) :: p)) (fun d _ p' => qMade d p' fun c' fs p'' => qBack ads p'' ε1 fun ε2 => P (.ins c' fs) true ε2) (fun c d p' => qMadeX p' fun p'' => qBack ads p'' ε1 fun ε2 => X c d ε2))) X := by
  unfold qE makeT qA
  rw [qR_bind]
  cases evA as ε with
  | none => exact Iff.rfl
  | some r =>
    cases r with
    | ex c d ε2 => exact Iff.rfl
    | ok ads ε1 =>
      unfold qC
      dsimp only [qR]
      cases mkP ε1 ads with
      | none => exact Iff.rfl
      | some p =>
        unfold qU
        dsimp only
        by_cases u : uniq (ownIx ε1 ads) = true
        · rw [if_pos u]
          refine Iff.trans ?_ (Iff.symm (and_iff_right u))
          cases F (some (.ins cn [], 2) :: p) with
          | none => exact Iff.rfl
          | some r =>
            show qR (mkR ads ε1 r) _ _ ↔ _
            cases r with
            | ok x p' =>
              obtain ⟨d, b⟩ := x
              cases d with
              | non =>
                cases p' with
                | nil => exact Iff.rfl
                | cons s p'' =>
                  cases s with
                  | none => exact Iff.rfl
                  | some q =>
                    obtain ⟨d2, k2⟩ := q
                    cases d2 with
                    | ins c' fs =>
                      match k2 with
                      | 0 => exact Iff.rfl
                      | 1 => exact Iff.rfl
                      | 2 => exact Iff.rfl
                      | k + 3 => exact Iff.rfl
                    | _ => exact Iff.rfl
              | _ => exact Iff.rfl
            | ex c d p' =>
              cases p' with
              | nil => exact Iff.rfl
              | cons s p'' =>
                cases s with
                | none => exact Iff.rfl
                | some q =>
                  obtain ⟨d2, k2⟩ := q
                  match k2 with
                  | 0 => exact Iff.rfl
                  | 1 => exact Iff.rfl
                  | 2 => exact Iff.rfl
                  | k + 3 => exact Iff.rfl
        · rw [if_neg u]
          exact ⟨fun h => h.elim, fun h => absurd h.1 u⟩
end
end Tr

/-! Behind a call. -/
namespace Tr
open PySem PySem.Spec PyProof.Rows L2 Md
theorem qB_cases {q : Prop} [Decidable q] {A B : Prop} (h1 : q → A) (h2 : ¬ q → B) : qB (decide q) A B := qB_d.mpr ⟨h1, h2⟩
def qBk (s : Slot) (d' : D) (k' : Nat) (A : Prop) (Q : Slot → Prop) [Tg Q] : Prop := match s with
  | some (_, 1) => Q (some (d', if k' = 2 then 1 else 0))
  | some (_, 2) => Q (some (d', if k' = 2 then 2 else 3))
  | _ => A
section
variable {ε p' : TEnv} {i k' : Nat} {d' e : D} {ads : List Ad} {QE : TEnv → Prop} {A : Prop} {QS : Slot → Prop}
theorem qBk_11 : qBk (some (e, 1)) d' 2 A QS ↔ QS (some (d', 1)) := Iff.rfl
theorem qBk_22 : qBk (some (e, 2)) d' 2 A QS ↔ QS (some (d', 2)) := Iff.rfl
theorem qBk_13 : qBk (some (e, 1)) d' 3 A QS ↔ QS (some (d', 0)) := Iff.rfl
theorem qBk_23 : qBk (some (e, 2)) d' 3 A QS ↔ QS (some (d', 3)) := Iff.rfl
theorem qBk_0 : qBk (some (e, 0)) d' k' A QS ↔ A := Iff.rfl
theorem qBk_3 : qBk (some (e, 3)) d' k' A QS ↔ A := Iff.rfl
theorem qBk_n : qBk none d' k' A QS ↔ A := Iff.rfl
theorem qBack_at : qBack (.sl i :: ads) (some (d', k') :: p') ε QE ↔ qGet ε i fun s => qBk s d' k' (qBack ads p' ε QE) fun s' => qSet ε i s' fun ε' => qBack ads p' ε' QE := by
  unfold qGet
  cases h : ε[i]? with
  | none =>
    show QE (back ads p' (if slOwn ε i = true then ε.set i (backS (ε[i]?.getD none) (some (d', k'))) else ε)) ↔ _
    have e : slOwn ε i = false := by unfold slOwn; rw [h]
    rw [e]
    exact Iff.rfl
  | some s =>
    cases s with
    | none =>
      show QE (back ads p' (if slOwn ε i = true then ε.set i (backS (ε[i]?.getD none) (some (d', k'))) else ε)) ↔ _
      have e : slOwn ε i = false := by unfold slOwn; rw [h]
      rw [e]
      exact Iff.rfl
    | some x =>
      obtain ⟨d, k⟩ := x
      unfold qBack
      rw [back_sl h]
      match k with
      | 0 => exact Iff.rfl
      | 1 =>
        show QE (back ads p' (ε.set i (some (d', if k' = 2 then 1 else dem 1)))) ↔ QE (back ads p' (ε.set i (some (d', if k' = 2 then 1 else 0))))
        exact Iff.rfl
      | 2 =>
        show QE (back ads p' (ε.set i (some (d', if k' = 2 then 2 else dem 2)))) ↔ QE (back ads p' (ε.set i (some (d', if k' = 2 then 2 else 3))))
        exact Iff.rfl
      | k + 3 => exact Iff.rfl
end
end Tr

/-! Slices, by steps. -/
namespace Tr
open PySem PySem.Spec PyProof.Rows L2 Md
section
variable {z : Str} {i j : Int} {lo hi : Option Int} {PO : D → Bool → Prop} {ds : List D} {d : D}
theorem qO_cut_s : qO (fCut (.str z) lo hi) PO ↔ z.length ≤ most ∧ PO (.str (cutS z lo hi)) false := qO_ite
theorem qO_cut_l : qO (fCut (.lst ds) lo hi) PO ↔ PO (.lst (cutD ds lo hi)) true := Iff.rfl
theorem qO_cut_t : qO (fCut (.tup ds) lo hi) PO ↔ PO (.tup (cutD ds lo hi)) false := Iff.rfl
theorem qO_sl_0 : qO (fSl false false [d]) PO ↔ qO (fCut d none none) PO := by simp [fSl]
theorem qO_sl_1 : qO (fSl true false [d, .int i]) PO ↔ qO (fCut d (some i) none) PO := by simp [fSl]
theorem qO_sl_2 : qO (fSl false true [d, .int i]) PO ↔ qO (fCut d none (some i)) PO := by simp [fSl]
theorem qInt_i {Q : Int → Prop} : qInt (.int i) Q ↔ Q i := Iff.rfl
theorem qO_rev : qO (fRev [.lst ds]) PO ↔ PO (.lst ds.reverse) true := Iff.rfl
end
section
variable {t : TgT} {body : ST} {xs : List D} {ε : TEnv} {nx : TEnv → Prop} {rt : D → Bool → TEnv → Prop} {X : Str → D → TEnv → Prop} {i : Nat}
theorem qFor_n : qFor none t body xs ε nx rt X ↔ qLp t body none xs ε nx rt X := Iff.rfl
theorem qFor_s : qFor (some i) t body xs ε nx rt X ↔ qV ε i fun d k => qG k (qLp t body none xs ε nx rt X) (qSet ε i (some (d, 2)) fun ε' => qLp t body (some (i, d)) xs ε' (fun ε2 => qV ε2 i fun d2 k2 => qG k2 (nx ε2) (nx ε2) (qSet ε2 i (some (d2, 1)) nx) (nx ε2)) rt X) (qLp t body (some (i, d)) xs ε nx rt X) (qLp t body none xs ε nx rt X) := Iff.rfl
end
end Tr

/-! Data that are compared. -/
namespace Tr
open PySem PySem.Spec PyProof.Rows L2 Md
section
variable {a b : Bool} {x y : Str} {l m : Int} {PO : D → Bool → Prop} {ds : List D} {d : D}
theorem shaped_nil : SeqAt.shaped (.list []) = true := by unfold SeqAt.shaped; simp [PyData.canLay0, PyData.depth, PyData.canLayAll0, PyData.depthAll]
end
end Tr

/-! == and != of what is flat, too; steps of evaluation for methods, properties, sets, dicts. -/
namespace Tr
open PySem PySem.Spec PyProof.Rows L2 Md
noncomputable def fEqA (ds : List D) : Option (D × Bool) := match ds with
  | [d, e] => match sv d, sv e with
    | some u, some v => if scal u v = true then some (.bl (decide (u = v)), false) else fEq [d, e]
    | _, _ => fEq [d, e]
  | _ => none
noncomputable def fNeA (ds : List D) : Option (D × Bool) := match ds with
  | [d, e] => match sv d, sv e with
    | some u, some v => if scal u v = true then some (.bl (!decide (u = v)), false) else fNe [d, e]
    | _, _ => fNe [d, e]
  | _ => none
section
variable {X : Cx} {K : PySem.W.Frag} {ca : CA}
abbrev rEqA (K : PySem.W.Frag) : R2 := fun x y H Q => rEq x y H Q ∨ rEqD K x y H Q
abbrev rNeA (K : PySem.W.Frag) : R2 := fun x y H Q => rNe x y H Q ∨ rNeD K x y H Q
theorem op_eqA (hu : X.A.units + 64 < cLine) : OpR X (compareOp .Eq) (rEqA X.K) := op_eq.or (op_eqD hu)
theorem op_neA (hu : X.A.units + 64 < cLine) : OpR X (compareOp .NotEq) (rNeA X.K) := op_ne.or (op_neD hu)
theorem os_eqA : OpS K ca (lift2 (rEqA K)) fEqA := by
  intro S H vs ds res Q hp hf q
  have old : ∀ {d e : D}, ds = [d, e] → fEq [d, e] = some res → lift2 (rEqA K) vs H Q := fun {d e} e1 e2 => by
    subst e1
    obtain ⟨x, y, h1, h2⟩ := os_eq S H vs [d, e] res Q hp e2 q
    exact ⟨x, y, h1, .inr h2⟩
  unfold fEqA at hf
  split at hf
  · rename_i d e
    split at hf
    · rename_i u v e1 e2
      split at hf
      · rename_i c
        cases hf
        obtain ⟨x, y, rfl, b1, b2⟩ := pair2 hp
        have h1 := (b1.sv e1).1
        have h2 := (b2.sv e2).1
        subst h1 h2
        exact ⟨_, _, rfl, .inl ⟨c, q _ _ (Same.refl _) (.bl _)⟩⟩
      · exact old rfl hf
    · exact old rfl hf
  · cases hf
theorem os_neA : OpS K ca (lift2 (rNeA K)) fNeA := by
  intro S H vs ds res Q hp hf q
  have old : ∀ {d e : D}, ds = [d, e] → fNe [d, e] = some res → lift2 (rNeA K) vs H Q := fun {d e} e1 e2 => by
    subst e1
    obtain ⟨x, y, h1, h2⟩ := os_ne S H vs [d, e] res Q hp e2 q
    exact ⟨x, y, h1, .inr h2⟩
  unfold fNeA at hf
  split at hf
  · rename_i d e
    split at hf
    · rename_i u v e1 e2
      split at hf
      · rename_i c
        cases hf
        obtain ⟨x, y, rfl, b1, b2⟩ := pair2 hp
        have h1 := (b1.sv e1).1
        have h2 := (b2.sv e2).1
        subst h1 h2
        exact ⟨_, _, rfl, .inl ⟨c, q _ _ (Same.refl _) (.bl _)⟩⟩
      · exact old rfl hf
    · exact old rfl hf
  · cases hf
end
/-- an instance of a class -/
def qIns (c : Str) (m : Option Str) (d : D) (A : Prop) : Prop := match d with
  | .ins c' fs => (c' = c ∧ noAt fs m = true) ∧ A
  | _ => False
def qKd (kv : List (Str × D)) (d : D) (Q : D → Prop) [Tg Q] : Prop := match d with
  | .str z => match kv.lookup z with
    | some e => Q e
    | none => False
  | _ => False
def qSta (d : D) (Q : List Key → Prop) [Tg Q] : Prop := match d with
  | .set ks => Q ks
  | _ => False
def qKy (d : D) (Q : Key → Prop) [Tg Q] : Prop := match keyD d with
  | some k => Q k
  | none => False
def qPs (r : Option (R (List (Key × D)))) (P : List (Key × D) → TEnv → Prop) (X : Str → D → TEnv → Prop) [Tg P] : Prop := qR r P X
section
variable {α β : Type} {ε ε1 p p' : TEnv} {i j k n : Nat} {d d' e x y z : D} {b c : Bool} {s s' : Slot} {P : D → Bool → TEnv → Prop} {X : Str → D → TEnv → Prop} {Q : D → Nat → Prop} {g g1 g2 gk ga gb gc : ET} {as : List AK} {ads : List Ad} {a a2 : AK} {A : Prop}
  {QD : List D → Prop} {QE : TEnv → Prop} {QB : Bool → Prop} {nx bk ct : TEnv → Prop} {rt : D → Bool → TEnv → Prop} {PO : D → Bool → Prop} {ds xs ys : List D} {F : ET} {l m r : Int} {u w cn fl : Str} {es : List (Key × D)} {ks : List Key} {kv : List (Str × D)} {fs : List (Str × D)} {mo : Option Str} {PP : List (Key × D) → TEnv → Prop} {ps : List (ET × ET)}
theorem w_methT : qE (methT cn mo F a as ε) P X ↔ qA (evA [a] ε) (fun ads ε1 => qL ε1 ads fun ds => qHd ds fun d => qIns cn mo d (qE (callT F (a :: as) ε) P X)) X := by
  unfold methT qA
  cases evA [a] ε with
  | none => exact Iff.rfl
  | some r =>
    cases r with
    | ex c d ε2 => exact Iff.rfl
    | ok ads ε1 =>
      dsimp only [qR]
      unfold qL
      cases late ε1 ads with
      | none => exact Iff.rfl
      | some ds =>
        match ds with
        | [] => exact Iff.rfl
        | d :: _ :: _ => cases d <;> exact Iff.rfl
        | [d] =>
          cases d with
          | ins c' fs =>
            dsimp only [qHd, qIns]
            by_cases c : c' = cn ∧ noAt fs mo = true
            · rw [if_pos c]; exact Iff.symm (and_iff_right c)
            · rw [if_neg c]; exact ⟨fun h => h.elim, fun h => absurd h.1 c⟩
          | _ => exact Iff.rfl
theorem qIns_i : qIns cn mo (.ins cn fs) A ↔ noAt fs mo = true ∧ A := by
  unfold qIns
  simp
theorem noAt_none : (noAt fs none = true) = True := by simp [noAt]
theorem w_propT : qE (propT cn F a ε) P X ↔ qE (methT cn none F a [] ε) P fun _ _ _ => False := by
  unfold propT qE
  cases methT cn none F a [] ε with
  | none => exact Iff.rfl
  | some r => cases r <;> exact Iff.rfl
theorem w_addT : qE (addT i a ε) P X ↔ qV ε i fun d0 k0 => ownF k0 = true ∧ qSta d0 fun _ => qA (evA [a] ε) (fun ads ε1 => qV ε1 i fun d k => qSta d fun ks => qM ads fun ds => qHd ds fun x => qKy x fun ky => (ownF k = true ∧ ks.length ≤ 1000) ∧ qSet ε1 i (some (.set (addK ks ky), k)) fun ε2 => P .non false ε2) X := by
  unfold addT qV
  cases ε[i]? with
  | none => exact Iff.rfl
  | some s =>
    cases s with
    | none => exact Iff.rfl
    | some q =>
      obtain ⟨d, k0⟩ := q
      cases d with
      | set ks0 =>
        dsimp only [qSta]
        by_cases ok : ownF k0 = true
        · rw [if_pos ok]
          refine Iff.trans ?_ (Iff.symm (and_iff_right ok))
          unfold qE qA
          rw [qR_bind]
          cases evA [a] ε with
          | none => exact Iff.rfl
          | some r =>
            cases r with
            | ex c d ε2 => exact Iff.rfl
            | ok ads ε1 =>
              dsimp only [qR]
              unfold qM
              cases ε1[i]? with
              | none => exact Iff.rfl
              | some s =>
                cases s with
                | none => exact Iff.rfl
                | some q =>
                  obtain ⟨d, k⟩ := q
                  cases d with
                  | set ks =>
                    dsimp only
                    cases tms ads with
                    | none => exact Iff.rfl
                    | some ds =>
                      match ds with
                      | [] => exact Iff.rfl
                      | _ :: _ :: _ => exact Iff.rfl
                      | [x] =>
                        dsimp only [qHd, qKy]
                        cases keyD x with
                        | none => exact Iff.rfl
                        | some ky =>
                          dsimp only
                          by_cases o : ownF k = true ∧ ks.length ≤ 1000
                          · rw [if_pos o]
                            exact Iff.symm (and_iff_right o)
                          · rw [if_neg o]
                            exact ⟨fun h => h.elim, fun h => absurd h.1 o⟩
                  | _ => cases tms ads <;> exact Iff.rfl
        · rw [if_neg ok]
          exact ⟨fun h => h.elim, fun h => absurd h.1 ok⟩
      | _ => exact ⟨fun h => h.elim, fun h => h.2.elim⟩
theorem qSta_s {Q : List Key → Prop} : qSta (.set ks) Q ↔ Q ks := Iff.rfl
theorem qKy_s {Q : Key → Prop} : qKy (.str u) Q ↔ Q (.inr u) := Iff.rfl
theorem qKy_i {Q : Key → Prop} : qKy (.int l) Q ↔ Q (.inl l) := Iff.rfl
theorem w_kdIxT : qE (kdIxT kv a ε) P X ↔ qA (evA [a] ε) (fun ads ε1 => qL ε1 ads fun ds => qHd ds fun d => qKd kv d fun e => P e false ε1) X := by
  unfold kdIxT
  rw [w_opT]
  unfold qA
  cases evA [a] ε with
  | none => exact Iff.rfl
  | some r =>
    cases r with
    | ex c d ε2 => exact Iff.rfl
    | ok ads ε1 =>
      dsimp only [qR]
      unfold qL
      cases late ε1 ads with
      | none => exact Iff.rfl
      | some ds =>
        match ds with
        | [] => exact Iff.rfl
        | d :: _ :: _ => cases d <;> exact Iff.rfl
        | [d] =>
          cases d with
          | str z =>
            dsimp only [qHd, qKd, qO]
            cases kv.lookup z <;> exact Iff.rfl
          | _ => exact Iff.rfl
theorem qPs_nil : qPs (evPs [] ε) PP X ↔ PP [] ε := Iff.rfl
theorem qPs_cons : qPs (evPs ((gk, g) :: ps) ε) PP X ↔ qE (gk ε) (fun x _ ε1 => qKy x fun k => qE (g ε1) (fun y _ ε2 => qPs (evPs ps ε2) (fun kvs ε3 => PP ((k, y) :: kvs) ε3) X) X) X := by
  unfold qPs qE
  conv => lhs; unfold evPs
  rw [qR_bind]
  cases gk ε with
  | none => exact Iff.rfl
  | some r =>
    cases r with
    | ex c d ε2 => exact Iff.rfl
    | ok x ε1 =>
      dsimp only [qR]
      unfold qKy
      cases keyD x.1 with
      | none => exact Iff.rfl
      | some k =>
        dsimp only
        have e := qR_bind (r := g ε1) (f := fun y ε2 => bindE (evPs ps ε2) fun kvs ε3 => some (R.ok ((k, y.1) :: kvs) ε3)) (P := PP) (X := X)
        refine e.trans ?_
        simp only [qR_bind]
        exact Iff.rfl
theorem w_dctT : qE (dctT ps ε) P X ↔ qPs (evPs ps ε) (fun kvs ε1 => kvs.length ≤ 15 ∧ P (.dct (mergeD [] kvs)) true ε1) X := by
  unfold dctT qE qPs
  rw [qR_bind]
  have e : ∀ (kvs : List (Key × D)) (ε1 : TEnv), qR (if kvs.length ≤ 15 then some (R.ok (D.dct (mergeD [] kvs), true) ε1) else none) (fun x ε => P x.1 x.2 ε) X ↔ kvs.length ≤ 15 ∧ P (.dct (mergeD [] kvs)) true ε1 := fun kvs ε1 => by
    by_cases c : kvs.length ≤ 15
    · rw [if_pos c]; exact Iff.symm (and_iff_right c)
    · rw [if_neg c]; exact ⟨fun h => h.elim, fun h => absurd h.1 c⟩
  simp only [e]
theorem qMu_ext {Q : List D → D → Prop} : qMu (fExtend xs [.lst ys]) Q ↔ xs.length + ys.length ≤ most ∧ Q (xs ++ ys) .non := by
  unfold qMu fExtend
  by_cases c : xs.length + ys.length ≤ most
  · simp [c]
  · simp [c]
-- == and !=
theorem qO_eqA_i : qO (fEqA [.int l, .int m]) PO ↔ PO (.bl (decide (l = m))) false := by
  unfold fEqA
  simp [sv, scal, qO]
theorem qO_neA_i : qO (fNeA [.int l, .int m]) PO ↔ PO (.bl (!decide (l = m))) false := by
  unfold fNeA
  simp [sv, scal, qO]
theorem qO_eqA_s : qO (fEqA [.str u, .str w]) PO ↔ PO (.bl (decide (u = w))) false := by
  unfold fEqA
  simp [sv, scal, qO]
theorem qO_neA_s : qO (fNeA [.str u, .str w]) PO ↔ PO (.bl (!decide (u = w))) false := by
  unfold fNeA
  simp [sv, scal, qO]
theorem qO_eqA_b : qO (fEqA [.bl b, .bl c]) PO ↔ PO (.bl (b == c)) false := by
  unfold fEqA
  simp only [sv, scal, qO, if_true]
  have e : decide (V.bl b = V.bl c) = (b == c) := by cases b <;> cases c <;> simp
  rw [e]
theorem qO_neA_b : qO (fNeA [.bl b, .bl c]) PO ↔ PO (.bl (!(b == c))) false := by
  unfold fNeA
  simp only [sv, scal, qO, if_true]
  have e : decide (V.bl b = V.bl c) = (b == c) := by cases b <;> cases c <;> simp
  rw [e]
theorem qO_eqA_l : qO (fEqA [.lst xs, d]) PO ↔ qO (fEq [.lst xs, d]) PO := by
  unfold fEqA
  simp [sv]
theorem qO_neA_l : qO (fNeA [.lst xs, d]) PO ↔ qO (fNe [.lst xs, d]) PO := by
  unfold fNeA
  simp [sv]
theorem qO_eqA_t : qO (fEqA [.tup xs, d]) PO ↔ qO (fEq [.tup xs, d]) PO := by
  unfold fEqA
  simp [sv]
theorem qO_neA_t : qO (fNeA [.tup xs, d]) PO ↔ qO (fNe [.tup xs, d]) PO := by
  unfold fNeA
  simp [sv]
end
end Tr

/-! Comprehensions that change nothing; lists of flat things; shapes. -/
namespace Tr
open PySem PySem.Spec PyProof.Rows L2 Md
section
variable {α β : Type} {turn : D → TEnv → Option (List D × TEnv)} {chk : TEnv → Prop} {QT : List D → TEnv → Prop} {ε : TEnv}
/-- THE RULE for a comprehension that changes nothing -/
theorem qTn_flat {φ : α → D} (g : α → List D) (c : chk ε) : ∀ {xs : List α} {QT : List D → TEnv → Prop}, (∀ x ∈ xs, qTn (turn (φ x) ε) fun zs ε2 => zs = g x ∧ ε2 = ε) → QT (xs.flatMap g) ε → qTn (loopG turn chk (xs.map φ) ε) QT
  | [], QT, _, fin => fin
  | x :: xs, QT, h, fin => by
    have h1 := h x (List.mem_cons_self ..)
    rw [List.map_cons]
    unfold loopG
    cases q : turn (φ x) ε with
    | none => rw [q] at h1; exact h1.elim
    | some z =>
      rw [q] at h1
      obtain ⟨h1, h2⟩ := h1
      dsimp only
      rw [h2, if_pos c, h1]
      have ih : qTn (loopG turn chk (xs.map φ) ε) fun zs ε => QT (g x ++ zs) ε := qTn_flat g c (fun y hy => h y (List.mem_cons_of_mem _ hy)) fin
      unfold qTn at ih ⊢
      cases q2 : loopG turn chk (xs.map φ) ε with
      | none => rw [q2] at ih; exact ih.elim
      | some w => rw [q2] at ih; exact ih
theorem flat_one (g : α → D) (xs : List α) : xs.flatMap (fun x => [g x]) = xs.map g := by
  induction xs with
  | nil => rfl
  | cons x xs ih => rw [List.flatMap_cons, ih]; rfl
theorem qTn_map {φ : α → D} (g : α → D) (c : chk ε) {xs : List α} {QT : List D → TEnv → Prop} (h : ∀ x ∈ xs, qTn (turn (φ x) ε) fun zs ε2 => zs = [g x] ∧ ε2 = ε) (fin : QT (xs.map g) ε) : qTn (loopG turn chk (xs.map φ) ε) QT := by
  refine qTn_flat (fun x => [g x]) c h ?_
  rw [flat_one]
  exact fin
theorem flat_filter {xs : List α} {p : α → Bool} {g : α → D} : xs.flatMap (fun x => if p x = true then [g x] else []) = (xs.filter p).map g := by
  induction xs with
  | nil => rfl
  | cons x xs ih =>
    rw [List.flatMap_cons, ih, List.filter_cons]
    cases p x <;> rfl
theorem qTn_filt {φ : α → D} (p : α → Bool) (g : α → D) (c : chk ε) {xs : List α} {QT : List D → TEnv → Prop} (h : ∀ x ∈ xs, qTn (turn (φ x) ε) fun zs ε2 => zs = (if p x = true then [g x] else []) ∧ ε2 = ε) (fin : QT ((xs.filter p).map g) ε) : qTn (loopG turn chk (xs.map φ) ε) QT := by
  refine qTn_flat _ c h ?_
  rw [flat_filter]
  exact fin
end
/-! ### flat things -/
theorem svs_i : ∀ ns : List Int, svs (ns.map D.int) = some (ns.map V.int)
  | [] => rfl
  | z :: zs => by
    rw [List.map_cons]
    unfold svs
    rw [svs_i zs]
    rfl
theorem inV_i (x : Int) : ∀ zs : List Int, inV (V.int x) (zs.map V.int) = decide (x ∈ zs)
  | [] => by simp [inV]
  | y :: zs => by
    have ih := inV_i x zs
    unfold inV at ih ⊢
    rw [List.map_cons, List.any_cons, ih]
    have e : eqV (.int y) (.int x) = decide (x = y) := by
      show (y == x) = decide (x = y)
      by_cases h : x = y
      · rw [decide_eq_true h, h]
        exact beq_self_eq_true _
      · rw [decide_eq_false h]
        exact beq_eq_false_iff_ne.mpr fun z => h z.symm
    rw [e]
    by_cases h : x = y
    · rw [decide_eq_true h, decide_eq_true (show x ∈ y :: zs by rw [h]; exact List.mem_cons_self ..)]
      rfl
    · rw [decide_eq_false h, Bool.false_or]
      by_cases h2 : x ∈ zs
      · rw [decide_eq_true h2, decide_eq_true (List.mem_cons_of_mem _ h2)]
      · rw [decide_eq_false h2, decide_eq_false (fun z => (List.mem_cons.mp z).elim h h2)]
section
variable {PO : D → Bool → Prop} {z : Str} {zs : List Str} {l : Int} {ns : List Int} {bs : List Bool}
theorem qO_in_li : qO (fIn [.int l, .lst (ns.map .int)]) PO ↔ PO (.bl (decide (l ∈ ns))) false := by
  show qO ((inS (.int l) (ns.map .int)).map _) PO ↔ _
  unfold inS
  rw [svs_i]
  show qO ((some (inV (V.int l) (ns.map V.int))).map _) PO ↔ _
  rw [inV_i]
  exact Iff.rfl
theorem qO_nin_li : qO (fNotIn [.int l, .lst (ns.map .int)]) PO ↔ PO (.bl (!decide (l ∈ ns))) false := by
  show qO ((inS (.int l) (ns.map .int)).map _) PO ↔ _
  unfold inS
  rw [svs_i]
  show qO ((some (inV (V.int l) (ns.map V.int))).map _) PO ↔ _
  rw [inV_i]
  exact Iff.rfl
theorem qO_in_ti : qO (fIn [.int l, .tup (ns.map .int)]) PO ↔ PO (.bl (decide (l ∈ ns))) false := by
  show qO ((inS (.int l) (ns.map .int)).map _) PO ↔ _
  unfold inS
  rw [svs_i]
  show qO ((some (inV (V.int l) (ns.map V.int))).map _) PO ↔ _
  rw [inV_i]
  exact Iff.rfl
end
/-! ### shapes -/
mutual
/-- data whose depth is at most so much, of good texts and small numbers -/
def okD : Nat → D → Bool
  | _, .non => true
  | _, .bl _ => true
  | _, .int i => decide (i.natAbs < 10 ^ 31)
  | _, .str z => PyData.strOk z
  | 0, .lst _ => false
  | 0, .tup _ => false
  | n + 1, .lst xs => okDs n xs
  | n + 1, .tup xs => okDs n xs
  | _, .dct _ => false
  | _, .ins _ _ => false
  | _, .set _ => false
  | _, .err _ _ _ _ => false
def okDs : Nat → List D → Bool
  | _, [] => true
  | n, x :: xs => okD n x && okDs n xs
end
theorem okDs_all {n : Nat} : ∀ {xs : List D}, okDs n xs = true ↔ ∀ x ∈ xs, okD n x = true
  | [] => by simp [okDs]
  | x :: xs => by
    unfold okDs
    rw [Bool.and_eq_true, okDs_all (xs := xs)]
    simp
theorem p31 : (10 : Nat) ^ 31 < 2 ^ 103 := by decide
theorem small_log {i : Int} (h : i.natAbs < 10 ^ 31) : i.natAbs.log2 < 103 := by
  by_cases z : i.natAbs = 0
  · rw [z]; decide
  · exact (Nat.log2_lt z).mpr (Nat.lt_trans h p31)
theorem small_show {i : Int} (h : i.natAbs < 10 ^ 31) : decide (i.natAbs.log2 < 1920) = true := by
  have := small_log h
  exact decide_eq_true (by omega)
mutual
theorem okD_P : ∀ {n : Nat} {d : D}, okD n d = true → ∃ p, toP d = some p ∧ p.canLay0 = true ∧ p.depth ≤ n ∧ p.showable = true ∧ p.hasDict = false
  | _, .non, _ => ⟨.none, rfl, by simp [PyData.canLay0], by simp [PyData.depth], by simp [PyData.showable], by simp [PyData.hasDict]⟩
  | _, .bl b, _ => ⟨.bool b, rfl, by simp [PyData.canLay0], by simp [PyData.depth], by simp [PyData.showable], by simp [PyData.hasDict]⟩
  | _, .int i, h => ⟨.int i, rfl, by simp [PyData.canLay0], by simp [PyData.depth], by
      have h2 : i.natAbs < 10 ^ 31 := by unfold okD at h; exact of_decide_eq_true h
      simp only [PyData.showable]
      exact small_show h2, by simp [PyData.hasDict]⟩
  | _, .str z, h => ⟨.str z, rfl, by unfold okD at h; simpa [PyData.canLay0] using h, by simp [PyData.depth], by simp [PyData.showable], by simp [PyData.hasDict]⟩
  | 0, .lst _, h => by unfold okD at h; cases h
  | 0, .tup _, h => by unfold okD at h; cases h
  | n + 1, .lst xs, h => by
    unfold okD at h
    obtain ⟨ps, e, a, b, c, d⟩ := okDs_P h
    exact ⟨.list ps, by unfold toP; rw [e]; rfl, by simpa [PyData.canLay0] using a, by simp only [PyData.depth]; omega, by simpa [PyData.showable] using c, by simpa [PyData.hasDict] using d⟩
  | n + 1, .tup xs, h => by
    unfold okD at h
    obtain ⟨ps, e, a, b, c, d⟩ := okDs_P h
    exact ⟨.tuple ps, by unfold toP; rw [e]; rfl, by simpa [PyData.canLay0] using a, by simp only [PyData.depth]; omega, by simpa [PyData.showable] using c, by simpa [PyData.hasDict] using d⟩
  | 0, .dct _, h => by unfold okD at h; cases h
  | 0, .ins _ _, h => by unfold okD at h; cases h
  | 0, .set _, h => by unfold okD at h; cases h
  | n + 1, .dct _, h => by unfold okD at h; cases h
  | n + 1, .ins _ _, h => by unfold okD at h; cases h
  | n + 1, .set _, h => by unfold okD at h; cases h
  | 0, .err _ _ _ _, h => by unfold okD at h; cases h
  | n + 1, .err _ _ _ _, h => by unfold okD at h; cases h
theorem okDs_P : ∀ {n : Nat} {ds : List D}, okDs n ds = true → ∃ ps, toPs ds = some ps ∧ PyData.canLayAll0 ps = true ∧ PyData.depthAll ps ≤ n ∧ PyData.showableAll ps = true ∧ PyData.hasDictAll ps = false
  | _, [], _ => ⟨[], rfl, by simp [PyData.canLayAll0], by simp [PyData.depthAll], by simp [PyData.showableAll], by simp [PyData.hasDictAll]⟩
  | n, d :: ds, h => by
    unfold okDs at h
    rw [Bool.and_eq_true] at h
    obtain ⟨p, e1, a1, b1, c1, d1⟩ := okD_P h.1
    obtain ⟨ps, e2, a2, b2, c2, d2⟩ := okDs_P h.2
    exact ⟨p :: ps, by unfold toPs; rw [e1, e2], by simp [PyData.canLayAll0, a1, a2], by simp only [PyData.depthAll]; omega, by simp [PyData.showableAll, c1, c2], by simp [PyData.hasDictAll, d1, d2]⟩
end
theorem okD_shaped {n : Nat} {d : D} (h : okD n d = true) (hn : n ≤ 40) : ∃ p, toP d = some p ∧ SeqAt.shaped p = true := by
  obtain ⟨p, e, a, b, _⟩ := okD_P h
  exact ⟨p, e, by unfold SeqAt.shaped; rw [a, decide_eq_true (by omega)]; rfl⟩
theorem eqvAll_nil (ps : List PyData) : PyData.eqvAll ps [] = ps.isEmpty := by
  cases ps <;> simp [PyData.eqvAll]
theorem toPs_len : ∀ {ds : List D} {ps : List PyData}, toPs ds = some ps → ps.length = ds.length
  | [], ps, h => by cases h; rfl
  | d :: ds, ps, h => by
    unfold toPs at h
    cases q : toP d with
    | none => rw [q] at h; cases h
    | some p =>
      rw [q] at h
      cases q2 : toPs ds with
      | none => rw [q2] at h; cases h
      | some ps2 =>
        rw [q2] at h
        cases h
        rw [List.length_cons, List.length_cons, toPs_len q2]
section
variable {PO : D → Bool → Prop} {xs : List D} {n : Nat}
theorem qO_eq_nil (h : okDs n xs = true) (hn : n ≤ 30) : qO (fEq [.lst xs, .lst []]) PO ↔ PO (.bl xs.isEmpty) false := by
  obtain ⟨p, e, s⟩ := okD_shaped (n := n + 1) (d := .lst xs) (by unfold okD; exact h) (by omega)
  obtain ⟨ps, e2, _⟩ := okDs_P h
  have ep : p = .list ps := by
    unfold toP at e
    rw [e2] at e
    cases e
    rfl
  subst ep
  have e3 : toP (.lst []) = some (.list []) := by simp [toP, toPs]
  unfold fEq
  dsimp only
  rw [e, e3]
  dsimp only
  rw [if_pos ⟨s, shaped_nil⟩]
  have e4 : PyData.eqv (.list ps) (.list []) = xs.isEmpty := by
    simp only [PyData.eqv]
    rw [eqvAll_nil]
    have := toPs_len e2
    cases ps <;> cases xs <;> simp at this ⊢
  show PO (.bl (PyData.eqv (.list ps) (.list []))) false ↔ _
  rw [e4]
end
/-! ### what is shown -/
mutual
def szD : D → Nat
  | .str z => z.length
  | .int _ => 104
  | .lst xs => szDs xs
  | .tup xs => szDs xs
  | _ => 0
def szDs : List D → Nat
  | [] => 0
  | x :: xs => szD x + 1 + szDs xs
end
mutual
theorem okD_show : ∀ {n : Nat} {d : D} {p : PyData}, okD n d = true → toP d = some p → p.leavesShort 32 = true ∧ p.weight ≤ szD d
  | _, .non, p, _, e => by
    have e2 : p = .none := by simpa [toP] using e.symm
    subst e2
    exact ⟨rfl, by simp [PyData.weight]⟩
  | _, .bl b, p, _, e => by
    have e2 : p = .bool b := by simpa [toP] using e.symm
    subst e2
    exact ⟨rfl, by simp [PyData.weight]⟩
  | _, .int i, p, h, e => by
    have e2 : p = .int i := by simpa [toP] using e.symm
    subst e2
    have h2 : i.natAbs < 10 ^ 31 := by unfold okD at h; exact of_decide_eq_true h
    refine ⟨?_, ?_⟩
    · have e : (PyData.shown (.int i)).length ≤ 32 := by
        have a := PySem.int_text_length_le10 (a := i) (k := 31) (by decide) h2
        show (Str.ofString (toString i)).length ≤ 32
        rw [PySem.ofString_length]
        omega
      simpa only [PyData.leavesShort, decide_eq_true_eq] using e
    · have := small_log h2
      simp only [PyData.weight]
      show (if i == 0 then 0 else i.natAbs.log2 + 1) ≤ 104
      split <;> omega
  | _, .str z, p, h, e => by
    have e2 : p = .str z := by simpa [toP] using e.symm
    subst e2
    unfold okD at h
    exact ⟨PyData.leavesShort_of_canLay0 32 (.str z) (by simpa [PyData.canLay0] using h) rfl, by simp only [PyData.weight]; exact Nat.le_refl _⟩
  | 0, .lst _, _, h, _ => by unfold okD at h; cases h
  | 0, .tup _, _, h, _ => by unfold okD at h; cases h
  | n + 1, .lst xs, p, h, e => by
    unfold okD at h
    unfold toP at e
    cases q : toPs xs with
    | none => rw [q] at e; cases e
    | some ps =>
      rw [q] at e
      cases e
      have z := okDs_show h q
      refine ⟨by simpa only [PyData.leavesShort] using z.1, ?_⟩
      simp only [PyData.weight]
      show _ ≤ szDs xs
      exact z.2
  | n + 1, .tup xs, p, h, e => by
    unfold okD at h
    unfold toP at e
    cases q : toPs xs with
    | none => rw [q] at e; cases e
    | some ps =>
      rw [q] at e
      cases e
      have z := okDs_show h q
      refine ⟨by simpa only [PyData.leavesShort] using z.1, ?_⟩
      simp only [PyData.weight]
      show _ ≤ szDs xs
      exact z.2
  | 0, .dct _, _, h, _ => by unfold okD at h; cases h
  | 0, .ins _ _, _, h, _ => by unfold okD at h; cases h
  | 0, .set _, _, h, _ => by unfold okD at h; cases h
  | n + 1, .dct _, _, h, _ => by unfold okD at h; cases h
  | n + 1, .ins _ _, _, h, _ => by unfold okD at h; cases h
  | n + 1, .set _, _, h, _ => by unfold okD at h; cases h
theorem okDs_show : ∀ {n : Nat} {ds : List D} {ps : List PyData}, okDs n ds = true → toPs ds = some ps → PyData.leavesShortAll 32 ps = true ∧ PyData.weightAll ps ≤ szDs ds
  | _, [], ps, _, e => by
    have e2 : ps = [] := by simpa [toPs] using e.symm
    subst e2
    exact ⟨rfl, by simp [PyData.weightAll]⟩
  | n, d :: ds, ps, h, e => by
    unfold okDs at h
    rw [Bool.and_eq_true] at h
    unfold toPs at e
    cases q : toP d with
    | none => rw [q] at e; cases e
    | some p =>
      rw [q] at e
      cases q2 : toPs ds with
      | none => rw [q2] at e; cases e
      | some ps2 =>
        rw [q2] at e
        cases e
        have z1 := okD_show h.1 q
        have z2 := okDs_show h.2 q2
        refine ⟨?_, ?_⟩
        · unfold PyData.leavesShortAll
          rw [z1.1, z2.1]
          rfl
        · simp only [PyData.weightAll]
          unfold szDs
          omega
end
def shownD (d : D) : Str := ((toP d).getD .none).shown
end Tr

/-! Dicts that are filled. -/
namespace Tr
open PySem PySem.Spec PyProof.Rows L2 Md
end Tr

namespace Md
open PySem PySem.Spec PyProof.Rows L2
/-- an error's object, as it stands -/
def held (oe : Obj) : HO := .frz oe (.ext fun _ => True)
/-- an error that is held as a value: its class at C, its dict at d -/
structure HeldAt (H : Hp) (a C d : Addr) (fs : List (Str × V)) : Prop where
  obj : ∃ (oe : Obj) (vs : Array Value), H a = some (held oe) ∧ oe.cls = .ref C ∧ oe.dict = some d ∧ oe.data = .fields vs
  dict : H d = some (.xd fs)
theorem HeldAt.same {H H' : Hp} {a C d : Addr} {fs : List (Str × V)} (h : HeldAt H a C d fs) (s : Same H H') : HeldAt H' a C d fs := by
  obtain ⟨⟨oe, vs, e, r⟩, ed⟩ := h
  exact ⟨⟨oe, vs, s _ _ e, r⟩, s _ _ ed⟩
section
variable {X : Cx} {pins : List (Addr × Obj)} {sl : L2.St} {H : Hp} {s : Shared} {a C d : Addr} {fs : List (Str × V)} {oe : Obj} {vs : Array Value}
/-- an error that is made and not raised is held -/
def tHold (t : L2.St → Hp → XK → Prop) : TE := fun sl H Q => t sl H fun cls d H' => ∀ (a : Addr) (oe : Obj) (vs : Array Value), H' a = none → oe.cls = cls → oe.dict = d → oe.data = .fields vs → Q (.ref a) (upd H' a (held oe))
end
end Md

namespace Md
open PySem PySem.Spec PySem.Calls PyProof.Rows L2
open PySem.W (Frag Looks InstAt KitX)
section
variable {prog : Program} {w : World} {A : Around} {E : Value → Shared → Prop} {st : Shared} {K : Frag} {e D : Addr} {oe : Obj} {own : Option Obj}
end
section
variable {X : Cx}
/-- isinstance(e, c), e a held error -/
def rHeld (K : Frag) : List V → Hp → VK → Prop := fun xs H Q => ∃ (a D d : Addr) (fs : List (Str × V)) (c : V) (cv : Value) (b : Bool), xs = [.ref a, c] ∧ HeldAt H a D d fs ∧ ExcC K D ∧ (∀ u, RelV c u → u = cv) ∧ PySem.W.kitOne K (.ref D) cv = some b ∧ Q (.bl b) H
/-- e.f, e a held error -/
def tHeldV (K : Frag) (f : Str) (te : TE) : TE := fun sl H Q => te sl H fun x H1 => ∃ (a C d : Addr) (fs : List (Str × V)) (v : V), x = .ref a ∧ HeldAt H1 a C d fs ∧ XfC K C ∧ PySem.W.findIn K (.ref C) f = some none ∧ fs.lookup f = some v ∧ Q v H1
end
end Md

namespace Md
open PySem PySem.Spec PySem.Calls PyProof.Rows L2
open PySem.W (Frag Looks InstAt KitX)
section
variable {X : Cx} {a : Addr} {oe : Obj} {d : Option Addr} {pn : List (Addr × Obj)}
/-- isinstance(e, c), e the error that the suite holds, with its value; its class is told by the state -/
def rErr (K : Frag) (a : Addr) (cls : Value) (d : Option Addr) : List V → Hp → VK → Prop := fun xs H Q => ∃ (D : Addr) (c : V) (cv : Value) (b : Bool) (dd : Addr) (fs : List (Str × V)), xs = [.ref a, c] ∧ cls = .ref D ∧ ExcC K D ∧ d = some dd ∧ H dd = some (.xd fs) ∧
  (∀ u, RelV c u → u = cv) ∧ PySem.W.kitOne K (.ref D) cv = some b ∧ Q (.bl b) H
/-- e.value of the error that the suite holds; its class is told by the state -/
def tErrV (K : Frag) (a : Addr) (cls : Value) (d : Option Addr) (f : Str) (te : TE) : TE := fun sl H Q => te sl H fun x H1 => ∃ (C dd : Addr) (fs : List (Str × V)) (v : V), x = .ref a ∧ cls = .ref C ∧ XfC K C ∧ PySem.W.findIn K (.ref C) f = some none ∧
  d = some dd ∧ H1 dd = some (.xd fs) ∧ fs.lookup f = some v ∧ Q v H1
end
section
variable {P : Program} {w : World} {K : PySem.W.Frag} {mg : Str → Option Value} {base : Heap}
/-- the constructor of all errors -/
def spErr (K : PySem.W.Frag) : Sp := fun vs H Q _ => ∃ (a C : Addr) (v : V), vs = [.ref a, v] ∧ OexC K C ∧ PySem.W.findIn K (.ref C) "value" = some none ∧ H a = some (exo a C none) ∧
  ∀ dx, H dx = none → dx ≠ a → Q .non (upd (upd H dx (exd dx [("value", v)])) a (exo a C (some dx)))
/-- a class of errors -/
structure Er (K : PySem.W.Frag) (mg : Str → Option Value) (fI : Addr) (x : Str) (C : Addr) : Prop where
  t : OexC K C
  i : PySem.W.findIn K (.ref C) "__init__" = some (some (.ref fI))
  no : PySem.W.findIn K (.ref C) "value" = some none
  g : mg x = some (.ref C)
/-- the constructor of errors, found -/
structure ErI (P : Program) (w : World) (K : PySem.W.Frag) (mg : Str → Option Value) (base : Heap) (fI : Addr) (fd : FuncData) : Prop where
  ty : PySem.W.typeIn K (.ref fI) = some (.type "function")
  ok : ∀ k, FnOk P w K mg base CX0 (k + 1) fI fd ["self", "value"] (spErr K)
  b : Binds K fd ["self", "value"] []
/-- an error of the class at C with this value is let out -/
def Out (H : Hp) (E : XK) (C : Addr) (v : V) : Prop := ∀ d H', Same H H' → H d = none → H' d = some (.xd [("value", v)]) → E (.ref C) (some d) H'
theorem Out.same {H G : Hp} {E : XK} {C : Addr} {v : V} (o : Out H E C v) (s : Same H G) : Out G E C v := fun d H' s2 n e => o d H' (s.trans s2) (s.free n) e
theorem er_read {H : Hp} {fI C : Addr} {x : Str} {v : V} {R : XK} (E : Er K mg fI x C) (o : Out H R C v) : [v].length ≤ 1000 ∧ ∀ a, H a = none → spErr K (.ref a :: ([v] ++ [])) (upd H a (exo a C none))
    (fun u H2 => u = .non ∧ ∃ (d : Addr) (fs : List (Str × V)), H2 a = some (exo a C (some d)) ∧ H2 d = some (exd d fs) ∧ H d = none ∧ R (.ref C) (some d) (upd (del H2 a) d (.xd fs))) (fun _ _ _ => False) := by
  refine ⟨by simp, fun a na => ⟨a, C, v, rfl, E.t, E.no, upd_same, fun dx nd ne => ⟨rfl, dx, [("value", v)], upd_same, ?_, ?_, ?_⟩⟩⟩
  · rw [upd_ne ne, upd_same]
  · rw [upd_ne ne] at nd
    exact nd
  · refine o dx _ (fun b u z => ?_) (by rw [upd_ne ne] at nd; exact nd) upd_same
    have hba := ne_of_none z na
    have hbd : b ≠ dx := fun e => by
      rw [upd_ne ne] at nd
      rw [e, nd] at z
      cases z
    rw [upd_ne hbd, del_ne hba, upd_ne hba, upd_ne hbd, upd_ne hba]
    exact z
end
end Md

/-! raise, try, and what an except suite asks of its error. -/
namespace Tr
open PySem PySem.Spec PyProof.Rows L2 Md
/-! ### raise C(e) -/
def raiseT (c : Str) (g : ET) : ST := fun ε => bindS (g ε) fun x ε1 => if x.2 = false then some (.ex c x.1 ε1) else none
section
variable {K : PySem.W.Frag} {ca : CA} {W : WX} {O O' S : Addr → Prop} {H H1 H2 H' : Hp} {σ σ1 σ2 σ' : L2.St} {ε ε1 ε2 ε' : TEnv} {a : Addr} {d : D} {v : V} {Q : VK} {E : Ends} {i : Nat} {mg : Str → Option Value} {fI : Addr} {c : Str} {g : ET}
theorem raiseT_read (Ee : Er K mg fI c (ca c)) (h : tSv K ca W (raiseT c g) E σ H) : tMkO (ca c) (spErr K) [] (tCons (tEv K ca W g) tNil) σ H fun cls d H' => W cls d σ H' := by
  obtain ⟨O, ε, r, R, e, p⟩ := h
  refine tEv_bindS R e (fun x ε1 v H1 s rr e1 => ?_) p.err
  obtain ⟨x, f⟩ := x
  split at e1
  · rename_i hf
    cases e1
    cases (show f = false from hf)
    exact er_read (R := fun cls d H' => W cls d σ H') Ee fun d H' s2 nd hd => p d v σ H' (s.toS.trans (Stp.same s.env s2).toS) hd (Rep.step (fun _ z => .inl z) (Kp.of s2) rr)
  · cases e1
/-! ### try -/
/-- behind the suite: its name goes -/
def endTry (i : Nat) : Option Fl → Option Fl
  | some (.nx ε) => if canSet ε i = true then some (.nx (ε.set i none)) else none
  | _ => none
open Classical in
/-- what does not lean on where the error stands -/
noncomputable def anyAt (f : Addr → Addr → Option Fl) : Option Fl := if h : ∃ r, ∀ a x, f a x = some r then some h.choose else none
/-- try: body except C as x: suite -/
noncomputable def tryT (cm : Str → Option Bool) (i : Nat) (gb : ST) (gs : Addr → Str → Addr → ST) : ST := fun ε => match gb ε with
  | some (.ex c d ε1) => match cm c with
    | some true => if canSet ε1 i = true then anyAt fun a x => endTry i (gs a c x (ε1.set i (some (.err a c x d, 0)))) else none
    | some false => some (.ex c d ε1)
    | none => none
  | r => r
/-- try: body except C: suite -/
def tryO (cm : Str → Option Bool) (gb : ST) (gs : ST) : ST := fun ε => match gb ε with
  | some (.ex c d ε1) => match cm c with
    | some true => match gs ε1 with
      | some (.nx ε2) => some (.nx ε2)
      | some (.rt x ε2) => some (.rt x ε2)
      | _ => none
    | some false => some (.ex c d ε1)
    | none => none
  | r => r
abbrev noW : WX := fun _ _ _ _ => False
/-! ### what the suite asks -/
def isxT (a : Addr) (c : Str) (x : Addr) (ki : Str → Option Bool) (j : Nat) : ET := fun ε => match ε[j]? with
  | some (some (.err a' c' x' _, 0)) => if a' = a ∧ c' = c ∧ x' = x then (ki c).map fun b => .ok (.bl b, false) ε else none
  | _ => none
def xvT (a : Addr) (c : Str) (x : Addr) (j : Nat) : ET := fun ε => match ε[j]? with
  | some (some (.err a' c' x' d, 0)) => if a' = a ∧ c' = c ∧ x' = x then some (.ok (d, false) ε) else none
  | _ => none
end
section
variable {X : Cx} {ca : CA} {W : WX} {k : Nat} {fI : Addr} {fd : FuncData} {c : Str} {g : ET} {e : Expr} {p pos pos' np : Pos} {cm : Str → Option Bool} {i : Nat} {gb : ST} {gs : Addr → Str → Addr → ST} {body suite : List Stmt} {b₀ : Stmt} {x n : Str} {cv : Value}
theorem pst_raise (Ee : Er X.K X.mg fI c (ca c)) (I : ErI X.prog X.w X.K X.mg X.base fI fd) (C : CtxT X W k) (hk : 2 ≤ k) (hg : Gl X c) (he : PET X ca W e g) (hdb : (c == ("__debug__" : Str)) = false := by decide)
    (hs : starEach [e] X.env = (false, eval e X.env) :: starEach [] X.env := by rfl) : PSt X ca W (.Raise (some (.Call (.Name c p) [e] [] pos)) none pos') (raiseT c g) :=
  psWeak (ps_raise C.calm C.tk (pmk_oex Ee.t Ee.i I.ty (I.ok 0) (C.room.mono hk) I.b .nil pass0 hg Ee.g (pa_cons he pa_nil hs) hdb hs)) fun _ _ _ h => raiseT_read Ee h
end
end Tr

/-! Calls of instances; methods and constructors by keywords. -/
namespace Tr
open PySem PySem.Spec PySem.Calls PyProof.Rows L2 Md
section
variable {X : Cx} {ca : CA} {W : WX} {k n j : Nat} {f C : Addr} {fd : FuncData} {ps ks : List Str} {F : ET} {x m c : Str} {p pos apos : Pos} {e o : Expr} {es : List Expr} {kws : List Keyword} {a : AK} {as : List AK} {CX : CXT} {sp : Sp} {E : L2.St → XK} {t tk : TA} {ta : TE}
/-- x(..), x an own instance -/
def tInstG (C : Addr) (sp : Sp) (E : L2.St → XK) (ta : TE) (t : TA) : TE := fun σ H Q => ta σ H fun y H1 => (∃ a dx fs, y = .ref a ∧ H1 a = some (.ins C dx fs)) ∧ t σ H1 fun vs H2 => (∃ a dx fs, y = .ref a ∧ H2 a = some (.ins C dx fs)) ∧ sp (y :: vs) H2 Q (E σ)
/-- the def is asked of an instance of c -/
def guardI (c : Str) (F : ET) : ET := fun p => match p with
  | some (.ins c' fs, k) :: q => if c' = c then F (some (.ins c' fs, k) :: q) else none
  | _ => none
def instT (c : Str) (F : ET) (j : Nat) (as : List AK) : ET := fun ε => match ε[j]? with
  | some (some (.ins c' _, _)) => if c' = c then callT (guardI c F) (.nm j :: as) ε else none
  | _ => none
end
end Tr

/-! How raise, try and calls of instances are run. -/
namespace Tr
open PySem PySem.Spec PySem.Calls PyProof.Rows L2 Md
def qNf (b : Bool) (A : Prop) : Prop := match b with
  | false => A
  | true => False
def qCm (o : Option Bool) (A B : Prop) : Prop := match o with
  | some true => A
  | some false => B
  | none => False
def qXe (d : D) (k : Nat) (a : Addr) (c : Str) (x : Addr) (Q : D → Prop) [Tg Q] : Prop := match d, k with
  | .err a' c' x' d', 0 => (a' = a ∧ c' = c ∧ x' = x) ∧ Q d'
  | _, _ => False
def qOb (o : Option Bool) (Q : Bool → Prop) [Tg Q] : Prop := match o with
  | some b => Q b
  | none => False
abbrev noN : TEnv → Prop := fun _ => False
abbrev noR : D → Bool → TEnv → Prop := fun _ _ _ => False
abbrev noX : Str → D → TEnv → Prop := fun _ _ _ => False
section
variable {ε : TEnv} {P : D → Bool → TEnv → Prop} {X : Str → D → TEnv → Prop} {nx : TEnv → Prop} {rt : D → Bool → TEnv → Prop} {bk ct : TEnv → Prop} {g : ET} {c : Str} {A B : Prop} {d : D} {a x : Addr} {Q : D → Prop} {k i j : Nat} {cm ki : Str → Option Bool} {gb go : ST} {gs : Addr → Str → Addr → ST} {F : ET} {as : List AK}
theorem qNf_f : qNf false A ↔ A := Iff.rfl
theorem qXe_at : qXe (.err a c x d) 0 a c x Q ↔ Q d := ⟨fun h => h.2, fun h => ⟨⟨rfl, rfl, rfl⟩, h⟩⟩
theorem qOb_s {b : Bool} {Q : Bool → Prop} : qOb (some b) Q ↔ Q b := Iff.rfl
theorem qCm_t : qCm (some true) A B ↔ A := Iff.rfl
theorem qCm_f : qCm (some false) A B ↔ B := Iff.rfl
theorem w_raiseT : qF (raiseT c g ε) nx rt bk ct X ↔ qE (g ε) (fun d b ε1 => qNf b (X c d ε1)) X := by
  unfold raiseT
  cases g ε with
  | none => exact Iff.rfl
  | some r =>
    cases r with
    | ex c d ε1 => exact Iff.rfl
    | ok y ε1 =>
      obtain ⟨d, b⟩ := y
      cases b <;> exact Iff.rfl
theorem w_isxT : qE (isxT a c x ki j ε) P X ↔ qV ε j fun d k => qXe d k a c x fun _ => qOb (ki c) fun b => P (.bl b) false ε := by
  unfold isxT
  match h : ε[j]? with
  | none => simp [qV, h, qE, qR]
  | some none => simp [qV, h, qE, qR]
  | some (some (d, k)) =>
    simp only [qV, h]
    cases d with
    | err a' c' x' d' =>
      cases k with
      | zero =>
        by_cases e : a' = a ∧ c' = c ∧ x' = x
        · simp only [if_pos e, qXe, e, and_self, true_and]
          cases ki c <;> simp [qE, qR, qOb]
        · simp only [if_neg e, qXe, e, false_and]
          simp [qE, qR]
      | succ k => simp [qXe, qE, qR]
    | _ => simp [qXe, qE, qR]
theorem w_xvT : qE (xvT a c x j ε) P X ↔ qV ε j fun d k => qXe d k a c x fun v => P v false ε := by
  unfold xvT
  match h : ε[j]? with
  | none => simp [qV, h, qE, qR]
  | some none => simp [qV, h, qE, qR]
  | some (some (d, k)) =>
    simp only [qV, h]
    cases d with
    | err a' c' x' d' =>
      cases k with
      | zero =>
        by_cases e : a' = a ∧ c' = c ∧ x' = x
        · simp only [if_pos e, qXe, e, and_self, true_and]
          simp [qE, qR]
        · simp only [if_neg e, qXe, e, false_and]
          simp [qE, qR]
      | succ k => simp [qXe, qE, qR]
    | _ => simp [qXe, qE, qR]
theorem w_guardI {fs : List (Str × D)} {p : TEnv} : qE (guardI c F (some (.ins c fs, k) :: p)) P X ↔ qE (F (some (.ins c fs, k) :: p)) P X := by
  show qE (if c = c then F (some (.ins c fs, k) :: p) else none) P X ↔ _
  rw [if_pos rfl]
theorem w_instT : qE (instT c F j as ε) P X ↔ qV ε j fun d _ => qIns c none d (qE (callT (guardI c F) (.nm j :: as) ε) P X) := by
  unfold instT
  match h : ε[j]? with
  | none => simp [qV, h, qE, qR]
  | some none => simp [qV, h, qE, qR]
  | some (some (d, k)) =>
    simp only [qV, h]
    cases d with
    | ins c' fs =>
      by_cases e : c' = c
      · simp [qIns, e, noAt]
      · simp [qIns, e, qE, qR]
    | _ => simp [qIns, qE, qR]
/-- what an except suite does to the slots -/
abbrev qSuite (s : Option Fl) (i : Nat) (ε3 : TEnv) : Prop := qF s (fun ε2 => canSet ε2 i = true ∧ ε2.set i none = ε3) noR noN noN noX
end
/-- the errors of the program, each with what it is -/
def errUp : List (Str × List Str) := [("MarketError", ["MarketError"]), ("InvalidName", ["InvalidName", "MarketError"]), ("InvalidTown", ["InvalidTown", "MarketError"]), ("DoubleTown", ["DoubleTown", "MarketError"]), ("InvalidNote", ["InvalidNote", "MarketError"]), ("UnknownTown", ["UnknownTown", "MarketError"]), ("InvalidDay", ["InvalidDay", "MarketError"]), ("InvalidLot", ["InvalidLot", "MarketError"]), ("UnknownNote", ["UnknownNote", "MarketError"]), ("Quarrel", ["Quarrel", "MarketError"]), ("NothingToUndo", ["NothingToUndo", "MarketError"]), ("Unreadable", ["Unreadable", "MarketError"])]
def subT (C c : Str) : Option Bool := (errUp.lookup c).map fun l => l.contains C
end Tr

/-! isinstance of an own instance; == of own instances. -/
namespace Tr
open PySem PySem.Spec PySem.Calls PyProof.Rows L2 Md
/-! ### isinstance(x, C) -/
def fIsC (c : Str) : List D → Option (D × Bool)
  | [.ins c' _] => if c' = c then some (.bl true, false) else none
  | _ => none
def isCT (c : Str) (a : AK) : ET := opT (fIsC c) [a]
section
variable {K : PySem.W.Frag} {ca : CA} {W : WX} {H : Hp} {σ : L2.St} {Q : VK} {c : Str} {a : AK}
end
section
variable {X : Cx} {ca : CA} {W : WX} {e : Expr} {a : AK} {c Cn : Str} {p p2 pos : Pos}
end
/-! ### == of own instances -/
section
variable {X : Cx} {ca : CA} {W : WX} {k n : Nat} {f C : Addr} {fd : FuncData} {ps : List Str} {F : ET} {c : Str} {p pos : Pos} {e1 e2 : Expr} {a b : AK} {sp : Sp}
abbrev rEqOwn (C : Addr) (sp : Sp) : R2 := fun x y H Q => (∃ a b dx dy fs gs, x = .ref a ∧ y = .ref b ∧ H a = some (.ins C dx fs) ∧ H b = some (.ins C dy gs)) ∧ sp [x, y] H (fun v H' => ∃ k, v = .bl k ∧ Q (.bl k) H') fun _ _ _ => False
/-- .. of two instances of c that tells True or False -/
def guard2 (c : Str) (F : ET) : ET := fun p => match p with
  | [some (.ins c1 f1, k1), some (.ins c2 f2, k2)] => if c1 = c ∧ c2 = c then (match F [some (.ins c1 f1, k1), some (.ins c2 f2, k2)] with
    | some (.ok (.bl k, false) q) => some (.ok (.bl k, false) q)
    | _ => none) else none
  | _ => none
def eqIT (c : Str) (F : ET) (a b : AK) : ET := callT (guard2 c F) [a, b]
end
/-! ### how they are run -/
section
variable {ε : TEnv} {P : D → Bool → TEnv → Prop} {X : Str → D → TEnv → Prop} {c : Str} {F : ET} {a b : AK} {fs gs : List (Str × D)} {k1 k2 : Nat} {PO : D → Bool → Prop}
theorem w_isCT : qE (isCT c a ε) P X ↔ qE (opT (fIsC c) [a] ε) P X := Iff.rfl
theorem qO_isC : qO (fIsC c [.ins c fs]) PO ↔ PO (.bl true) false := by
  show qO (if c = c then some (.bl true, false) else none) PO ↔ _
  rw [if_pos rfl]
  exact Iff.rfl
theorem w_eqIT : qE (eqIT c F a b ε) P X ↔ qE (callT (guard2 c F) [a, b] ε) P X := Iff.rfl
def qBo (d : D) (b : Bool) (Q : Prop) : Prop := match d, b with
  | .bl _, false => Q
  | _, _ => False
theorem qBo_b {k : Bool} {A : Prop} : qBo (.bl k) false A ↔ A := Iff.rfl
theorem w_guard2 : qE (guard2 c F [some (.ins c fs, k1), some (.ins c gs, k2)]) P X ↔ qE (F [some (.ins c fs, k1), some (.ins c gs, k2)]) (fun d b ε1 => qBo d b (P d b ε1)) fun _ _ _ => False := by
  show qE (if c = c ∧ c = c then (match F [some (.ins c fs, k1), some (.ins c gs, k2)] with
    | some (.ok (.bl k, false) q) => some (.ok (.bl k, false) q)
    | _ => none) else none) P X ↔ _
  rw [if_pos ⟨rfl, rfl⟩]
  cases F [some (.ins c fs, k1), some (.ins c gs, k2)] with
  | none => exact Iff.rfl
  | some r =>
    cases r with
    | ex c d ε1 => exact Iff.rfl
    | ok x ε1 =>
      obtain ⟨d, b⟩ := x
      cases d <;> cases b <;> exact Iff.rfl
end
end Tr

namespace Tr
open PySem L2 Md
theorem su_0_0 : subT "MarketError" "MarketError" = some true := by decide +kernel
theorem su_0_1 : subT "MarketError" "InvalidName" = some true := by decide +kernel
theorem su_0_2 : subT "MarketError" "InvalidTown" = some true := by decide +kernel
theorem su_0_3 : subT "MarketError" "DoubleTown" = some true := by decide +kernel
theorem su_0_4 : subT "MarketError" "InvalidNote" = some true := by decide +kernel
theorem su_0_5 : subT "MarketError" "UnknownTown" = some true := by decide +kernel
theorem su_0_6 : subT "MarketError" "InvalidDay" = some true := by decide +kernel
theorem su_0_7 : subT "MarketError" "InvalidLot" = some true := by decide +kernel
theorem su_0_8 : subT "MarketError" "UnknownNote" = some true := by decide +kernel
theorem su_0_9 : subT "MarketError" "Quarrel" = some true := by decide +kernel
theorem su_0_10 : subT "MarketError" "NothingToUndo" = some true := by decide +kernel
theorem su_0_11 : subT "MarketError" "Unreadable" = some true := by decide +kernel
theorem su_1_0 : subT "InvalidName" "MarketError" = some false := by decide +kernel
theorem su_1_1 : subT "InvalidName" "InvalidName" = some true := by decide +kernel
theorem su_1_2 : subT "InvalidName" "InvalidTown" = some false := by decide +kernel
theorem su_1_3 : subT "InvalidName" "DoubleTown" = some false := by decide +kernel
theorem su_1_4 : subT "InvalidName" "InvalidNote" = some false := by decide +kernel
theorem su_1_5 : subT "InvalidName" "UnknownTown" = some false := by decide +kernel
theorem su_1_6 : subT "InvalidName" "InvalidDay" = some false := by decide +kernel
theorem su_1_7 : subT "InvalidName" "InvalidLot" = some false := by decide +kernel
theorem su_1_8 : subT "InvalidName" "UnknownNote" = some false := by decide +kernel
theorem su_1_9 : subT "InvalidName" "Quarrel" = some false := by decide +kernel
theorem su_1_10 : subT "InvalidName" "NothingToUndo" = some false := by decide +kernel
theorem su_1_11 : subT "InvalidName" "Unreadable" = some false := by decide +kernel
theorem su_2_0 : subT "InvalidTown" "MarketError" = some false := by decide +kernel
theorem su_2_1 : subT "InvalidTown" "InvalidName" = some false := by decide +kernel
theorem su_2_2 : subT "InvalidTown" "InvalidTown" = some true := by decide +kernel
theorem su_2_3 : subT "InvalidTown" "DoubleTown" = some false := by decide +kernel
theorem su_2_4 : subT "InvalidTown" "InvalidNote" = some false := by decide +kernel
theorem su_2_5 : subT "InvalidTown" "UnknownTown" = some false := by decide +kernel
theorem su_2_6 : subT "InvalidTown" "InvalidDay" = some false := by decide +kernel
theorem su_2_7 : subT "InvalidTown" "InvalidLot" = some false := by decide +kernel
theorem su_2_8 : subT "InvalidTown" "UnknownNote" = some false := by decide +kernel
theorem su_2_9 : subT "InvalidTown" "Quarrel" = some false := by decide +kernel
theorem su_2_10 : subT "InvalidTown" "NothingToUndo" = some false := by decide +kernel
theorem su_2_11 : subT "InvalidTown" "Unreadable" = some false := by decide +kernel
theorem su_3_0 : subT "DoubleTown" "MarketError" = some false := by decide +kernel
theorem su_3_1 : subT "DoubleTown" "InvalidName" = some false := by decide +kernel
theorem su_3_2 : subT "DoubleTown" "InvalidTown" = some false := by decide +kernel
theorem su_3_3 : subT "DoubleTown" "DoubleTown" = some true := by decide +kernel
theorem su_3_4 : subT "DoubleTown" "InvalidNote" = some false := by decide +kernel
theorem su_3_5 : subT "DoubleTown" "UnknownTown" = some false := by decide +kernel
theorem su_3_6 : subT "DoubleTown" "InvalidDay" = some false := by decide +kernel
theorem su_3_7 : subT "DoubleTown" "InvalidLot" = some false := by decide +kernel
theorem su_3_8 : subT "DoubleTown" "UnknownNote" = some false := by decide +kernel
theorem su_3_9 : subT "DoubleTown" "Quarrel" = some false := by decide +kernel
theorem su_3_10 : subT "DoubleTown" "NothingToUndo" = some false := by decide +kernel
theorem su_3_11 : subT "DoubleTown" "Unreadable" = some false := by decide +kernel
theorem su_4_0 : subT "InvalidNote" "MarketError" = some false := by decide +kernel
theorem su_4_1 : subT "InvalidNote" "InvalidName" = some false := by decide +kernel
theorem su_4_2 : subT "InvalidNote" "InvalidTown" = some false := by decide +kernel
theorem su_4_3 : subT "InvalidNote" "DoubleTown" = some false := by decide +kernel
theorem su_4_4 : subT "InvalidNote" "InvalidNote" = some true := by decide +kernel
theorem su_4_5 : subT "InvalidNote" "UnknownTown" = some false := by decide +kernel
theorem su_4_6 : subT "InvalidNote" "InvalidDay" = some false := by decide +kernel
theorem su_4_7 : subT "InvalidNote" "InvalidLot" = some false := by decide +kernel
theorem su_4_8 : subT "InvalidNote" "UnknownNote" = some false := by decide +kernel
theorem su_4_9 : subT "InvalidNote" "Quarrel" = some false := by decide +kernel
theorem su_4_10 : subT "InvalidNote" "NothingToUndo" = some false := by decide +kernel
theorem su_4_11 : subT "InvalidNote" "Unreadable" = some false := by decide +kernel
theorem su_5_0 : subT "UnknownTown" "MarketError" = some false := by decide +kernel
theorem su_5_1 : subT "UnknownTown" "InvalidName" = some false := by decide +kernel
theorem su_5_2 : subT "UnknownTown" "InvalidTown" = some false := by decide +kernel
theorem su_5_3 : subT "UnknownTown" "DoubleTown" = some false := by decide +kernel
theorem su_5_4 : subT "UnknownTown" "InvalidNote" = some false := by decide +kernel
theorem su_5_5 : subT "UnknownTown" "UnknownTown" = some true := by decide +kernel
theorem su_5_6 : subT "UnknownTown" "InvalidDay" = some false := by decide +kernel
theorem su_5_7 : subT "UnknownTown" "InvalidLot" = some false := by decide +kernel
theorem su_5_8 : subT "UnknownTown" "UnknownNote" = some false := by decide +kernel
theorem su_5_9 : subT "UnknownTown" "Quarrel" = some false := by decide +kernel
theorem su_5_10 : subT "UnknownTown" "NothingToUndo" = some false := by decide +kernel
theorem su_5_11 : subT "UnknownTown" "Unreadable" = some false := by decide +kernel
theorem su_6_0 : subT "InvalidDay" "MarketError" = some false := by decide +kernel
theorem su_6_1 : subT "InvalidDay" "InvalidName" = some false := by decide +kernel
theorem su_6_2 : subT "InvalidDay" "InvalidTown" = some false := by decide +kernel
theorem su_6_3 : subT "InvalidDay" "DoubleTown" = some false := by decide +kernel
theorem su_6_4 : subT "InvalidDay" "InvalidNote" = some false := by decide +kernel
theorem su_6_5 : subT "InvalidDay" "UnknownTown" = some false := by decide +kernel
theorem su_6_6 : subT "InvalidDay" "InvalidDay" = some true := by decide +kernel
theorem su_6_7 : subT "InvalidDay" "InvalidLot" = some false := by decide +kernel
theorem su_6_8 : subT "InvalidDay" "UnknownNote" = some false := by decide +kernel
theorem su_6_9 : subT "InvalidDay" "Quarrel" = some false := by decide +kernel
theorem su_6_10 : subT "InvalidDay" "NothingToUndo" = some false := by decide +kernel
theorem su_6_11 : subT "InvalidDay" "Unreadable" = some false := by decide +kernel
theorem su_7_0 : subT "InvalidLot" "MarketError" = some false := by decide +kernel
theorem su_7_1 : subT "InvalidLot" "InvalidName" = some false := by decide +kernel
theorem su_7_2 : subT "InvalidLot" "InvalidTown" = some false := by decide +kernel
theorem su_7_3 : subT "InvalidLot" "DoubleTown" = some false := by decide +kernel
theorem su_7_4 : subT "InvalidLot" "InvalidNote" = some false := by decide +kernel
theorem su_7_5 : subT "InvalidLot" "UnknownTown" = some false := by decide +kernel
theorem su_7_6 : subT "InvalidLot" "InvalidDay" = some false := by decide +kernel
theorem su_7_7 : subT "InvalidLot" "InvalidLot" = some true := by decide +kernel
theorem su_7_8 : subT "InvalidLot" "UnknownNote" = some false := by decide +kernel
theorem su_7_9 : subT "InvalidLot" "Quarrel" = some false := by decide +kernel
theorem su_7_10 : subT "InvalidLot" "NothingToUndo" = some false := by decide +kernel
theorem su_7_11 : subT "InvalidLot" "Unreadable" = some false := by decide +kernel
theorem su_8_0 : subT "UnknownNote" "MarketError" = some false := by decide +kernel
theorem su_8_1 : subT "UnknownNote" "InvalidName" = some false := by decide +kernel
theorem su_8_2 : subT "UnknownNote" "InvalidTown" = some false := by decide +kernel
theorem su_8_3 : subT "UnknownNote" "DoubleTown" = some false := by decide +kernel
theorem su_8_4 : subT "UnknownNote" "InvalidNote" = some false := by decide +kernel
theorem su_8_5 : subT "UnknownNote" "UnknownTown" = some false := by decide +kernel
theorem su_8_6 : subT "UnknownNote" "InvalidDay" = some false := by decide +kernel
theorem su_8_7 : subT "UnknownNote" "InvalidLot" = some false := by decide +kernel
theorem su_8_8 : subT "UnknownNote" "UnknownNote" = some true := by decide +kernel
theorem su_8_9 : subT "UnknownNote" "Quarrel" = some false := by decide +kernel
theorem su_8_10 : subT "UnknownNote" "NothingToUndo" = some false := by decide +kernel
theorem su_8_11 : subT "UnknownNote" "Unreadable" = some false := by decide +kernel
theorem su_9_0 : subT "Quarrel" "MarketError" = some false := by decide +kernel
theorem su_9_1 : subT "Quarrel" "InvalidName" = some false := by decide +kernel
theorem su_9_2 : subT "Quarrel" "InvalidTown" = some false := by decide +kernel
theorem su_9_3 : subT "Quarrel" "DoubleTown" = some false := by decide +kernel
theorem su_9_4 : subT "Quarrel" "InvalidNote" = some false := by decide +kernel
theorem su_9_5 : subT "Quarrel" "UnknownTown" = some false := by decide +kernel
theorem su_9_6 : subT "Quarrel" "InvalidDay" = some false := by decide +kernel
theorem su_9_7 : subT "Quarrel" "InvalidLot" = some false := by decide +kernel
theorem su_9_8 : subT "Quarrel" "UnknownNote" = some false := by decide +kernel
theorem su_9_9 : subT "Quarrel" "Quarrel" = some true := by decide +kernel
theorem su_9_10 : subT "Quarrel" "NothingToUndo" = some false := by decide +kernel
theorem su_9_11 : subT "Quarrel" "Unreadable" = some false := by decide +kernel
theorem su_10_0 : subT "NothingToUndo" "MarketError" = some false := by decide +kernel
theorem su_10_1 : subT "NothingToUndo" "InvalidName" = some false := by decide +kernel
theorem su_10_2 : subT "NothingToUndo" "InvalidTown" = some false := by decide +kernel
theorem su_10_3 : subT "NothingToUndo" "DoubleTown" = some false := by decide +kernel
theorem su_10_4 : subT "NothingToUndo" "InvalidNote" = some false := by decide +kernel
theorem su_10_5 : subT "NothingToUndo" "UnknownTown" = some false := by decide +kernel
theorem su_10_6 : subT "NothingToUndo" "InvalidDay" = some false := by decide +kernel
theorem su_10_7 : subT "NothingToUndo" "InvalidLot" = some false := by decide +kernel
theorem su_10_8 : subT "NothingToUndo" "UnknownNote" = some false := by decide +kernel
theorem su_10_9 : subT "NothingToUndo" "Quarrel" = some false := by decide +kernel
theorem su_10_10 : subT "NothingToUndo" "NothingToUndo" = some true := by decide +kernel
theorem su_10_11 : subT "NothingToUndo" "Unreadable" = some false := by decide +kernel
theorem su_11_0 : subT "Unreadable" "MarketError" = some false := by decide +kernel
theorem su_11_1 : subT "Unreadable" "InvalidName" = some false := by decide +kernel
theorem su_11_2 : subT "Unreadable" "InvalidTown" = some false := by decide +kernel
theorem su_11_3 : subT "Unreadable" "DoubleTown" = some false := by decide +kernel
theorem su_11_4 : subT "Unreadable" "InvalidNote" = some false := by decide +kernel
theorem su_11_5 : subT "Unreadable" "UnknownTown" = some false := by decide +kernel
theorem su_11_6 : subT "Unreadable" "InvalidDay" = some false := by decide +kernel
theorem su_11_7 : subT "Unreadable" "InvalidLot" = some false := by decide +kernel
theorem su_11_8 : subT "Unreadable" "UnknownNote" = some false := by decide +kernel
theorem su_11_9 : subT "Unreadable" "Quarrel" = some false := by decide +kernel
theorem su_11_10 : subT "Unreadable" "NothingToUndo" = some false := by decide +kernel
theorem su_11_11 : subT "Unreadable" "Unreadable" = some true := by decide +kernel
section
variable {f : List D → List D → Option (List D × D)} {i : Nat} {ε : TEnv} {P : D → Bool → TEnv → Prop} {X : Str → D → TEnv → Prop} {cs : List D} {Q : List D → D → Prop}
theorem w_mut0T : qE (mut0T f i ε) P X ↔ qE (mutT f i [] ε) P X := Iff.rfl
theorem qMu_clear : qMu (fClear cs []) Q ↔ Q [] .non := Iff.rfl
theorem qMu_reverse : qMu (fReverse cs []) Q ↔ Q cs.reverse .non := Iff.rfl
end
theorem lookup_mem {β : Type} : ∀ {l : List (Str × β)} {c : Str} {v : β}, l.lookup c = some v → c ∈ l.map (·.1)
  | [], _, _, h => by simp at h
  | (k, b) :: l, c, v, h => by
    rw [List.lookup_cons] at h
    cases q : c == k with
    | true => exact List.mem_cons.mpr (.inl (eq_of_beq q))
    | false =>
      rw [q] at h
      exact List.mem_cons_of_mem _ (lookup_mem h)
theorem err_cases {C c : Str} {b : Bool} (h : subT C c = some b) : c = "MarketError" ∨ c = "InvalidName" ∨ c = "InvalidTown" ∨ c = "DoubleTown" ∨ c = "InvalidNote" ∨ c = "UnknownTown" ∨ c = "InvalidDay" ∨ c = "InvalidLot" ∨ c = "UnknownNote" ∨ c = "Quarrel" ∨ c = "NothingToUndo" ∨ c = "Unreadable" := by
  unfold subT at h
  rw [Option.map_eq_some_iff] at h
  obtain ⟨v, h1, _⟩ := h
  have := lookup_mem h1
  simpa [errUp] using this
end Tr

/-! The way of a probe through a set's table, for every mask 2^k - 1. -/
namespace Tb
open PySem PySem.SetTable
/-- a table's mask -/
def Pow (m : Nat) : Prop := ∃ k, m + 1 = 2 ^ k ∧ 3 ≤ k ∧ k ≤ 40
/-- where a run starts behind n leaps -/
def st (m b : Nat) : Nat → Nat × Nat
  | 0 => (b % (m + 1), b)
  | n + 1 => leap m (st m b n).1 (st m b n).2
theorem st_snd (m b : Nat) : ∀ n, (st m b n).2 = b / 32 ^ n
  | 0 => by simp [st]
  | n + 1 => by
    show (st m b n).2 / 32 = _
    rw [st_snd m b n, Nat.div_div_eq_div_mul, Nat.pow_succ]
theorem st_fst_le (m b : Nat) : ∀ n, (st m b n).1 ≤ m
  | 0 => Nat.le_of_lt_succ (Nat.mod_lt _ (Nat.succ_pos m))
  | n + 1 => Nat.le_of_lt_succ (Nat.mod_lt _ (Nat.succ_pos m))
theorem st_late {m b : Nat} (hb : b < 2 ^ 64) : ∀ n, (st m b (13 + n)).1 = after (st m b 13).1 n % (m + 1)
  | 0 => by
    show (st m b 13).1 = (5 ^ 0 * (st m b 13).1 + 0) % (m + 1)
    rw [Nat.pow_zero, Nat.one_mul, Nat.add_zero, Nat.mod_eq_of_lt (Nat.lt_succ_of_le (st_fst_le m b 13))]
  | n + 1 => by
    show ((st m b (13 + n)).1 * 5 + 1 + (st m b (13 + n)).2 / 32) % (m + 1) = _
    have z : (st m b (13 + n)).2 / 32 = 0 := by
      rw [st_snd]
      have h1 : b / 32 ^ (13 + n) ≤ b / 32 ^ 13 := Nat.div_le_div_left (Nat.pow_le_pow_right (by decide) (Nat.le_add_right 13 n)) (Nat.pow_pos (by decide))
      have h2 : b / 32 ^ 13 = 0 := Nat.div_eq_of_lt (Nat.lt_trans hb (by decide))
      rw [h2] at h1
      rw [Nat.le_zero.mp h1]
    rw [z, st_late hb n, after_next, Nat.add_zero]
    rw [Nat.add_mod, Nat.mul_mod, Nat.mod_mod, ← Nat.mul_mod, ← Nat.add_mod, Nat.mul_comm]
/-- every slot starts some run -/
theorem st_meets {m : Nat} (hm : Pow m) {b j : Nat} (hb : b < 2 ^ 64) (hj : j ≤ m) : ∃ n, n < m + 14 ∧ (st m b n).1 = j := by
  obtain ⟨k, hk, _⟩ := hm
  obtain ⟨n, hn, e⟩ := after_all (k := k) (x := (st m b 13).1) (j := j) (by omega)
  refine ⟨13 + n, by omega, ?_⟩
  rw [st_late hb, hk]
  exact e
end Tb

/-! The way meets every slot, for every mask 2^k - 1; where it first meets a free one. -/
namespace Tb
open PySem PySem.Spec PyProof.Rows L2 PySem.SetTable
theorem runI_st (m b : Nat) : ∀ n, runI m b n = (st m b n).1
  | 0 => rfl
  | n + 1 => by
    show (runI m b n * 5 + 1 + b / 32 ^ (n + 1)) % (m + 1) = ((st m b n).1 * 5 + 1 + (st m b n).2 / 32) % (m + 1)
    rw [runI_st m b n, st_snd, Nat.div_div_eq_div_mul, ← Nat.pow_succ]
theorem bits_small (h : Int) : bits h < 2 ^ 64 := by
  unfold bits
  have h1 : (0 : Int) ≤ h % (2 ^ 64 : Int) := Int.emod_nonneg _ (by decide)
  have h2 : h % (2 ^ 64 : Int) < 2 ^ 64 := Int.emod_lt_of_pos _ (by decide)
  omega
/-- the run that starts at j -/
theorem run_at {m : Nat} (hm : Pow m) (h : Int) {j : Nat} (hj : j ≤ m) : ∃ n, n < m + 14 ∧ runI m (bits h) n = j := by
  obtain ⟨n, hn, e⟩ := st_meets hm (bits_small h) hj
  exact ⟨n, hn, (runI_st m (bits h) n).trans e⟩
theorem way_meets {m : Nat} (hm : Pow m) (h : Int) {j : Nat} (hj : j ≤ m) : ∃ c, c < 10 * turns m ∧ way m h c = j := by
  obtain ⟨n, hn, e⟩ := run_at hm h hj
  obtain ⟨c, hc, e2⟩ := run_nth m (bits h) n
  refine ⟨c, by unfold turns; omega, ?_⟩
  show (nth m (runAt m (bits h % (m + 1)) (bits h)) c).j = j
  rw [e2, e]
  rfl
/-- the first of some -/
theorem first_of {p : Nat → Prop} : ∀ {n : Nat}, p n → ∃ k, k ≤ n ∧ p k ∧ ∀ i, i < k → ¬ p i := by
  intro n
  induction n using Nat.strongRecOn with
  | ind n ih =>
    intro h
    by_cases c : ∃ i, i < n ∧ p i
    · obtain ⟨i, hi, hp⟩ := c
      obtain ⟨k, a, b, d⟩ := ih i hi hp
      exact ⟨k, by omega, b, d⟩
    · exact ⟨n, Nat.le_refl n, h, fun i hi hp => c ⟨i, hi, hp⟩⟩
/-- where there is room, the way comes to a free slot -/
theorem way_free {m : Nat} (hm : Pow m) (l : List Nat) (hl : l.length ≤ m) (h : Int) : ∃ K, K < 10 * turns m ∧ way m h K ∉ l ∧ ∀ c, c < K → way m h c ∈ l := by
  have room : ∃ j, j ≤ m ∧ j ∉ l := by
    refine Classical.byContradiction fun no => ?_
    have all : ∀ j, j < m + 1 → j ∈ l := fun j hj => Classical.byContradiction fun z => no ⟨j, by omega, z⟩
    have := nat_nodup_len (List.range (m + 1)) l List.nodup_range fun x hx => all x (List.mem_range.mp hx)
    rw [List.length_range] at this
    omega
  obtain ⟨j, hj, nj⟩ := room
  obtain ⟨c, hc, e⟩ := way_meets hm h hj
  obtain ⟨K, a, b, d⟩ := first_of (p := fun c => way m h c ∉ l) (n := c) (by rw [e]; exact nj)
  exact ⟨K, by omega, b, fun i hi => Classical.byContradiction fun z => d i hi z⟩
/-- .. and laying anew finds it -/
theorem free_at {m : Nat} (hm : Pow m) (owner : Array (Option Nat)) (h : Int) {j : Nat} (hj : j ≤ m) (hf : oAt owner j = none) :
    ∃ K, layClean.free m owner (turns m) (bits h % (m + 1)) (bits h) = some (way m h K) ∧ oAt owner (way m h K) = none ∧ ∀ c, c < K → oAt owner (way m h c) ≠ none := by
  obtain ⟨n, hn, e⟩ := run_at hm h hj
  have e2 : way m h (off m (bits h % (m + 1)) (bits h) n) = j := by
    show (nth m (runAt m (bits h % (m + 1)) (bits h)) (off m (bits h % (m + 1)) (bits h) n)).j = j
    rw [nth_off, itL_run, e]
    rfl
  obtain ⟨K, a, b, d⟩ := first_of (p := fun c => oAt owner (way m h c) = none) (n := off m (bits h % (m + 1)) (bits h) n) (by rw [e2]; exact hf)
  refine ⟨K, ?_, b, d⟩
  refine free_spec m owner (turns m) n (bits h % (m + 1)) (bits h) K (by unfold turns; omega) a (fun c hc => ?_) ?_
  · have := d c hc
    show (oAt owner (way m h c)).isNone = false
    revert this
    generalize oAt owner (way m h c) = o
    intro this
    cases o with
    | none => exact absurd rfl this
    | some x => rfl
  · show (oAt owner (way m h K)).isNone = true
    rw [b]
    rfl
end Tb

/-! A table without gaps left by what went, told by its rows: slot, hash, item. -/
namespace Tb
open PySem PySem.Spec PyProof.Rows L2 PySem.SetTable
section
variable {β : Type} {t : SetTable} {R : List (Nat × Int × β)} {h : Int} {K : Nat}
abbrev slots (R : List (Nat × Int × β)) : List Nat := R.map (·.1)
structure Laid (t : SetTable) (R : List (Nat × Int × β)) : Prop where
  po : Pow t.mask
  place : t.place.toList = slots R
  dm : t.dummies = #[]
  up : Ris (slots R)
  bd : ∀ x ∈ R, x.1 ≤ t.mask
  met : ∀ x ∈ R, ∃ c, way t.mask x.2.1 c = x.1 ∧ ∀ i, i < c → way t.mask x.2.1 i ∈ slots R
theorem Laid.size (L : Laid t R) : t.place.size = R.length := by
  have e := congrArg List.length L.place
  rw [Array.length_toList, List.length_map] at e
  exact e
theorem Laid.ris (L : Laid t R) : Ris t.place.toList := by
  rw [L.place]
  exact L.up
theorem way_in {m : Nat} (hm : Pow m) (h : Int) : ∀ c, way m h c ≤ m := fun c => by
  have key : ∀ (c : Nat) (p : Probe), p.j + p.more ≤ m → (nth m p c).j + (nth m p c).more ≤ m := fun c p z => nth_in c p z
  have s : (runAt m (bits h % (m + 1)) (bits h)).j + (runAt m (bits h % (m + 1)) (bits h)).more ≤ m := by
    have lt : bits h % (m + 1) ≤ m := Nat.le_of_lt_succ (Nat.mod_lt _ (Nat.succ_pos m))
    have := runEnd_bd lt
    show bits h % (m + 1) + (runEnd m (bits h % (m + 1)) - bits h % (m + 1)) ≤ m
    omega
  have := key c _ s
  show (nth m (runAt m (bits h % (m + 1)) (bits h)) c).j ≤ m
  omega
/-- where an insertion stands -/
theorem mem_mid {γ : Type} {l : List γ} {p : Nat} {x y : γ} : x ∈ l.take p ++ y :: l.drop p ↔ x = y ∨ x ∈ l := by
  rw [List.mem_append, List.mem_cons]
  constructor
  · rintro (z | z | z)
    · exact .inr (List.mem_of_mem_take z)
    · exact .inl z
    · exact .inr (List.mem_of_mem_drop z)
  · rintro (z | z)
    · exact .inr (.inl z)
    · rw [← List.take_append_drop p l] at z
      rcases List.mem_append.mp z with z | z
      · exact .inl z
      · exact .inr (.inr z)
theorem perm_mid {γ : Type} (l : List γ) (p : Nat) (y : γ) : (l.take p ++ y :: l.drop p).Perm (y :: l) := by
  have := (List.perm_middle (a := y) (l₁ := l.take p) (l₂ := l.drop p))
  rwa [List.take_append_drop] at this
/-- a row more, at the first free slot of its way -/
theorem Laid.put (L : Laid t R) (hK : way t.mask h K ∉ slots R) (hb : ∀ i, i < K → way t.mask h i ∈ slots R) (x : β) :
    Laid (t.put (way t.mask h K)).1 (R.take (below t.place (way t.mask h K)) ++ (way t.mask h K, h, x) :: R.drop (below t.place (way t.mask h K))) := by
  have jm : way t.mask h K ≤ t.mask := way_in L.po h K
  have ej : ∃ j, way t.mask h K = j := ⟨_, rfl⟩
  obtain ⟨j, ej⟩ := ej
  rw [ej] at hK jm ⊢
  have eS : slots (R.take (below t.place j) ++ (j, h, x) :: R.drop (below t.place j)) = (t.put j).1.place.toList := by
    rw [put_place, L.place]
    show List.map _ _ = _
    rw [List.map_append, List.map_cons, List.map_take, List.map_drop]
  have inS : ∀ {y : Nat}, y ∈ slots (R.take (below t.place j) ++ (j, h, x) :: R.drop (below t.place j)) ↔ y = j ∨ y ∈ slots R := fun {y} => by
    rw [eS, put_place, mem_mid, L.place]
  refine ⟨L.po, eS.symm, put_dm L.dm j, ?_, fun y hy => ?_, fun y hy => ?_⟩
  · rw [eS]
    refine ris_insert L.ris fun e => hK ?_
    rw [← L.place]
    exact List.mem_of_getElem? (by rw [Array.getElem?_toList]; exact e)
  · rcases mem_mid.mp hy with rfl | hy
    · exact jm
    · exact L.bd y hy
  · show ∃ c, way t.mask y.2.1 c = y.1 ∧ _
    rcases mem_mid.mp hy with rfl | hy
    · exact ⟨K, ej, fun i hi => inS.mpr (.inr (hb i hi))⟩
    · obtain ⟨c, e, z⟩ := L.met y hy
      exact ⟨c, e, fun i hi => inS.mpr (.inr (z i hi))⟩
end
end Tb

/-! Laying a table anew, for every mask. -/
namespace Tb
open PySem PySem.Spec PyProof.Rows L2 PySem.SetTable
section
variable {m : Nat} {done : List Int} {owner : Array (Option Nat)}
theorem own_room (W : Own m done owner) (hl : done.length ≤ m) : ∃ j, j ≤ m ∧ oAt owner j = none := by
  obtain ⟨ps, l, u⟩ := W.ps
  refine Classical.byContradiction fun no => ?_
  have := nat_nodup_len (List.range (m + 1)) ps List.nodup_range fun j hj => by
    have hj := List.mem_range.mp hj
    exact u j (by omega) fun z => no ⟨j, by omega, z⟩
  rw [List.length_range] at this
  omega
theorem own_step (hm : Pow m) (W : Own m done owner) (hl : done.length ≤ m) (h : Int) :
    ∃ j, layClean.free m owner (turns m) (bits h % (m + 1)) (bits h) = some j ∧ Own m (done ++ [h]) (owner.setIfInBounds j (some done.length)) := by
  obtain ⟨j0, hj0, f0⟩ := own_room W hl
  obtain ⟨K, e, f, b⟩ := free_at hm owner h hj0 f0
  have jm := way_in hm h K
  obtain ⟨j, ej⟩ : ∃ j, way m h K = j := ⟨_, rfl⟩
  rw [ej] at e f jm
  have js : j < owner.size := by rw [W.sz]; omega
  have self : oAt (owner.setIfInBounds j (some done.length)) j = some done.length := oAt_set_self _ js
  have other : ∀ {i : Nat}, i ≠ j → oAt (owner.setIfInBounds j (some done.length)) i = oAt owner i := fun {i} ne => oAt_set_ne _ ne
  have keep : ∀ {i : Nat}, oAt owner i ≠ none → oAt (owner.setIfInBounds j (some done.length)) i ≠ none := fun {i} z => by
    by_cases c : i = j
    · rw [c, self]
      exact fun y => nomatch y
    · rw [other c]
      exact z
  refine ⟨j, e, ⟨by rw [Array.size_setIfInBounds]; exact W.sz, fun i k hi hk => ?_, fun k hk => ?_, ?_⟩⟩
  · by_cases c : i = j
    · subst c
      rw [self] at hk
      cases hk
      refine ⟨h, K, by simp, ej, fun i' hi' => keep (b i' hi')⟩
    · rw [other c] at hk
      obtain ⟨h', K', a1, a2, a3⟩ := W.at_ i k hi hk
      have lk : k < done.length := (List.getElem?_eq_some_iff.mp a1).1
      exact ⟨h', K', by rw [List.getElem?_append_left lk]; exact a1, a2, fun i' hi' => keep (a3 i' hi')⟩
  · rw [List.length_append, List.length_singleton] at hk
    by_cases c : k = done.length
    · subst c
      exact ⟨j, jm, self⟩
    · obtain ⟨i, hi, z⟩ := W.all k (by omega)
      refine ⟨i, hi, ?_⟩
      rw [other fun q => ?_]
      · exact z
      · rw [q, f] at z
        cases z
  · obtain ⟨ps, l, u⟩ := W.ps
    refine ⟨ps ++ [j], by rw [List.length_append, List.length_append, l]; rfl, fun i hi z => ?_⟩
    by_cases c : i = j
    · rw [c]
      simp
    · rw [other c] at z
      exact List.mem_append_left _ (u i hi z)
theorem own_all (hm : Pow m) : ∀ (rest done : List Int) (owner : Array (Option Nat)), Own m done owner → done.length + rest.length ≤ m →
    ∃ owner', rest.foldl (stepF m) (some (owner, done.length)) = some (owner', (done ++ rest).length) ∧ Own m (done ++ rest) owner'
  | [], done, owner, W, _ => ⟨owner, by simp, by simpa using W⟩
  | h :: rest, done, owner, W, hl => by
    rw [List.length_cons] at hl
    obtain ⟨j, e, W2⟩ := own_step hm W (by omega) h
    obtain ⟨o2, e2, W3⟩ := own_all hm rest (done ++ [h]) _ W2 (by rw [List.length_append, List.length_singleton]; omega)
    refine ⟨o2, ?_, by simpa using W3⟩
    rw [List.foldl_cons, stepF_some e]
    rw [List.length_append, List.length_singleton] at e2
    rw [e2]
    simp
theorem lay_all (hm : Pow m) {hs : Array Int} (hn : hs.size ≤ m) : ∃ owner, layClean m hs = some owner ∧ Own m hs.toList owner := by
  obtain ⟨o, e, W⟩ := own_all hm hs.toList [] (Array.replicate (m + 1) none) (Own.init m) (by simpa using hn)
  refine ⟨o, ?_, by simpa using W⟩
  rw [layClean_eq, show (some (Array.replicate (m + 1) none, 0)) = some (Array.replicate (m + 1) none, ([] : List Int).length) from rfl, e]
  rfl
end
end Tb

/-! A table laid anew, told by its rows. -/
namespace Tb
open PySem PySem.Spec PyProof.Rows L2 PySem.SetTable
theorem fm_map {γ δ ε : Type} {f : γ → Option δ} {g : γ → ε} {u : δ → ε} : ∀ {l : List γ}, (∀ x ∈ l, ∃ y, f x = some y ∧ u y = g x) → (l.filterMap f).map u = l.map g
  | [], _ => rfl
  | x :: l, h => by
    obtain ⟨y, e, z⟩ := h x List.mem_cons_self
    rw [List.filterMap_cons_some e, List.map_cons, List.map_cons, z, fm_map fun w hw => h w (List.mem_cons_of_mem _ hw)]
theorem fm_self {γ : Type} : ∀ l : List γ, (List.range l.length).filterMap (fun i => l[i]?) = l
  | [] => rfl
  | x :: l => by
    rw [List.length_cons, List.range_succ_eq_map, List.filterMap_cons_some (by rfl : (x :: l)[0]? = some x), List.filterMap_map]
    have : ((fun i => (x :: l)[i]?) ∘ Nat.succ) = fun i => l[i]? := by
      funext i
      simp
    rw [this, fm_self l]
theorem fm_perm {γ : Type} (l : List γ) {o : List Nat} (p : o.Perm (List.range l.length)) : (o.filterMap fun i => l[i]?).Perm l := by
  have h1 := p.filterMap fun i => l[i]?
  rw [fm_self] at h1
  exact h1
section
variable {β : Type} {t : SetTable} {M wanted : Nat}
theorem laid_anew (items : List (Int × β)) {hs : Array Int} (he : hs.toList = items.map (·.1)) (hw : sizeAbove wanted - 1 = M) (hM : Pow M) (hn : items.length ≤ M) :
    ∃ t' order R, t.relaid hs wanted = some (t', order) ∧ Laid (β := β) t' R ∧ order.toList.filterMap (fun i => items[i]?) = R.map (·.2) ∧ (R.map (·.2)).Perm items ∧ order.size = items.length ∧
      t'.mask = M ∧ t'.led = t.led ∧ t'.plain = t.plain := by
  have hsz : hs.size = items.length := by rw [← Array.length_toList, he, List.length_map]
  obtain ⟨owner, e, W⟩ := lay_all hM (hs := hs) (by omega)
  have hr : t.relaid hs wanted = some (tabOf t M owner, ((liveOf M owner).map (·.2)).toArray) := by
    rw [relaid_eq, hw, e]
    rfl
  have rl := ris_live (fun j => owner.getD j none) (List.range (M + 1)) (List.pairwise_lt_range)
  have up : Ris ((liveOf M owner).map (·.1)) := rl.1
  have at_ : ∀ x ∈ liveOf M owner, x.1 ≤ M ∧ oAt owner x.1 = some x.2 := fun x hx => (mem_live W.sz).mp hx
  have it : ∀ x ∈ liveOf M owner, ∃ y c, items[x.2]? = some y ∧ way M y.1 c = x.1 ∧ ∀ i, i < c → oAt owner (way M y.1 i) ≠ none := fun x hx => by
    obtain ⟨a1, a2⟩ := at_ x hx
    obtain ⟨h, c, b1, b2, b3⟩ := W.at_ _ _ a1 a2
    rw [he, List.getElem?_map, Option.map_eq_some_iff] at b1
    obtain ⟨y, e1, e2⟩ := b1
    subst e2
    exact ⟨y, c, e1, b2, b3⟩
  let R : List (Nat × Int × β) := (liveOf M owner).filterMap fun x => items[x.2]?.map fun y => (x.1, y)
  have R1 : slots R = (liveOf M owner).map (·.1) := fm_map fun x hx => by
    obtain ⟨y, c, e1, _⟩ := it x hx
    exact ⟨(x.1, y), by rw [e1]; rfl, rfl⟩
  have occ : ∀ {j : Nat}, j ≤ M → oAt owner j ≠ none → j ∈ slots R := fun {j} hj z => by
    rw [R1]
    cases q : oAt owner j with
    | none => exact absurd q z
    | some k => exact List.mem_map.mpr ⟨(j, k), (mem_live W.sz).mpr ⟨hj, q⟩, rfl⟩
  have nd : ((liveOf M owner).map (·.1)).Nodup := List.Pairwise.imp (fun h => Nat.ne_of_lt h) up
  -- each index once
  have perm : ((liveOf M owner).map (·.2)).Perm (List.range items.length) := by
    refine perm_range _ _ ?_ fun k hk => ?_
    · obtain ⟨ps, p1, p2⟩ := W.ps
      have a := nat_nodup_len ((liveOf M owner).map (·.1)) ps nd fun j hj => by
        obtain ⟨x, hx, rfl⟩ := List.mem_map.mp hj
        obtain ⟨a1, a2⟩ := at_ x hx
        exact p2 _ a1 (by rw [a2]; exact fun z => nomatch z)
      have b := nat_nodup_len (List.range items.length) ((liveOf M owner).map (·.2)) List.nodup_range fun k hk => by
        obtain ⟨j, hj, z⟩ := W.all k (by rw [Array.length_toList, hsz]; exact List.mem_range.mp hk)
        exact List.mem_map.mpr ⟨(j, k), (mem_live W.sz).mpr ⟨hj, z⟩, rfl⟩
      rw [List.length_range, List.length_map] at b
      have a2 : (liveOf M owner).length ≤ items.length := by
        rw [List.length_map, p1, he, List.length_map] at a
        exact a
      rw [List.length_map]
      omega
    · obtain ⟨j, hj, z⟩ := W.all k (by rw [Array.length_toList, hsz]; exact hk)
      exact List.mem_map.mpr ⟨(j, k), (mem_live W.sz).mpr ⟨hj, z⟩, rfl⟩
  have order : ((liveOf M owner).map (·.2)).filterMap (fun i => items[i]?) = R.map (·.2) := by
    have : ∀ l : List (Nat × Nat), (l.map (·.2)).filterMap (fun i => items[i]?) = (l.filterMap fun x => items[x.2]?.map fun y => (x.1, y)).map (·.2) := fun l => by
      rw [List.filterMap_map, List.map_filterMap]
      congr 1
      funext x
      show items[x.2]? = ((items[x.2]?).map _).map _
      cases items[x.2]? <;> rfl
    exact this _
  refine ⟨_, _, R, hr, ⟨hM, ?_, rfl, by rw [R1]; exact up, fun x hx => ?_, fun x hx => ?_⟩, ?_, ?_, ?_, rfl, rfl, rfl⟩
  · show ((liveOf M owner).map (·.1)).toArray.toList = slots R
    rw [R1]
  · obtain ⟨y, hy, e1⟩ := List.mem_filterMap.mp hx
    obtain ⟨z, _, e2⟩ := Option.map_eq_some_iff.mp e1
    rw [← e2]
    exact (at_ y hy).1
  · obtain ⟨y, hy, e1⟩ := List.mem_filterMap.mp hx
    obtain ⟨z, c, e2, e3, e4⟩ := it y hy
    rw [e2] at e1
    cases e1
    exact ⟨c, e3, fun i hi => occ (way_in hM _ i) (e4 i hi)⟩
  · show (((liveOf M owner).map (·.2)).toArray.toList).filterMap _ = _
    exact order
  · rw [← order]
    exact fm_perm items perm
  · show ((liveOf M owner).map (·.2)).toArray.size = _
    rw [List.size_toArray, perm.length_eq, List.length_range]
end
end Tb

/-! Items held by reference; a set of them on the heap; the search. -/
namespace Tb
open PySem PySem.Spec PyProof.Rows L2 PySem.SetTable
/-- what a set may hold by reference -/
structure Kd (P : Program) (w : World) (κ : Type) [DecidableEq κ] where
  is : Heap → κ → Addr → Prop
  hash : κ → Int
  draws : κ → Nat
  keeps : ∀ {h h' : Heap} {k : κ} {a d : Addr} {o : Obj} {es : Array (Int × Value)} {ep : Nat} {t : SetTable}, is h k a → h.get? d = some o → o.data = .set es ep t → Heap.SameBut d h h' → is h' k a
  pyHash : ∀ {A : Around} {E : Value → Shared → Prop} {s : Shared} {k : κ} {a : Addr} {Q : Int → Shared → Prop}, A.units + 8 < cLine → is s.heap k a → Q (hash k) { s with toks := s.toks + draws k } → wpAny (model P w) A (pyHash (.ref a)) Q E s
  eqBool : ∀ {A : Around} {E : Value → Shared → Prop} {s : Shared} {x y : κ} {a b : Addr} {Q : Bool → Shared → Prop}, A.units + 8 < cLine → is s.heap x a → is s.heap y b → Q (decide (x = y)) s → wpAny (model P w) A (eqBool (.ref a) (.ref b)) Q E s
  unseen : ∀ {A : Around} {E : Value → Shared → Prop} {s : Shared} {k : κ} {a : Addr} {ys : List Value} {Q : Bool → Shared → Prop}, is s.heap k a → (∀ y ∈ ys, ∃ k' c, y = Value.ref c ∧ is s.heap k' c) → Q false s → wpAny (model P w) A (searchCouldBeSeen (.ref a) ys) Q E s
  byVal : ∀ {A : Around} {E : Value → Shared → Prop} {s : Shared} {k : κ} {a : Addr} {Q : Bool → Shared → Prop}, is s.heap k a → Q true s → wpAny (model P w) A (hashByValue 8 (.ref a)) Q E s
/-- tuples of ints -/
def kdT (P : Program) (w : World) : Kd P w (List Int) where
  is := IsTupleKey (intKind P w)
  hash := tupleKeyHash (intKind P w)
  draws := fun ks => ks.length + 1
  keeps := fun h ho hd sb => isT_same h ho hd sb
  pyHash := fun hu h q => (tupleKind (intKind P w)).pyHash (Nat.lt_of_le_of_lt (Nat.le_add_right _ 8) hu) h q
  eqBool := fun hu h1 h2 q => wpAny_eqBool_tuple (Nat.lt_of_le_of_lt (Nat.le_add_right _ 8) hu) h1 h2 q
  unseen := fun h hy q => seen_tup h hy q
  byVal := fun h q => hashBy_tup h q
section
variable {P : Program} {w : World} {κ : Type} [DecidableEq κ]
abbrev Row (κ : Type) := Nat × Int × Addr × κ
abbrev keysOf (L : List (Row κ)) : List κ := L.map fun x => x.2.2.2
/-- the masks of sets that have only grown -/
def Msk (m : Nat) : Prop := m = 7 ∨ m = 31 ∨ m = 127 ∨ m = 511 ∨ m = 2047 ∨ m = 8191
theorem Msk.pow {m : Nat} (h : Msk m) : Pow m := by
  rcases h with rfl | rfl | rfl | rfl | rfl | rfl
  · exact ⟨3, rfl, by decide, by decide⟩
  · exact ⟨5, rfl, by decide, by decide⟩
  · exact ⟨7, rfl, by decide, by decide⟩
  · exact ⟨9, rfl, by decide, by decide⟩
  · exact ⟨11, rfl, by decide, by decide⟩
  · exact ⟨13, rfl, by decide, by decide⟩
theorem Msk.le {m : Nat} (h : Msk m) : m ≤ 8191 := by
  rcases h with rfl | rfl | rfl | rfl | rfl | rfl <;> decide
structure SetAt (kd : Kd P w κ) (h : Heap) (a : Addr) (L : List (Row κ)) (es : Array (Int × Value)) (ep : Nat) (t : SetTable) : Prop where
  ob : ∃ o, h.get? a = some o ∧ o.ExactSet ∧ o.data = .set es ep t
  rows : es.toList = L.map fun x => (x.2.1, Value.ref x.2.2.1)
  laid : Laid t L
  hash : ∀ x ∈ L, x.2.1 = kd.hash x.2.2.2
  nd : (keysOf L).Nodup
  is : ∀ x ∈ L, kd.is h x.2.2.2 x.2.2.1
  plain : t.plain = true
  led : w.params.followText "set-order" = true ∨ t.led = true
  room : L.length * 5 < t.mask * 3
  msk : Msk t.mask
variable {kd : Kd P w κ} {h : Heap} {a : Addr} {L : List (Row κ)} {es : Array (Int × Value)} {ep : Nat} {t : SetTable}
theorem SetAt.size (S : SetAt kd h a L es ep t) : es.size = L.length := by
  rw [← Array.length_toList, S.rows, List.length_map]
theorem SetAt.fits (S : SetAt kd h a L es ep t) : t.fits es.size = true := by
  have h1 := S.laid.size
  have h3 := S.room
  unfold SetTable.fits SetTable.fill
  rw [S.laid.dm, S.size, h1, Bool.and_eq_true, beq_iff_eq, decide_eq_true_eq]
  refine ⟨rfl, ?_⟩
  show L.length + 0 ≤ t.mask
  omega
theorem SetAt.entry (S : SetAt kd h a L es ep t) {i : Nat} {x : Row κ} (e : L[i]? = some x) : es[i]? = some (x.2.1, Value.ref x.2.2.1) := by
  rw [← Array.getElem?_toList, S.rows, List.getElem?_map, e]
  rfl
theorem Pow.odd {m : Nat} (h : Pow m) : m % 2 = 1 := by
  obtain ⟨k, e, k3, _⟩ := h
  obtain ⟨j, rfl⟩ : ∃ j, k = j + 1 := ⟨k - 1, by omega⟩
  rw [Nat.pow_succ] at e
  omega
section
variable {A : Around} {E : Value → Shared → Prop} {s : Shared}
/-- the probe behind c steps of h's way -/
abbrev pr (m : Nat) (h : Int) (c : Nat) : Probe := nth m (runAt m (bits h % (m + 1)) (bits h)) c
theorem pr_add (m : Nat) (h : Int) (c q : Nat) : nth m (pr m h c) q = pr m h (c + q) := (nth_add m c _ q).symm
theorem pr_clean (m : Nat) (h : Int) (c : Nat) : (pr m h c).dummy = none := by
  have key : ∀ (n : Nat) (p : Probe), p.dummy = none → (nth m p n).dummy = none := fun n => by
    induction n with
    | zero => exact fun _ z => z
    | succ n ih =>
      intro p z
      refine ih (adv m p) ?_
      unfold adv
      split
      · exact z
      · exact z
  exact key c _ rfl
/-- a row's slot comes before the first free one on its hash's way -/
theorem Laid.early {β : Type} {R : List (Nat × Int × β)} (Ld : Laid t R) {K : Nat} {hh : Int} (hK : way t.mask hh K ∉ slots R) {x : Nat × Int × β} (hx : x ∈ R) (e : x.2.1 = hh) : ∃ c, c < K ∧ way t.mask hh c = x.1 := by
  subst e
  obtain ⟨c, e, z⟩ := Ld.met x hx
  refine ⟨c, Classical.byContradiction fun n => ?_, e⟩
  by_cases q : c = K
  · subst q
    exact hK (by rw [e]; exact List.mem_map.mpr ⟨x, hx, rfl⟩)
  · exact hK (z K (by omega))
end
end
end Tb

/-! The search for an item in a set. -/
namespace Tb
open PySem PySem.Spec PyProof.Rows L2 PySem.SetTable
section
variable {P : Program} {w : World} {κ : Type} [DecidableEq κ] {kd : Kd P w κ} {a : Addr} {L : List (Row κ)} {es : Array (Int × Value)} {ep : Nat} {t : SetTable} {A : Around} {E : Value → Shared → Prop} {s : Shared}
theorem SetAt.search (S : SetAt kd s.heap a L es ep t) {x : Addr} {k : κ} (hx : kd.is s.heap k x) (hu : A.units + 8 < cLine) {K : Nat} (hKf : K < 10 * turns t.mask) (hK : way t.mask (kd.hash k) K ∉ slots L) (hKb : ∀ c, c < K → way t.mask (kd.hash k) c ∈ slots L)
    {Q : SetFound → Shared → Prop} (hin : k ∈ keysOf L → Q (.there none) s) (hout : k ∉ keysOf L → Q (.free (way t.mask (kd.hash k) K) false) s) :
    ∀ (f c : Nat) (stand : Option Probe), stand.getD (t.probeStart (kd.hash k)) = pr t.mask (kd.hash k) c → c ≤ K → K - c < f →
      (∀ y ∈ L, y.2.2.2 = k → ∃ c', c ≤ c' ∧ c' < K ∧ way t.mask (kd.hash k) c' = y.1) → wpAny (model P w) A (setSearchFrom a (.ref x) (kd.hash k) true f stand) Q E s := by
  obtain ⟨o, ho, hex, hd⟩ := S.ob
  have inP : ∀ {j : Nat}, j ∈ t.place.toList ↔ j ∈ slots L := fun {j} => by rw [S.laid.place]
  intro f
  induction f with
  | zero => intro c stand _ _ z; exact absurd z (Nat.not_lt_zero _)
  | succ f ih =>
    intro c stand at_ hc hf left
    rw [setSearchFrom_succ]
    apply wpAny_bind
    refine wpAny_setState_of ho hd S.fits ?_
    have whole : t.gaveWay ≠ true := by
      unfold SetTable.gaveWay
      rw [S.laid.po.odd]
      decide
    have hashAt : ∀ (i : Nat) (y : Row κ), L[i]? = some y → (es[i]?.map (·.1)).getD 0 = y.2.1 := fun i y e => by
      rw [S.entry e]
      rfl
    have rowAt : ∀ {i j : Nat}, t.place.toList[i]? = some j → ∃ y, L[i]? = some y ∧ y.1 = j := fun {i j} e => by
      rw [S.laid.place, List.getElem?_map, Option.map_eq_some_iff] at e
      exact e
    have spec := go_spec t S.laid.ris S.laid.dm (fun i => (es[i]?.map (·.1)).getD 0) (kd.hash k) (10 * turns t.mask) (K - c) (pr t.mask (kd.hash k) c) (pr_clean _ _ _) (by omega)
      (fun q hq => by rw [pr_add]; exact inP.mpr (hKb (c + q) (by omega)))
      (by rw [pr_add, show c + (K - c) = K by omega]; exact fun z => hK (inP.mp z))
    rw [← at_] at spec
    refine wp_if_neg whole ?_
    rcases spec with ⟨q, i, hq, hi, hh, hno, hpr⟩ | ⟨hno, hpr⟩
    · have hpr : t.probe (fun i => (es[i]?.map (·.1)).getD 0) (kd.hash k) (stand.getD (t.probeStart (kd.hash k))) = _ := hpr
      rw [hpr]
      obtain ⟨y, ey, sy⟩ := rowAt hi
      have my : y ∈ L := List.mem_of_getElem? ey
      have live := slot_live S.laid.ris hi
      have rest : wpAny (model P w) A (searchRest a (.ref x) (kd.hash k) true f es t (nth t.mask (stand.getD (t.probeStart (kd.hash k))) q).j i (nth t.mask (stand.getD (t.probeStart (kd.hash k))) (q + 1))) Q E s := by
        unfold searchRest
        rw [S.entry ey]
        apply wpAny_bind
        apply wpAny_holding
        refine kd.eqBool hu (S.is y my) hx ?_
        apply wpAny_bind
        refine wpAny_setState_of ho hd S.fits ?_
        by_cases same : y.2.2.2 = k
        · refine wp_if_pos (by simp [same]) ?_
          exact wpAny_pure (hin (List.mem_map.mpr ⟨y, my, same⟩))
        · refine wp_if_neg (by simp [same]) ?_
          rw [sameMem]
          show wpAny (model P w) A (match (if true = true then t.slot _ else Slot.empty) with | Slot.live i' => _ | _ => _) Q E s
          rw [if_pos rfl, live]
          show wpAny (model P w) A (match es[i]? with | some (_, _) => _ | none => _) Q E s
          rw [S.entry ey]
          apply wpAny_bind
          refine wpAny_isSame_ref_self ?_
          apply wpAny_bind
          refine wpAny_pure ?_
          show wpAny (model P w) A (if decide (y.2.2.2 = k) = true then _ else _) Q E s
          refine wp_if_neg (by simp [same]) ?_
          refine ih (c + (q + 1)) _ ?_ (by omega) (by omega) fun z hz kz => ?_
          · show nth t.mask _ (q + 1) = _
            rw [at_, pr_add]
          · obtain ⟨c', c1, c2, c3⟩ := left z hz kz
            refine ⟨c', ?_, c2, c3⟩
            obtain ⟨j, hj, gj⟩ := List.getElem_of_mem hz
            have ej : L[j]? = some z := by rw [List.getElem?_eq_getElem hj, gj]
            have pj : t.place.toList[j]? = some (way t.mask (kd.hash k) c') := by
              rw [S.laid.place, List.getElem?_map, ej]
              exact congrArg some c3.symm
            have hj2 : (es[j]?.map (·.1)).getD 0 = kd.hash k := by rw [hashAt j z ej, S.hash z hz, kz]
            refine Classical.byContradiction fun late => ?_
            by_cases now : c' = c + q
            · have s2 := slot_live S.laid.ris pj
              rw [now] at s2
              have live2 : t.slot (way t.mask (kd.hash k) (c + q)) = .live i := by
                rw [← live, at_, pr_add]
              rw [live2] at s2
              cases s2
              rw [ey] at ej
              cases ej
              exact same kz
            · refine hno (c' - c) j (by omega) ?_ hj2
              rw [at_, pr_add, show c + (c' - c) = c' by omega]
              exact pj
      by_cases hl : t.led = true
      · refine wp_if_neg (by simp [hl]) ?_
        exact rest
      · refine wp_if_pos (by simp [hl]) ?_
        apply wpAny_bind
        refine kd.unseen hx (fun v hv => ?_) ?_
        · obtain ⟨e, he, rfl⟩ := List.mem_map.mp hv
          have he : e ∈ es.toList := by
            rw [Array.toList_filter] at he
            exact (List.mem_filter.mp he).1
          rw [S.rows] at he
          obtain ⟨z, hz, rfl⟩ := List.mem_map.mp he
          exact ⟨z.2.2.2, z.2.2.1, rfl, S.is z hz⟩
        · refine wp_if_neg (by decide) ?_
          exact rest
    · have hpr : t.probe (fun i => (es[i]?.map (·.1)).getD 0) (kd.hash k) (stand.getD (t.probeStart (kd.hash k))) = _ := hpr
      rw [hpr]
      refine wpAny_pure ?_
      rw [at_, pr_add, show c + (K - c) = K by omega]
      refine hout fun hm => ?_
      obtain ⟨y, hy, ey⟩ := List.mem_map.mp hm
      obtain ⟨c', c1, c2, c3⟩ := left y hy ey
      obtain ⟨j, hj, gj⟩ := List.getElem_of_mem hy
      have ej : L[j]? = some y := by rw [List.getElem?_eq_getElem hj, gj]
      refine hno (c' - c) j (by omega) ?_ ?_
      · rw [at_, pr_add, show c + (c' - c) = c' by omega, S.laid.place, List.getElem?_map, ej]
        exact congrArg some c3.symm
      · rw [hashAt j y ej, S.hash y hy, ey]
end
end Tb

/-! Adding to a set. -/
namespace Tb
open PySem PySem.Spec PyProof.Rows L2 PySem.SetTable
section
variable {P : Program} {w : World} {κ : Type} [DecidableEq κ] {kd : Kd P w κ} {a : Addr} {L : List (Row κ)} {es : Array (Int × Value)} {ep : Nat} {t : SetTable} {A : Around} {E : Value → Shared → Prop} {s : Shared}
theorem SetAt.look (S : SetAt kd s.heap a L es ep t) {x : Addr} {k : κ} (hx : kd.is s.heap k x) (hu : A.units + 8 < cLine) {Q : SetFound → Shared → Prop} (hin : k ∈ keysOf L → Q (.there none) s)
    (hout : ∀ K, k ∉ keysOf L → way t.mask (kd.hash k) K ∉ slots L → (∀ c, c < K → way t.mask (kd.hash k) c ∈ slots L) → Q (.free (way t.mask (kd.hash k) K) false) s) :
    wpAny (model P w) A (setSearch a (.ref x) (kd.hash k) true) Q E s := by
  have room := S.room
  have small := S.msk.le
  obtain ⟨K, hKf, hK, hKb⟩ := way_free S.laid.po (slots L) (by rw [List.length_map]; omega) (kd.hash k)
  have big : K < 100000 := by
    unfold turns at hKf
    omega
  unfold setSearch
  refine S.search hx hu hKf hK hKb hin (fun z => hout K z hK hKb) 100000 0 none rfl (Nat.zero_le K) (by omega) fun y hy ky => ?_
  obtain ⟨c, hc, e⟩ := S.laid.early hK hy (by rw [S.hash y hy, ky])
  exact ⟨c, Nat.zero_le c, hc, e⟩
/-- what is asked of a set that is to be laid anew -/
structure Bare (kd : Kd P w κ) (h : Heap) (a : Addr) (L : List (Row κ)) (es : Array (Int × Value)) (ep : Nat) (t : SetTable) : Prop where
  ob : ∃ o, h.get? a = some o ∧ o.ExactSet ∧ o.data = .set es ep t
  rows : es.toList = L.map fun x => (x.2.1, Value.ref x.2.2.1)
  laid : Laid t L
  hash : ∀ x ∈ L, x.2.1 = kd.hash x.2.2.2
  nd : (keysOf L).Nodup
  is : ∀ x ∈ L, kd.is h x.2.2.2 x.2.2.1
  plain : t.plain = true
  led : w.params.followText "set-order" = true ∨ t.led = true
  le : L.length ≤ t.mask
theorem Bare.relay (S : Bare kd s.heap a L es ep t) {wanted M : Nat} (hw : sizeAbove wanted - 1 = M) (hM : Msk M) (hn : L.length * 5 < M * 3) {Q : Unit → Shared → Prop}
    (hQ : ∀ h' L' es' ep' t', Heap.SameBut a s.heap h' → SetAt kd h' a L' es' ep' t' → (L'.map (·.2)).Perm (L.map (·.2)) → Q () { s with heap := h' }) : wpAny (model P w) A (setRelay a wanted) Q E s := by
  obtain ⟨o, ho, hex, hd⟩ := S.ob
  have size : es.size = L.length := by rw [← Array.length_toList, S.rows, List.length_map]
  have fits : t.fits es.size = true := by
    have := S.le
    unfold SetTable.fits SetTable.fill
    rw [S.laid.dm, size, S.laid.size, Bool.and_eq_true, beq_iff_eq, decide_eq_true_eq]
    refine ⟨rfl, ?_⟩
    show L.length + 0 ≤ t.mask
    omega
  have Mle := hM.le
  obtain ⟨t', order, R, e, ld, ord, perm, os, em, el, ep'⟩ := laid_anew (t := t) (L.map (·.2)) (hs := es.map (·.1)) (by rw [Array.toList_map, S.rows, List.map_map, List.map_map]; rfl) hw hM.pow (by rw [List.length_map]; omega)
  have lR : R.length = L.length := by
    have := perm.length_eq
    rwa [List.length_map, List.length_map] at this
  have newRows : (order.filterMap (es[·]?)).toList = R.map fun x => (x.2.1, Value.ref x.2.2.1) := by
    rw [Array.toList_filterMap]
    have z : R.map (fun x => (x.2.1, Value.ref x.2.2.1)) = (R.map (·.2)).map fun y => (y.1, Value.ref y.2.1) := by rw [List.map_map]; rfl
    rw [z, ← ord, List.map_filterMap]
    congr 1
    funext i
    rw [← Array.getElem?_toList, S.rows, List.getElem?_map, List.getElem?_map]
    cases L[i]? <;> rfl
  have newSize : (order.filterMap (es[·]?)).size = es.size := by rw [← Array.length_toList, newRows, List.length_map, lR, size]
  have small : sizeAbove wanted ≤ 8192 := by omega
  rw [setRelay_eq]
  apply wpAny_bind
  refine wpAny_setState_of ho hd fits ?_
  refine wp_if_neg (by rw [sizeLine_eq]; omega) ?_
  apply wpAny_bind
  rw [e]
  refine wp_if_neg (by rw [newSize]; simp) ?_
  refine wpAny_pure ?_
  refine wpAny_storeSet_of ho hd ?_ (by rw [newSize, size, sizeLine_eq]; omega)
  have sb : Heap.SameBut a s.heap (s.heap.update a (Obj.putSet (order.filterMap (es[·]?)) t')) := Heap.SameBut.update ..
  have mem : ∀ x ∈ R, ∃ y ∈ L, y.2 = x.2 := fun x hx => by
    have := perm.mem_iff.mp (List.mem_map.mpr ⟨x, hx, rfl⟩ : x.2 ∈ R.map (·.2))
    obtain ⟨y, hy, e⟩ := List.mem_map.mp this
    exact ⟨y, hy, e⟩
  refine hQ _ R _ (ep + 1) t' sb ⟨⟨_, store_at ho hd, ⟨hex.1, hex.2.1, hex.2.2⟩, rfl⟩, newRows, ld, fun x hx => ?_, ?_, fun x hx => ?_, by rw [ep']; exact S.plain, by rw [el]; exact S.led, by rw [lR, em]; exact hn, by rw [em]; exact hM⟩ perm
  · obtain ⟨y, hy, e⟩ := mem x hx
    rw [← e]
    exact S.hash y hy
  · have z : ∀ l : List (Row κ), keysOf l = (l.map (·.2)).map (·.2.2) := fun l => by rw [List.map_map]; rfl
    rw [z]
    have := S.nd
    rw [z] at this
    exact (perm.map _).nodup_iff.mpr this
  · obtain ⟨y, hy, e⟩ := mem x hx
    rw [← e]
    exact kd.keeps (S.is y hy) ho hd sb
end
end Tb

/-! Adding an item to a set. -/
namespace Tb
open PySem PySem.Spec PyProof.Rows L2 PySem.SetTable
theorem sz20 : sizeAbove (grown 5) = 32 := by decide +kernel
theorem sz76 : sizeAbove (grown 19) = 128 := by decide +kernel
theorem sz308 : sizeAbove (grown 77) = 512 := by decide +kernel
theorem sz1228 : sizeAbove (grown 307) = 2048 := by decide +kernel
theorem sz4916 : sizeAbove (grown 1229) = 8192 := by decide +kernel
/-- the next mask, when the table is full -/
theorem grow_to {m n : Nat} (hm : Msk m) (n0 : n * 5 < m * 3) (n1 : (n + 1) * 5 ≥ m * 3) (few : n + 1 < 4900) : ∃ M, sizeAbove (grown (n + 1)) - 1 = M ∧ Msk M ∧ (n + 1) * 5 < M * 3 := by
  rcases hm with rfl | rfl | rfl | rfl | rfl | rfl
  · obtain rfl : n = 4 := by omega
    exact ⟨31, by rw [sz20], .inr (.inl rfl), by decide⟩
  · obtain rfl : n = 18 := by omega
    exact ⟨127, by rw [sz76], .inr (.inr (.inl rfl)), by decide⟩
  · obtain rfl : n = 76 := by omega
    exact ⟨511, by rw [sz308], .inr (.inr (.inr (.inl rfl))), by decide⟩
  · obtain rfl : n = 306 := by omega
    exact ⟨2047, by rw [sz1228], .inr (.inr (.inr (.inr (.inl rfl)))), by decide⟩
  · obtain rfl : n = 1228 := by omega
    exact ⟨8191, by rw [sz4916], .inr (.inr (.inr (.inr (.inr rfl)))), by decide⟩
  · omega
section
variable {P : Program} {w : World} {κ : Type} [DecidableEq κ] {kd : Kd P w κ} {a : Addr} {L : List (Row κ)} {es : Array (Int × Value)} {ep : Nat} {t : SetTable} {A : Around} {E : Value → Shared → Prop} {s : Shared}
theorem SetAt.add (S : SetAt kd s.heap a L es ep t) {x : Addr} {k : κ} (hx : kd.is s.heap k x) (hu : A.units + 8 < cLine) (few : L.length + 1 < 4900) {Q : Bool → Shared → Prop}
    (hQ : ∀ b h' L' es' ep' t', Heap.SameBut a s.heap h' → SetAt kd h' a L' es' ep' t' → (k ∈ keysOf L → (L'.map (·.2)).Perm (L.map (·.2))) → (k ∉ keysOf L → (L'.map (·.2)).Perm ((kd.hash k, x, k) :: L.map (·.2))) → Q b { s with heap := h' }) :
    wpAny (model P w) A (setAddHashed a (.ref x) (kd.hash k)) Q E s := by
  obtain ⟨o, ho, hex, hd⟩ := S.ob
  have size := S.size
  have room := S.room
  have mle := S.msk.le
  unfold setAddHashed
  apply wpAny_holding
  rw [show (100000 : Nat) = 99999 + 1 from rfl, setAddHashedIn_succ]
  apply wpAny_bind
  refine wpAny_setState_of ho hd S.fits ?_
  refine wp_if_neg (by simp [byScan, Value.scannable]) ?_
  apply wpAny_bind
  refine S.look hx hu (fun hm => ?_) fun K hm hK hb => ?_
  · exact wpAny_pure (hQ false s.heap L es ep t (Heap.SameBut.refl a s.heap) S (fun _ => List.Perm.refl _) fun z => absurd hm z)
  · apply wpAny_bind
    refine wpAny_setState_of ho hd S.fits ?_
    have ld := S.laid.put hK hb (x, k)
    have pl : (t.put (way t.mask (kd.hash k) K)).1.plain = true := S.plain
    have lled : (t.put (way t.mask (kd.hash k) K)).1.led = t.led := rfl
    have mk : (t.put (way t.mask (kd.hash k) K)).1.mask = t.mask := rfl
    have e2 : (t.put (way t.mask (kd.hash k) K)).2 = below t.place (way t.mask (kd.hash k) K) := rfl
    have newRows : (insertAt es (below t.place (way t.mask (kd.hash k) K)) (kd.hash k, Value.ref x)).toList = (L.take (below t.place (way t.mask (kd.hash k) K)) ++ (way t.mask (kd.hash k) K, kd.hash k, x, k) :: L.drop (below t.place (way t.mask (kd.hash k) K))).map fun x => (x.2.1, Value.ref x.2.2.1) := by
      rw [SetTable.toList_insertAt, S.rows, List.map_append, List.map_cons, List.map_take, List.map_drop]
    have pm := perm_mid L (below t.place (way t.mask (kd.hash k) K)) (way t.mask (kd.hash k) K, kd.hash k, x, k)
    have inL : ∀ {y : Row κ}, y ∈ L.take (below t.place (way t.mask (kd.hash k) K)) ++ (way t.mask (kd.hash k) K, kd.hash k, x, k) :: L.drop (below t.place (way t.mask (kd.hash k) K)) ↔ y = (way t.mask (kd.hash k) K, kd.hash k, x, k) ∨ y ∈ L := mem_mid
    dsimp only
    revert ld newRows pm inL e2 pl lled mk
    generalize hT : t.put (way t.mask (kd.hash k) K) = T
    obtain ⟨t1, p⟩ := T
    generalize L.take (below t.place (way t.mask (kd.hash k) K)) ++ (way t.mask (kd.hash k) K, kd.hash k, x, k) :: L.drop (below t.place (way t.mask (kd.hash k) K)) = L1
    intro ld pl lled mk e2 newRows pm inL
    have e2 : p = below t.place (way t.mask (kd.hash k) K) := e2
    dsimp only
    subst e2
    revert newRows
    generalize insertAt es (below t.place (way t.mask (kd.hash k) K)) (kd.hash k, Value.ref x) = es1
    intro newRows
    have l1 : L1.length = L.length + 1 := pm.length_eq
    have size1 : es1.size = L.length + 1 := by rw [← Array.length_toList, newRows, List.length_map, l1]
    refine wp_if_pos pl ?_
    apply wpAny_bind
    refine kd.byVal hx ?_
    apply wpAny_bind
    refine wpAny_storeSet_of ho hd ?_ (by rw [size1, sizeLine_eq]; omega)
    have sb : Heap.SameBut a s.heap (s.heap.update a (Obj.putSet es1 t1)) := Heap.SameBut.update ..
    have ho1 := store_at (es' := es1) (t' := t1) ho hd
    simp only [if_true]
    have pl : t1.plain = true := pl
    have lled : t1.led = t.led := lled
    have mk : t1.mask = t.mask := mk
    have ld : Laid t1 L1 := ld
    generalize s.heap.update a (Obj.putSet es1 t1) = h1 at sb ho1 ⊢
    have B : Bare kd h1 a L1 es1 (ep + 1) t1 := ⟨⟨_, ho1, ⟨hex.1, hex.2.1, hex.2.2⟩, rfl⟩, newRows, ld, fun y hy => by
        rcases inL.mp hy with rfl | hy
        · rfl
        · exact S.hash y hy, by
        have z := (pm.map fun y : Row κ => y.2.2.2)
        exact z.nodup_iff.mpr (List.nodup_cons.mpr ⟨hm, S.nd⟩), fun y hy => by
        rcases inL.mp hy with rfl | hy
        · exact kd.keeps hx ho hd sb
        · exact kd.keeps (S.is y hy) ho hd sb, pl, by rw [lled]; exact S.led, by rw [l1, mk]; omega⟩
    have pm2 : (L1.map (·.2)).Perm ((kd.hash k, x, k) :: L.map (·.2)) := pm.map (·.2)
    have fill : t1.fill = L.length + 1 := by
      unfold SetTable.fill
      rw [ld.size, ld.dm, l1]
      rfl
    by_cases full : t1.tooFull = true
    · have full2 : (L.length + 1) * 5 ≥ t.mask * 3 := by
        unfold SetTable.tooFull at full
        rw [decide_eq_true_eq, fill, mk] at full
        exact full
      obtain ⟨M, e1, e2, e3⟩ := grow_to S.msk room full2 few
      refine wp_if_pos (by simp [full]) ?_
      apply wpAny_bind
      rw [size]
      refine Bare.relay (s := { s with heap := h1 }) B e1 e2 (by rw [l1]; exact e3) fun h2 L2 es2 ep2 t2 sb2 S2 perm2 => ?_
      exact wpAny_pure (hQ true h2 L2 es2 ep2 t2 (sb.trans sb2) S2 (fun z => absurd z hm) fun _ => perm2.trans pm2)
    · refine wp_if_neg (by simp [full]) ?_
      have room2 : L1.length * 5 < t1.mask * 3 := by
        unfold SetTable.tooFull at full
        rw [decide_eq_true_eq, fill, mk] at full
        rw [l1, mk]
        omega
      exact wpAny_pure (hQ true h1 L1 es1 (ep + 1) t1 sb ⟨B.ob, B.rows, B.laid, B.hash, B.nd, B.is, B.plain, B.led, room2, by rw [mk]; exact S.msk⟩ (fun z => absurd z hm) fun _ => pm2)
end
end Tb

/-! A set on the proof's heap; set.add. -/
namespace Tb
open PySem PySem.Spec PyProof.Rows L2 PySem.SetTable
section
variable {P : Program} {w : World} {κ : Type} [DecidableEq κ] {kd : Kd P w κ} {h : Heap} {a : Addr} {L : List (Row κ)} {es : Array (Int × Value)} {ep : Nat} {t : SetTable} {A : Around} {E : Value → Shared → Prop} {s : Shared} {ps : List (Addr × κ)}
/-- what the set's object alone tells: the items, as the table has them in order -/
def Core (kd : Kd P w κ) (h : Heap) (a : Addr) (ps : List (Addr × κ)) : Prop := ∃ (L : List (Row κ)) (es : Array (Int × Value)) (ep : Nat) (t : SetTable),
  (∃ o, h.get? a = some o ∧ o.ExactSet ∧ o.data = .set es ep t) ∧ es.toList = (L.map fun x => (x.2.1, Value.ref x.2.2.1)) ∧ Laid t L ∧ (∀ x ∈ L, x.2.1 = kd.hash x.2.2.2) ∧ (keysOf L).Nodup ∧ t.plain = true ∧
  (w.params.followText "set-order" = true ∨ t.led = true) ∧ L.length * 5 < t.mask * 3 ∧ Msk t.mask ∧ L.map (fun x => x.2.2) = ps
def SetH (kd : Kd P w κ) (a : Addr) (ps : List (Addr × κ)) : HO := .ext fun h => Core kd h a ps
theorem Core.nd (c : Core kd h a ps) : (ps.map (·.2)).Nodup := by
  obtain ⟨L, es, ep, t, _, _, _, _, nd, _, _, _, _, e⟩ := c
  rw [← e, List.map_map]
  exact nd
theorem setH_new {H : Hp} (c : Core kd h a ps) : ObjOk P w H h a (SetH kd a ps) := by
  have ⟨L, es, ep, t, ⟨o, ho, r⟩, q⟩ := c
  refine ⟨c, ⟨o, ho⟩, fun h1 h2 p k => ?_⟩
  have ⟨L', es', ep', t', ⟨o', ho', r'⟩, q'⟩ := (show Core kd h1 a ps from p)
  exact ⟨L', es', ep', t', ⟨o', k o' ho', r'⟩, q'⟩
theorem Core.full (c : Core kd h a ps) (is : ∀ p ∈ ps, kd.is h p.2 p.1) : ∃ L es ep t, SetAt kd h a L es ep t ∧ L.map (fun x => x.2.2) = ps := by
  obtain ⟨L, es, ep, t, h1, h2, h3, h4, h5, h6, h7, h8, h9, e⟩ := c
  refine ⟨L, es, ep, t, ⟨h1, h2, h3, h4, h5, fun x hx => ?_, h6, h7, h8, h9⟩, e⟩
  exact is x.2.2 (by rw [← e]; exact List.mem_map.mpr ⟨x, hx, rfl⟩)
theorem SetAt.core (S : SetAt kd h a L es ep t) : Core kd h a (L.map fun x => x.2.2) := ⟨L, es, ep, t, S.ob, S.rows, S.laid, S.hash, S.nd, S.plain, S.led, S.room, S.msk, rfl⟩
/-- a new one -/
theorem core_new (kd : Kd P w κ) : Core kd (h.push { cls := .type "set", dict := none, data := .set #[] 0 (.fresh 0 0 (!w.params.followText "set-order")) }) h.objs.size [] := by
  refine ⟨[], #[], 0, .fresh 0 0 (!w.params.followText "set-order"), ⟨_, Heap.get?_push_size _ rfl, ⟨rfl, rfl, rfl⟩, rfl⟩, rfl, ⟨(show Msk 7 from .inl rfl).pow, rfl, rfl, List.Pairwise.nil, (fun x hx => nomatch hx), fun x hx => nomatch hx⟩, (fun x hx => nomatch hx), List.Pairwise.nil, rfl, ?_, (by show 0 * 5 < 7 * 3; decide), .inl rfl, rfl⟩
  show w.params.followText "set-order" = true ∨ (!w.params.followText "set-order") = true
  cases w.params.followText "set-order"
  · exact .inr rfl
  · exact .inl rfl
/-- what adding gives -/
def Added (ps : List (Addr × κ)) (x : Addr) (k : κ) (qs : List (Addr × κ)) : Prop := (k ∈ ps.map (·.2) → qs.Perm ps) ∧ (k ∉ ps.map (·.2) → qs.Perm ((x, k) :: ps))
theorem add_call (c : Core kd s.heap a ps) (is : ∀ p ∈ ps, kd.is s.heap p.2 p.1) {x : Addr} {k : κ} (hx : kd.is s.heap k x) (hu : A.units + 64 < cLine) (few : ps.length + 1 < 4900) {Q : Value → Shared → Prop}
    (hQ : ∀ (h' : Heap) (tk : Nat) (qs : List (Addr × κ)), Heap.SameBut a s.heap h' → Core kd h' a qs → Added ps x k qs → Q .none { s with heap := h', toks := tk }) : wpAny (model P w) A (call (.builtin "set.add") [.ref a, .ref x]) Q E s := by
  obtain ⟨L, es, ep, t, S, e⟩ := c.full is
  have ty : s.TypeIs (.ref a) "set" := by
    obtain ⟨o, ho, hex, hd⟩ := S.ob
    exact ⟨o, ho, hex.1⟩
  refine wpAny_call_entry F.slot_set_add ty F.entry_set_add ?_ (F.args_set_add_2 _ _)
  have hu1 : A.in1.units + 8 < cLine := by
    show A.units + _ + 8 < cLine
    omega
  unfold Builtin.«set.add» Builtin.Frozenset.oneOther
  simp only [List.isEmpty_nil, bind_assoc]
  unfold Builtin.Frozenset.addrOf setAdd
  apply wpAny_bind
  refine wpAny_pure ?_
  try dsimp only
  apply wpAny_bind
  refine wpAny_pure ?_
  try dsimp only
  apply wpAny_bind
  apply wpAny_holding
  apply wpAny_bind
  refine kd.pyHash hu1 hx ?_
  refine SetAt.add (s := { s with toks := s.toks + kd.draws k }) S hx hu1 (by rw [← e, List.length_map] at few; exact few) fun b h' L' es' ep' t' sb S' p1 p2 => ?_
  have perm : ∀ {l m : List (Int × Addr × κ)}, l.Perm m → (l.map (·.2)).Perm (m.map (·.2)) := fun p => p.map _
  have eL : ∀ l : List (Row κ), l.map (fun x => x.2.2) = (l.map (·.2)).map (·.2) := fun l => by rw [List.map_map]; rfl
  have ek : keysOf L = ps.map (·.2) := by rw [← e, List.map_map]; rfl
  refine wpAny_pure ⟨_, rfl, hQ h' (s.toks + kd.draws k) (L'.map fun x => x.2.2) sb S'.core ⟨fun z => ?_, fun z => ?_⟩⟩
  · rw [← e, eL, eL]
    exact perm (p1 (by rw [ek]; exact z))
  · have := perm (p2 (by rw [ek]; exact z))
    rw [List.map_cons, ← eL, ← eL, e] at this
    exact this
end
end Tb

/-! {elt for target in iter if ..}, elt held by reference. -/
namespace Tb
open PySem PySem.Spec PyProof.Rows L2 PySem.SetTable
section
variable {X : Cx} {κ : Type} [DecidableEq κ]
/-- what on the proof's heap makes an item of the kind -/
structure KdH (X : Cx) (κ : Type) [DecidableEq κ] where
  kd : Kd X.prog X.w κ
  at_ : Hp → κ → Addr → Prop
  ok : ∀ {Y : Cx} {pins : List (Addr × Obj)} {σ : L2.St} {H : Hp} {s : Shared} {k : κ} {b : Addr}, Y.prog = X.prog → Y.w = X.w → Y.K = X.K → Inv Y pins σ H s → at_ H k b → kd.is s.heap k b
/-- one item more -/
def NextS (Z : KdH X κ) (D : Addr) (y : V) (H : Hp) (Nx : Hp → Prop) : Prop := ∃ (u : Addr) (k : κ) (ps : List (Addr × κ)), y = .ref u ∧ H D = some (SetH Z.kd D ps) ∧ ps.length + 1 < 4900 ∧ Z.at_ H k u ∧ (∀ p ∈ ps, Z.at_ H p.2 p.1) ∧ ∀ qs, Added ps u k qs → Nx (upd H D (SetH Z.kd D qs))
/-- the comprehension: D the new set -/
def tScR (Z : KdH X κ) (wi : TI) (g : TG) (tt : TT) (te : TE) (vs : List Nat) : TE := fun σ H Q => wi σ H fun J H1 => ∀ D, H1 D = none → ∃ W : Nat → Nat → Hp → Prop, (∃ m, W 0 m (upd H1 D (SetH Z.kd D []))) ∧ ∀ i m H, W i m H →
  (J.stop i H ∧ Q (.ref D) H) ∨ (J.go i H ∧ ∃ Nx : Hp → Prop, (∀ H', Nx H' → ∃ m', m' < m ∧ W (i + 1) m' H') ∧ ∀ x H', J.yld i H x H' → g x (wipe σ vs) H' fun σ2 H2 => wipe σ2 vs = wipe σ vs ∧ tt σ2 H2 fun b H3 =>
    if b = true then te σ2 H3 fun y H4 => NextS Z D y H4 Nx else Nx H3)
/-- set.add on the proof's heap, in a block of the def -/
theorem add_ok (Z : KdH X κ) {Y : Cx} (e1 : Y.prog = X.prog) (e2 : Y.w = X.w) (e3 : Y.K = X.K) (hu : Y.A.units + 64 < cLine) {pins : List (Addr × Obj)} {σ : L2.St} {H : Hp} {s : Shared} {E : Value → Shared → Prop} {D u : Addr} {k : κ} {ps : List (Addr × κ)} {Q : Value → Shared → Prop} (I : Inv Y pins σ H s)
    (hD : H D = some (SetH Z.kd D ps)) (few : ps.length + 1 < 4900) (hu1 : Z.at_ H k u) (hp : ∀ p ∈ ps, Z.at_ H p.2 p.1) (h : ∀ qs s', Added ps u k qs → Inv Y pins σ (upd H D (SetH Z.kd D qs)) s' → Q .none s') :
    wpAny (model X.prog X.w) Y.A (call (.builtin "set.add") [.ref D, .ref u]) Q E s := by
  have c : Core Z.kd s.heap D ps := (I.hok D _ hD).1
  refine add_call c (fun p hpp => Z.ok e1 e2 e3 I (hp p hpp)) (Z.ok e1 e2 e3 I hu1) hu few fun h' tk qs sb c' ad => ?_
  have there : ∃ o, h'.get? D = some o := by
    obtain ⟨_, _, _, _, ⟨o, ho, _⟩, _⟩ := c'
    exact ⟨o, ho⟩
  refine h qs _ ad (I.write (e := D) (t' := tk) (by rw [hD]; trivial) (.inl rfl) (fun b o nb ho => (sb.2 b nb).trans ho) there ?_)
  rw [e1, e2]
  exact setH_new c'
end
end Tb

/-! Tuples of ints, truth values and None, and tuples of such, as a kind of items. -/
namespace Tb
open PySem PySem.Spec PyProof.Rows L2 PySem.SetTable
mutual
/-- no text within -/
def noText : NestedKey → Bool
  | .text _ => false
  | .tup ks => noTexts ks
  | .none => true
  | .num _ => true
def noTexts : List NestedKey → Bool
  | [] => true
  | k :: ks => noText k && noTexts ks
end
section
variable {P : Program} {w : World}
/-- a question of a value is answered b, and nothing changes -/
def Tells (P : Program) (w : World) (s : Shared) (b : Bool) (m : Sem Bool) : Prop := ∀ (A : Around) (E : Value → Shared → Prop) (Q : Bool → Shared → Prop), Q b s → wpAny (model P w) A m Q E s
theorem Tells.pure {s : Shared} {b : Bool} : Tells P w s b (pure b) := fun A E Q h => wpAny_pure h
theorem byV_tuple {n : Nat} {s : Shared} {a : Addr} {o : Obj} {vs : Array Value} {m : Nat} (ho : s.heap.get? a = some o) (hc : o.cls = .type "tuple") (hd : o.data = .seq vs m) (hq : ∀ v ∈ vs.toList, Tells P w s true (hashByValue n v)) : Tells P w s true (hashByValue (n + 1) (.ref a)) := fun A E Q h => by
  have hT : s.TypeIs (.ref a) "tuple" := ⟨o, ho, hc⟩
  unfold hashByValue
  refine wpAny_bind (wpAny_specialOf hT F.slot_tuple_hash.lookup ?_)
  show wpAny _ _ (seqItems? (.ref a) >>= _) _ _ s
  refine wpAny_bind (wpAny_seqItems ho hd ?_)
  refine wpAny_bind ?_
  show wpAny _ _ (forIn vs _ _) _ _ s
  rw [← Array.forIn_toList]
  refine wpAny_forIn_list _ (fun rest r s' => r.1 = none ∧ s' = s ∧ ∀ v ∈ rest, Tells P w s true (hashByValue n v)) _ ?_ ?_ _ _ ⟨rfl, rfl, hq⟩
  · rintro v rest r s' ⟨hr, rfl, hall⟩
    refine wpAny_bind (hall v List.mem_cons_self _ _ _ ?_)
    simp only [Bool.not_true, Bool.false_eq_true, if_false]
    exact wpAny_pure ⟨rfl, rfl, fun u hu' => hall u (List.mem_cons_of_mem _ hu')⟩
  · rintro ⟨r1, r2⟩ s' ⟨hr, rfl, _⟩
    simp only at hr
    subst hr
    exact wpAny_pure h
theorem cls_tuple {n : Nat} {s : Shared} {a : Addr} {o : Obj} {vs : Array Value} {m : Nat} (ho : s.heap.get? a = some o) (hc : o.cls = .type "tuple") (hd : o.data = .seq vs m) (hq : ∀ v ∈ vs.toList, Tells P w s false (ofAClassStatement n v)) : Tells P w s false (ofAClassStatement (n + 1) (.ref a)) := fun A E Q h => by
  have hT : s.TypeIs (.ref a) "tuple" := ⟨o, ho, hc⟩
  unfold ofAClassStatement
  refine wpAny_bind (wpAny_typeOf hT ?_)
  dsimp only
  have e : (("tuple" : String) == "tuple") = true := by decide
  simp only [e, if_true, Bool.not_true, Bool.false_eq_true, if_false]
  try refine wpAny_bind (wpAny_pure ?_)
  try simp only [Bool.not_true, Bool.false_eq_true, if_false]
  show wpAny _ _ (seqItems? (.ref a) >>= _) _ _ s
  refine wpAny_bind (wpAny_seqItems ho hd ?_)
  dsimp only
  refine wpAny_bind ?_
  show wpAny _ _ (forIn vs _ _) _ _ s
  rw [← Array.forIn_toList]
  refine wpAny_forIn_list _ (fun rest r s' => r.1 = none ∧ s' = s ∧ ∀ v ∈ rest, Tells P w s false (ofAClassStatement n v)) _ ?_ ?_ _ _ ⟨rfl, rfl, hq⟩
  · rintro v rest r s' ⟨hr, rfl, hall⟩
    refine wpAny_bind (hall v List.mem_cons_self _ _ _ ?_)
    simp only [Bool.false_eq_true, if_false]
    exact wpAny_pure ⟨rfl, rfl, fun u hu' => hall u (List.mem_cons_of_mem _ hu')⟩
  · rintro ⟨r1, r2⟩ s' ⟨hr, rfl, _⟩
    simp only at hr
    subst hr
    exact wpAny_pure h
mutual
theorem byV_key : ∀ (k : NestedKey) (v : Value) (n : Nat) (s : Shared), NestedIs s.heap k v → k.depth ≤ n → noText k = true → Tells P w s true (hashByValue n v)
  | .none, _, n, s, x, _, _ => by
    cases x
    cases n <;> exact .pure
  | .num i, _, n, s, x, _, _ => by
    cases x <;> cases n <;> exact .pure
  | .text _, _, _, _, _, _, t => by simp [noText] at t
  | .tup ks, _, n, s, x, hd, t => by
    cases x with
    | tup ho hc hdt hk =>
      simp only [NestedKey.depth] at hd
      rw [noText] at t
      cases n with
      | zero => omega
      | succ n => exact byV_tuple ho hc hdt (byV_keys ks _ n s hk (by omega) t)
theorem byV_keys : ∀ (ks : List NestedKey) (vs : List Value) (n : Nat) (s : Shared), NestedAll s.heap ks vs → NestedKey.depthAll ks ≤ n → noTexts ks = true → ∀ v ∈ vs, Tells P w s true (hashByValue n v)
  | [], _, n, s, x, _, _ => by
    cases x
    intro v hv
    cases hv
  | k :: ks, _, n, s, x, hd, t => by
    cases x with
    | cons a b =>
      simp only [NestedKey.depthAll] at hd
      rw [noTexts, Bool.and_eq_true] at t
      intro v hv
      rcases List.mem_cons.mp hv with e | hv
      · rw [e]
        exact byV_key k _ n s a (by omega) t.1
      · exact byV_keys ks _ n s b (by omega) t.2 v hv
end
mutual
theorem cls_key : ∀ (k : NestedKey) (v : Value) (n : Nat) (s : Shared), NestedIs s.heap k v → k.depth ≤ n → Tells P w s false (ofAClassStatement n v)
  | .none, _, n, s, x, _ => by
    cases x
    cases n <;> exact .pure
  | .num i, _, n, s, x, _ => by
    cases x <;> cases n <;> exact .pure
  | .text _, _, n, s, x, _ => by
    cases x
    cases n <;> exact .pure
  | .tup ks, _, n, s, x, hd => by
    cases x with
    | tup ho hc hdt hk =>
      simp only [NestedKey.depth] at hd
      cases n with
      | zero => omega
      | succ n => exact cls_tuple ho hc hdt (cls_keys ks _ n s hk (by omega))
theorem cls_keys : ∀ (ks : List NestedKey) (vs : List Value) (n : Nat) (s : Shared), NestedAll s.heap ks vs → NestedKey.depthAll ks ≤ n → ∀ v ∈ vs, Tells P w s false (ofAClassStatement n v)
  | [], _, n, s, x, _ => by
    cases x
    intro v hv
    cases hv
  | k :: ks, _, n, s, x, hd => by
    cases x with
    | cons a b =>
      simp only [NestedKey.depthAll] at hd
      intro v hv
      rcases List.mem_cons.mp hv with e | hv
      · rw [e]
        exact cls_key k _ n s a (by omega)
      · exact cls_keys ks _ n s b (by omega) v hv
end
/-- a key held by reference -/
def IsN (h : Heap) (k : NestedKey) (a : Addr) : Prop := NestedIs h k (.ref a) ∧ k.depth ≤ 8 ∧ noText k = true
theorem seen_key {A : Around} {E : Value → Shared → Prop} {s : Shared} {k : NestedKey} {b : Addr} {Q : Bool → Shared → Prop} {ys : List Value} (hk : IsN s.heap k b) (hy : ∀ y ∈ ys, ∃ k' c, y = Value.ref c ∧ IsN s.heap k' c) (h : Q false s) :
    wpAny (model P w) A (searchCouldBeSeen (.ref b) ys) Q E s := by
  unfold searchCouldBeSeen
  refine wpAny_bind ?_
  refine wpAny_forIn_list _ (fun rest r s' => r.1 = none ∧ s' = s ∧ ∀ y ∈ rest, ∃ k' c, y = Value.ref c ∧ IsN s.heap k' c) _ ?_ ?_ _ _ ⟨rfl, rfl, hy⟩
  · rintro v rest r s' ⟨hr, rfl, hall⟩
    obtain ⟨k', c, rfl, hc⟩ := hall v List.mem_cons_self
    have rest' : ∀ y ∈ rest, ∃ k' c, y = Value.ref c ∧ IsN s'.heap k' c := fun u hu' => hall u (List.mem_cons_of_mem _ hu')
    dsimp only
    by_cases hv : (b == c || (carriedByValue (.ref b) && carriedByValue (.ref c))) = true
    · refine wp_if_pos hv ?_
      exact wpAny_pure ⟨rfl, rfl, rest'⟩
    · refine wp_if_neg hv ?_
      refine wpAny_bind (quiet_key _ _ _ _ hk.1 hk.2.1 _ _ _ ?_)
      simp only [Bool.not_true, Bool.false_eq_true, if_false]
      refine wpAny_bind (quiet_key _ _ _ _ hc.1 hc.2.1 _ _ _ ?_)
      simp only [Bool.not_true, Bool.false_eq_true, if_false]
      refine wpAny_bind (cls_key _ _ _ _ hk.1 hk.2.1 _ _ _ ?_)
      simp only [Bool.false_eq_true, if_false]
      refine wpAny_bind (cls_key _ _ _ _ hc.1 hc.2.1 _ _ _ ?_)
      simp only [Bool.false_eq_true, if_false]
      exact wpAny_pure ⟨rfl, rfl, rest'⟩
  · rintro ⟨r1, r2⟩ s' ⟨hr, rfl, _⟩
    simp only at hr
    subst hr
    exact wpAny_pure h
/-- the kind -/
def kdN (P : Program) (w : World) : Kd P w NestedKey where
  is := IsN
  hash := fun k => k.hash w
  draws := fun k => k.draws
  keeps := fun {h h' k a d o es ep t} x ho hd hs => ⟨NestedIs.at (fun b ob vs n hb hc => by
    refine (hs.2 b fun e => ?_).trans hb
    subst e
    rw [ho] at hb
    cases hb
    rw [hd] at hc
    cases hc) k _ x.1, x.2⟩
  pyHash := fun hu hk h => pyHash_key _ _ _ _ _ hk.1 (by have := hk.2.1; omega) h
  eqBool := fun {A E s x y a b Q} hu hx hy h => eqAt_key x y A s _ _ hx.1 hy.1 (by have := hx.2.1; omega) _ _ _ _ (by rw [← NestedKey.decide_eq]; exact h)
  unseen := fun h hy q => seen_key h hy q
  byVal := fun h q => byV_key _ _ _ _ h.1 h.2.1 h.2.2 _ _ _ q

mutual
def keyP : PyData → Option NestedKey
  | .none => some .none
  | .bool b => some (.num (if b = true then 1 else 0))
  | .int i => some (.num i)
  | .tuple ds => (keysP ds).map .tup
  | .str _ => none
  | .list _ => none
  | .dict _ => none
def keysP : List PyData → Option (List NestedKey)
  | [] => some []
  | d :: ds => match keyP d, keysP ds with
    | some k, some ks => some (k :: ks)
    | _, _ => none
end
mutual
theorem keyP_is {h : Heap} : ∀ (d : PyData) (k : NestedKey) (v : Value) (as : List Addr), Reads h v d as → keyP d = some k → NestedIs h k v ∧ noText k = true
  | .none, k, v, as, r, e => by cases r; cases e; exact ⟨.none, rfl⟩
  | .bool b, k, v, as, r, e => by cases r; cases e; exact ⟨.bool rfl, rfl⟩
  | .int i, k, v, as, r, e => by cases r; cases e; exact ⟨.int _ _, rfl⟩
  | .str _, k, v, as, r, e => by simp [keyP] at e
  | .list _, k, v, as, r, e => by simp [keyP] at e
  | .dict _, k, v, as, r, e => by simp [keyP] at e
  | .tuple ds, k, v, as, r, e => by
    rw [keyP, Option.map_eq_some_iff] at e
    obtain ⟨ks, e1, rfl⟩ := e
    cases r with
    | tuple h1 h2 h3 h4 =>
      obtain ⟨x, t⟩ := keysP_is ds ks _ _ h4 e1
      exact ⟨.tup h1 h2 h3 x, by rw [noText]; exact t⟩
theorem keysP_is {h : Heap} : ∀ (ds : List PyData) (ks : List NestedKey) (vs : List Value) (as : List Addr), ReadsAll h vs ds as → keysP ds = some ks → NestedAll h ks vs ∧ noTexts ks = true
  | [], ks, vs, as, r, e => by cases r; cases e; exact ⟨.nil, rfl⟩
  | d :: ds, ks, vs, as, r, e => by
    cases r with
    | cons h1 h2 =>
      unfold keysP at e
      split at e
      · rename_i k ks' e1 e2
        cases e
        obtain ⟨x, t⟩ := keyP_is d k _ _ h1 e1
        obtain ⟨x2, t2⟩ := keysP_is ds ks' _ _ h2 e2
        exact ⟨.cons x x2, by rw [noTexts, t, t2]; rfl⟩
      · cases e
end
end
section
variable {X : Cx}
/-- on the proof's heap: data held by reference -/
def KdNH (X : Cx) : KdH X NestedKey where
  kd := kdN X.prog X.w
  at_ := fun H k u => ∃ d, Dp X.K H (.ref u) d ∧ keyP d = some k ∧ k.depth ≤ 8
  ok := fun {Y pins σ H s k b} e1 e2 e3 I ⟨d, h1, h2, h3⟩ => by
    rw [← e3] at h1
    obtain ⟨as, r⟩ := Dp.reads I d (.ref b) (.ref b) h1 rfl
    obtain ⟨x, t⟩ := keyP_is d k _ _ r h2
    exact ⟨x, h3, t⟩
end
end Tb

/-! The set comprehension, whatever the items: a way of laying them. -/
namespace Tb
open PySem PySem.Spec PyProof.Rows L2 PpSet
/-- a set as it is made -/
abbrev bareSet (w : World) : Obj := { cls := .type "set", dict := none, data := .set #[] 0 (.fresh 0 0 (!w.params.followText "set-order")) }
/-- a way of laying sets on the proof's heap: the empty one, and one item more -/
structure Way (X : Cx) where
  emp : Addr → HO
  new : ∀ (H : Hp) (h : Heap), ObjOk X.prog X.w H (h.push (bareSet X.w)) h.objs.size (emp h.objs.size)
  more : Addr → V → Hp → (Hp → Prop) → Prop
  goes : ∀ {Y : Cx} {pins : List (Addr × Obj)} {σ : L2.St} {H : Hp} {s : Shared} {E : Value → Shared → Prop} {D : Addr} {y : V} {v : Value} {Nx : Hp → Prop} {Q : Value → Shared → Prop}, Y.prog = X.prog → Y.w = X.w → Y.K = X.K →
    Y.A.units + 64 < cLine → Inv Y pins σ H s → RelV y v → more D y H Nx → (∀ s' H', Inv Y pins σ H' s' → Nx H' → Q .none s') → wpAny (model X.prog X.w) Y.A (call (.builtin "set.add") [.ref D, v]) Q E s
section
variable {X : Cx}
/-- one turn: what the item's naming, the tests and the element ask -/
def turnS (Z : Way X) (D : Addr) (g : TG) (tt : TT) (te : TE) (σ : L2.St) (vs : List Nat) (x : V) (H : Hp) (Nx : Hp → Prop) : Prop :=
  g x (wipe σ vs) H fun σ2 H2 => wipe σ2 vs = wipe σ vs ∧ tt σ2 H2 fun b H3 => if b = true then te σ2 H3 fun y H4 => Z.more D y H4 Nx else Nx H3
/-- {elt for target in iter if ..}: D the new set -/
def tSW (Z : Way X) (wi : TI) (g : TG) (tt : TT) (te : TE) (vs : List Nat) : TE := fun σ H Q => wi σ H fun J H1 => ∀ D, H1 D = none → ∃ W : Nat → Nat → Hp → Prop, (∃ m, W 0 m (upd H1 D (Z.emp D))) ∧ ∀ i m H, W i m H →
  (J.stop i H ∧ Q (.ref D) H) ∨ (J.go i H ∧ ∃ Nx : Hp → Prop, (∀ H', Nx H' → ∃ m', m' < m ∧ W (i + 1) m' H') ∧ ∀ x H', J.yld i H x H' → turnS Z D g tt te σ vs x H' Nx)
section
variable {elt tg iter : Expr} {ifs : List Expr} {scope : Scope} {own : List (PySem.Str × Nat)} {pos pos' : Pos} {wi : TI} {g : TG} {tt : TT} {te : TE} {s3 : Shared} {H3 : Hp} {ce : Env} {fp : List Addr} {tn : Nat → Heap → Prop} {it D : Addr} {J : It} {σ : L2.St}
/-- what holds between two turns, within the block -/
def Between (X : Cx) (s3 : Shared) (H3 : Hp) (scope : Scope) (ce : Env) (fp : List Addr) (tn : Nat → Heap → Prop) (σ : L2.St) (i : Nat) (H : Hp) (s : Shared) : Prop :=
  Inv (X.blk s3 H3 scope ce fp) [] σ H s ∧ tn i s.heap ∧ ∀ b ∈ fp, H b = none
theorem fp_ok {X : Cx} {pins : List (Addr × Obj)} {s3 s : Shared} {H3 H : Hp} {scope : Scope} {ce : Env} {fp : List Addr} {σ : L2.St} (I : Inv (X.blk s3 H3 scope ce fp) [] σ H s) (n : ∀ b ∈ fp, H b = none) : ∀ b ∈ fp, FpOk (X.blk s3 H3 scope ce fp) [] H b := by
  intro b hb
  refine ⟨n b hb, (I.ok.exf b hb).1, I.ok.exfs b hb, .inl hb, fun x c e => (I.ok.exf b hb).2 x c e, fun p hp => ?_⟩
  have hp : p ∈ ([] : List (Addr × Obj)) ++ [] := hp
  simp at hp
/-- a turn's end: the pins go, the iterator stands one further -/
theorem turn_end {T : Turn X.prog X.w X.K tg J fp it tn} {vs : List Nat} {i : Nat} {σ2 : L2.St} {H : Hp} {h0 : Heap} {s : Shared} (hw : wipe σ2 vs = wipe σ vs) (st : tn (i + 1) h0) (I : Inv (X.blk s3 H3 scope ce fp) ([] ++ pinsAt fp h0) σ2 H s) :
    Between X s3 H3 scope ce fp tn (wipe σ vs) (i + 1) H s := by
  have held : ∀ b ∈ fp, ∀ o, h0.get? b = some o → s.heap.get? b = some o ∧ H b = none := fun b hb o e => by
    have z := I.pin (b, o) (List.mem_append_right _ (List.mem_append_right _ (mem_pinsAt hb e)))
    exact ⟨z.1, z.2.1⟩
  refine ⟨(I.unpinned (pins := [])).weak (by rw [← hw, wipe_length]) (fun j v e => ?_), T.keep _ _ _ st fun b hb o e => (held b hb o e).1, fun b hb => ?_⟩
  · rw [← hw] at e
    exact (wipe_some e).1
  · obtain ⟨o, e, _⟩ := T.obj _ _ st b hb
    exact (held b hb o e).2
/-- the turns -/
theorem sw_turns {R : Result → Shared → Prop} (Z : Way X) (hu : X.A.units + 64 < cLine) (hc : X.calm = true) (T : Turn X.prog X.w X.K tg J fp it tn) (pg : PG (X.blk s3 H3 scope ce fp) tg g) (pt : PTs (X.blk s3 H3 scope ce fp) ifs tt) (pe : PE (X.blk s3 H3 scope ce fp) elt te)
    {W : Nat → Nat → Hp → Prop} {Q : Hp → Prop} {vs : List Nat}
    (turn : ∀ i m H, W i m H → (J.stop i H ∧ Q H) ∨ (J.go i H ∧ ∃ Nx : Hp → Prop, (∀ H', Nx H' → ∃ m', m' < m ∧ W (i + 1) m' H') ∧ ∀ x H', J.yld i H x H' → turnS Z D g tt te σ vs x H' Nx))
    (fin : ∀ H s, Inv (X.blk s3 H3 scope ce fp) [] (wipe σ vs) H s → Q H → R (.ok .next) s)
    {m0 : Nat} {H0 : Hp} {s0 : Shared} (b0 : Between X s3 H3 scope ce fp tn (wipe σ vs) 0 H0 s0) (w0 : W 0 m0 H0) :
    codeAny (model X.prog X.w) X.A (.compLoop (.SetComp elt [⟨tg, iter, ifs, 0⟩] scope pos) 0 (.ref it) (.ref D) ce) R s0 := by
  refine compLoopS_any (fun n s => ∃ i H, Between X s3 H3 scope ce fp tn (wipe σ vs) i H s ∧ W i n H) ?_ m0 ⟨0, H0, b0, w0⟩
  rintro n s ⟨i, H, ⟨I, st, nf⟩, wi⟩
  rcases turn i n H wi with ⟨stop, qq⟩ | ⟨go, Nx, nx, step⟩
  · refine thnF (T.done (X.blk s3 H3 scope ce fp) rfl rfl rfl hc i [] s _ H (fun _ _ => False) I (fp_ok (pins := []) I nf) st stop) fun r s1 ⟨hr, I1⟩ => ?_
    subst hr
    exact fin H s1 I1 qq
  · refine thnF (T.item (X.blk s3 H3 scope ce fp) rfl rfl rfl hc i [] s _ H (fun _ _ => False) I (fp_ok (pins := []) I nf) st go) fun r s1 ⟨u, hr, h1⟩ => ?_
    subst hr
    refine thnF h1 fun _ s2 ⟨x, H2, I2, r2, y2, st2, n2⟩ => ?_
    have I2' := I2.pinned (fp_ok (pins := []) I2 n2) (T.obj _ _ st2)
    have next : ∀ {σ' : L2.St} {H' : Hp} {s' : Shared}, wipe σ' vs = wipe σ vs → Inv (X.blk s3 H3 scope ce fp) ([] ++ pinsAt fp s2.heap) σ' H' s' → Nx H' → ∃ m, m < n ∧ ∃ i H, Between X s3 H3 scope ce fp tn (wipe σ vs) i H s' ∧ W i m H := fun {σ' H' s'} hw I' q' => by
      obtain ⟨m', lt, w'⟩ := nx H' q'
      exact ⟨m', lt, i + 1, H', turn_end (T := T) hw st2 I', w'⟩
    refine thnF (pg.run _ s2 _ H2 x u _ I2' r2 (step x H2 y2)) fun _ s3' ⟨σ3, H3', I3, hw, q3⟩ => ?_
    refine thnF (pt.run _ s3' σ3 H3' _ I3 q3) fun b s4 ⟨H4, I4, q4⟩ => ?_
    cases b with
    | false =>
      simp only [Bool.false_eq_true, if_false] at q4 ⊢
      exact next hw I4 q4
    | true =>
      simp only [if_true] at q4 ⊢
      refine thnF (pe.run _ s4 σ3 H4 _ I4 q4) fun v s5 ⟨y, H5, I5, r5, q5⟩ => ?_
      exact Z.goes (Y := X.blk s3 H3 scope ce fp) rfl rfl rfl hu I5 r5 q5 fun s6 H6 I6 n6 => next hw I6 n6
theorem sw_core {pins : List (Addr × Obj)} {s : Shared} {H : Hp} {Q : VK} {use : Option (Value → Sem Unit)} {Qf : Value → Shared → Prop} (Z : Way X) (hu : X.A.units + 64 < cLine)
    (hc : X.calm = true) (hN : X.N.Nodup) (I : Inv X pins σ H s) (hi : PI X tg iter wi) (ok : BlkOk X.N X.env.scope scope own)
    (hg : ∀ (s : Shared) (H : Hp) (C : Addr) (cl : List (PySem.Str × Addr)) (fp : List Addr), PG (X.blk s H scope (compEnvC scope cl C X.env) fp) tg g)
    (ht : ∀ (s : Shared) (H : Hp) (C : Addr) (cl : List (PySem.Str × Addr)) (fp : List Addr), PTs (X.blk s H scope (compEnvC scope cl C X.env) fp) ifs tt)
    (he : ∀ (s : Shared) (H : Hp) (C : Addr) (cl : List (PySem.Str × Addr)) (fp : List Addr), PE (X.blk s H scope (compEnvC scope cl C X.env) fp) elt te) (hs : ∀ x, foldedSetIterable iter X.env x = pure x)
    (h : tSW Z wi g tt te (own.map (·.2)) σ H Q)
    (hR : ∀ D C s' m H', Inv X pins σ H' s' → Q (.ref D) H' → s'.heap.Ns C m → FpOk X pins H' C → compPost (model X.prog X.w) X.A X.xe use Qf (.ref D) C (.ok .next) s') :
    wpAny (model X.prog X.w) X.A (comprehension (.SetComp elt [⟨tg, iter, ifs, 0⟩] scope pos) scope X.env pos' (newSet (.type "set")) false (eval iter X.env) use) Qf X.xe s := by
  have cells : ∀ y ∈ scope.names, y.2 = .free → ∃ c, X.env.cells.lookup y.1 = some c := fun y hy e => (ok.free y hy e).elim (fun k => I.ok.has _ (.inl k)) fun k => I.ok.has _ (.inr k)
  refine wpAny_comprehension_free (use := use) rfl hs (closure_ok cells) ok.kind (fun y hy e => by rw [ok.uniq y hy, e]) ?_
  refine thn (hi.run pins s σ H _ I h) fun v0 t0 r0 => thn r0 fun v1 t h2 => ?_
  obtain ⟨it, fp, tn, J, H2, e, I2, T, st, ff, q⟩ := h2
  subst e
  refine newSet_ok (newEnv_comp ?_)
  -- the new set
  have nD : H2 t.heap.objs.size = none := I2.hok.fresh (Nat.le_refl _)
  obtain ⟨W, ⟨m0, w0⟩, turn⟩ := q _ nD
  have I3 : Inv X pins σ (upd H2 t.heap.objs.size (Z.emp t.heap.objs.size)) { t with heap := t.heap.push (bareSet X.w) } := I2.laid (t' := t.toks) (fun b o e => Heap.get?_push_of_some _ e) (Nat.le_refl _) (Z.new _ _)
  have fr : ∀ b ∈ fp, FpOk X pins (upd H2 t.heap.objs.size (Z.emp t.heap.objs.size)) b ∧ b < (t.heap.push (bareSet X.w)).objs.size := fun b hb => by
    obtain ⟨o, e, _⟩ := T.obj _ _ st b hb
    have lt := Heap.lt_size e
    refine ⟨⟨?_, (ff b hb).2⟩, by rw [Heap.size_push]; exact Nat.lt_succ_of_lt lt⟩
    rw [upd_ne (Nat.ne_of_lt lt)]
    exact (ff b hb).1
  have st3 : tn 0 (t.heap.push (bareSet X.w)) := T.keep _ _ _ st fun b _ o e => Heap.get?_push_of_some _ e
  have I4 := block_start I3 ok hN fr
  generalize hs3 : ({ t with heap := t.heap.push (bareSet X.w) } : Shared) = s3 at I3 I4
  have eh : t.heap.push (bareSet X.w) = s3.heap := by rw [← hs3]
  rw [eh] at fr st3
  have pg := hg s3 (upd H2 t.heap.objs.size (Z.emp t.heap.objs.size)) s3.heap.objs.size (cellsFrom (s3.heap.objs.size + 1) scope.names (cloFrom X.env.cells scope.names [])) fp
  have pt := ht s3 (upd H2 t.heap.objs.size (Z.emp t.heap.objs.size)) s3.heap.objs.size (cellsFrom (s3.heap.objs.size + 1) scope.names (cloFrom X.env.cells scope.names [])) fp
  have pe := he s3 (upd H2 t.heap.objs.size (Z.emp t.heap.objs.size)) s3.heap.objs.size (cellsFrom (s3.heap.objs.size + 1) scope.names (cloFrom X.env.cells scope.names [])) fp
  show codeAny _ _ (.compStart (.SetComp elt [⟨tg, iter, ifs, 0⟩] scope pos) 0 (.ref it) (.ref t.heap.objs.size) (compEnvC scope (cellsFrom (s3.heap.objs.size + 1) scope.names (cloFrom X.env.cells scope.names [])) s3.heap.objs.size X.env))
    (compPost (model X.prog X.w) X.A X.xe use Qf (.ref t.heap.objs.size) s3.heap.objs.size) { s3 with heap := pushCells (s3.heap.push { cls := .type "dict", data := .dict #[] }) scope.names }
  generalize hce : compEnvC scope (cellsFrom (s3.heap.objs.size + 1) scope.names (cloFrom X.env.cells scope.names [])) s3.heap.objs.size X.env = ce at I4 pg pt pe ⊢
  have cL : ce.locals = s3.heap.objs.size := by rw [← hce]; rfl
  have st4 : tn 0 (pushCells (s3.heap.push { cls := .type "dict", data := .dict #[] }) scope.names) := T.keep _ _ _ st3 fun b _ o e => pushCells_keeps _ _ _ _ (Heap.get?_push_of_some _ e)
  have loop : codeAny (model X.prog X.w) X.A (.compLoop (.SetComp elt [⟨tg, iter, ifs, 0⟩] scope pos) 0 (.ref it) (.ref t.heap.objs.size) ce) (compPost (model X.prog X.w) X.A X.xe use Qf (.ref t.heap.objs.size) s3.heap.objs.size) { s3 with heap := pushCells (s3.heap.push { cls := .type "dict", data := .dict #[] }) scope.names } := by
    refine sw_turns Z hu hc T pg pt pe turn (fun H5 s5 I5 q5 => ?_) ⟨I4, st4, fun b hb => (fr b hb).1.1⟩ w0
    have I6 : Inv X pins σ H5 s5 := I3.call' (ch := fp) I5.os I5.base I5.hok I5.bare fun b hb => ⟨(fr b hb).1.2.2.2.1, (fr b hb).1.2.1, (fr b hb).1.2.2.2.2.1, (fr b hb).1.2.2.2.2.2⟩
    have nC : H5 s3.heap.objs.size = none := by
      have z : H5 ce.locals = none := I5.free
      rw [cL] at z
      exact z
    obtain ⟨m, hn, _⟩ := I5.loc
    have hn : s5.heap.Ns ce.locals m := hn
    rw [cL] at hn
    exact hR _ s3.heap.objs.size s5 m H5 I6 q5 hn (I3.fpOk (Nat.le_refl _) nC)
  exact codeAny_compStart_set loop (T.self X.A 0 _ _ _ st4 loop)
/-- as a value -/
theorem pe_sw (Z : Way X) (hu : X.A.units + 64 < cLine) (hc : X.calm = true) (hN : X.N.Nodup) (hi : PI X tg iter wi) (ok : BlkOk X.N X.env.scope scope own)
    (hg : ∀ (s : Shared) (H : Hp) (C : Addr) (cl : List (PySem.Str × Addr)) (fp : List Addr), PG (X.blk s H scope (compEnvC scope cl C X.env) fp) tg g)
    (ht : ∀ (s : Shared) (H : Hp) (C : Addr) (cl : List (PySem.Str × Addr)) (fp : List Addr), PTs (X.blk s H scope (compEnvC scope cl C X.env) fp) ifs tt)
    (he : ∀ (s : Shared) (H : Hp) (C : Addr) (cl : List (PySem.Str × Addr)) (fp : List Addr), PE (X.blk s H scope (compEnvC scope cl C X.env) fp) elt te) (hs : ∀ x, foldedSetIterable iter X.env x = pure x := by intro _; rfl) :
    PE X (.SetComp elt [⟨tg, iter, ifs, 0⟩] scope pos) (tSW Z wi g tt te (own.map (·.2))) := by
  refine ⟨fun pins s σ H Q I h => ?_⟩
  rw [eval_SetComp]
  refine sw_core Z hu hc hN I hi ok hg ht he hs h fun D C s' m H' I' q hn f => ⟨m, hn, fun h'' sb => ?_⟩
  obtain ⟨f0, f1, f2, f3, f4, f5⟩ := f
  exact ⟨.ref D, H', I'.turned (t' := s'.toks) (fun b o hb e => (sb.2 b hb).trans e) f0 f1 f3 f4 f5, rfl, q⟩
end
/-- sets of items held by reference -/
def wayR {κ : Type} [DecidableEq κ] (Z : KdH X κ) : Way X where
  emp D := SetH Z.kd D []
  new H h := setH_new (core_new Z.kd)
  more := NextS Z
  goes := fun {Y pins σ H s E D y v Nx Q} e1 e2 e3 hu I r ⟨u, k, ps, ey, hD, few, hk, hp, nx⟩ hQ => by
    subst ey
    cases r
    exact add_ok Z e1 e2 e3 hu I hD few hk hp fun qs s' ad I' => hQ s' _ I' (nx qs ad)
end
end Tb

/-! sorted(a set) of items held by reference that read as data, any number of them. -/
namespace Tb
open PySem PySem.Spec PyProof.Rows L2 PySem.SetTable PpSet
open PySem.W (dataLe AllAlike Sortable EachIs)
section
variable {P : Program} {w : World} {κ : Type} [DecidableEq κ] {kd : Kd P w κ} {A : Around} {E : Value → Shared → Prop} {s : Shared} {a : Addr} {ps : List (Addr × κ)}
end
end Tb

/-! The order of keys; distinct keys sorted; sorted(a set) on the proof's heap. -/
namespace Tb
open PySem PySem.Spec PyProof.Rows L2
open PySem.W (dataLt dataLe alike AllAlike Sortable keyToks)
/-! ### the order -/

/-- below -/
def ltK (a b : NestedKey) : Bool := dataLt a.data b.data
def leK (a b : NestedKey) : Bool := !ltK b a
/-- the unlike ones of some keys -/
def dd : List NestedKey → List NestedKey
  | [] => []
  | k :: ks => if k ∈ dd ks then dd ks else k :: dd ks
/-- the unlike ones, sorted -/
def sortK (ks : List NestedKey) : List NestedKey := (dd ks).mergeSort leK
/-! ### the rule -/
section
variable {X : Cx}
/-- sorted(a set of such keys) -/
def rSortedN (X : Cx) : List V → Hp → VK → Prop := fun vs H Q => ∃ (a : Addr) (ps : List (Addr × NestedKey)), vs = [.ref a] ∧ H a = some (SetH (kdN X.prog X.w) a ps) ∧ ps.length < 4096 ∧ (∀ p ∈ ps, Dp X.K H (.ref p.1) p.2.data ∧ (p.2.data).depth ≤ 8) ∧
  AllAlike (ps.map fun p => p.2.data) ∧ Sortable (ps.map fun p => p.2.data) ∧ ∀ (qs : List (Addr × NestedKey)) l, qs.Perm ps → (qs.map (·.2)).Nodup → (qs.map (·.2)).Pairwise (fun a b => leK a b = true) → H l = none → Q (.ref l) (upd H l (.lst (qs.map fun q => V.ref q.1)))
end
end Tb

namespace Tr
open PySem PySem.Spec PyProof.Rows L2 Md

section
variable {PO : D → Bool → Prop} {xs : List D} {d : D} {n : Nat}
end
end Tr

/-! sorted({elt for target in iter}) over trees. -/
namespace Tr
open PySem PySem.Spec PyProof.Rows L2 Md Tb
open PySem.W (dataLt dataLe alike AllAlike Sortable keyToks)
/-! ### trees as keys -/
mutual
/-- ints, and tuples of such -/
def keyN : D → Option NestedKey
  | .int i => some (.num i)
  | .tup ds => (keyNs ds).map .tup
  | .non => none
  | .bl _ => none
  | .str _ => none
  | .lst _ => none
  | .dct _ => none
  | .ins _ _ => none
  | .set _ => none
  | .err _ _ _ _ => none
def keyNs : List D → Option (List NestedKey)
  | [] => some []
  | d :: ds => match keyN d, keyNs ds with
    | some k, some ks => some (k :: ks)
    | _, _ => none
end
mutual
def treeK : NestedKey → D
  | .none => .non
  | .num i => .int i
  | .text x => .str x
  | .tup ks => .tup (treeKs ks)
def treeKs : List NestedKey → List D
  | [] => []
  | k :: ks => treeK k :: treeKs ks
end



/-- keys that can be sorted in one set -/
def okK (ks : List NestedKey) : Prop := (∀ k ∈ ks, (∃ x r, k = .tup (x :: r)) ∧ k.depth ≤ 8) ∧ (∀ a ∈ ks, ∀ b ∈ ks, alike a.data b.data = true) ∧ ks.length < 4096
open Classical in
/-- the unlike ones of some trees, sorted -/
noncomputable def fSortN (ys : List D) : Option (List D) := match keyNs ys with
  | some ks => if okK ks then some ((sortK ks).map treeK) else none
  | none => none
/-- sorted({elt for target in iter if ..}) -/
noncomputable def sortedSetT (it : IT) (t : TgT) (cond : GT) (elt : ET) (vs : List Nat) : ET := fun ε => bindE (it ε) fun x ε1 =>
  if noOwn ε1 vs = true then match loopG (turn1 t cond elt vs) (chkC ε1 x.2) x.1 (wipeE ε1 vs) with
    | some z => match fSortN z.1 with
      | some r => some (.ok (.lst r, true) (restE ε1 z.2 vs))
      | none => none
    | none => none
  else none
section
variable {K : PySem.W.Frag} {ca : CA} {W : WX} {O O' S : Addr → Prop} {H H0 H1 H2 H' : Hp} {σ σ1 σ2 σ' : L2.St} {ε ε1 ε2 ε' p p' : TEnv} {a : Addr} {d d' : D} {v : V} {Q : VK} {E : Ends} {i : Nat} {k : Nat} {vs : List Nat} {P0 : Program} {w0 : World}
/-- the set at D0 has the keys of these trees -/
def SetY (P0 : Program) (w0 : World) (K : PySem.W.Frag) (ca : CA) (S : Addr → Prop) (H : Hp) (D0 : Addr) (ys : List D) : Prop := ∃ ps : List (Addr × NestedKey), H D0 = some (SetH (kdN P0 w0) D0 ps) ∧ ps.length ≤ ys.length ∧
  (∀ p ∈ ps, Rep K ca S H (.ref p.1) (treeK p.2) ∧ ∃ y ∈ ys, keyN y = some p.2) ∧ ∀ y ∈ ys, ∃ p ∈ ps, keyN y = some p.2
/-- a set comprehension's state between its turns -/
structure CIs (P0 : Program) (w0 : World) (K : PySem.W.Frag) (ca : CA) (O : Addr → Prop) (σw : L2.St) (εw : TEnv) (B : Hp) (D0 : Addr) (Hk : Hp) (εk : TEnv) (ys : List D) : Prop where
  env : EnvR K ca O Hk σw εk
  fr : ∀ b o, b ≠ D0 → B b = some o → ¬ Own σw εw b → Hk b = some o
  th : ∀ b, b ≠ D0 → Hk b = none → B b = none
  le : Le εw εk
  set : SetY P0 w0 K ca (Or2 O (Own σw εk)) Hk D0 ys
theorem SetY.step {S S' : Addr → Prop} {D0 : Addr} {ys : List D} (y : SetY P0 w0 K ca S H D0 ys) (hs : ∀ a, S' a → S a ∨ H a = none) (k : Kp S H H') (hD : ∀ o, H D0 = some o → H' D0 = some o) : SetY P0 w0 K ca S' H' D0 ys := by
  obtain ⟨ps, h, l, r, q⟩ := y
  exact ⟨ps, hD _ h, l, fun p hp => ⟨(r p hp).1.step hs k, (r p hp).2⟩, q⟩
/-- the object at a, kept off by all, is changed -/
theorem EnvR.outerS {o o' : HO} (R : EnvR K ca O H σ ε) (ho : O a) (ha : H a = some o) (hm : tupO o = false) : EnvR K ca O (upd H a o') σ ε ∧ Kp (Or2 O (Own σ ε)) H (upd H a o') := by
  have kk : Kp (Or2 O (Own σ ε)) H (upd H a o') := fun b ob hb z => by
    by_cases e : b = a
    · subst e
      rw [ha] at hb
      cases hb
      rw [hm] at z
      exact absurd (z (.inl ho)) Bool.false_ne_true
    · rw [upd_ne e]
      exact hb
  refine ⟨⟨R.len, fun i d k h n => ?_, fun i d k h n => ?_, R.inj, fun b z => ?_⟩, kk⟩
  · obtain ⟨w, e, r⟩ := R.shr i d k h n
    exact ⟨w, e, r.step (fun _ z => .inl z) kk⟩
  · obtain ⟨w, e, nw, t⟩ := R.own i d k h n
    refine ⟨w, e, nw, t.step (fun _ z => .inl z) kk fun ob z => ?_⟩
    have ne : w ≠ a := fun e => nw (by rw [e]; exact ho)
    rw [upd_ne ne]
    exact z
  · by_cases e : b = a
    · subst e
      rw [upd_same]
      exact fun z => nomatch z
    · rw [upd_ne e]
      exact R.out b z
/-- within a turn: behind the target's store -/
structure MidS (P0 : Program) (w0 : World) (K : PySem.W.Frag) (ca : CA) (O : Addr → Prop) (σ : L2.St) (vs : List Nat) (ε : TEnv) (B : Hp) (D0 : Addr) (σ2 : L2.St) (ε2 : TEnv) (H2 : Hp) (ys : List D) : Prop where
  env : EnvR K ca O H2 σ2 ε2
  wp : L2.wipe σ2 vs = L2.wipe σ vs
  fr : ∀ b o, b ≠ D0 → B b = some o → ¬ Own (L2.wipe σ vs) (wipeE ε vs) b → H2 b = some o
  th : ∀ b, b ≠ D0 → H2 b = none → B b = none
  own : ∀ b, Own σ2 ε2 b → Own (L2.wipe σ vs) (wipeE ε vs) b
  le : Le (wipeE ε vs) (wipeE ε2 vs)
  set : SetY P0 w0 K ca (Or2 O (Own σ2 ε2)) H2 D0 ys
theorem MidS.step {D0 : Addr} {B : Hp} {ys : List D} (oD : O D0) (M : MidS P0 w0 K ca O σ vs ε B D0 σ2 ε2 H2 ys) (s : Stp K ca O σ2 ε2 H2 ε' H') : MidS P0 w0 K ca O σ vs ε B D0 σ2 ε' H' ys := by
  have nD : ¬ Own σ2 ε2 D0 := fun z => (M.env.owned z).1 oD
  refine ⟨s.env, M.wp, fun b o ne h n => s.fr b o (M.fr b o ne h n) fun z => n (M.own b z), fun b ne h => M.th b ne (s.th b h), fun b z => M.own b (s.le.own z), M.le.trans ?_, M.set.step s.sub (M.env.kp s.fr) fun o h => s.fr _ _ h nD⟩
  refine ⟨by rw [wipeE_len, wipeE_len, s.le.len], fun j t ht => ?_⟩
  by_cases c : j ∈ vs
  · have lj : j < ε2.length := by
      have := (List.getElem?_eq_some_iff.mp ht).1
      rw [wipeE_len] at this
      exact this
    rw [wipeE_in c lj] at ht
    cases ht
    exact ⟨none, wipeE_in c (by rw [s.le.len]; exact lj), rfl⟩
  · rw [wipeE_out c] at ht
    obtain ⟨t', h', q⟩ := s.le.at_ j t ht
    exact ⟨t', by rw [wipeE_out c]; exact h', q⟩
/-- the store of a turn's item -/
theorem CIs.bind {D0 : Addr} {B Hk H3 : Hp} {εk : TEnv} {ys : List D} {t : TgT} {x : V} {P : L2.St → Hp → Prop} (oD : O D0) (C : CIs P0 w0 K ca O (L2.wipe σ vs) (wipeE ε vs) B D0 Hk εk ys) (hw : ∃ ε0, εk = wipeE ε0 vs) (sub : ∀ i ∈ t.ns, i ∈ vs) (sm : Same Hk H3)
    (rx : Rep K ca (Or2 O (Own (L2.wipe σ vs) εk)) H3 x d) (eb : bindG t d εk = some ε2) (p : ∀ σ2, MidS P0 w0 K ca O σ vs ε B D0 σ2 ε2 H3 ys → P σ2 H3) : tGv K ca t x (L2.wipe σ vs) H3 P := by
  refine ⟨O, εk, d, ε2, C.env.same sm, rx, eb, fun σ2 s2 els => p σ2 ?_⟩
  have lσ : σ2.length = σ.length := by
    have h1 := s2.env.len
    have h2 := s2.len
    have h3 := C.env.len
    rw [wipe_length] at h3
    omega
  have wp : L2.wipe σ2 vs = L2.wipe σ vs := wipe_same lσ fun j hj => by
    have z := els j fun y => hj (sub j y)
    rw [wipe_out hj] at z
    exact z
  have ownk : ∀ b, Own σ2 ε2 b → Own (L2.wipe σ vs) εk b := fun b z => by
    obtain ⟨j, d1, k1, h1, h2, h3⟩ := z
    by_cases c : j ∈ t.ns
    · exact (s2.new b ⟨j, d1, k1, h1, h2, h3⟩).elim id fun q => by
        obtain ⟨_, dd, tt⟩ := s2.env.owned ⟨j, d1, k1, h1, h2, h3⟩
        exact absurd q tt.there
    · rw [bindG_out eb c] at h1
      rw [els j c] at h3
      exact ⟨j, d1, k1, h1, h2, h3⟩
  obtain ⟨ε0, ek⟩ := hw
  have len2 : ε2.length = ε0.length := by rw [s2.len, ek, wipeE_len]
  refine ⟨s2.env, wp, fun b o ne h n => sm _ _ (C.fr b o ne h n), fun b ne h => C.th b ne (sm.free h), fun b z => C.le.own (ownk b z), ?_, C.set.step (fun b z => .inl (z.elim .inl fun y => .inr (ownk b y))) (Kp.of sm) fun o h => sm _ _ h⟩
  have l0 : Le (wipeE ε vs) (wipeE ε0 vs) := by
    rw [← ek]
    exact C.le
  exact l0.wiped (Le.refl ε2) len2 fun j hj => by rw [bindG_out eb fun y => hj (sub j y), ek]
/-- behind the last turn -/
theorem CIs.fin {D0 : Addr} {e0 : HO} {Hn : Hp} {εn : TEnv} {ys : List D} (R : EnvR K ca O H1 σ ε) (nv : ∀ i ∈ vs, slOwn ε i = false) (nD : H1 D0 = none) (C : CIs P0 w0 K ca (With O D0) (L2.wipe σ vs) (wipeE ε vs) (upd H1 D0 e0) D0 Hn εn ys) (hw : ∃ ε0, εn = wipeE ε0 vs) :
    Stp K ca O σ ε H1 (restE ε εn vs) Hn ∧ EnvR K ca (With O D0) Hn σ (restE ε εn vs) ∧ SetY P0 w0 K ca (Or2 (With O D0) (Own σ (restE ε εn vs))) Hn D0 ys := by
  have neD : ∀ {b : Addr} {o : HO}, H1 b = some o → b ≠ D0 := fun {b o} h e => by rw [e, nD] at h; cases h
  have ln : εn.length = ε.length := by
    have := C.le.len
    rw [wipeE_len] at this
    exact this
  obtain ⟨ε0, ee⟩ := hw
  have at_ : ∀ {j : Nat} {d : D} {k : Nat}, (restE ε εn vs)[j]? = some (some (d, k)) → (j ∈ vs ∧ ε[j]? = some (some (d, k)) ∧ ownF k = false) ∨ (j ∉ vs ∧ εn[j]? = some (some (d, k)) ∧ (L2.wipe σ vs)[j]? = σ[j]?) := fun {j d k} h => by
    have lj : j < εn.length := by
      have := (List.getElem?_eq_some_iff.mp h).1
      rw [restE_len] at this
      exact this
    by_cases c : j ∈ vs
    · rw [restE_in c lj] at h
      cases q : ε[j]? with
      | none =>
        rw [q] at h
        cases h
      | some s =>
        rw [q] at h
        simp only [Option.getD_some, Option.some.injEq] at h
        subst h
        have z := nv j c
        rw [slOwn_of q] at z
        exact .inl ⟨c, rfl, z⟩
    · rw [restE_out c] at h
      exact .inr ⟨c, h, wipe_out c⟩
  have own2 : ∀ b, Own σ (restE ε εn vs) b → Own (L2.wipe σ vs) εn b := fun b ⟨j, d, k, h1, h2, h3⟩ => by
    rcases at_ h1 with ⟨_, _, z⟩ | ⟨_, h4, e⟩
    · rw [z] at h2
      cases h2
    · exact ⟨j, d, k, h4, h2, by rw [e]; exact h3⟩
  have own1 : ∀ b, Own σ (restE ε εn vs) b → Own σ ε b := fun b z => (own_wiped nv).mp (C.le.own (own2 b z))
  have fr : ∀ b o, H1 b = some o → ¬ Own σ ε b → Hn b = some o := fun b o h n => C.fr b o (neD h) (by rw [upd_ne (neD h)]; exact h) fun z => n ((own_wiped nv).mp z)
  have th : ∀ b, Hn b = none → H1 b = none := fun b h => by
    by_cases e : b = D0
    · rw [e]
      exact nD
    · have z := C.th b e h
      rw [upd_ne e] at z
      exact z
  have env : EnvR K ca (With O D0) Hn σ (restE ε εn vs) := by
    have sub1 : ∀ b, Or2 (With O D0) (Own σ (restE ε εn vs)) b → Or2 O (Own σ ε) b ∨ H1 b = none := fun b z => by
      rcases z with (z | z) | z
      · exact .inl (.inl z)
      · exact .inr (by rw [z]; exact nD)
      · exact .inl (.inr (own1 b z))
    have sub2 : ∀ b, Or2 (With O D0) (Own σ (restE ε εn vs)) b → Or2 (With O D0) (Own (L2.wipe σ vs) εn) b ∨ Hn b = none := fun b z => .inl (z.elim .inl fun y => .inr (own2 b y))
    have kk : Kp (Or2 (With O D0) (Own (L2.wipe σ vs) εn)) Hn Hn := fun _ _ h _ => h
    refine ⟨by rw [restE_len, ln]; exact R.len, fun j d k h n => ?_, fun j d k h n => ?_, fun i j d k d' k' a h n h' n' e1 e2 => ?_, C.env.out⟩
    · rcases at_ h with ⟨_, h0, _⟩ | ⟨_, h4, e⟩
      · obtain ⟨w, e1, r⟩ := R.shr j d k h0 n
        exact ⟨w, e1, r.step sub1 (R.kp fr)⟩
      · obtain ⟨w, e1, r⟩ := C.env.shr j d k h4 n
        exact ⟨w, by rw [← e]; exact e1, r.step sub2 kk⟩
    · rcases at_ h with ⟨_, h0, z⟩ | ⟨_, h4, e⟩
      · rw [z] at n
        cases n
      · obtain ⟨w, e1, nw, t⟩ := C.env.own j d k h4 n
        exact ⟨w, by rw [← e]; exact e1, nw, t.step sub2 kk fun _ z => z⟩
    · rcases at_ h with ⟨_, h0, z⟩ | ⟨_, h4, e⟩
      · rw [z] at n
        cases n
      · rcases at_ h' with ⟨_, h0', z'⟩ | ⟨_, h4', e'⟩
        · rw [z'] at n'
          cases n'
        · exact C.env.inj i j d k d' k' a h4 n h4' n' (by rw [e]; exact e1) (by rw [e']; exact e2)
  refine ⟨⟨⟨by rw [restE_len, ln], fun j s hs => ?_⟩, fr, th, env.part⟩, env, C.set.step (fun b z => .inl (z.elim .inl fun y => .inr (own2 b y))) (fun _ _ h _ => h) fun _ h => h⟩
  have lj : j < εn.length := by
    rw [ln]
    exact (List.getElem?_eq_some_iff.mp hs).1
  by_cases c : j ∈ vs
  · refine ⟨s, ?_, leS.refl s⟩
    rw [restE_in c lj, hs]
    rfl
  · obtain ⟨s', h', q⟩ := C.le.at_ j s (by rw [wipeE_out c]; exact hs)
    exact ⟨s', by rw [restE_out c]; exact h', q⟩

/-- the end of a turn -/
theorem MidS.done {D0 : Addr} {B : Hp} {ys zs : List D} {ps qs : List (Addr × NestedKey)} (oD : O D0) (M : MidS P0 w0 K ca O σ vs ε B D0 σ2 ε2 H2 ys) (hD : H2 D0 = some (SetH (kdN P0 w0) D0 ps)) (l : qs.length ≤ zs.length) (r : ∀ p ∈ qs, Rep K ca (Or2 O (Own σ2 ε2)) H2 (.ref p.1) (treeK p.2) ∧ ∃ y ∈ zs, keyN y = some p.2) (q : ∀ y ∈ zs, ∃ p ∈ qs, keyN y = some p.2) :
    CIs P0 w0 K ca O (L2.wipe σ vs) (wipeE ε vs) B D0 (upd H2 D0 (SetH (kdN P0 w0) D0 qs)) (wipeE ε2 vs) zs := by
  obtain ⟨Rw, oww⟩ := M.env.wipe (vs := vs)
  rw [M.wp] at Rw oww
  obtain ⟨R5, kp5⟩ := EnvR.outerS (o' := SetH (kdN P0 w0) D0 qs) Rw oD hD rfl
  refine ⟨R5, fun b o ne h n => by rw [upd_ne ne]; exact M.fr b o ne h n, fun b ne h => by rw [upd_ne ne] at h; exact M.th b ne h, M.le, qs, upd_same, l, fun p hp => ⟨?_, (r p hp).2⟩, q⟩
  exact ((r p hp).1.step (fun b z => .inl (z.elim .inl fun y => .inr (oww b y))) (fun _ _ h _ => h)).step (fun _ z => .inl z) kp5
section
variable {X : Cx}
end
end
end Tr

/-! sorted({elt for target in iter}) as an expression. -/
namespace Tr
open PySem PySem.Spec PyProof.Rows L2 Md Tb
section
variable {X : Cx} {ca : CA} {W : WX} {elt tg iter : Expr} {ifs : List Expr} {scope : Scope} {own : List (Str × Nat)} {g : ET} {c : GT} {pos spos np : Pos} {t : TgT} {it : IT} {k : Nat}
end
end Tr

/-! x in a list of lists. -/
namespace Tr
open PySem PySem.Spec PyProof.Rows L2 Md
noncomputable def fInD : List D → Option (D × Bool)
  | [x, .lst ys] => match toP x, toPs ys with
    | some d, some ds => if SeqAt.shaped d = true ∧ SeqAt.shaped (.list ds) = true then some (.bl (ds.any fun z => PyData.eqv z d), false) else none
    | _, _ => none
  | _ => none
section
variable {X : Cx} {K : PySem.W.Frag} {ca : CA} {W : WX} {k : Nat}
end
def nilD : D → Bool
  | .lst [] => true
  | _ => false
end Tr

/-! Running sorted({..}) and x in a list of lists. -/
namespace Tr
open PySem PySem.Spec PyProof.Rows L2 Md Tb
def qSo (ys : List D) (Q : List D → Prop) [Tg Q] : Prop := match fSortN ys with
  | some r => Q r
  | none => False
section
variable {ε : TEnv} {vs : List Nat} {t : TgT} {cond : GT} {elt : ET} {it : IT} {P : D → Bool → TEnv → Prop} {X : Str → D → TEnv → Prop}
theorem w_sortedSetT : qE (sortedSetT it t cond elt vs ε) P X ↔ qI (it ε) (fun xs s ε1 => qNo ε1 vs (qWi ε1 vs fun ε2 => qTn (loopG (turn1 t cond elt vs) (chkC ε1 s) xs ε2) fun ys ε3 => qSo ys fun r => qRe ε1 ε3 vs fun ε4 => P (.lst r) true ε4)) X := by
  unfold sortedSetT qE qI
  rw [qR_bind]
  cases it ε with
  | none => exact Iff.rfl
  | some r =>
    cases r with
    | ex c d ε3 => exact Iff.rfl
    | ok x ε1 =>
      dsimp only [qR, qNo, qWi]
      by_cases c : noOwn ε1 vs = true
      · rw [if_pos c]
        refine Iff.trans ?_ (Iff.symm (and_iff_right c))
        cases loopG (turn1 t cond elt vs) (chkC ε1 x.2) x.1 (wipeE ε1 vs) with
        | none => exact Iff.rfl
        | some z =>
          dsimp only [qTn, qRe, qSo]
          cases fSortN z.1 with
          | none => exact Iff.rfl
          | some r => exact Iff.rfl
      · rw [if_neg c]
        exact ⟨fun h => h.elim, fun h => absurd h.1 c⟩
end
end Tr

/-! upper. -/
namespace Tr
open PySem PySem.Spec PyProof.Rows L2 Md
def fUpper : List D → Option (D × Bool)
  | [.str z] => if z.length ≤ 100000 then some (.str (Txt.upper z), false) else none
  | _ => none
section
variable {X : Cx} {K : PySem.W.Frag} {ca : CA} {W : WX} {e : Expr} {a : AK} {pos apos : Pos}
end
end Tr

/-! NAME.get(e) of a dict of the module, also of a key that is not there. -/
namespace Tr
open PySem PySem.Spec PyProof.Rows L2 Md
/-- a dict of the module, and that it has no other keys -/
structure KGq (K : PySem.W.Frag) (w : World) (mg : Str → Option Value) (ca : CA) (x : Str) (d : Addr) (es : Array DictEntry) (n : Nat) (kv : List (Str × D)) : Prop where
  g : KGm K w mg ca x d es n kv
  miss : ∀ z, kv.lookup z = none → PySem.W.nsIn K d z = some none
section
variable {X : Cx} {K : PySem.W.Frag} {ca : CA} {W : WX} {e : Expr} {a : AK} {pos apos : Pos} {x : Str} {k : Nat}
end
def qKg (kv : List (Str × D)) (d : D) (Q : D → Prop) [Tg Q] : Prop := match d with
  | .str z => match kv.lookup z with
    | some e => Q e
    | none => Q .non
  | _ => False
section
variable {ε : TEnv} {kv : List (Str × D)} {a : AK} {P : D → Bool → TEnv → Prop} {X : Str → D → TEnv → Prop}
theorem w_kdGetT : qE (kdGetT kv a ε) P X ↔ qA (evA [a] ε) (fun ads ε1 => qL ε1 ads fun ds => qHd ds fun d => qKg kv d fun e => P e false ε1) X := by
  unfold kdGetT
  rw [w_opT]
  unfold qA
  cases evA [a] ε with
  | none => exact Iff.rfl
  | some r =>
    cases r with
    | ex c d ε2 => exact Iff.rfl
    | ok ads ε1 =>
      dsimp only [qR]
      unfold qL
      cases late ε1 ads with
      | none => exact Iff.rfl
      | some ds =>
        dsimp only
        unfold qHd qKg
        match ds with
        | [] => exact Iff.rfl
        | [.str z] =>
          dsimp only [qO]
          cases kv.lookup z <;> exact Iff.rfl
        | [.non] | [.bl _] | [.int _] | [.lst _] | [.tup _] | [.dct _] | [.ins _ _] | [.set _] | [.err _ _ _ _] => exact Iff.rfl
        | d :: _ :: _ => cases d <;> exact Iff.rfl
end
end Tr

/-! A tuple once or more times. -/
namespace Tr
open PySem PySem.Spec PyProof.Rows L2 Md
abbrev rRep1 (K : PySem.W.Frag) : R2 := fun x y H Q => ∃ (l : Addr) (xs : List V), x = .ref l ∧ y = .int 1 ∧ SqT K H l xs ∧ Q (.ref l) H
abbrev rMulT (K : PySem.W.Frag) : R2 := fun x y H Q => rRep1 K x y H Q ∨ rRepT K x y H Q
def fMulT : List D → Option (D × Bool)
  | [.tup [d], .int k] => if 1 ≤ k ∧ k ≤ 1000 then some (.tup (List.replicate k.toNat d), false) else none
  | _ => none
end Tr

/-! != of two own instances of one class. -/
namespace Tr
open PySem PySem.Spec PySem.Calls PyProof.Rows L2 Md
def keysB (es : List DictEntry) : Bool := es.all fun e => match e.key with
  | .str _ _ => true
  | _ => false
theorem keysB_all {es : List DictEntry} (h : keysB es = true) : ∀ e ∈ es, ∃ n t, e.key = Value.str n t := fun e he => by
  have := List.all_eq_true.mp h e he
  split at this
  · exact ⟨_, _, by assumption⟩
  · cases this
/-- a class whose != is by its == -/
structure NeC (K : PySem.W.Frag) (C f : Addr) : Prop where
  own : ∃ nm q N bs hdct sn sub ab col dd k0 k1 k2 k3 k5 newId es n oc od dt sl, K.lookup C = some (excClassObj nm q C N bs [.type "object"] hdct sn sub ab col dd k0 k1 k2 k3 k5 newId) ∧ K.lookup N = some ⟨.type "dict", none, .dict es n, #[]⟩ ∧ keysB es.toList = true ∧
    PySem.W.nsIn K N "__eq__" = some (some (.ref f)) ∧ PySem.W.nsIn K N "__ne__" = some none ∧ K.lookup f = some ⟨oc, od, dt, sl⟩ ∧ oc = .type "function"
theorem nsFind_some {K : PySem.W.Frag} {N : Addr} {es : Array DictEntry} {n : Nat} {x : Str} {v : Value} (l : K.lookup N = some ⟨.type "dict", none, .dict es n, #[]⟩) (h : PySem.W.nsIn K N x = some (some v)) : nsFind es x = some v := by
  unfold PySem.W.nsIn at h
  rw [l] at h
  dsimp only at h
  unfold nsFind findBy
  rw [← Array.find?_toList]
  split at h
  · rename_i e he
    cases h
    rw [he]
    rfl
  · split at h <;> cases h
theorem nsFind_none {K : PySem.W.Frag} {N : Addr} {es : Array DictEntry} {n : Nat} {x : Str} (l : K.lookup N = some ⟨.type "dict", none, .dict es n, #[]⟩) (h : PySem.W.nsIn K N x = some none) : nsFind es x = none := by
  unfold PySem.W.nsIn at h
  rw [l] at h
  dsimp only at h
  unfold nsFind findBy
  rw [← Array.find?_toList]
  split at h
  · cases h
  · rename_i he
    rw [he]
    rfl
theorem NeC.at_ {K : PySem.W.Frag} {C f x dx : Addr} {h : Heap} {mA : Str → Option Value} (w : NeC K C f) (k : K.In h) (J : ObjM h x dx C mA) : h.OwnEqNoNe x C f "object" [.type "object"] := by
  obtain ⟨nm, q, N, bs, hdct, sn, sub, ab, col, dd, k0, k1, k2, k3, k5, newId, es, n, oc, od, dt, sl, lC, lN, kb, e1, e2, lf, ef⟩ := w.own
  refine ⟨_, _, nm, q, N, bs, hdct, sn, sub, ab, col, dd, k0, k1, k2, k3, k5, newId, nsFind es, _, J.obj, rfl, k _ _ lC, ⟨_, es, n, k _ _ lN, rfl, fun e he => keysB_all kb e (Array.mem_toList_iff.mpr he), fun _ => rfl⟩, nsFind_some lN e1, k _ _ lf, ef, F.cmp_object.mro, rfl, nsFind_none lN e2⟩
section
variable {X : Cx} {ca : CA} {W : WX} {k n : Nat} {f C : Addr} {fd : FuncData} {ps : List Str} {F : ET} {c : Str} {p pos : Pos} {e1 e2 : Expr} {a b : AK} {sp : Sp}
abbrev rNeOwn (C : Addr) (sp : Sp) : R2 := fun x y H Q => (∃ a b dx dy fs gs, x = .ref a ∧ y = .ref b ∧ H a = some (.ins C dx fs) ∧ H b = some (.ins C dy gs)) ∧ sp [x, y] H (fun v H' => ∃ k, v = .bl k ∧ Q (.bl (!k)) H') fun _ _ _ => False
def guardN (c : Str) (F : ET) : ET := fun p => match p with
  | [some (.ins c1 f1, k1), some (.ins c2 f2, k2)] => if c1 = c ∧ c2 = c then (match F [some (.ins c1 f1, k1), some (.ins c2 f2, k2)] with
    | some (.ok (.bl k, false) q) => some (.ok (.bl (!k), false) q)
    | _ => none) else none
  | _ => none
def neIT (c : Str) (F : ET) (a b : AK) : ET := callT (guardN c F) [a, b]
end
section
variable {ε : TEnv} {P : D → Bool → TEnv → Prop} {X : Str → D → TEnv → Prop} {c : Str} {F : ET} {a b : AK} {fs gs : List (Str × D)} {k1 k2 : Nat} {PO : D → Bool → Prop}
theorem w_neIT : qE (neIT c F a b ε) P X ↔ qE (callT (guardN c F) [a, b] ε) P X := Iff.rfl
def qBn (d : D) (b : Bool) (Q : D → Prop) [Tg Q] : Prop := match d, b with
  | .bl k, false => Q (.bl (!k))
  | _, _ => False
theorem qBn_b {k : Bool} {Q : D → Prop} : qBn (.bl k) false Q ↔ Q (.bl (!k)) := Iff.rfl
theorem w_guardN : qE (guardN c F [some (.ins c fs, k1), some (.ins c gs, k2)]) P X ↔ qE (F [some (.ins c fs, k1), some (.ins c gs, k2)]) (fun d b ε1 => qBn d b fun e => P e false ε1) fun _ _ _ => False := by
  show qE (if c = c ∧ c = c then (match F [some (.ins c fs, k1), some (.ins c gs, k2)] with
    | some (.ok (.bl k, false) q) => some (.ok (.bl (!k), false) q)
    | _ => none) else none) P X ↔ _
  rw [if_pos ⟨rfl, rfl⟩]
  cases F [some (.ins c fs, k1), some (.ins c gs, k2)] with
  | none => exact Iff.rfl
  | some r =>
    cases r with
    | ex c d ε1 => exact Iff.rfl
    | ok x ε1 =>
      obtain ⟨d, b⟩ := x
      cases d <;> cases b <;> exact Iff.rfl
end
end Tr

/-! x not in TEXT. -/
namespace Tr
open PySem PySem.Spec PyProof.Rows L2 Md
def fNotInS : List D → Option (D × Bool)
  | [.str i, .str j] => some (.bl (!(!(Builtin.Str.occurrences j i 0 j.length 1).isEmpty)), false)
  | _ => none
end Tr

/-! C(k2 = v2, k1 = v1): two keywords in the other order. -/
namespace Tr
open PySem PySem.Spec PyProof.Rows L2 Md
def sw {α : Type} : List α → List α
  | [a, b, c] => [a, c, b]
  | l => l
def pi3 : Nat → Nat
  | 1 => 2
  | 2 => 1
  | i => i
theorem sw_at {α : Type} {l : List α} (h : l.length = 3) (i : Nat) : (sw l)[i]? = l[pi3 i]? := by
  match l, h with
  | [a, b, c], _ =>
    match i with
    | 0 => rfl
    | 1 => rfl
    | 2 => rfl
    | i + 3 => rfl
theorem pi3_pi3 (i : Nat) : pi3 (pi3 i) = i := by
  match i with
  | 0 => rfl
  | 1 => rfl
  | 2 => rfl
  | i + 3 => rfl
theorem sw_len {α : Type} {l : List α} (h : l.length = 3) : (sw l).length = 3 := by
  match l, h with
  | [a, b, c], _ => rfl
section
variable {K : PySem.W.Frag} {ca : CA} {O : Addr → Prop} {H H0 H' : Hp} {σ : L2.St} {ε ε' : TEnv} {v : V} {W : WX}
theorem own_sw (h1 : σ.length = 3) (h2 : ε.length = 3) : Own (sw σ) (sw ε) = Own σ ε := by
  funext a
  refine propext ⟨?_, ?_⟩
  · rintro ⟨i, d, k, e1, o, e2⟩
    exact ⟨pi3 i, d, k, by rw [← sw_at h2]; exact e1, o, by rw [← sw_at h1]; exact e2⟩
  · rintro ⟨i, d, k, e1, o, e2⟩
    exact ⟨pi3 i, d, k, by rw [sw_at h2, pi3_pi3]; exact e1, o, by rw [sw_at h1, pi3_pi3]; exact e2⟩
theorem EnvR.sw (E : EnvR K ca O H σ ε) (h2 : ε.length = 3) : EnvR K ca O H (sw σ) (Tr.sw ε) := by
  have h1 : σ.length = 3 := by rw [← E.len]; exact h2
  refine ⟨by rw [sw_len h1, sw_len h2], ?_, ?_, ?_, E.out⟩
  · intro i d k e o
    rw [sw_at h2] at e
    obtain ⟨v, q, r⟩ := E.shr _ d k e o
    exact ⟨v, by rw [sw_at h1]; exact q, by rw [own_sw h1 h2]; exact r⟩
  · intro i d k e o
    rw [sw_at h2] at e
    obtain ⟨a, q, n, t⟩ := E.own _ d k e o
    exact ⟨a, by rw [sw_at h1]; exact q, n, by rw [own_sw h1 h2]; exact t⟩
  · intro i j d k d' k' a e o e' o' g g'
    rw [sw_at h2] at e e'
    rw [sw_at h1] at g g'
    have := E.inj _ _ d k d' k' a e o e' o' g g'
    have z := congrArg pi3 this
    rwa [pi3_pi3, pi3_pi3] at z
theorem Le.sw (l : Le ε ε') (h2 : ε.length = 3) : Le (Tr.sw ε) (Tr.sw ε') := by
  have h3 : ε'.length = 3 := by rw [l.len]; exact h2
  refine ⟨by rw [sw_len h2, sw_len h3], fun i s e => ?_⟩
  rw [sw_at h2] at e
  obtain ⟨s', e', q⟩ := l.at_ _ s e
  exact ⟨s', by rw [sw_at h3]; exact e', q⟩
theorem Stp.sw (s : Stp K ca O σ ε H ε' H') (h1 : σ.length = 3) (h2 : ε.length = 3) (h3 : ε'.length = 3) : Stp K ca O (sw σ) (Tr.sw ε) H (Tr.sw ε') H' :=
  ⟨s.le.sw h2, fun b o h n => s.fr b o h (by rw [← own_sw h1 h2]; exact n), s.th, s.env.sw h3⟩
theorem ResR.sw {x : D × Bool} (r : ResR K ca O σ ε H0 H v x) (h1 : σ.length = 3) (h2 : ε.length = 3) : ResR K ca O (sw σ) (Tr.sw ε) H0 H v x := by
  obtain ⟨d, f⟩ := x
  cases f with
  | false =>
    show Rep K ca (Or2 O (Own (Tr.sw σ) (Tr.sw ε))) H v d
    rw [own_sw h1 h2]
    exact r
  | true =>
    obtain ⟨a, e, n1, n2, n3, t, E⟩ := r
    exact ⟨a, e, n1, n2, by rw [own_sw h1 h2]; exact n3, by rw [own_sw h1 h2]; exact t, E.sw h2⟩
/-- the second and the third parameter given the other way about -/
def swT (F : ET) : ET := fun p => if p.length = 3 then (F (sw p)).map fun r => match r with
  | .ok d ε => .ok d (sw ε)
  | .ex c d ε => .ex c d (sw ε) else none
end
section
variable {X : Cx} {ca : CA} {W : WX} {k n : Nat} {f C : Addr} {fd : FuncData} {ps ks : List Str} {F : ET} {c x : Str} {p pos : Pos} {kws : List Keyword} {as : List AK} {sp : Sp} {E : L2.St → XK} {CX : CXT} {tk : TA}
end
section
variable {F : ET} {a b c : Slot} {P : D → Bool → TEnv → Prop} {X : Str → D → TEnv → Prop}
end
end Tr

/-! == and != of an own instance and a value of another kind, either way about. -/
namespace MA
open PySem PySem.Spec PySem.SeqAt PyProof.Rows
open AutoSeq1 (wpAny_loadPart')
def kinds : List String := ["NoneType", "int", "str", "list", "tuple"]
section
variable {prog : Program} {w : World} {A : Around} {E : Value → Shared → Prop} {s : Shared} {K : PySem.W.Frag} {x C f : Addr} {ox : Obj} {od : Option Obj} {a b : Value}
/-- it declines to be compared with x -/
def Decl (prog : Program) (w : World) (op : CmpOp) (a : Value) (x : Addr) (s : Shared) : Prop :=
  ∀ (A : Around) (E : Value → Shared → Prop) (Q : Option Value → Shared → Prop), Q none s → wpAny (model prog w) A (tryCompare a (cmpInfo op).2.1 (.ref x)) Q E s
end
section
variable {prog : Program} {w : World} {A : Around} {E : Value → Shared → Prop} {h : Heap} {g : Array GenState} {d : Drawn} {t : Nat} {os : OsState} {C x f : Addr} {B : String} {bm : List Value} {b : Value}
end
section
variable {prog : Program} {w : World} {A : Around} {E : Value → Shared → Prop} {s : Shared} {K : PySem.W.Frag} {x C f : Addr} {ox : Obj} {od : Option Obj} {b tb : Value}
/-! ### what declines -/
end
end MA

set_option maxHeartbeats 1000000
namespace MA
open PySem PySem.Spec PySem.SeqAt PyProof.Rows
open AutoSeq1 (wpAny_loadPart')
section
variable {prog : Program} {w : World} {s : Shared} {K : PySem.W.Frag} {x C dx : Addr} {od : Option Obj}
end
end MA

/-! isinstance with both answers; == and != of own instances and of values of other kinds. -/
namespace Tr
open PySem PySem.Spec PySem.Calls PyProof.Rows L2 Md
section
variable {K : PySem.W.Frag} {C D : Addr} {T : String} {b : Bool}
end
/-- what isinstance asks of a class c, the instances of ds being none of it -/
structure IsA (K : PySem.W.Frag) (ca : CA) (c : Str) (ds : List Str) : Prop where
  ic : C8.InsC K (ca c)
  q : PySem.W.isClsIn K (ca c) = true
  t : PySem.W.typeIn K (.ref (ca c)) = some (.type "type")
  w : PySem.W.subIn K (.ref (ca c)) (.ref (ca c)) = some true
  ot : ∀ d ∈ ds, C8.InsC K (ca d) ∧ PySem.W.subIn K (.ref (ca d)) (.ref (ca c)) = some false
/-- the built-in kinds -/
def kdB : D → Option String
  | .non => some "NoneType"
  | .int _ => some "int"
  | .str _ => some "str"
  | .lst _ => some "list"
  | .tup _ => some "tuple"
  | _ => none
section
variable {K : PySem.W.Frag} {ca : CA} {S : Addr → Prop} {H : Hp} {v : V} {d : D} {T : String}
end
def fIsA (c : Str) (ds : List Str) : List D → Option (D × Bool)
  | [.ins c' _] => if c' = c then some (.bl true, false) else if ds.contains c' = true then some (.bl false, false) else none
  | [d] => match kdB d with
    | some _ => some (.bl false, false)
    | none => none
  | _ => none
def isAT (c : Str) (ds : List Str) (a : AK) : ET := opT (fIsA c ds) [a]
section
variable {K : PySem.W.Frag} {ca : CA} {W : WX} {H : Hp} {σ : L2.St} {Q : VK} {c : Str} {ds : List Str} {a : AK}
end
section
variable {X : Cx} {ca : CA} {W : WX} {e : Expr} {a : AK} {c Cn : Str} {ds : List Str} {p p2 pos : Pos}
end
section
variable {ε : TEnv} {P : D → Bool → TEnv → Prop} {X : Str → D → TEnv → Prop} {c c' : Str} {ds : List Str} {a : AK} {fs : List (Str × D)} {PO : D → Bool → Prop} {xs : List D} {i : Int} {z : Str}
theorem w_isAT : qE (isAT c ds a ε) P X ↔ qE (opT (fIsA c ds) [a] ε) P X := Iff.rfl
theorem qO_isA_s : qO (fIsA c ds [.ins c fs]) PO ↔ PO (.bl true) false := by
  show qO (if c = c then some (.bl true, false) else if ds.contains c = true then some (.bl false, false) else none) PO ↔ _
  rw [if_pos rfl]
  exact Iff.rfl
theorem qO_isA_n : qO (fIsA c ds [.non]) PO ↔ PO (.bl false) false := Iff.rfl
theorem qO_isA_i : qO (fIsA c ds [.int i]) PO ↔ PO (.bl false) false := Iff.rfl
theorem qO_isA_z : qO (fIsA c ds [.str z]) PO ↔ PO (.bl false) false := Iff.rfl
theorem qO_isA_l : qO (fIsA c ds [.lst xs]) PO ↔ PO (.bl false) false := Iff.rfl
theorem qO_isA_t : qO (fIsA c ds [.tup xs]) PO ↔ PO (.bl false) false := Iff.rfl
end
end Tr

/-! == and != of own instances and of values of other kinds. -/
namespace Tr
open PySem PySem.Spec PySem.Calls PyProof.Rows L2 Md
def sb {α : Type} : List α → List α
  | [a, b] => [b, a]
  | l => l
def pi2 : Nat → Nat
  | 0 => 1
  | 1 => 0
  | i => i
theorem sb_at {α : Type} {l : List α} (h : l.length = 2) (i : Nat) : (sb l)[i]? = l[pi2 i]? := by
  match l, h with
  | [a, b], _ =>
    match i with
    | 0 => rfl
    | 1 => rfl
    | i + 2 => rfl
theorem pi2_pi2 (i : Nat) : pi2 (pi2 i) = i := by
  match i with
  | 0 => rfl
  | 1 => rfl
  | i + 2 => rfl
theorem sb_len {α : Type} {l : List α} (h : l.length = 2) : (sb l).length = 2 := by
  match l, h with
  | [a, b], _ => rfl
section
variable {K : PySem.W.Frag} {ca : CA} {O : Addr → Prop} {H H0 H' : Hp} {σ : L2.St} {ε ε' : TEnv} {v : V} {W : WX}
theorem own_sb (h1 : σ.length = 2) (h2 : ε.length = 2) : Own (sb σ) (sb ε) = Own σ ε := by
  funext a
  refine propext ⟨?_, ?_⟩
  · rintro ⟨i, d, k, e1, o, e2⟩
    exact ⟨pi2 i, d, k, by rw [← sb_at h2]; exact e1, o, by rw [← sb_at h1]; exact e2⟩
  · rintro ⟨i, d, k, e1, o, e2⟩
    exact ⟨pi2 i, d, k, by rw [sb_at h2, pi2_pi2]; exact e1, o, by rw [sb_at h1, pi2_pi2]; exact e2⟩
theorem EnvR.sb (E : EnvR K ca O H σ ε) (h2 : ε.length = 2) : EnvR K ca O H (sb σ) (Tr.sb ε) := by
  have h1 : σ.length = 2 := by rw [← E.len]; exact h2
  refine ⟨by rw [sb_len h1, sb_len h2], ?_, ?_, ?_, E.out⟩
  · intro i d k e o
    rw [sb_at h2] at e
    obtain ⟨v, q, r⟩ := E.shr _ d k e o
    exact ⟨v, by rw [sb_at h1]; exact q, by rw [own_sb h1 h2]; exact r⟩
  · intro i d k e o
    rw [sb_at h2] at e
    obtain ⟨a, q, n, t⟩ := E.own _ d k e o
    exact ⟨a, by rw [sb_at h1]; exact q, n, by rw [own_sb h1 h2]; exact t⟩
  · intro i j d k d' k' a e o e' o' g g'
    rw [sb_at h2] at e e'
    rw [sb_at h1] at g g'
    have := E.inj _ _ d k d' k' a e o e' o' g g'
    have z := congrArg pi2 this
    rwa [pi2_pi2, pi2_pi2] at z
theorem Le.sb (l : Le ε ε') (h2 : ε.length = 2) : Le (Tr.sb ε) (Tr.sb ε') := by
  have h3 : ε'.length = 2 := by rw [l.len]; exact h2
  refine ⟨by rw [sb_len h2, sb_len h3], fun i s e => ?_⟩
  rw [sb_at h2] at e
  obtain ⟨s', e', q⟩ := l.at_ _ s e
  exact ⟨s', by rw [sb_at h3]; exact e', q⟩
theorem Stp.sb (s : Stp K ca O σ ε H ε' H') (h1 : σ.length = 2) (h2 : ε.length = 2) (h3 : ε'.length = 2) : Stp K ca O (sb σ) (Tr.sb ε) H (Tr.sb ε') H' :=
  ⟨s.le.sb h2, fun b o h n => s.fr b o h (by rw [← own_sb h1 h2]; exact n), s.th, s.env.sb h3⟩
theorem ResR.sb {x : D × Bool} (r : ResR K ca O σ ε H0 H v x) (h1 : σ.length = 2) (h2 : ε.length = 2) : ResR K ca O (sb σ) (Tr.sb ε) H0 H v x := by
  obtain ⟨d, f⟩ := x
  cases f with
  | false =>
    show Rep K ca (Or2 O (Own (Tr.sb σ) (Tr.sb ε))) H v d
    rw [own_sb h1 h2]
    exact r
  | true =>
    obtain ⟨a, e, n1, n2, n3, t, E⟩ := r
    exact ⟨a, e, n1, n2, by rw [own_sb h1 h2]; exact n3, by rw [own_sb h1 h2]; exact t, E.sb h2⟩
/-- the second and the third parameter given the other way about -/
def swB (F : ET) : ET := fun p => if p.length = 2 then (F (sb p)).map fun r => match r with
  | .ok d ε => .ok d (sb ε)
  | .ex c d ε => .ex c d (sb ε) else none
end
def nb (neg k : Bool) : Bool := match neg with
  | true => !k
  | false => k
/-- an own class with an == of its own, and what the built-in kinds are to it -/
structure CmpC (K : PySem.W.Frag) (C f : Addr) : Prop where
  m : Meth K C "__eq__" f
  ne : NeC K C f
  nb : ∀ T ∈ MA.kinds, PySem.W.subIn K (.ref C) (.type T) = some false
section
variable {X : Cx} {pins : List (Addr × Obj)} {σ : L2.St} {H : Hp} {s : Shared} {k : Nat} {f C : Addr} {fd : FuncData} {sp : Sp} {neg : Bool} {x y : V} {u v : Value} {Q : VK}
def opOf (neg : Bool) : CmpOp := match neg with
  | true => .NotEq
  | false => .Eq
/-- of an instance of C and anything, or of a value of a built-in kind and an instance of C -/
def rEqM (K : PySem.W.Frag) (neg : Bool) (C : Addr) (sp : Sp) : R2 := fun x y H Q =>
  (∃ a dx fs t, x = .ref a ∧ H a = some (.ins C dx fs) ∧ TyX K H y t ∧ PySem.W.notFirst K C t = true ∧ sp [x, y] H (fun v H' => ∃ k, v = .bl k ∧ Q (.bl (Tr.nb neg k)) H') fun _ _ _ => False) ∨
  (∃ b dy fs T, y = .ref b ∧ H b = some (.ins C dy fs) ∧ T ∈ MA.kinds ∧ TyX K H x (.type T) ∧ sp [y, x] H (fun v H' => ∃ k, v = .bl k ∧ Q (.bl (Tr.nb neg k)) H') fun _ _ _ => False)
end
end Tr

/-! == and != of own instances and of values of other kinds: the trees. -/
namespace Tr
open PySem PySem.Spec PySem.Calls PyProof.Rows L2 Md
/-- two own classes, each with an == of its own, neither above the other -/
structure EqM (K : PySem.W.Frag) (ca : CA) (c1 c2 : Str) (f1 f2 : Addr) : Prop where
  a : CmpC K (ca c1) f1
  b : CmpC K (ca c2) f2
  i : C8.InsC K (ca c1)
  j : C8.InsC K (ca c2)
  s : PySem.W.subIn K (.ref (ca c1)) (.ref (ca c2)) = some false
  r : PySem.W.subIn K (.ref (ca c2)) (.ref (ca c1)) = some false
def outB (neg : Bool) : Option (R (D × Bool)) → Option (R (D × Bool))
  | some (.ok (.bl k, false) q) => some (.ok (.bl (nb neg k), false) q)
  | _ => none
def knd (c1 c2 : Str) : D → Bool
  | .ins c _ => decide (c = c1) || decide (c = c2)
  | d => (kdB d).isSome
def pickF (c1 : Str) (F1 : ET) (c2 : Str) (F2 : ET) (c : Str) : ET := if c = c1 then F1 else if c = c2 then F2 else fun _ => none
def guardM (neg : Bool) (c1 : Str) (F1 : ET) (c2 : Str) (F2 : ET) : ET := fun p => match p with
  | [some (.ins c f, k1), some (d, k2)] => if knd c1 c2 d = true then outB neg (pickF c1 F1 c2 F2 c [some (.ins c f, k1), some (d, k2)]) else none
  | [some (d, k1), some (.ins c f, k2)] => if (kdB d).isSome = true then outB neg (swB (pickF c1 F1 c2 F2 c) [some (d, k1), some (.ins c f, k2)]) else none
  | _ => none
def eqMT (neg : Bool) (c1 : Str) (F1 : ET) (c2 : Str) (F2 : ET) (a b : AK) : ET := callT (guardM neg c1 F1 c2 F2) [a, b]
section
variable {K : PySem.W.Frag} {ca : CA} {H : Hp} {x y : V} {Q : VK} {E : XK} {neg : Bool} {c c1 c2 : Str} {F F1 F2 : ET} {f1 f2 : Addr} {p : TEnv} {r : R (D × Bool)} {O : Addr → Prop}
end
section
variable {X : Cx} {ca : CA} {W : WX} {k n1 n2 : Nat} {f1 f2 : Addr} {fd1 fd2 : FuncData} {F1 F2 : ET} {c1 c2 : Str} {pos : Pos} {e1 e2 : Expr} {a b : AK} {neg : Bool}
end
/-! ### how it is run -/
section
variable {ε : TEnv} {P : D → Bool → TEnv → Prop} {X : Str → D → TEnv → Prop} {c1 c2 : Str} {F1 F2 : ET} {a b : AK} {fs gs : List (Str × D)} {k1 k2 : Nat} {neg : Bool} {d : D}
theorem w_eqMT : qE (eqMT neg c1 F1 c2 F2 a b ε) P X ↔ qE (callT (guardM neg c1 F1 c2 F2) [a, b] ε) P X := Iff.rfl
def qBm (neg : Bool) (d : D) (b : Bool) (Q : D → Prop) : Prop := match d, b with
  | .bl k, false => Q (.bl (nb neg k))
  | _, _ => False
end
end Tr

/-! x[::-1], x a list, a tuple or a text. -/
namespace Tr
open PySem PySem.Spec PySem.Calls PyProof.Rows L2 Md
def revS (z : Str) : Str := ⟨z.cps.toList.reverse.toArray⟩
section
variable {prog : Program} {w : World} {A : Around} {E : Value → Shared → Prop} {s : Shared}
end
section
variable {X : Cx}
/-- what stands behind x[::-1] -/
def RvR (X : Cx) (r : V → Hp → VK → Prop) : Prop :=
  ∀ (pins : List (Addr × Obj)) (s : Shared) (σ : L2.St) (H : Hp) (x : V) (v vl vu vs : Value) (sl : Addr) (Q : VK), Inv X pins σ H s → RelV x v → s.heap.IsSliceOf sl vl vu vs → IsPart vl none → IsPart vu none → IsPart vs (some (-1)) → r x H Q →
    ∃ T id, typeLookup (.type T) "__getitem__" = pure (some (.builtin id)) ∧ s.TypeIs v T ∧ wpAny (model X.prog X.w) X.A (getItem v (.ref sl)) (EP X pins σ Q) X.xe s
theorem RvR.or {r r' : V → Hp → VK → Prop} (h : RvR X r) (h' : RvR X r') : RvR X (fun x H Q => r x H Q ∨ r' x H Q) := by
  intro pins s σ H x v vl vu vs sl Q I rx hs pl pu ps q
  rcases q with q | q
  · exact h pins s σ H x v vl vu vs sl Q I rx hs pl pu ps q
  · exact h' pins s σ H x v vl vu vs sl Q I rx hs pl pu ps q
def rRvL (K : PySem.W.Frag) : V → Hp → VK → Prop := fun x H Q => ∃ a xs, x = .ref a ∧ SqL K H a xs ∧ ∀ p, H p = none → Q (.ref p) (upd H p (.lst xs.reverse))
def rRvT (K : PySem.W.Frag) : V → Hp → VK → Prop := fun x H Q => ∃ a xs, x = .ref a ∧ SqT K H a xs ∧ ∀ p, H p = none → Q (.ref p) (upd H p (.tup xs.reverse))
def rRvS : V → Hp → VK → Prop := fun x H Q => ∃ z, x = .str z ∧ z.length ≤ sizeLine ∧ Q (.str (revS z)) H
end
def rRvA (K : PySem.W.Frag) : V → Hp → VK → Prop := fun x H Q => rRvS x H Q ∨ rRvL K x H Q ∨ rRvT K x H Q
def fRevA : List D → Option (D × Bool)
  | [.lst ds] => some (.lst ds.reverse, true)
  | [.tup ds] => some (.tup ds.reverse, false)
  | [.str z] => if z.length ≤ sizeLine then some (.str (revS z), false) else none
  | _ => none
section
variable {K : PySem.W.Frag} {ca : CA} {X : Cx} {W : WX} {e : Expr} {a : AK} {k : Nat} {p1 p2 p3 pos : Pos}
end
section
variable {PO : D → Bool → Prop} {ds : List D} {z : Str}
theorem qO_revA_l : qO (fRevA [.lst ds]) PO ↔ PO (.lst ds.reverse) true := Iff.rfl
theorem qO_revA_t : qO (fRevA [.tup ds]) PO ↔ PO (.tup ds.reverse) false := Iff.rfl
end
end Tr

/-! Sets of ints with real tables: scanned while they are small, searched when they are not. -/
namespace Tb
open PySem PySem.Spec PyProof.Rows L2 PySem.SetTable
abbrev RowI := Nat × Int × Value
abbrev keysI (L : List RowI) : List Int := L.map fun x => keyOf x.2
def MskI (m : Nat) : Prop := Msk m ∨ m = 32767
theorem MskI.pow {m : Nat} (h : MskI m) : Pow m := by
  rcases h with h | rfl
  · exact h.pow
  · exact ⟨15, rfl, by decide, by decide⟩
theorem MskI.le {m : Nat} (h : MskI m) : m ≤ 32767 := by
  rcases h with h | rfl
  · exact Nat.le_trans h.le (by decide)
  · exact Nat.le_refl _
/-- its hash is itself -/
def Sm (k : Int) : Prop := 0 ≤ k ∧ k < 2 ^ 61 - 1
theorem hash_small {k : Int} (h : Sm k) : hashInt k = k := by
  obtain ⟨h1, h2⟩ := h
  obtain ⟨n, rfl⟩ := Int.eq_ofNat_of_zero_le h1
  have e : n < 2 ^ 61 - 1 := by omega
  have e2 : rawHash (n : Int) = n := by
    have z : ((n : Int).natAbs : Int) % ((2 ^ 61 - 1 : Nat) : Int) = n := by
      rw [Int.natAbs_natCast]
      exact Int.emod_eq_of_lt (by omega) (by omega)
    unfold rawHash
    dsimp only
    rw [if_neg (show ¬ ((n : Int) < 0) by omega)]
    show (if (((n : Int).natAbs : Int) % ((2 ^ 61 - 1 : Nat) : Int) == -1) = true then (-2 : Int) else ((n : Int).natAbs : Int) % ((2 ^ 61 - 1 : Nat) : Int)) = n
    rw [z, if_neg (by simp only [beq_iff_eq]; omega)]
  unfold hashInt
  rw [e2]
  rw [if_neg (by simp only [beq_iff_eq]; omega)]
structure SetI (w : World) (h : Heap) (a : Addr) (L : List RowI) (es : Array (Int × Value)) (ep : Nat) (t : SetTable) : Prop where
  ob : ∃ o, h.get? a = some o ∧ o.ExactSet ∧ o.data = .set es ep t
  rows : es.toList = L.map (·.2)
  laid : Laid t L
  good : ∀ x ∈ L, GoodE x.2
  nd : (keysI L).Nodup
  plain : t.plain = true
  led : w.params.followText "set-order" = true ∨ t.led = true
  room : L.length * 5 < t.mask * 3
  msk : MskI t.mask
section
variable {P : Program} {w : World} {h : Heap} {a : Addr} {L : List RowI} {es : Array (Int × Value)} {ep : Nat} {t : SetTable} {A : Around} {E : Value → Shared → Prop} {s : Shared}
theorem SetI.size (S : SetI w h a L es ep t) : es.size = L.length := by
  rw [← Array.length_toList, S.rows, List.length_map]
theorem fits_of {n : Nat} (ld : Laid t L) (le : L.length ≤ t.mask) (e : n = L.length) : t.fits n = true := by
  unfold SetTable.fits SetTable.fill
  rw [ld.dm, ld.size, e, Bool.and_eq_true, beq_iff_eq, decide_eq_true_eq]
  refine ⟨rfl, ?_⟩
  show L.length + 0 ≤ t.mask
  omega
theorem SetI.fits (S : SetI w h a L es ep t) : t.fits es.size = true := fits_of S.laid (by have := S.room; omega) S.size
theorem SetI.entry (S : SetI w h a L es ep t) {i : Nat} {x : RowI} (e : L[i]? = some x) : es[i]? = some x.2 := by
  rw [← Array.getElem?_toList, S.rows, List.getElem?_map, e]
  rfl
theorem seen_ints {k : Int} {tk : Tok} {ys : List Value} {Q : Bool → Shared → Prop} (hy : ∀ y ∈ ys, ∃ j u, y = Value.int j u) (h : Q false s) : wpAny (model P w) A (searchCouldBeSeen (.int k tk) ys) Q E s := by
  unfold searchCouldBeSeen
  refine wpAny_bind ?_
  refine wpAny_forIn_list _ (fun rest r s' => r.1 = none ∧ s' = s ∧ ∀ y ∈ rest, ∃ j u, y = Value.int j u) _ ?_ ?_ _ _ ⟨rfl, rfl, hy⟩
  · rintro v rest r s' ⟨hr, rfl, hall⟩
    obtain ⟨j, u, rfl⟩ := hall v List.mem_cons_self
    have rest' : ∀ y ∈ rest, ∃ j u, y = Value.int j u := fun u hu => hall u (List.mem_cons_of_mem _ hu)
    dsimp only
    refine wp_if_pos rfl ?_
    exact wpAny_pure ⟨rfl, rfl, rest'⟩
  · rintro ⟨r1, r2⟩ s' ⟨hr, rfl, _⟩
    simp only at hr
    subst hr
    exact wpAny_pure h
/-- the search: the hash is the key -/
theorem SetI.look (S : SetI w s.heap a L es ep t) {k : Int} {tk : Tok} (hk : Sm k) (sm : ∀ j ∈ keysI L, Sm j) {Q : SetFound → Shared → Prop} (hin : k ∈ keysI L → Q (.there none) s)
    (hout : ∀ K, k ∉ keysI L → way t.mask k K ∉ slots L → (∀ c, c < K → way t.mask k c ∈ slots L) → Q (.free (way t.mask k K) false) s) :
    wpAny (model P w) A (setSearch a (.int k tk) k true) Q E s := by
  have room := S.room
  obtain ⟨K, hKf, hK, hKb⟩ := way_free S.laid.po (slots L) (by rw [List.length_map]; omega) k
  obtain ⟨o, ho, hex, hd⟩ := S.ob
  have inP : ∀ {j : Nat}, j ∈ t.place.toList ↔ j ∈ slots L := fun {j} => by rw [S.laid.place]
  have hashOf : ∀ x ∈ L, x.2.1 = keyOf x.2 := fun x hx => by
    obtain ⟨j, u, e1, e2⟩ := S.good x hx
    have ej : keyOf x.2 = j := by unfold keyOf; rw [e1]
    rw [e2, ej, hash_small (sm j (by rw [← ej]; exact List.mem_map.mpr ⟨x, hx, rfl⟩))]
  unfold setSearch
  rw [show (100000 : Nat) = 99999 + 1 from rfl, setSearchFrom_succ]
  apply wpAny_bind
  refine wpAny_setState_of ho hd S.fits ?_
  have whole : t.gaveWay ≠ true := by
    unfold SetTable.gaveWay
    rw [S.laid.po.odd]
    decide
  have hashAt : ∀ (i : Nat) (y : RowI), L[i]? = some y → (es[i]?.map (·.1)).getD 0 = y.2.1 := fun i y e => by
    rw [S.entry e]
    rfl
  have rowAt : ∀ {i j : Nat}, t.place.toList[i]? = some j → ∃ y, L[i]? = some y ∧ y.1 = j := fun {i j} e => by
    rw [S.laid.place, List.getElem?_map, Option.map_eq_some_iff] at e
    exact e
  have spec := go_spec t S.laid.ris S.laid.dm (fun i => (es[i]?.map (·.1)).getD 0) k (10 * turns t.mask) K (pr t.mask k 0) (pr_clean _ _ _) hKf
    (fun q hq => by rw [pr_add, Nat.zero_add]; exact inP.mpr (hKb q hq))
    (by rw [pr_add, Nat.zero_add]; exact fun z => hK (inP.mp z))
  refine wp_if_neg whole ?_
  rcases spec with ⟨q, i, hq, hi, hh, hno, hpr⟩ | ⟨hno, hpr⟩
  · have hpr : t.probe (fun i => (es[i]?.map (·.1)).getD 0) k ((none : Option Probe).getD (t.probeStart k)) = _ := hpr
    rw [hpr]
    obtain ⟨y, ey, sy⟩ := rowAt hi
    have my : y ∈ L := List.mem_of_getElem? ey
    have ky : keyOf y.2 = k := by rw [← hashOf y my, ← hashAt i y ey]; exact hh
    have mk : k ∈ keysI L := List.mem_map.mpr ⟨y, my, ky⟩
    have rest : wpAny (model P w) A (searchRest a (.int k tk) k true 99999 es t (nth t.mask (pr t.mask k 0) q).j i (nth t.mask (pr t.mask k 0) (q + 1))) Q E s := by
      unfold searchRest
      rw [S.entry ey]
      apply wpAny_bind
      apply wpAny_holding
      obtain ⟨j, u, e1, _⟩ := S.good y my
      have ej : j = k := by rw [← ky]; unfold keyOf; rw [e1]
      subst ej
      show wpAny (model P w) A (eqBool y.2.2 (.int j tk)) _ E s
      rw [e1]
      refine (intKind P w).eqBool (a := j) (b := j) (intKind_is P w j u) (intKind_is P w j tk) ?_
      apply wpAny_bind
      refine wpAny_setState_of ho hd S.fits ?_
      refine wp_if_pos (by simp) ?_
      exact wpAny_pure (hin mk)
    by_cases hl : t.led = true
    · refine wp_if_neg (by simp [hl]) ?_
      exact rest
    · refine wp_if_pos (by simp [hl]) ?_
      apply wpAny_bind
      refine seen_ints (fun v hv => ?_) ?_
      · obtain ⟨e, he, rfl⟩ := List.mem_map.mp hv
        have he : e ∈ es.toList := by
          rw [Array.toList_filter] at he
          exact (List.mem_filter.mp he).1
        rw [S.rows] at he
        obtain ⟨z, hz, rfl⟩ := List.mem_map.mp he
        obtain ⟨j, u, e1, _⟩ := S.good z hz
        exact ⟨j, u, e1⟩
      · refine wp_if_neg (by decide) ?_
        exact rest
  · have hpr : t.probe (fun i => (es[i]?.map (·.1)).getD 0) k ((none : Option Probe).getD (t.probeStart k)) = _ := hpr
    rw [hpr]
    refine wpAny_pure ?_
    rw [pr_add, Nat.zero_add]
    refine hout K (fun hm => ?_) hK hKb
    obtain ⟨y, hy, ey⟩ := List.mem_map.mp hm
    have hh : y.2.1 = k := (hashOf y hy).trans ey
    obtain ⟨c, c1, c2⟩ := S.laid.early hK hy hh
    obtain ⟨j, hj, gj⟩ := List.getElem_of_mem hy
    have ej : L[j]? = some y := by rw [List.getElem?_eq_getElem hj, gj]
    refine hno c j c1 ?_ ?_
    · rw [pr_add, Nat.zero_add, S.laid.place, List.getElem?_map, ej]
      exact congrArg some c2.symm
    · exact (hashAt j y ej).trans hh
end
end Tb

/-! Adding an int to a set. -/
namespace Tb
open PySem PySem.Spec PyProof.Rows L2 PySem.SetTable
theorem sz19660 : sizeAbove (grown 4915) = 32768 := by decide +kernel
/-- the next mask, when the table is full -/
theorem grow_toI {m n : Nat} (hm : MskI m) (n0 : n * 5 < m * 3) (n1 : (n + 1) * 5 ≥ m * 3) (few : n + 1 < 9900) : ∃ M, sizeAbove (grown (n + 1)) - 1 = M ∧ MskI M ∧ (n + 1) * 5 < M * 3 := by
  rcases hm with hm | rfl
  · by_cases c : n + 1 < 4900
    · obtain ⟨M, a, b, d⟩ := grow_to hm n0 n1 c
      exact ⟨M, a, .inl b, d⟩
    · have := hm.le
      obtain rfl : n = 4914 := by
        rcases hm with rfl | rfl | rfl | rfl | rfl | rfl <;> omega
      exact ⟨32767, by rw [sz19660], .inr rfl, by decide⟩
  · omega
/-- a set's rows, with room for one more look -/
structure BareI (w : World) (h : Heap) (a : Addr) (L : List RowI) (es : Array (Int × Value)) (ep : Nat) (t : SetTable) : Prop where
  ob : ∃ o, h.get? a = some o ∧ o.ExactSet ∧ o.data = .set es ep t
  rows : es.toList = L.map (·.2)
  laid : Laid t L
  good : ∀ x ∈ L, GoodE x.2
  nd : (keysI L).Nodup
  plain : t.plain = true
  led : w.params.followText "set-order" = true ∨ t.led = true
  le : L.length ≤ t.mask
section
variable {P : Program} {w : World} {h : Heap} {a : Addr} {L : List RowI} {es : Array (Int × Value)} {ep : Nat} {t : SetTable} {A : Around} {E : Value → Shared → Prop} {s : Shared}
theorem relaid_covers {hs : Array Int} {wanted M : Nat} (hw : sizeAbove wanted - 1 = M) (hM : Pow M) (hn : hs.size ≤ M) {t' : SetTable} {order : Array Nat} (e : t.relaid hs wanted = some (t', order)) : order.toList.Perm (List.range hs.size) := by
  obtain ⟨owner, e1, W⟩ := lay_all hM (hs := hs) hn
  have hr : t.relaid hs wanted = some (tabOf t M owner, ((liveOf M owner).map (·.2)).toArray) := by
    rw [relaid_eq, hw, e1]
    rfl
  rw [hr] at e
  injection e with e
  injection e with _ e
  subst e
  have rl := ris_live (fun j => owner.getD j none) (List.range (M + 1)) (List.pairwise_lt_range)
  have at_ : ∀ x ∈ liveOf M owner, x.1 ≤ M ∧ oAt owner x.1 = some x.2 := fun x hx => (mem_live W.sz).mp hx
  have nd : ((liveOf M owner).map (·.1)).Nodup := List.Pairwise.imp (fun h => Nat.ne_of_lt h) rl.1
  show ((liveOf M owner).map (·.2)).Perm _
  refine perm_range _ _ ?_ fun k hk => ?_
  · obtain ⟨ps, p1, p2⟩ := W.ps
    have a := nat_nodup_len ((liveOf M owner).map (·.1)) ps nd fun j hj => by
      obtain ⟨x, hx, rfl⟩ := List.mem_map.mp hj
      obtain ⟨a1, a2⟩ := at_ x hx
      exact p2 _ a1 (by rw [a2]; exact fun z => nomatch z)
    have b := nat_nodup_len (List.range hs.size) ((liveOf M owner).map (·.2)) List.nodup_range fun k hk => by
      obtain ⟨j, hj, z⟩ := W.all k (by rw [Array.length_toList]; exact List.mem_range.mp hk)
      exact List.mem_map.mpr ⟨(j, k), (mem_live W.sz).mpr ⟨hj, z⟩, rfl⟩
    rw [List.length_range, List.length_map] at b
    have a2 : (liveOf M owner).length ≤ hs.size := by
      rw [List.length_map, p1, Array.length_toList] at a
      exact a
    rw [List.length_map]
    omega
  · obtain ⟨j, hj, z⟩ := W.all k (by rw [Array.length_toList]; exact hk)
    exact List.mem_map.mpr ⟨(j, k), (mem_live W.sz).mpr ⟨hj, z⟩, rfl⟩
/-- laid anew -/
theorem BareI.anew (S : BareI w h a L es ep t) {wanted M : Nat} (hw : sizeAbove wanted - 1 = M) (hM : MskI M) (hn : L.length * 5 < M * 3) :
    ∃ t' order L', t.relaid (es.map (·.1)) wanted = some (t', order) ∧ (order.filterMap (es[·]?)).toList = L'.map (·.2) ∧ Laid t' L' ∧ (L'.map (·.2)).Perm (L.map (·.2)) ∧ t'.mask = M ∧ t'.led = t.led ∧ t'.plain = t.plain ∧ coversAll order es.size = true := by
  have size : es.size = L.length := by rw [← Array.length_toList, S.rows, List.length_map]
  obtain ⟨t', order, R, e, ld, ord, perm, os, em, el, ep'⟩ := laid_anew (t := t) (L.map (·.2)) (hs := es.map (·.1)) (by rw [Array.toList_map, S.rows]) hw hM.pow (by rw [List.length_map]; omega)
  refine ⟨t', order, R, e, ?_, ld, perm, em, el, ep', ?_⟩
  · rw [Array.toList_filterMap, ← ord, ← S.rows]
    congr 1
    funext i
    rw [Array.getElem?_toList]
  · have c := relaid_covers hw hM.pow (by rw [Array.size_map, size]; omega) e
    rw [Array.size_map] at c
    exact List.isPerm_iff.mpr c
theorem good_of {L L' : List RowI} (p : (L'.map (·.2)).Perm (L.map (·.2))) (g : ∀ x ∈ L, GoodE x.2) : ∀ x ∈ L', GoodE x.2 := fun x hx => by
  have m : x.2 ∈ L.map (·.2) := p.mem_iff.mp (List.mem_map.mpr ⟨x, hx, rfl⟩)
  obtain ⟨y, hy, e⟩ := List.mem_map.mp m
  rw [← e]
  exact g y hy
theorem keysI_map (L : List RowI) : keysI L = (L.map (·.2)).map keyOf := by rw [List.map_map]; rfl
theorem keys_perm {L L' : List RowI} (p : (L'.map (·.2)).Perm (L.map (·.2))) : (keysI L').Perm (keysI L) := by
  rw [keysI_map, keysI_map]
  exact p.map keyOf
/-- where the next one goes -/
theorem lay_new (S : SetI w h a L es ep t) (hh : Int) (x : Value) :
    ∃ K, way t.mask hh K ∉ slots L ∧ (∀ c, c < K → way t.mask hh c ∈ slots L) ∧ layNew t es hh x = (insertAt es (below t.place (way t.mask hh K)) (hh, x), (t.put (way t.mask hh K)).1, false, false) := by
  have room := S.room
  obtain ⟨K, hKf, hK, hKb⟩ := way_free S.laid.po (slots L) (by rw [List.length_map]; omega) hh
  have inP : ∀ {j : Nat}, j ∈ t.place.toList ↔ j ∈ slots L := fun {j} => by rw [S.laid.place]
  refine ⟨K, hK, hKb, ?_⟩
  have spec := go_spec t S.laid.ris S.laid.dm (fun _ => hh + 1) hh (10 * turns t.mask) K (pr t.mask hh 0) (pr_clean _ _ _) hKf
    (fun q hq => by rw [pr_add, Nat.zero_add]; exact inP.mpr (hKb q hq))
    (by rw [pr_add, Nat.zero_add]; exact fun z => hK (inP.mp z))
  have fs : t.freeSlot hh = some (way t.mask hh K, false) := by
    rcases spec with ⟨q, i, hq, hi, e, _⟩ | ⟨_, hpr⟩
    · exact absurd e (by show ¬ (hh + 1 = hh); omega)
    · have hpr : t.probe (fun _ => hh + 1) hh (t.probeStart hh) = _ := hpr
      unfold SetTable.freeSlot
      rw [hpr, pr_add, Nat.zero_add]
      rfl
  have ld := S.laid.put hK hKb x
  have sz : (insertAt es (below t.place (way t.mask hh K)) (hh, x)).size = (L.take (below t.place (way t.mask hh K)) ++ (way t.mask hh K, hh, x) :: L.drop (below t.place (way t.mask hh K))).length := by
    rw [← Array.length_toList, SetTable.toList_insertAt, S.rows, ← List.map_take, ← List.map_drop, List.length_append, List.length_append, List.length_cons, List.length_cons, List.length_map, List.length_map]
  have len := (perm_mid L (below t.place (way t.mask hh K)) (way t.mask hh K, hh, x)).length_eq
  rw [List.length_cons] at len
  have ft : (t.put (way t.mask hh K)).1.fits (insertAt es (below t.place (way t.mask hh K)) (hh, x)).size = true := fits_of ld (by rw [len]; show L.length + 1 ≤ t.mask; omega) sz
  have e2 : (t.put (way t.mask hh K)).2 = below t.place (way t.mask hh K) := rfl
  unfold layNew
  rw [fs]
  dsimp only
  rw [e2]
  unfold SetTable.orStandIn
  rw [if_pos ft, ft]
  rfl
/-- the rows behind it -/
theorem SetI.put (S : SetI w h a L es ep t) {k : Int} {tk : Tok} (nk : k ∉ keysI L) {K : Nat} (hK : way t.mask (hashInt k) K ∉ slots L) (hKb : ∀ c, c < K → way t.mask (hashInt k) c ∈ slots L) :
    ∃ L1, (insertAt es (below t.place (way t.mask (hashInt k) K)) (hashInt k, Value.int k tk)).toList = L1.map (·.2) ∧ Laid (t.put (way t.mask (hashInt k) K)).1 L1 ∧ L1.length = L.length + 1 ∧ (∀ x ∈ L1, GoodE x.2) ∧ (keysI L1).Perm (k :: keysI L) ∧ (keysI L1).Nodup := by
  have pm := perm_mid L (below t.place (way t.mask (hashInt k) K)) (way t.mask (hashInt k) K, hashInt k, Value.int k tk)
  have pk : (keysI (L.take (below t.place (way t.mask (hashInt k) K)) ++ (way t.mask (hashInt k) K, hashInt k, Value.int k tk) :: L.drop (below t.place (way t.mask (hashInt k) K)))).Perm (k :: keysI L) := pm.map fun x => keyOf x.2
  refine ⟨_, ?_, S.laid.put hK hKb (Value.int k tk), pm.length_eq, fun x hx => ?_, pk, pk.nodup_iff.mpr (List.nodup_cons.mpr ⟨nk, S.nd⟩)⟩
  · rw [SetTable.toList_insertAt, S.rows, List.map_append, List.map_cons, List.map_take, List.map_drop]
  · rcases mem_mid.mp hx with rfl | hx
    · exact ⟨k, tk, rfl, rfl⟩
    · exact S.good x hx
end
end Tb

/-! Adding an int to a set: by scanning, by searching. -/
namespace Tb
open PySem PySem.Spec PyProof.Rows L2 PySem.SetTable
section
variable {P : Program} {w : World} {h : Heap} {a : Addr} {L : List RowI} {es : Array (Int × Value)} {ep : Nat} {t : SetTable} {A : Around} {E : Value → Shared → Prop} {s : Shared}
/-- few, or each its own hash -/
def Fine (n : Nat) (ks : List Int) : Prop := n < 4096 ∨ ∀ k ∈ ks, Sm k
theorem SetI.bare (S : SetI w h a L es ep t) : BareI w h a L es ep t := ⟨S.ob, S.rows, S.laid, S.good, S.nd, S.plain, S.led, by have := S.room; omega⟩
theorem bareI_fits (B : BareI w h a L es ep t) : t.fits es.size = true := fits_of B.laid B.le (by rw [← Array.length_toList, B.rows, List.length_map])
/-- relaying, where the table is full -/
theorem BareI.relayed (B : BareI w s.heap a L es ep t) (full : L.length * 5 ≥ t.mask * 3) {n : Nat} (hn : n * 5 < t.mask * 3) (en : L.length = n + 1) (mk : MskI t.mask) (few : n + 1 < 9900) :
    ∃ t' order L' M, sizeAbove (grown (n + 1)) - 1 = M ∧ MskI M ∧ t.relaid (es.map (·.1)) (grown (n + 1)) = some (t', order) ∧ (order.filterMap (es[·]?)).size = es.size ∧ t'.fits (order.filterMap (es[·]?)).size = true ∧ coversAll order es.size = true ∧ (keysI L').Perm (keysI L) ∧
      ∀ h' ep', (∃ o, h'.get? a = some o ∧ o.ExactSet ∧ o.data = .set (order.filterMap (es[·]?)) ep' t') → SetI w h' a L' (order.filterMap (es[·]?)) ep' t' := by
  obtain ⟨M, e1, e2, e3⟩ := grow_toI mk hn (by omega) few
  obtain ⟨t', order, L', r1, r2, r3, r4, r5, r6, r7, r8⟩ := B.anew e1 e2 (by omega)
  have sz : es.size = L.length := by rw [← Array.length_toList, B.rows, List.length_map]
  have l1 : L'.length = L.length := by
    have := r4.length_eq
    rwa [List.length_map, List.length_map] at this
  have sz2 : (order.filterMap (es[·]?)).size = L'.length := by rw [← Array.length_toList, r2, List.length_map]
  have kp := keys_perm r4
  exact ⟨t', order, L', M, e1, e2, r1, by rw [sz2, l1, sz], fits_of r3 (by rw [r5]; omega) sz2, r8, kp, fun h' ep' ob => ⟨ob, r2, r3, good_of r4 B.good, kp.nodup_iff.mpr B.nd, by rw [r7]; exact B.plain, by rw [r6]; exact B.led, by rw [r5]; omega, by rw [r5]; exact e2⟩⟩
theorem SetI.add (S : SetI w s.heap a L es ep t) {k : Int} {tk : Tok} (fine : Fine L.length (k :: keysI L)) (few : L.length + 1 < 9900) {Q : Bool → Shared → Prop}
    (hQ : ∀ b h' L' es' ep' t', Heap.SameBut a s.heap h' → SetI w h' a L' es' ep' t' → (k ∈ keysI L → (keysI L').Perm (keysI L)) → (k ∉ keysI L → (keysI L').Perm (k :: keysI L)) → Q b { s with heap := h' }) :
    wpAny (model P w) A (setAddHashed a (.int k tk) (hashInt k)) Q E s := by
  obtain ⟨o, ho, hex, hd⟩ := S.ob
  have size := S.size
  have room := S.room
  have mle := S.msk.le
  have stay : k ∈ keysI L → ∀ b, Q b s := fun hm b => hQ b s.heap L es ep t (Heap.SameBut.refl a s.heap) S (fun _ => List.Perm.refl _) fun z => absurd hm z
  unfold setAddHashed
  apply wpAny_holding
  rw [show (100000 : Nat) = 99999 + 1 from rfl, setAddHashedIn_succ]
  apply wpAny_bind
  refine wpAny_setState_of ho hd S.fits ?_
  dsimp only
  have gE : ∀ e ∈ es.toList, GoodE e := fun e he => by
    rw [S.rows] at he
    obtain ⟨x, hx, rfl⟩ := List.mem_map.mp he
    exact S.good x hx
  have hel : ElemsOf (intKind P w) es.toList := good_elems gE
  have hsc : (Value.int k tk).scannable = true := rfl
  have hkey : (intKind P w).is k (.int k tk) = true := intKind_is P w k tk
  have keysE : es.toList.map keyOf = keysI L := by rw [S.rows, ← keysI_map]
  by_cases c : L.length < scanBound
  · rw [byScan_of hsc (by rw [size]; exact c) hel]
    simp only [↓reduceIte]
    unfold setAddByScan
    refine wpAny_bind ?_
    refine wpAny_bind (wpAny_rule ?_)
    refine wpAny_bind (wpAny_setScan_of (knd := intKind P w) hkey ho hd S.fits hel ?_)
    cases hfi : List.findIdx? (fun e => (intKind P w).is k e.2) es.toList with
    | some j =>
      dsimp only
      obtain ⟨hj, pj, _⟩ := List.findIdx?_eq_some_iff_getElem.mp hfi
      have hm : k ∈ keysI L := by
        rw [← keysE]
        exact (good_mem (P := P) (w := w) gE k).2 ⟨es.toList[j], List.getElem_mem hj, pj⟩
      exact wpAny_pure (wpAny_pure (stay hm _))
    | none =>
      dsimp only
      have hnk : k ∉ keysI L := fun z => by
        rw [← keysE] at z
        obtain ⟨e, he, q⟩ := (good_mem (P := P) (w := w) gE k).1 z
        have c := List.findIdx?_eq_none_iff.mp hfi e he
        rw [q] at c
        cases c
      obtain ⟨K, hK, hKb, eL⟩ := lay_new S (hashInt k) (.int k tk)
      rw [eL]
      dsimp only
      obtain ⟨L1, q1, q2, q3, q4, q5, q6⟩ := S.put (tk := tk) hnk hK hKb
      revert q1 q2
      have pl : (t.put (way t.mask (hashInt k) K)).1.plain = true := S.plain
      have lled : (t.put (way t.mask (hashInt k) K)).1.led = t.led := rfl
      have mk : (t.put (way t.mask (hashInt k) K)).1.mask = t.mask := rfl
      revert pl lled mk
      generalize (t.put (way t.mask (hashInt k) K)).1 = t1
      generalize insertAt es (below t.place (way t.mask (hashInt k) K)) (hashInt k, Value.int k tk) = es1
      intro pl lled mk q1 q2
      have size1 : es1.size = L.length + 1 := by rw [← Array.length_toList, q1, List.length_map, q3]
      refine wpAny_bind (wpAny_pure ?_)
      rw [if_pos pl]
      refine wpAny_bind ?_
      rw [hashByValue_scannable 8 hsc]
      refine wpAny_pure ?_
      have pk : plainKind (Value.int k tk) = true := rfl
      rw [pk]
      simp only [if_true]
      have sb : Heap.SameBut a s.heap (s.heap.update a (Obj.putSet es1 t1)) := Heap.SameBut.update ..
      have ho1 := store_at (es' := es1) (t' := t1) ho hd
      have B : BareI w (s.heap.update a (Obj.putSet es1 t1)) a L1 es1 (ep + 1) t1 := ⟨⟨_, ho1, ⟨hex.1, hex.2.1, hex.2.2⟩, rfl⟩, q1, q2, q4, q6, pl, by rw [lled]; exact S.led, by rw [q3, mk]; omega⟩
      refine wpAny_bind (wpAny_storeSet_of ho hd ?_ (by rw [size1, sizeLine_eq]; omega))
      have fill : t1.fill = L.length + 1 := by
        unfold SetTable.fill
        rw [q2.size, q2.dm, q3]
        rfl
      by_cases full : t1.tooFull = true
      · have full2 : (L.length + 1) * 5 ≥ t.mask * 3 := by
          unfold SetTable.tooFull at full
          rw [decide_eq_true_eq, fill, mk] at full
          exact full
        rw [if_pos (by rw [full]; rfl)]
        obtain ⟨t', order, L', M, e1, e2, e3, e4, e5, e6, e7, e8⟩ := BareI.relayed (s := { s with heap := s.heap.update a (Obj.putSet es1 t1) }) B (by rw [q3, mk]; exact full2) (n := L.length) (by rw [mk]; exact room) q3 (by rw [mk]; exact S.msk) few
        have er : relayAll t1 es1 (grown es1.size) = (order.filterMap (es1[·]?), t', false) := by
          unfold relayAll
          rw [size1, e3]
          dsimp only
          rw [← size1, e6, e5]
          rfl
        rw [er]
        dsimp only
        refine wpAny_bind (wpAny_pure ?_)
        refine wpAny_bind (wpAny_storeSet_of ho1 rfl ?_ (by rw [e4, size1, sizeLine_eq]; omega))
        have ho2 := store_at (es' := order.filterMap (es1[·]?)) (t' := t') ho1 rfl
        exact wpAny_pure (wpAny_pure (hQ _ _ L' _ _ t' (sb.trans (Heap.SameBut.update ..)) (e8 _ _ ⟨_, ho2, ⟨hex.1, hex.2.1, hex.2.2⟩, rfl⟩) (fun z => absurd z hnk) fun _ => e7.trans q5))
      · rw [if_neg (by simp [full])]
        have room2 : L1.length * 5 < t1.mask * 3 := by
          unfold SetTable.tooFull at full
          rw [decide_eq_true_eq, fill, mk] at full
          rw [q3, mk]
          omega
        exact wpAny_pure (wpAny_pure (hQ _ _ L1 es1 _ t1 sb ⟨B.ob, B.rows, B.laid, B.good, B.nd, B.plain, B.led, room2, by rw [mk]; exact S.msk⟩ (fun z => absurd z hnk) fun _ => q5))
  · have sm : ∀ j ∈ k :: keysI L, Sm j := fine.resolve_left (by unfold scanBound at c; omega)
    have hk := sm k List.mem_cons_self
    refine wp_if_neg (by
      unfold byScan
      rw [size]
      simp [c]) ?_
    apply wpAny_bind
    have eh := hash_small hk
    rw [eh]
    refine S.look hk (fun j hj => sm j (List.mem_cons_of_mem _ hj)) (fun hm => ?_) fun K hm hK hb => ?_
    · exact wpAny_pure (stay hm _)
    · obtain ⟨L1, q1, q2, q3, q4, q5, q6⟩ := S.put (K := K) (tk := tk) hm (by rw [eh]; exact hK) (by rw [eh]; exact hb)
      rw [eh] at q1 q2
      apply wpAny_bind
      refine wpAny_setState_of ho hd S.fits ?_
      have pl : (t.put (way t.mask k K)).1.plain = true := S.plain
      have lled : (t.put (way t.mask k K)).1.led = t.led := rfl
      have mk : (t.put (way t.mask k K)).1.mask = t.mask := rfl
      have e2 : (t.put (way t.mask k K)).2 = below t.place (way t.mask k K) := rfl
      dsimp only
      revert q1 q2 e2 pl lled mk
      generalize t.put (way t.mask k K) = T
      obtain ⟨t1, p⟩ := T
      intro q1 q2 pl lled mk e2
      have e2 : p = below t.place (way t.mask k K) := e2
      dsimp only
      subst e2
      revert q1
      generalize insertAt es (below t.place (way t.mask k K)) (k, Value.int k tk) = es1
      intro q1
      have pl : t1.plain = true := pl
      have lled : t1.led = t.led := lled
      have mk : t1.mask = t.mask := mk
      have q2 : Laid t1 L1 := q2
      have size1 : es1.size = L.length + 1 := by rw [← Array.length_toList, q1, List.length_map, q3]
      refine wp_if_pos pl ?_
      apply wpAny_bind
      rw [hashByValue_scannable 8 hsc]
      refine wpAny_pure ?_
      have pk : plainKind (Value.int k tk) = true := rfl
      rw [pk]
      apply wpAny_bind
      refine wpAny_storeSet_of ho hd ?_ (by rw [size1, sizeLine_eq]; omega)
      simp only [if_true]
      have sb : Heap.SameBut a s.heap (s.heap.update a (Obj.putSet es1 t1)) := Heap.SameBut.update ..
      have ho1 := store_at (es' := es1) (t' := t1) ho hd
      have B : BareI w (s.heap.update a (Obj.putSet es1 t1)) a L1 es1 (ep + 1) t1 := ⟨⟨_, ho1, ⟨hex.1, hex.2.1, hex.2.2⟩, rfl⟩, q1, q2, q4, q6, pl, by rw [lled]; exact S.led, by rw [q3, mk]; omega⟩
      have fill : t1.fill = L.length + 1 := by
        unfold SetTable.fill
        rw [q2.size, q2.dm, q3]
        rfl
      by_cases full : t1.tooFull = true
      · have full2 : (L.length + 1) * 5 ≥ t.mask * 3 := by
          unfold SetTable.tooFull at full
          rw [decide_eq_true_eq, fill, mk] at full
          exact full
        refine wp_if_pos (by simp [full]) ?_
        apply wpAny_bind
        obtain ⟨t', order, L', M, e1, e2, e3, e4, e5, e6, e7, e8⟩ := BareI.relayed (s := { s with heap := s.heap.update a (Obj.putSet es1 t1) }) B (by rw [q3, mk]; exact full2) (n := L.length) (by rw [mk]; exact room) q3 (by rw [mk]; exact S.msk) few
        rw [size, setRelay_eq]
        apply wpAny_bind
        refine wpAny_setState_of ho1 rfl (bareI_fits B) ?_
        have small : sizeAbove (grown (L.length + 1)) ≤ 32768 := by have := e2.le; omega
        refine wp_if_neg (by rw [sizeLine_eq]; omega) ?_
        apply wpAny_bind
        rw [e3]
        refine wp_if_neg (by rw [e4]; simp) ?_
        refine wpAny_pure ?_
        refine wpAny_storeSet_of ho1 rfl ?_ (by rw [e4, size1, sizeLine_eq]; omega)
        have ho2 := store_at (es' := order.filterMap (es1[·]?)) (t' := t') ho1 rfl
        exact wpAny_pure (hQ _ _ L' _ _ t' (sb.trans (Heap.SameBut.update ..)) (e8 _ _ ⟨_, ho2, ⟨hex.1, hex.2.1, hex.2.2⟩, rfl⟩) (fun z => absurd z hm) fun _ => e7.trans q5)
      · refine wp_if_neg (by simp [full]) ?_
        have room2 : L1.length * 5 < t1.mask * 3 := by
          unfold SetTable.tooFull at full
          rw [decide_eq_true_eq, fill, mk] at full
          rw [q3, mk]
          omega
        exact wpAny_pure (hQ _ _ L1 es1 _ t1 sb ⟨B.ob, B.rows, B.laid, B.good, B.nd, B.plain, B.led, room2, by rw [mk]; exact S.msk⟩ (fun z => absurd z hm) fun _ => q5)
end
end Tb

/-! A set of ints on the proof's heap: made, added to, gathered, sorted, counted. -/
namespace Tb
open PySem PySem.Spec PyProof.Rows L2 PySem.SetTable
/-- the set's object: its items as the table has them in order -/
def CoreI (w : World) (h : Heap) (a : Addr) (ks : List Int) : Prop := ∃ L es ep t, SetI w h a L es ep t ∧ keysI L = ks
def SetIH (w : World) (a : Addr) (ks : List Int) : HO := .ext fun h => CoreI w h a ks
def AddedI (ks : List Int) (k : Int) (qs : List Int) : Prop := (k ∈ ks → qs.Perm ks) ∧ (k ∉ ks → qs.Perm (k :: ks))
section
variable {P : Program} {w : World} {h : Heap} {a : Addr} {L : List RowI} {es : Array (Int × Value)} {ep : Nat} {t : SetTable} {A : Around} {E : Value → Shared → Prop} {s : Shared} {ks : List Int}
theorem CoreI.nd (c : CoreI w h a ks) : ks.Nodup := by
  obtain ⟨L, es, ep, t, S, e⟩ := c
  rw [← e]
  exact S.nd
theorem setIH_new {H : Hp} (c : CoreI w h a ks) : ObjOk P w H h a (SetIH w a ks) := by
  have ⟨L, es, ep, t, S, e⟩ := c
  obtain ⟨o, ho, r⟩ := S.ob
  refine ⟨c, ⟨o, ho⟩, fun h1 h2 p k => ?_⟩
  have ⟨L', es', ep', t', S', e'⟩ := (show CoreI w h1 a ks from p)
  obtain ⟨o', ho', r'⟩ := S'.ob
  exact ⟨L', es', ep', t', ⟨⟨o', k o' ho', r'⟩, S'.rows, S'.laid, S'.good, S'.nd, S'.plain, S'.led, S'.room, S'.msk⟩, e'⟩
theorem coreI_new : CoreI w (h.push { cls := .type "set", dict := none, data := .set #[] 0 (.fresh 0 0 (!w.params.followText "set-order")) }) h.objs.size [] := by
  refine ⟨[], #[], 0, .fresh 0 0 (!w.params.followText "set-order"), ⟨⟨_, Heap.get?_push_size _ rfl, ⟨rfl, rfl, rfl⟩, rfl⟩, rfl, ⟨(show Msk 7 from .inl rfl).pow, rfl, rfl, List.Pairwise.nil, (fun x hx => nomatch hx), fun x hx => nomatch hx⟩, (fun x hx => nomatch hx), List.Pairwise.nil, rfl, ?_, (by show 0 * 5 < 7 * 3; decide), .inl (.inl rfl)⟩, rfl⟩
  show w.params.followText "set-order" = true ∨ (!w.params.followText "set-order") = true
  cases w.params.followText "set-order"
  · exact .inr rfl
  · exact .inl rfl
theorem add_callI (c : CoreI w s.heap a ks) {k : Int} {tk : Tok} (fine : Fine ks.length (k :: ks)) (few : ks.length + 1 < 9900) {Q : Value → Shared → Prop}
    (hQ : ∀ (h' : Heap) (tk : Nat) (qs : List Int), Heap.SameBut a s.heap h' → CoreI w h' a qs → AddedI ks k qs → Q .none { s with heap := h', toks := tk }) : wpAny (model P w) A (call (.builtin "set.add") [.ref a, .int k tk]) Q E s := by
  obtain ⟨L, es, ep, t, S, rfl⟩ := c
  have ty : s.TypeIs (.ref a) "set" := by
    obtain ⟨o, ho, hex, hd⟩ := S.ob
    exact ⟨o, ho, hex.1⟩
  have ll : (keysI L).length = L.length := List.length_map _
  rw [ll] at fine few
  refine wpAny_call_entry F.slot_set_add ty F.entry_set_add ?_ (F.args_set_add_2 _ _)
  unfold Builtin.«set.add» Builtin.Frozenset.oneOther
  simp only [List.isEmpty_nil, bind_assoc]
  unfold Builtin.Frozenset.addrOf setAdd
  refine wpAny_bind (wpAny_pure ?_)
  try dsimp only
  refine wpAny_bind (wpAny_pure ?_)
  try dsimp only
  refine wpAny_bind ?_
  refine wpAny_holding ?_
  refine wpAny_bind ((intKind P w).pyHash (k := k) (intKind_is P w k tk) ?_)
  refine SetI.add (s := { s with toks := s.toks + 1 }) S fine few fun b h' L' es' ep' t' sb S' p1 p2 => ?_
  show wpAny _ _ (ret Value.none) _ _ _
  exact wpAny_pure ⟨_, rfl, hQ h' (s.toks + 1) _ sb ⟨L', es', ep', t', S', rfl⟩ ⟨p1, p2⟩⟩
/-- a plain set's items, gathered -/
theorem iter_plain {Q : Value → Shared → Prop} (ha : L2.SetAt s.heap a es ep t) (hf : t.fits es.size = true) (pl : t.plain = true) (r : Ris t.place.toList)
    (hl : w.params.followText "set-order" = true ∨ t.led = true) (hQ : ∀ s₂ I, SetIt P w s a es s₂ I → Q (.ref I) s₂) : wpAny (model P w) A (pyIter (.ref a)) Q E s := by
  obtain ⟨o, ho, hc, hd⟩ := id ha
  have hT : s.TypeIs (.ref a) "set" := ⟨o, ho, hc⟩
  have hne : a ≠ s.heap.objs.size := Nat.ne_of_lt (Heap.lt_size ho)
  refine wpAny_pyIter_slot hT F.slot_set_iter (wpAny_call_entry F.slot_set_iter hT entry_s_iter ?_ (F.args_set_iter_1 _))
  unfold Builtin.«frozenset.__iter__»
  refine wpAny_bind (m := Builtin.Frozenset.slot0 "__iter__" _) (wpAny_of_eq (a := a) (by rfl) ?_)
  refine wpAny_bind (m := Builtin.Frozenset.sizeOf a) ?_
  unfold Builtin.Frozenset.sizeOf
  refine wpAny_bind (wpAny_setEntries_of ho hd hf (wpAny_pure ?_))
  first | refine wpAny_bind (setDrawn_at ha hf ?_) | refine wpAny_bind (wpAny_bind (setDrawn_at ha hf ?_))
  have hdr : (!t.plain && decide (es.size > 1)) = false := by rw [pl]; rfl
  cases hb : w.params.followText "set-order" with
  | true =>
    refine wp_if_neg (by simp) ?_
    first | refine wpAny_bind (wpAny_pure ?_) | refine wpAny_pure ?_
    refine wpAny_bind (wpAny_setEpoch_of ho hd hf ?_)
    refine wpAny_bind (wpAny_newObj_type (wpAny_pure ⟨_, rfl, "set_iterator", _, ⟨_, Heap.get?_push_size _ rfl, rfl⟩, slot_si_next.lookup, ?_⟩))
    refine hQ _ _ (SetIt.of (fun A' hA' => walks_text (P := P) (ep := ep) hA' hne hf hb) (by rw [List.length_map, Array.length_toList]) (fun b u e => Heap.get?_push_of_some _ e) rfl rfl rfl (Nat.le_refl _) (fun b hb' => ?_) ((pick_perm (w.params.setOrder a ep) es).map _)
      (fun j v q => ?_) ⟨⟨_, Heap.get?_push_size _ rfl, rfl, rfl⟩, ha.at fun u e => Heap.get?_push_of_some _ e⟩)
    · simp only [List.mem_cons, List.not_mem_nil, or_false] at hb'
      exact hb'.elim (fun z => .inr (Nat.le_of_eq z.symm)) .inl
    · rw [List.getElem?_map, Array.getElem?_toList]
      exact q
  | false =>
    refine wp_if_neg (by rw [hdr]; simp) ?_
    first | refine wpAny_bind (wpAny_pure ?_) | refine wpAny_pure ?_
    refine wpAny_bind (wpAny_setEpoch_of ho hd hf ?_)
    refine wpAny_bind (wpAny_newObj_type (wpAny_pure ⟨_, rfl, "set_iterator", _, ⟨_, Heap.get?_push_size _ rfl, rfl⟩, slot_si_next.lookup, ?_⟩))
    have hled : t.led = true := hl.resolve_left (by rw [hb]; exact Bool.false_ne_true)
    refine hQ _ _ (SetIt.of (fun A' hA' => walks_led (P := P) (ep := ep) hA' hne hf r hb hdr hled) (by rw [List.length_map, Array.length_toList]) (fun b u e => Heap.get?_push_of_some _ e) rfl rfl rfl (Nat.le_refl _) (fun b hb' => ?_) (List.Perm.refl _)
      (fun j v q => ?_) ⟨⟨_, Heap.get?_push_size _ rfl, rfl, rfl⟩, ha.at fun u e => Heap.get?_push_of_some _ e⟩)
    · simp only [List.mem_cons, List.not_mem_nil, or_false] at hb'
      exact hb'.elim (fun z => .inr (Nat.le_of_eq z.symm)) .inl
    · rw [List.getElem?_map, Array.getElem?_toList]
      exact q
theorem collect_plain {Q : List Value → Shared → Prop} (hh : A.handled = none) (ha : L2.SetAt s.heap a es ep t) (hf : t.fits es.size = true) (pl : t.plain = true) (hz : es.size ≤ sizeLine) (r : Ris t.place.toList)
    (hl : w.params.followText "set-order" = true ∨ t.led = true)
    (hQ : ∀ s' out, (∀ b o, s.heap.get? b = some o → s'.heap.get? b = some o) → s.heap.objs.size ≤ s'.heap.objs.size → s'.gens = s.gens → s'.os = s.os → out.Perm (es.toList.map (·.2)) → Q out s') :
    wpAny (model P w) A (collect (.ref a)) Q E s := by
  obtain ⟨o, ho, hc, hd⟩ := id ha
  have hlt : a < s.heap.objs.size := Heap.lt_size ho
  have hSa : s.heap.objs.size ≠ a := Nat.ne_of_gt hlt
  unfold collect
  refine wpAny_bind (wpAny_runValue (codeAny_builtin F.entry_proto_collect ?_))
  rw [Around.under_plainId F.plain_proto_collect _]
  show wpAny _ A.in1 (newList [] >>= fun l => again (.builtin "list.__iadd__" ⟨[l, .ref a], []⟩)) _ _ s
  refine wpAny_bind (wpAny_newObj_type (wpAny_pure ⟨plainId_quiet F.plain_list_iadd _, codeAny_builtin F.entry_list_iadd ?_⟩))
  rw [Around.under_plainId F.plain_list_iadd _]
  generalize hl0 : ({ cls := .type "list", data := .seq ([] : List Value).toArray } : Obj) = l0
  have hS : (s.heap.push l0).get? s.heap.objs.size = some l0 := Heap.get?_push_size _ (by subst hl0; rfl)
  have hz1 : (s.heap.push l0).objs.size = s.heap.objs.size + 1 := size_push' _ _
  show wpAny _ A.in1 (Builtin.List.listExtendWith (.ref s.heap.objs.size) (.ref a) (.ref s.heap.objs.size)) _ _ _
  unfold Builtin.List.listExtendWith
  refine wpAny_bind (wpAny_typeOf (T := "set") ⟨o, Heap.get?_push_of_some _ ho, hc⟩ ?_)
  have h1 : Builtin.List.listSameRef (.ref s.heap.objs.size) (.ref a) = false := by simp [Builtin.List.listSameRef, hSa]
  have h2 : (Value.type "set" == Value.type "list") = false := by decide
  have h3 : (Value.type "set" == Value.type "tuple") = false := by decide
  simp only [h1, h2, h3, Bool.or_false, Bool.false_eq_true, if_false]
  refine wpAny_bind (iter_plain (s := { s with heap := s.heap.push l0 }) (ha.at fun u e => Heap.get?_push_of_some _ e) hf pl r hl fun s₂ I hit => ?_)
  obtain ⟨fp, St, out, Pv, k2, g2, o2, t2, hI, hfp, hp, hW, hPv, hst⟩ := hit
  have hI' : s.heap.objs.size + 1 ≤ I := by rw [← hz1]; exact hI
  have hSf : s.heap.objs.size ∉ fp := fun hm => (hfp _ hm).elim hSa fun z => by
    have z' : s.heap.objs.size + 1 ≤ s.heap.objs.size := by rw [← hz1]; exact z
    omega
  have ho2 := k2 a o (Heap.get?_push_of_some _ ho)
  have hT2 : s₂.TypeIs (.ref a) "set" := ⟨o, ho2, hc⟩
  refine wpAny_bind (wpAny_holding ?_)
  unfold Builtin.List.listLengthHint
  refine wpAny_bind (wpAny_specialOf hT2 F.slot_set_len.lookup ?_)
  (generalize hid : ("set.__len__" : String) = id0; (fail_if_success (clear hid id0)); wp_delta; rw [show splitId id0 = some ("set", "__len__") from by subst hid; decide +kernel]; subst hid)
  refine wpAny_bind (wpAny_isInstance (b := true) hT2 sub_set_self ?_)
  show wpAny _ A.in1 (typeOf (.ref a) >>= _) _ _ _
  refine wpAny_bind (wpAny_typeOf hT2 (wpAny_pure ?_))
  show wpAny _ A.in1 (rule "list.extend.makes-room" >>= fun _ => Builtin.List.listTouch (.ref s.heap.objs.size) >>= fun _ =>
    again (.builtin "list.extend.loop" ⟨[.ref s.heap.objs.size, .ref I, .ref s.heap.objs.size], []⟩)) _ _ _
  refine wpAny_bind (wpAny_rule ?_)
  have hS2 := k2 _ _ hS
  refine wpAny_bind ?_
  show wpAny _ A.in1 (updateSeq s.heap.objs.size (·.push .none) >>= fun _ => updateSeq s.heap.objs.size (·.pop)) _ _ _
  subst hl0
  refine wpAny_bind (wpAny_updateSeq hS2 rfl ?_)
  have hS3 := Heap.get?_update_self (Obj.mapSeq (·.push Value.none)) hS2 rfl
  refine wpAny_updateSeq hS3 rfl ?_
  have hS4 := Heap.get?_update_self (Obj.mapSeq (·.pop)) hS3 rfl
  have oth : ∀ b u, b ≠ s.heap.objs.size → s₂.heap.get? b = some u → ((s₂.heap.update s.heap.objs.size (Obj.mapSeq (·.push Value.none))).update s.heap.objs.size (Obj.mapSeq (·.pop))).get? b = some u :=
    fun b u hb e => (Heap.get?_update_other _ _ (Ne.symm hb)).trans ((Heap.get?_update_other _ _ (Ne.symm hb)).trans e)
  have hn : out.length ≤ sizeLine := by
    rw [hp.length_eq, List.length_map, Array.length_toList]
    exact hz
  have W := hW A.in1 hh
  have hst2 := W.frame 0 _ _ hst fun b hb u e => oth b u (fun z => hSf (z ▸ hb)) e
  refine wpAny_pure ⟨plainId_quiet F.plain_extend_loop _, codeAny_extend_loopS W.toS hn _ hSf _ out.length 0 _ _ _ rfl (Nat.zero_le _) hst2 hS4 (ItemsOf.nil Pv) fun s' acc' c' hm hS' hacc => ?_⟩
  show wpAny _ A (load s.heap.objs.size >>= _) _ _ s'
  refine wpAny_bind (wpAny_load hS' (wpAny_pure ?_))
  show Q acc'.toList s'
  rw [items_out hacc hPv]
  refine hQ s' out (fun b u e => ?_) (Nat.le_of_lt (Heap.lt_size hS')) (Eq.trans hm.gens g2) (Eq.trans hm.os o2) hp
  have hbl : b < s.heap.objs.size := Heap.lt_size e
  refine hm.heap b u (fun z => ?_) (oth b u (Nat.ne_of_lt hbl) (k2 b u (Heap.get?_push_of_some _ e)))
  simp only [List.mem_cons, List.not_mem_nil, or_false] at z
  rcases z with z | z
  · rw [z] at hbl
    exact Nat.lt_irrefl _ hbl
  · rw [z] at hbl
    exact Nat.lt_irrefl _ (Nat.lt_of_lt_of_le hbl (Nat.le_of_succ_le hI'))
end
end Tb

/-! sorted and len of a set of ints; the way of laying one. -/
namespace Tb
open PySem PySem.Spec PyProof.Rows L2 PySem.SetTable PpSet
section
variable {P : Program} {w : World} {h : Heap} {a : Addr} {L : List RowI} {es : Array (Int × Value)} {ep : Nat} {t : SetTable} {A : Around} {E : Value → Shared → Prop} {s : Shared} {ks : List Int}
theorem sorted_callI (c : CoreI w s.heap a ks) (hh : A.handled = none) (few : ks.length < 9900) {Q : Value → Shared → Prop}
    (hQ : ∀ s' p (out : Array Value) (c : Nat) (ns : List Int), (∀ b o, s.heap.get? b = some o → s'.heap.get? b = some o) → s'.gens = s.gens → s'.os = s.os → s.heap.objs.size ≤ p →
      s'.heap.get? p = some (seqObj "list" out c) → IntsAre out.toList ns → ns.Perm ks → ns.Pairwise (· ≤ ·) → Q (.ref p) s') :
    wpAny (model P w) A (call (.builtin "sorted") [.ref a]) Q E s := by
  obtain ⟨L, es, ep, t, S, rfl⟩ := c
  obtain ⟨o, ho, hex, hd⟩ := S.ob
  have ll : (keysI L).length = L.length := List.length_map _
  rw [ll] at few
  have sz := S.size
  refine Calls.call_function_entry kind_sorted plain_sorted entry_sorted (args_sorted1 _) ?_
  unfold Builtin.«sorted»
  refine wpAny_bind (m := checkCount "sorted" 1 1 _) (wpAny_pure ?_)
  refine wpAny_bind (collect_plain (A := A.in1) hh ⟨o, ho, hex.1, hd⟩ S.fits S.plain (by rw [sz, sizeLine_eq]; omega) S.laid.ris S.led fun s1 vs k1 hz g1 o1 pm => ?_)
  have hes : es.toList.map (·.2) = L.map fun x => x.2.2 := by rw [S.rows, List.map_map]; rfl
  rw [hes] at pm
  have len : vs.length = L.length := by rw [pm.length_eq, List.length_map]
  have shape : ∀ v ∈ vs, ∃ k tk, v = Value.int k tk := fun v hv => by
    obtain ⟨x, hx, rfl⟩ := List.mem_map.mp (pm.mem_iff.mp hv)
    obtain ⟨k, tk, e, _⟩ := S.good x hx
    exact ⟨k, tk, e⟩
  have hi : IntsAre vs (vs.map SrtO.iv) := SrtO.ints_iv shape
  have pk : (vs.map SrtO.iv).Perm (keysI L) := by
    have z := pm.map SrtO.iv
    rw [List.map_map] at z
    have e : L.map (SrtO.iv ∘ fun x => x.2.2) = keysI L := List.map_congr_left fun x hx => by
      obtain ⟨k, tk, e, _⟩ := S.good x hx
      show SrtO.iv x.2.2 = keyOf x.2
      unfold keyOf
      rw [e]
      rfl
    rw [e] at z
    exact z
  refine wpAny_bind (wpAny_newList ?_ (by rw [sizeLine_eq]; omega))
  have hoL : (s1.heap.push (seqObj "list" vs.toArray 0)).get? s1.heap.objs.size = some (seqObj "list" vs.toArray 0) := Heap.get?_push_size _ rfl
  refine wpAny_bind (wpAny_holding (wpAny_call_entry slot_list_sort ⟨_, hoL, rfl⟩ entry_list_sort (SrtO.list_sort_ord (s := { s1 with heap := s1.heap.push (seqObj "list" vs.toArray 0) }) SrtO.swo_int hoL (by rw [sizeLine_eq]; omega) (fun h2 => SrtO.ints_sortable hi h2) fun out q1 q2 => ⟨.none, rfl, ?_⟩) (args_list_sort _)))
  obtain ⟨z1, z2, z3⟩ := SrtO.ints_out hi q1 q2
  obtain ⟨c, hc⟩ := sortedHeap_at (vs := vs) (out := out.toArray) hoL
  refine wpAny_pure ⟨_, rfl, hQ _ s1.heap.objs.size out.toArray c (out.map SrtO.iv) (fun b u q => ?_) g1 o1 hz hc z1 (z2.trans pk) z3⟩
  have q1 := k1 b u q
  have hlt := Heap.lt_size q1
  show (sortedHeap (s1.heap.push (seqObj "list" vs.toArray 0)) s1.heap.objs.size vs out.toArray).get? b = some u
  rw [sortedHeap_old (Nat.ne_of_lt hlt) (by rw [size_push']; exact Nat.lt_succ_of_lt hlt)]
  exact Heap.get?_push_of_some _ q1
end
section
variable {X : Cx}
/-- sorted(a set of ints) -/
def rSortedSI (X : Cx) : List V → Hp → VK → Prop := fun vs H Q => ∃ (a : Addr) (ks : List Int), vs = [.ref a] ∧ H a = some (SetIH X.w a ks) ∧ ks.length < 9900 ∧ ∀ (ns : List Int) l, ns.Perm ks → ns.Pairwise (· < ·) → H l = none → Q (.ref l) (upd H l (.lst (ns.map V.int)))
/-- len(a set of ints) -/
def rLenSI (X : Cx) : List V → Hp → VK → Prop := fun vs H Q => ∃ (a : Addr) (ks : List Int), vs = [.ref a] ∧ H a = some (SetIH X.w a ks) ∧ ks.length < 9900 ∧ (ks.Nodup → Q (.int ks.length) H)
theorem cr_sortedSI (hc : X.calm = true) : CallR X (.builtin "sorted") (rSortedSI X) := by
  intro pins s σ H vs us Q I r h
  obtain ⟨a, ks, rfl, ha, few, q⟩ := h
  have c : CoreI X.w s.heap a ks := (I.hok a _ ha).1
  rw [Vals.ref1 r]
  refine sorted_callI c (I.ok.hd hc) few fun s' p out n ns k g o hp hg hi pm so => ?_
  have hlen : (ns.map V.int).length ≤ sizeLine := by
    rw [List.length_map, pm.length_eq, sizeLine_eq]
    omega
  have hn : H p = none := I.hok.fresh hp
  have J : Inv X pins σ (upd H p (.lst (ns.map V.int))) { s with heap := s'.heap, gens := s'.gens, drawn := s'.drawn, toks := s'.toks } :=
    I.call (ch := []) (Un.laid k hp hn) (I.hok.laid k hp ⟨hlen, out.toList, n, vals_of_ints hi, hg⟩) (by rw [g]; exact I.bare) (fun _ z => nomatch z)
  have e : s' = { s with heap := s'.heap, gens := s'.gens, drawn := s'.drawn, toks := s'.toks } := by
    cases s'
    cases s
    cases o
    rfl
  rw [e]
  exact ⟨.ref p, _, J, rfl, q ns p pm (lt_of_le_nodup ns so (pm.nodup_iff.mpr c.nd)) hn⟩
theorem cr_lenSI : CallR X (.builtin "len") (rLenSI X) := by
  intro pins s σ H vs us Q I r h
  obtain ⟨a, ks, rfl, ha, few, q⟩ := h
  obtain ⟨L, es, ep, t, S, rfl⟩ : CoreI X.w s.heap a ks := (I.hok a _ ha).1
  obtain ⟨o, ho, hex, hd⟩ := S.ob
  have ll : (keysI L).length = es.size := by rw [S.size]; exact List.length_map _
  rw [Vals.ref1 r]
  exact call_len_set ho hex hd S.fits (by rw [← ll]; omega) ⟨.int (keysI L).length, H, I.tok _, ⟨_, by rw [ll]⟩, q S.nd⟩
/-- one int more -/
def NextI (X : Cx) (D : Addr) (y : V) (H : Hp) (Nx : Hp → Prop) : Prop := ∃ (k : Int) (ks : List Int), y = .int k ∧ H D = some (SetIH X.w D ks) ∧ Fine ks.length (k :: ks) ∧ ks.length + 1 < 9900 ∧ ∀ qs, AddedI ks k qs → Nx (upd H D (SetIH X.w D qs))
theorem add_okI {Y : Cx} (e1 : Y.prog = X.prog) (e2 : Y.w = X.w) {pins : List (Addr × Obj)} {σ : L2.St} {H : Hp} {s : Shared} {E : Value → Shared → Prop} {D : Addr} {k : Int} {tk : Tok} {ks : List Int} {Q : Value → Shared → Prop} (I : Inv Y pins σ H s)
    (hD : H D = some (SetIH X.w D ks)) (fine : Fine ks.length (k :: ks)) (few : ks.length + 1 < 9900) (h : ∀ qs s', AddedI ks k qs → Inv Y pins σ (upd H D (SetIH X.w D qs)) s' → Q .none s') :
    wpAny (model X.prog X.w) Y.A (call (.builtin "set.add") [.ref D, .int k tk]) Q E s := by
  have c : CoreI X.w s.heap D ks := (I.hok D _ hD).1
  refine add_callI c fine few fun h' tk qs sb c' ad => ?_
  have there : ∃ o, h'.get? D = some o := by
    obtain ⟨_, _, _, _, S, _⟩ := c'
    obtain ⟨o, ho, _⟩ := S.ob
    exact ⟨o, ho⟩
  refine h qs _ ad (I.write (e := D) (t' := tk) (by rw [hD]; trivial) (.inl rfl) (fun b o nb ho => (sb.2 b nb).trans ho) there ?_)
  rw [e1, e2]
  exact setIH_new c'
/-- sets of ints -/
def wayI (X : Cx) : Way X where
  emp D := SetIH X.w D []
  new H h := setIH_new coreI_new
  more := NextI X
  goes := fun {Y pins σ H s E D y v Nx Q} e1 e2 e3 hu I r ⟨k, ks, ey, hD, fine, few, nx⟩ hQ => by
    subst ey
    obtain ⟨tk, rfl⟩ := r
    exact add_okI e1 e2 I hD fine few fun qs s' ad I' => hQ s' _ I' (nx qs ad)
end
end Tb

/-! sorted({elt for target in iter}) and len of it, the items ints. -/
namespace Tr
open PySem PySem.Spec PyProof.Rows L2 Md Tb
/-- the set at D0 has these ints -/
def SetJ (w0 : World) (H : Hp) (D0 : Addr) (ys : List D) : Prop := ∃ ks : List Int, H D0 = some (SetIH w0 D0 ks) ∧ ks.length ≤ ys.length ∧ (∀ k ∈ ks, D.int k ∈ ys) ∧ ∀ y ∈ ys, ∃ k ∈ ks, y = D.int k
section
variable {K : PySem.W.Frag} {ca : CA} {W : WX} {O O' S : Addr → Prop} {H H0 H1 H2 H' : Hp} {σ σ1 σ2 σ' : L2.St} {ε ε1 ε2 ε' p p' : TEnv} {a : Addr} {d d' : D} {v : V} {Q : VK} {E : Ends} {i : Nat} {k : Nat} {vs : List Nat} {P0 : Program} {w0 : World}
theorem SetJ.step {D0 : Addr} {ys : List D} (y : SetJ w0 H D0 ys) (hD : ∀ o, H D0 = some o → H' D0 = some o) : SetJ w0 H' D0 ys := by
  obtain ⟨ks, h, r⟩ := y
  exact ⟨ks, hD _ h, r⟩
/-- a set comprehension's state between its turns -/
structure CIj (P0 : Program) (w0 : World) (K : PySem.W.Frag) (ca : CA) (O : Addr → Prop) (σw : L2.St) (εw : TEnv) (B : Hp) (D0 : Addr) (Hk : Hp) (εk : TEnv) (ys : List D) : Prop where
  env : EnvR K ca O Hk σw εk
  fr : ∀ b o, b ≠ D0 → B b = some o → ¬ Own σw εw b → Hk b = some o
  th : ∀ b, b ≠ D0 → Hk b = none → B b = none
  le : Le εw εk
  set : SetJ w0 Hk D0 ys
/-- the loop of a comprehension: TR tells what a turn wants -/
theorem int_walk {turn : D → TEnv → Option (List D × TEnv)} {TR : V → Hp → (Hp → Prop) → Prop} {ds : List D} {J : It} {D0 : Addr} {B B1 : Hp} {src : Option Nat} {ys0 zs0 : List D} {εf : TEnv} {Fin : Hp → Prop}
    (oD : O D0) (R : EnvR K ca O' B1 σ ε) (nv : ∀ i ∈ vs, slOwn ε i = false) (hO : ∀ b, O b → O' b ∨ B1 b = none) (hD : ∀ o, B1 D0 = some o → O' D0 ∧ tupO o = false) (B1B : ∀ b o, b ≠ D0 → B1 b = some o → B b = some o)
    (walk : WalkD K ca O' σ ε B1 J ds src) (C0 : CIj P0 w0 K ca O (L2.wipe σ vs) (wipeE ε vs) B D0 B (wipeE ε vs) ys0) (e : loopG turn (chkC ε src) ds (wipeE ε vs) = some (zs0, εf)) 
    (wiped : ∀ d εk w, turn d εk = some w → ∃ ε0, w.2 = wipeE ε0 vs)
    (step : ∀ {x : V} {d : D} {εk : TEnv} {ys : List D} {w : List D × TEnv} {Hk H3 : Hp} {Nx : Hp → Prop}, CIj P0 w0 K ca O (L2.wipe σ vs) (wipeE ε vs) B D0 Hk εk ys → (∃ ε0, εk = wipeE ε0 vs) → Same Hk H3 → Rep K ca (Or2 O (Own (L2.wipe σ vs) εk)) H3 x d → turn d εk = some w → (∃ r, ys0 ++ zs0 = (ys ++ w.1) ++ r) →
      (∀ H', CIj P0 w0 K ca O (L2.wipe σ vs) (wipeE ε vs) B D0 H' w.2 (ys ++ w.1) → Nx H') → TR x H3 Nx)
    (fin : ∀ H', CIj P0 w0 K ca O (L2.wipe σ vs) (wipeE ε vs) B D0 H' εf (ys0 ++ zs0) → (∃ ε0, εf = wipeE ε0 vs) → Fin H') :
    ∃ Wi : Nat → Nat → Hp → Prop, (∃ m, Wi 0 m B) ∧ ∀ i m H, Wi i m H →
      (J.stop i H ∧ Fin H) ∨ (J.go i H ∧ ∃ Nx : Hp → Prop, (∀ H', Nx H' → ∃ m', m' < m ∧ Wi (i + 1) m' H') ∧ ∀ x H', J.yld i H x H' → TR x H' Nx) := by
  refine ⟨fun i m H => m = ds.length - i ∧ i ≤ ds.length ∧ ∃ εk ys zs, CIj P0 w0 K ca O (L2.wipe σ vs) (wipeE ε vs) B D0 H εk ys ∧ (∃ ε0, εk = wipeE ε0 vs) ∧ chkC ε src εk ∧ loopG turn (chkC ε src) (ds.drop i) εk = some (zs, εf) ∧ ys0 ++ zs0 = ys ++ zs,
    ⟨ds.length, rfl, Nat.zero_le _, wipeE ε vs, ys0, zs0, C0, ⟨ε, rfl⟩, ?_, e, rfl⟩, ?_⟩
  · unfold chkC
    split
    · rename_i i
      intro o
      exact wipeE_out fun c => by rw [nv i c] at o; cases o
    · trivial
  rintro i m Hk ⟨hm, hle, εk, ys, zs, C, hw, ck, e1, e2⟩
  have w := walk (Or2 O (Own (L2.wipe σ vs) εk)) Hk (fun b o hb z => by
    by_cases n : b = D0
    · subst n
      obtain ⟨h1, h2⟩ := hD o hb
      rw [h2] at z
      exact absurd (z (.inl h1)) Bool.false_ne_true
    · refine C.fr b o n (B1B b o n hb) fun y => ?_
      obtain ⟨_, d1, tp⟩ := R.owned ((own_wiped nv).mp y)
      rw [tp.mut hb] at z
      exact absurd (z (.inr ((own_wiped nv).mp y))) Bool.false_ne_true) (fun b z => by
    rcases z with z | z
    · exact (hO b z).elim (fun y => .inl (.inl y)) .inr
    · exact .inl (.inr ((own_wiped nv).mp (C.le.own z)))) (fun j hj => by
    intro d k hd ho
    subst hj
    have o : slOwn ε j = true := by rw [slOwn_of hd]; exact ho
    have cj : j ∉ vs := fun c => by rw [nv j c] at o; cases o
    have hk : εk[j]? = some (some (d, k)) := (ck o).trans hd
    obtain ⟨a, e3, _, tp⟩ := C.env.own j d k hk ho
    exact ⟨a, by rw [← wipe_out cj]; exact e3, tp⟩)
  by_cases hlt : i < ds.length
  · refine .inr ⟨(w.1 i hlt).1, fun H' => ∃ εk ys zs, CIj P0 w0 K ca O (L2.wipe σ vs) (wipeE ε vs) B D0 H' εk ys ∧ (∃ ε0, εk = wipeE ε0 vs) ∧ chkC ε src εk ∧ loopG turn (chkC ε src) (ds.drop (i + 1)) εk = some (zs, εf) ∧ ys0 ++ zs0 = ys ++ zs, fun H' z => ⟨ds.length - (i + 1), by omega, rfl, hlt, z⟩, fun x H' y => ?_⟩
    obtain ⟨sm, d, hd, rd⟩ := (w.1 i hlt).2 x H' y
    rw [List.drop_eq_getElem_cons hlt] at e1
    have ed : ds[i] = d := by
      rw [List.getElem?_eq_getElem hlt] at hd
      exact Option.some.inj hd
    rw [ed] at e1
    obtain ⟨u, zs', t1, t2, t3, t4⟩ := loopG_some e1
    simp only at t4
    have e5 : ys0 ++ zs0 = (ys ++ u.1) ++ zs' := by rw [e2, t4, List.append_assoc]
    exact step C hw sm rd t1 ⟨zs', e5⟩ fun H'' C' => ⟨_, _, zs', C', wiped _ _ _ t1, t2, t3, e5⟩
  · have ei : i = ds.length := by omega
    subst ei
    rw [List.drop_length] at e1
    cases e1
    rw [List.append_nil] at e2
    exact .inl ⟨w.2, fin Hk (by rw [e2]; exact C) hw⟩
/-- within a turn: behind the target's store -/
structure MidJ (P0 : Program) (w0 : World) (K : PySem.W.Frag) (ca : CA) (O : Addr → Prop) (σ : L2.St) (vs : List Nat) (ε : TEnv) (B : Hp) (D0 : Addr) (σ2 : L2.St) (ε2 : TEnv) (H2 : Hp) (ys : List D) : Prop where
  env : EnvR K ca O H2 σ2 ε2
  wp : L2.wipe σ2 vs = L2.wipe σ vs
  fr : ∀ b o, b ≠ D0 → B b = some o → ¬ Own (L2.wipe σ vs) (wipeE ε vs) b → H2 b = some o
  th : ∀ b, b ≠ D0 → H2 b = none → B b = none
  own : ∀ b, Own σ2 ε2 b → Own (L2.wipe σ vs) (wipeE ε vs) b
  le : Le (wipeE ε vs) (wipeE ε2 vs)
  set : SetJ w0 H2 D0 ys
theorem MidJ.step {D0 : Addr} {B : Hp} {ys : List D} (oD : O D0) (M : MidJ P0 w0 K ca O σ vs ε B D0 σ2 ε2 H2 ys) (s : Stp K ca O σ2 ε2 H2 ε' H') : MidJ P0 w0 K ca O σ vs ε B D0 σ2 ε' H' ys := by
  have nD : ¬ Own σ2 ε2 D0 := fun z => (M.env.owned z).1 oD
  refine ⟨s.env, M.wp, fun b o ne h n => s.fr b o (M.fr b o ne h n) fun z => n (M.own b z), fun b ne h => M.th b ne (s.th b h), fun b z => M.own b (s.le.own z), M.le.trans ?_, M.set.step fun o h => s.fr _ _ h nD⟩
  refine ⟨by rw [wipeE_len, wipeE_len, s.le.len], fun j t ht => ?_⟩
  by_cases c : j ∈ vs
  · have lj : j < ε2.length := by
      have := (List.getElem?_eq_some_iff.mp ht).1
      rw [wipeE_len] at this
      exact this
    rw [wipeE_in c lj] at ht
    cases ht
    exact ⟨none, wipeE_in c (by rw [s.le.len]; exact lj), rfl⟩
  · rw [wipeE_out c] at ht
    obtain ⟨t', h', q⟩ := s.le.at_ j t ht
    exact ⟨t', by rw [wipeE_out c]; exact h', q⟩
/-- the store of a turn's item -/
theorem CIj.bind {D0 : Addr} {B Hk H3 : Hp} {εk : TEnv} {ys : List D} {t : TgT} {x : V} {P : L2.St → Hp → Prop} (oD : O D0) (C : CIj P0 w0 K ca O (L2.wipe σ vs) (wipeE ε vs) B D0 Hk εk ys) (hw : ∃ ε0, εk = wipeE ε0 vs) (sub : ∀ i ∈ t.ns, i ∈ vs) (sm : Same Hk H3)
    (rx : Rep K ca (Or2 O (Own (L2.wipe σ vs) εk)) H3 x d) (eb : bindG t d εk = some ε2) (p : ∀ σ2, MidJ P0 w0 K ca O σ vs ε B D0 σ2 ε2 H3 ys → P σ2 H3) : tGv K ca t x (L2.wipe σ vs) H3 P := by
  refine ⟨O, εk, d, ε2, C.env.same sm, rx, eb, fun σ2 s2 els => p σ2 ?_⟩
  have lσ : σ2.length = σ.length := by
    have h1 := s2.env.len
    have h2 := s2.len
    have h3 := C.env.len
    rw [wipe_length] at h3
    omega
  have wp : L2.wipe σ2 vs = L2.wipe σ vs := wipe_same lσ fun j hj => by
    have z := els j fun y => hj (sub j y)
    rw [wipe_out hj] at z
    exact z
  have ownk : ∀ b, Own σ2 ε2 b → Own (L2.wipe σ vs) εk b := fun b z => by
    obtain ⟨j, d1, k1, h1, h2, h3⟩ := z
    by_cases c : j ∈ t.ns
    · exact (s2.new b ⟨j, d1, k1, h1, h2, h3⟩).elim id fun q => by
        obtain ⟨_, dd, tt⟩ := s2.env.owned ⟨j, d1, k1, h1, h2, h3⟩
        exact absurd q tt.there
    · rw [bindG_out eb c] at h1
      rw [els j c] at h3
      exact ⟨j, d1, k1, h1, h2, h3⟩
  obtain ⟨ε0, ek⟩ := hw
  have len2 : ε2.length = ε0.length := by rw [s2.len, ek, wipeE_len]
  refine ⟨s2.env, wp, fun b o ne h n => sm _ _ (C.fr b o ne h n), fun b ne h => C.th b ne (sm.free h), fun b z => C.le.own (ownk b z), ?_, C.set.step fun o h => sm _ _ h⟩
  have l0 : Le (wipeE ε vs) (wipeE ε0 vs) := by
    rw [← ek]
    exact C.le
  exact l0.wiped (Le.refl ε2) len2 fun j hj => by rw [bindG_out eb fun y => hj (sub j y), ek]
/-- behind the last turn -/
theorem CIj.fin {D0 : Addr} {e0 : HO} {Hn : Hp} {εn : TEnv} {ys : List D} (R : EnvR K ca O H1 σ ε) (nv : ∀ i ∈ vs, slOwn ε i = false) (nD : H1 D0 = none) (C : CIj P0 w0 K ca (With O D0) (L2.wipe σ vs) (wipeE ε vs) (upd H1 D0 e0) D0 Hn εn ys) (hw : ∃ ε0, εn = wipeE ε0 vs) :
    Stp K ca O σ ε H1 (restE ε εn vs) Hn ∧ EnvR K ca (With O D0) Hn σ (restE ε εn vs) ∧ SetJ w0 Hn D0 ys := by
  have neD : ∀ {b : Addr} {o : HO}, H1 b = some o → b ≠ D0 := fun {b o} h e => by rw [e, nD] at h; cases h
  have ln : εn.length = ε.length := by
    have := C.le.len
    rw [wipeE_len] at this
    exact this
  obtain ⟨ε0, ee⟩ := hw
  have at_ : ∀ {j : Nat} {d : D} {k : Nat}, (restE ε εn vs)[j]? = some (some (d, k)) → (j ∈ vs ∧ ε[j]? = some (some (d, k)) ∧ ownF k = false) ∨ (j ∉ vs ∧ εn[j]? = some (some (d, k)) ∧ (L2.wipe σ vs)[j]? = σ[j]?) := fun {j d k} h => by
    have lj : j < εn.length := by
      have := (List.getElem?_eq_some_iff.mp h).1
      rw [restE_len] at this
      exact this
    by_cases c : j ∈ vs
    · rw [restE_in c lj] at h
      cases q : ε[j]? with
      | none =>
        rw [q] at h
        cases h
      | some s =>
        rw [q] at h
        simp only [Option.getD_some, Option.some.injEq] at h
        subst h
        have z := nv j c
        rw [slOwn_of q] at z
        exact .inl ⟨c, rfl, z⟩
    · rw [restE_out c] at h
      exact .inr ⟨c, h, wipe_out c⟩
  have own2 : ∀ b, Own σ (restE ε εn vs) b → Own (L2.wipe σ vs) εn b := fun b ⟨j, d, k, h1, h2, h3⟩ => by
    rcases at_ h1 with ⟨_, _, z⟩ | ⟨_, h4, e⟩
    · rw [z] at h2
      cases h2
    · exact ⟨j, d, k, h4, h2, by rw [e]; exact h3⟩
  have own1 : ∀ b, Own σ (restE ε εn vs) b → Own σ ε b := fun b z => (own_wiped nv).mp (C.le.own (own2 b z))
  have fr : ∀ b o, H1 b = some o → ¬ Own σ ε b → Hn b = some o := fun b o h n => C.fr b o (neD h) (by rw [upd_ne (neD h)]; exact h) fun z => n ((own_wiped nv).mp z)
  have th : ∀ b, Hn b = none → H1 b = none := fun b h => by
    by_cases e : b = D0
    · rw [e]
      exact nD
    · have z := C.th b e h
      rw [upd_ne e] at z
      exact z
  have env : EnvR K ca (With O D0) Hn σ (restE ε εn vs) := by
    have sub1 : ∀ b, Or2 (With O D0) (Own σ (restE ε εn vs)) b → Or2 O (Own σ ε) b ∨ H1 b = none := fun b z => by
      rcases z with (z | z) | z
      · exact .inl (.inl z)
      · exact .inr (by rw [z]; exact nD)
      · exact .inl (.inr (own1 b z))
    have sub2 : ∀ b, Or2 (With O D0) (Own σ (restE ε εn vs)) b → Or2 (With O D0) (Own (L2.wipe σ vs) εn) b ∨ Hn b = none := fun b z => .inl (z.elim .inl fun y => .inr (own2 b y))
    have kk : Kp (Or2 (With O D0) (Own (L2.wipe σ vs) εn)) Hn Hn := fun _ _ h _ => h
    refine ⟨by rw [restE_len, ln]; exact R.len, fun j d k h n => ?_, fun j d k h n => ?_, fun i j d k d' k' a h n h' n' e1 e2 => ?_, C.env.out⟩
    · rcases at_ h with ⟨_, h0, _⟩ | ⟨_, h4, e⟩
      · obtain ⟨w, e1, r⟩ := R.shr j d k h0 n
        exact ⟨w, e1, r.step sub1 (R.kp fr)⟩
      · obtain ⟨w, e1, r⟩ := C.env.shr j d k h4 n
        exact ⟨w, by rw [← e]; exact e1, r.step sub2 kk⟩
    · rcases at_ h with ⟨_, h0, z⟩ | ⟨_, h4, e⟩
      · rw [z] at n
        cases n
      · obtain ⟨w, e1, nw, t⟩ := C.env.own j d k h4 n
        exact ⟨w, by rw [← e]; exact e1, nw, t.step sub2 kk fun _ z => z⟩
    · rcases at_ h with ⟨_, h0, z⟩ | ⟨_, h4, e⟩
      · rw [z] at n
        cases n
      · rcases at_ h' with ⟨_, h0', z'⟩ | ⟨_, h4', e'⟩
        · rw [z'] at n'
          cases n'
        · exact C.env.inj i j d k d' k' a h4 n h4' n' (by rw [e]; exact e1) (by rw [e']; exact e2)
  refine ⟨⟨⟨by rw [restE_len, ln], fun j s hs => ?_⟩, fr, th, env.part⟩, env, C.set.step fun _ h => h⟩
  have lj : j < εn.length := by
    rw [ln]
    exact (List.getElem?_eq_some_iff.mp hs).1
  by_cases c : j ∈ vs
  · refine ⟨s, ?_, leS.refl s⟩
    rw [restE_in c lj, hs]
    rfl
  · obtain ⟨s', h', q⟩ := C.le.at_ j s (by rw [wipeE_out c]; exact hs)
    exact ⟨s', by rw [restE_out c]; exact h', q⟩

/-- the end of a turn -/
theorem MidJ.done {D0 : Addr} {B : Hp} {ys zs : List D} {ks qs : List Int} (oD : O D0) (M : MidJ P0 w0 K ca O σ vs ε B D0 σ2 ε2 H2 ys) (hD : H2 D0 = some (SetIH w0 D0 ks)) (l : qs.length ≤ zs.length) (r : ∀ k ∈ qs, D.int k ∈ zs) (q : ∀ y ∈ zs, ∃ k ∈ qs, y = D.int k) :
    CIj P0 w0 K ca O (L2.wipe σ vs) (wipeE ε vs) B D0 (upd H2 D0 (SetIH w0 D0 qs)) (wipeE ε2 vs) zs := by
  obtain ⟨Rw, oww⟩ := M.env.wipe (vs := vs)
  rw [M.wp] at Rw oww
  obtain ⟨R5, kp5⟩ := EnvR.outerS (o' := SetIH w0 D0 qs) Rw oD hD rfl
  exact ⟨R5, fun b o ne h n => by rw [upd_ne ne]; exact M.fr b o ne h n, fun b ne h => by rw [upd_ne ne] at h; exact M.th b ne h, M.le, qs, upd_same, l, r, q⟩
end
/-- ints that one set may hold -/
def okJ (ns : List Int) : Prop := ns.length < 9900 ∧ (ns.length ≤ 4096 ∨ ∀ k ∈ ns, Sm k)
/-- the unlike ones of some ints -/
def ddJ : List Int → List Int
  | [] => []
  | k :: ks => if k ∈ ddJ ks then ddJ ks else k :: ddJ ks
theorem mem_ddJ {k : Int} : ∀ {ks : List Int}, k ∈ ddJ ks ↔ k ∈ ks
  | [] => by simp [ddJ]
  | j :: ks => by
    unfold ddJ
    have ih := mem_ddJ (k := k) (ks := ks)
    split
    · rename_i h
      rw [List.mem_cons]
      constructor
      · exact fun z => .inr (ih.mp z)
      · rintro (z | z)
        · rw [z]; exact h
        · exact ih.mpr z
    · rw [List.mem_cons, List.mem_cons, ih]
theorem nodup_ddJ : ∀ ks : List Int, (ddJ ks).Nodup
  | [] => List.Pairwise.nil
  | j :: ks => by
    unfold ddJ
    split
    · exact nodup_ddJ ks
    · rename_i h
      exact List.nodup_cons.mpr ⟨h, nodup_ddJ ks⟩
/-- .. sorted -/
def sortJ (ks : List Int) : List Int := (ddJ ks).mergeSort fun a b => decide (a ≤ b)
theorem up_unique : ∀ {l m : List Int}, l.Pairwise (· < ·) → m.Pairwise (· < ·) → (∀ k, k ∈ l ↔ k ∈ m) → l = m := by
  intro l m hl hm e
  have p : l.Perm m := (List.perm_ext_iff_of_nodup (hl.imp fun h => Int.ne_of_lt h) (hm.imp fun h => Int.ne_of_lt h)).mpr e
  exact p.eq_of_pairwise (fun a b _ _ h1 h2 => absurd (Int.lt_trans h1 h2) (Int.lt_irrefl a)) hl hm
theorem up_sortJ (ks : List Int) : (sortJ ks).Pairwise (· < ·) := by
  refine L2.lt_of_le_nodup _ ?_ ((List.mergeSort_perm _ _).nodup_iff.mpr (nodup_ddJ ks))
  have := List.pairwise_mergeSort (le := fun a b : Int => decide (a ≤ b)) (fun a b c h1 h2 => by simp only [decide_eq_true_eq] at *; omega) (fun a b => by simp only [Bool.or_eq_true, decide_eq_true_eq]; omega) (ddJ ks)
  exact this.imp fun h => of_decide_eq_true h
theorem mem_sortJ {k : Int} {ks : List Int} : k ∈ sortJ ks ↔ k ∈ ks := by
  unfold sortJ
  rw [List.mem_mergeSort, mem_ddJ]
theorem sortJ_eq {ks l : List Int} (h : l.Pairwise (· < ·)) (m : ∀ k, k ∈ l ↔ k ∈ ks) : sortJ ks = l := up_unique (up_sortJ ks) h fun k => by rw [mem_sortJ, m k]
theorem sortJ_self {l : List Int} (h : l.Pairwise (· < ·)) : sortJ l = l := sortJ_eq h fun _ => Iff.rfl
open Classical in
noncomputable def fSortJ (ys : List D) : Option (List Int) := match toIs ys with
  | some ns => if okJ ns then some (sortJ ns) else none
  | none => none
theorem toIs_intsJ : ∀ {ys : List D} {ns : List Int}, toIs ys = some ns → ys = ns.map D.int
  | [], ns, h => by cases h; rfl
  | y :: ys, ns, h => by
    cases y with
    | int i =>
      unfold toIs at h
      cases q : toIs ys with
      | none => rw [q] at h; cases h
      | some m =>
        rw [q] at h
        cases h
        rw [List.map_cons, ← toIs_intsJ q]
    | _ => cases h
theorem fSortJ_some {ys : List D} {r : List Int} (h : fSortJ ys = some r) : ∃ ns, ys = ns.map D.int ∧ okJ ns ∧ r = sortJ ns := by
  unfold fSortJ at h
  split at h
  · rename_i ns e
    split at h
    · rename_i c
      cases h
      exact ⟨ns, toIs_intsJ e, c, rfl⟩
    · cases h
  · cases h
/-- of the set's ints -/
noncomputable def ofSetT (fin : List Int → D × Bool) (it : IT) (t : TgT) (cond : GT) (elt : ET) (vs : List Nat) : ET := fun ε => bindE (it ε) fun x ε1 =>
  if noOwn ε1 vs = true then match loopG (turn1 t cond elt vs) (chkC ε1 x.2) x.1 (wipeE ε1 vs) with
    | some z => match fSortJ z.1 with
      | some r => some (.ok (fin r) (restE ε1 z.2 vs))
      | none => none
    | none => none
  else none
abbrev finSrt (r : List Int) : D × Bool := (.lst (r.map D.int), true)
abbrev finLen (r : List Int) : D × Bool := (.int r.length, false)
noncomputable abbrev sortedIT (it : IT) (t : TgT) (cond : GT) (elt : ET) (vs : List Nat) : ET := ofSetT finSrt it t cond elt vs
noncomputable abbrev lenIT (it : IT) (t : TgT) (cond : GT) (elt : ET) (vs : List Nat) : ET := ofSetT finLen it t cond elt vs
section
variable {X : Cx} {ca : CA} {W : WX} {O O' S : Addr → Prop} {H H0 H1 H2 H' : Hp} {σ σ1 σ2 σ' : L2.St} {ε ε1 ε2 ε' p p' : TEnv} {a : Addr} {d d' : D} {v : V} {Q : VK} {i : Nat} {k : Nat} {vs : List Nat}
/-- what an element wants -/
theorem int_turn_end {D0 : Addr} {B : Hp} {ys : List D} {elt : ET} {Nx : Hp → Prop} {y : D × Bool} {key : Int} (oD : O D0) (M : MidJ X.prog X.w X.K ca O σ vs ε B D0 σ2 ε2 H2 ys) (e : elt ε2 = some (.ok y ε')) (ek : y.1 = .int key) (fine : (ys ++ [y.1]).length ≤ 4096 ∨ ∀ k, D.int k ∈ ys ++ [y.1] → Sm k) (few : (ys ++ [y.1]).length < 9900)
    (nx : ∀ H', CIj X.prog X.w X.K ca O (L2.wipe σ vs) (wipeE ε vs) B D0 H' (wipeE ε' vs) (ys ++ [y.1]) → Nx H') : tEv X.K ca WF elt σ2 H2 fun v H4 => NextI X D0 v H4 Nx := by
  refine ⟨O, ε2, _, M.env, e, fun v H5 s5 rv => ?_⟩
  have M5 := M.step oD s5
  obtain ⟨ks, hD, l, r, q⟩ := M5.set
  have rr := rv.rep
  rw [ek] at rr
  cases rr
  rw [List.length_append, List.length_singleton] at few fine
  refine ⟨key, ks, rfl, hD, ?_, by omega, fun qs ad => nx _ ?_⟩
  · refine fine.imp (fun z => by omega) fun z k hk => ?_
    rcases List.mem_cons.mp hk with e1 | hk
    · exact z k (List.mem_append_right _ (List.mem_singleton.mpr (by rw [ek, e1])))
    · exact z k (List.mem_append_left _ (r k hk))
  · by_cases c : key ∈ ks
    · have pm := ad.1 c
      refine M5.done oD hD (by rw [pm.length_eq, List.length_append]; omega) (fun k hk => List.mem_append_left _ (r k (pm.mem_iff.mp hk))) fun z hz => ?_
      rcases List.mem_append.mp hz with hz | hz
      · obtain ⟨k, hk, e1⟩ := q z hz
        exact ⟨k, pm.mem_iff.mpr hk, e1⟩
      · exact ⟨key, pm.mem_iff.mpr c, by rw [List.mem_singleton.mp hz, ek]⟩
    · have pm := ad.2 c
      refine M5.done oD hD (by rw [pm.length_eq, List.length_append, List.length_cons, List.length_singleton]; omega) (fun k hk => ?_) fun z hz => ?_
      · rcases List.mem_cons.mp (pm.mem_iff.mp hk) with e1 | hk
        · exact List.mem_append_right _ (List.mem_singleton.mpr (by rw [ek, e1]))
        · exact List.mem_append_left _ (r k hk)
      · rcases List.mem_append.mp hz with hz | hz
        · obtain ⟨k, hk, e1⟩ := q z hz
          exact ⟨k, pm.mem_iff.mpr (List.mem_cons_of_mem _ hk), e1⟩
        · exact ⟨key, pm.mem_iff.mpr List.mem_cons_self, by rw [List.mem_singleton.mp hz, ek]⟩
theorem int_turn_none {D0 : Addr} {B : Hp} {ys : List D} {Nx : Hp → Prop} (oD : O D0) (M : MidJ X.prog X.w X.K ca O σ vs ε B D0 σ2 ε2 H2 ys) (nx : ∀ H', CIj X.prog X.w X.K ca O (L2.wipe σ vs) (wipeE ε vs) B D0 H' (wipeE ε2 vs) ys → Nx H') : Nx H2 := by
  obtain ⟨ks, hD, l, r, q⟩ := M.set
  have C := M.done oD hD l r q
  have same : upd H2 D0 (SetIH X.w D0 ks) = H2 := by
    funext b
    by_cases e : b = D0
    · rw [e, upd_same, hD]
    · exact upd_ne e
  rw [same] at C
  exact nx _ C
theorem int_turn {D0 : Addr} {B Hk H3 : Hp} {εk : TEnv} {ys : List D} {t : TgT} {x : V} {cond : GT} {elt : ET} {Nx : Hp → Prop} {w : List D × TEnv} (oD : O D0) (sub : ∀ i ∈ t.ns, i ∈ vs) (C : CIj X.prog X.w X.K ca O (L2.wipe σ vs) (wipeE ε vs) B D0 Hk εk ys) (hw : ∃ ε0, εk = wipeE ε0 vs) (sm : Same Hk H3)
    (rx : Rep X.K ca (Or2 O (Own (L2.wipe σ vs) εk)) H3 x d) (e : turn1 t cond elt vs d εk = some w) (ck : ∀ z ∈ ys ++ w.1, ∃ k, z = D.int k) (fine : (ys ++ w.1).length ≤ 4096 ∨ ∀ k, D.int k ∈ ys ++ w.1 → Sm k) (few : (ys ++ w.1).length < 9900) (nx : ∀ H', CIj X.prog X.w X.K ca O (L2.wipe σ vs) (wipeE ε vs) B D0 H' w.2 (ys ++ w.1) → Nx H') :
    turnS (wayI X) D0 (tGv X.K ca t) (tTv X.K ca WF cond) (tEv X.K ca WF elt) σ vs x H3 Nx := by
  unfold turn1 at e
  split at e
  · cases e
  · rename_i ε2 eb
    refine C.bind oD hw sub sm rx eb fun σ2 M => ⟨M.wp, ?_⟩
    split at e
    · rename_i ε3 h1
      split at e
      · rename_i y ε4 h2
        cases e
        obtain ⟨key, ek⟩ := ck y.1 (List.mem_append_right _ (List.mem_singleton.mpr rfl))
        exact ⟨O, ε2, _, M.env, h1, fun H4 s4 => iteT (int_turn_end oD (M.step oD s4) h2 ek fine few nx)⟩
      · cases e
    · rename_i ε3 h1
      cases e
      rw [List.append_nil] at nx
      exact ⟨O, ε2, _, M.env, h1, fun H4 s4 => iteF (int_turn_none oD (M.step oD s4) nx)⟩
    · cases e
/-- what is done with the set: fin tells it -/
def FinJ (X : Cx) (ca : CA) (r : List V → Hp → VK → Prop) (fin : List Int → D × Bool) : Prop := ∀ {S : Addr → Prop} {H : Hp} {D0 : Addr} {ks ns : List Int} {Q : VK}, H D0 = some (SetIH X.w D0 ks) → ks.length < 9900 → (∀ k, k ∈ ks ↔ k ∈ ns) →
  (∀ v H', Same H H' → NewR X.K ca S H H' v (fin (sortJ ns)) → Q v H') → r [.ref D0] H Q
theorem ofSetT_read {r : List V → Hp → VK → Prop} {fin : List Int → D × Bool} (F : FinJ X ca r fin) {it : IT} {t : TgT} {cond : GT} {elt : ET} (sub : ∀ i ∈ t.ns, i ∈ vs) (h : tEv X.K ca W (ofSetT fin it t cond elt vs) σ H Q) :
    tSW (wayI X) (tIv X.K ca W it) (tGv X.K ca t) (tTv X.K ca WF cond) (tEv X.K ca WF elt) vs σ H fun v H' => r [v] H' Q := by
  obtain ⟨O, ε, r0, R, e, p⟩ := h
  unfold ofSetT at e
  cases q : it ε with
  | none => rw [q] at e; cases e
  | some r1 =>
    rw [q] at e
    refine ⟨O, ε, r1, R, q, ?_⟩
    cases r1 with
    | ex c d ε1 =>
      cases e
      exact p
    | ok x ε1 =>
      intro J H1 s w D0 nD
      rw [bindE_ok] at e
      split at e
      · rename_i c
        have nv := noOwn_all c
        split at e
        · rename_i zf e1
          split at e
          · rename_i rs e2
            cases e
            obtain ⟨ns, ek, ⟨ok1, ok2⟩, er⟩ := fSortJ_some e2
            have kl : zf.1.length = ns.length := by rw [ek, List.length_map]
            have sm0 : Same H1 (upd H1 D0 (SetIH X.w D0 [])) := new_same nD
            obtain ⟨Rw, _⟩ := s.env.wipe (vs := vs)
            refine int_walk (P0 := X.prog) (w0 := X.w) (O := With O D0) (B := upd H1 D0 (SetIH X.w D0 [])) (ys0 := []) (zs0 := zf.1) (εf := zf.2) (.inr rfl) s.env nv (fun b z => z.elim .inl fun y => .inr (by rw [y]; exact nD)) (fun o h => by rw [nD] at h; cases h) (fun b o ne h => by rw [upd_ne ne]; exact h) w ?_ e1 (fun _ _ _ e => turn1_wiped e)
              (fun {x d εk ys w Hk H3 Nx} C hw sm rx t1 t2 t3 => int_turn (.inr rfl) sub C hw sm rx t1 ?_ ?_ ?_ t3) fun H' C hw => ?_
            · exact ⟨Rw.with nD sm0 (by rw [upd_same]; exact fun z => nomatch z), fun b o _ h _ => h, fun b _ h => h, Le.refl _, [], upd_same, Nat.le_refl _, (fun p hp => nomatch hp), (fun y hy => nomatch hy)⟩
            · intro z hz
              obtain ⟨r, er⟩ := t2
              rw [List.nil_append] at er
              have hz : z ∈ ns.map D.int := by rw [← ek, er]; exact List.mem_append_left _ hz
              obtain ⟨k, _, e5⟩ := List.mem_map.mp hz
              exact ⟨k, e5.symm⟩
            · obtain ⟨r, er⟩ := t2
              rw [List.nil_append] at er
              refine ok2.imp (fun z => ?_) fun z k hk => z k ?_
              · rw [er, List.length_append] at kl
                omega
              · have hz : D.int k ∈ ns.map D.int := by rw [← ek, er]; exact List.mem_append_left _ hk
                obtain ⟨k', hk', e5⟩ := List.mem_map.mp hz
                cases e5
                exact hk'
            · obtain ⟨r, er⟩ := t2
              rw [List.nil_append] at er
              rw [er, List.length_append] at kl
              omega
            · rw [List.nil_append] at C
              obtain ⟨s2, ev, ks, hD, hl, hr, hq⟩ := C.fin s.env nv nD hw
              have mem : ∀ k, k ∈ ks ↔ k ∈ ns := fun k => by
                constructor
                · intro hk
                  have z := hr k hk
                  rw [ek] at z
                  obtain ⟨k', hk', e5⟩ := List.mem_map.mp z
                  cases e5
                  exact hk'
                · intro hk
                  obtain ⟨k', hk', e5⟩ := hq (.int k) (by rw [ek]; exact List.mem_map.mpr ⟨k, hk, rfl⟩)
                  cases e5
                  exact hk'
              exact F (S := Or2 O (Own σ (restE ε1 zf.2 vs))) hD (by omega) mem fun v H'' sm nr => p _ _ ((s.trans s2).trans (Stp.same ev.part sm)) ((NewR.res ev.part sm (er ▸ nr)).old fun b h => s.th b (s2.th b h))
          · cases e
        · cases e
      · cases e
theorem repL_ints : ∀ ns : List Int, RepL X.K ca S H (ns.map V.int) (ns.map D.int)
  | [] => .nil
  | k :: ns => .cons (.int k) (repL_ints ns)
theorem fin_sorted : FinJ X ca (rSortedSI X) finSrt := fun {S H D0 ks ns Q} hD few mem q => ⟨D0, ks, rfl, hD, few, fun ms l pm up nl => by
  have e : ms = sortJ ns := (sortJ_eq up fun k => (pm.mem_iff.trans (mem k))).symm
  subst e
  exact q _ _ (new_same nl) (new_lst (repL_ints _) nl)⟩
theorem fin_len : FinJ X ca (rLenSI X) finLen := fun {S H D0 ks ns Q} hD few mem q => ⟨D0, ks, rfl, hD, few, fun nd => by
  have p : ks.Perm (sortJ ns) := (List.perm_ext_iff_of_nodup nd ((up_sortJ ns).imp fun h => Int.ne_of_lt h)).mpr fun k => by rw [mem k, mem_sortJ]
  rw [p.length_eq]
  exact q _ _ (Same.refl _) (.int _)⟩
section
variable {elt tg iter : Expr} {ifs : List Expr} {scope : Scope} {own : List (Str × Nat)} {g : ET} {c : GT} {pos spos np : Pos} {t : TgT} {it : IT}
end
end
end Tr

/-! f(k2 = .., k3 = .., k1 = ..): keywords in any order. -/
namespace Tr
open PySem PySem.Spec PyProof.Rows L2 Md
/-- the items that f names -/
def pmL {α : Type} (f : List Nat) (l : List α) : List α := f.filterMap fun i => l[i]?
/-- f and g undo one another -/
def pmHalf (n : Nat) (f g : List Nat) : Bool := f.length == n && (List.range n).all fun i => match f[i]? with
  | some j => decide (j < n) && g[j]? == some i
  | none => false
def pmOk (n : Nat) (f g : List Nat) : Bool := pmHalf n f g && pmHalf n g f
theorem pmHalf_at {n : Nat} {f g : List Nat} (h : pmHalf n f g = true) : f.length = n ∧ ∀ i, i < n → ∃ j, f[i]? = some j ∧ j < n ∧ g[j]? = some i := by
  unfold pmHalf at h
  rw [Bool.and_eq_true, beq_iff_eq, List.all_eq_true] at h
  refine ⟨h.1, fun i hi => ?_⟩
  have z := h.2 i (List.mem_range.mpr hi)
  split at z
  · rename_i j e
    rw [Bool.and_eq_true, decide_eq_true_eq, beq_iff_eq] at z
    exact ⟨j, e, z.1, z.2⟩
  · cases z
theorem pm_some {α : Type} {l : List α} : ∀ {f : List Nat}, (∀ j ∈ f, j < l.length) → (pmL f l).map some = f.map fun j => l[j]?
  | [], _ => rfl
  | j :: f, h => by
    have hj := h j List.mem_cons_self
    have e : l[j]? = some l[j] := List.getElem?_eq_getElem hj
    unfold pmL
    rw [List.filterMap_cons_some e, List.map_cons, List.map_cons, e]
    exact congrArg (some l[j] :: ·) (pm_some fun i hi => h i (List.mem_cons_of_mem _ hi))
section
variable {n : Nat} {f g : List Nat}
theorem pmHalf_lt (h : pmHalf n f g = true) : ∀ j ∈ f, j < n := fun j hj => by
  obtain ⟨lf, at_⟩ := pmHalf_at h
  obtain ⟨i, hi, e⟩ := List.getElem_of_mem hj
  obtain ⟨j', e', lt, _⟩ := at_ i (by omega)
  rw [List.getElem?_eq_getElem hi, e] at e'
  cases e'
  exact lt
theorem pm_len {α : Type} {l : List α} (h : pmHalf n f g = true) (hl : l.length = n) : (pmL f l).length = n := by
  have z := congrArg List.length (pm_some (l := l) fun j hj => by rw [hl]; exact pmHalf_lt h j hj)
  rw [List.length_map, List.length_map, (pmHalf_at h).1] at z
  exact z
theorem pm_at {α : Type} {l : List α} (h : pmHalf n f g = true) (hl : l.length = n) {i j : Nat} (e : f[i]? = some j) : (pmL f l)[i]? = l[j]? := by
  have z := congrArg (fun m : List (Option α) => m[i]?) (pm_some (l := l) fun j hj => by rw [hl]; exact pmHalf_lt h j hj)
  simp only [List.getElem?_map, e, Option.map_some] at z
  cases q : (pmL f l)[i]? with
  | none => rw [q] at z; cases z
  | some x =>
    rw [q] at z
    exact Option.some.inj z
/-- where an item of the permuted list stood -/
theorem pm_of {α : Type} {l : List α} (h : pmHalf n f g = true) (hl : l.length = n) {i : Nat} {x : α} (e : (pmL f l)[i]? = some x) : ∃ j, f[i]? = some j ∧ g[j]? = some i ∧ j < n ∧ l[j]? = some x := by
  have hi : i < n := by
    rw [← pm_len h hl]
    exact (List.getElem?_eq_some_iff.mp e).1
  obtain ⟨j, e1, lt, e2⟩ := (pmHalf_at h).2 i hi
  exact ⟨j, e1, e2, lt, by rw [← pm_at h hl e1]; exact e⟩
theorem pmOk_1 (h : pmOk n f g = true) : pmHalf n f g = true := by
  unfold pmOk at h
  rw [Bool.and_eq_true] at h
  exact h.1
theorem pmOk_2 (h : pmOk n f g = true) : pmHalf n g f = true := by
  unfold pmOk at h
  rw [Bool.and_eq_true] at h
  exact h.2
end
section
variable {K : PySem.W.Frag} {ca : CA} {O : Addr → Prop} {H H0 H' : Hp} {σ : L2.St} {ε ε' : TEnv} {v : V} {W : WX} {n : Nat} {f g : List Nat}
theorem own_pm (h : pmOk n f g = true) (h1 : σ.length = n) (h2 : ε.length = n) : Own (pmL f σ) (pmL f ε) = Own σ ε := by
  funext a
  refine propext ⟨?_, ?_⟩
  · rintro ⟨i, d, k, e1, o, e2⟩
    obtain ⟨j, a1, _, _, a2⟩ := pm_of (pmOk_1 h) h2 e1
    refine ⟨j, d, k, a2, o, ?_⟩
    rw [← pm_at (pmOk_1 h) h1 a1]
    exact e2
  · rintro ⟨i, d, k, e1, o, e2⟩
    have hi : i < n := by rw [← h2]; exact (List.getElem?_eq_some_iff.mp e1).1
    obtain ⟨j, a1, lt, a2⟩ := (pmHalf_at (pmOk_2 h)).2 i hi
    exact ⟨j, d, k, by rw [pm_at (pmOk_1 h) h2 a2]; exact e1, o, by rw [pm_at (pmOk_1 h) h1 a2]; exact e2⟩
theorem EnvR.pm (E : EnvR K ca O H σ ε) (h : pmOk n f g = true) (h2 : ε.length = n) : EnvR K ca O H (pmL f σ) (pmL f ε) := by
  have h1 : σ.length = n := by rw [← E.len]; exact h2
  refine ⟨by rw [pm_len (pmOk_1 h) h1, pm_len (pmOk_1 h) h2], ?_, ?_, ?_, E.out⟩
  · intro i d k e o
    obtain ⟨j, a1, _, _, a2⟩ := pm_of (pmOk_1 h) h2 e
    obtain ⟨v, q, r⟩ := E.shr _ d k a2 o
    exact ⟨v, by rw [pm_at (pmOk_1 h) h1 a1]; exact q, by rw [own_pm h h1 h2]; exact r⟩
  · intro i d k e o
    obtain ⟨j, a1, _, _, a2⟩ := pm_of (pmOk_1 h) h2 e
    obtain ⟨a, q, n, t⟩ := E.own _ d k a2 o
    exact ⟨a, by rw [pm_at (pmOk_1 h) h1 a1]; exact q, n, by rw [own_pm h h1 h2]; exact t⟩
  · intro i i' d k d' k' a e o e' o' g1 g2
    obtain ⟨j, a1, b1, _, a2⟩ := pm_of (pmOk_1 h) h2 e
    obtain ⟨j', a1', b1', _, a2'⟩ := pm_of (pmOk_1 h) h2 e'
    rw [pm_at (pmOk_1 h) h1 a1] at g1
    rw [pm_at (pmOk_1 h) h1 a1'] at g2
    have := E.inj _ _ d k d' k' a a2 o a2' o' g1 g2
    subst this
    rw [b1] at b1'
    exact Option.some.inj b1'
theorem Le.pm (l : Le ε ε') (h : pmOk n f g = true) (h2 : ε.length = n) : Le (pmL f ε) (pmL f ε') := by
  have h3 : ε'.length = n := by rw [l.len]; exact h2
  refine ⟨by rw [pm_len (pmOk_1 h) h2, pm_len (pmOk_1 h) h3], fun i s e => ?_⟩
  obtain ⟨j, a1, _, _, a2⟩ := pm_of (pmOk_1 h) h2 e
  obtain ⟨s', e', q⟩ := l.at_ _ s a2
  exact ⟨s', by rw [pm_at (pmOk_1 h) h3 a1]; exact e', q⟩
theorem Stp.pm (s : Stp K ca O σ ε H ε' H') (h : pmOk n f g = true) (h1 : σ.length = n) (h2 : ε.length = n) (h3 : ε'.length = n) : Stp K ca O (pmL f σ) (pmL f ε) H (pmL f ε') H' :=
  ⟨s.le.pm h h2, fun b o q nn => s.fr b o q (by rw [← own_pm h h1 h2]; exact nn), s.th, s.env.pm h h3⟩
theorem ResR.pm {x : D × Bool} (r : ResR K ca O σ ε H0 H v x) (h : pmOk n f g = true) (h1 : σ.length = n) (h2 : ε.length = n) : ResR K ca O (pmL f σ) (pmL f ε) H0 H v x := by
  obtain ⟨d, b⟩ := x
  cases b with
  | false =>
    show Rep K ca (Or2 O (Own (pmL f σ) (pmL f ε))) H v d
    rw [own_pm h h1 h2]
    exact r
  | true =>
    obtain ⟨a, e, n1, n2, n3, t, E⟩ := r
    exact ⟨a, e, n1, n2, by rw [own_pm h h1 h2]; exact n3, by rw [own_pm h h1 h2]; exact t, E.pm h h2⟩
/-- the parameters in the order that f names -/
def pmT (n : Nat) (f g : List Nat) (F : ET) : ET := fun p => if p.length = n then (F (pmL f p)).map fun r => match r with
  | .ok d ε => .ok d (pmL g ε)
  | .ex c d ε => .ex c d (pmL g ε) else none
end
section
variable {X : Cx} {ca : CA} {W : WX} {k n : Nat} {f : Addr} {fd : FuncData} {ps ks : List Str} {F : ET} {x : Str} {p pos : Pos} {kws : List Keyword} {as : List AK} {sp : Sp} {E : L2.St → XK} {CX : CXT} {tk : TA} {fi gi : List Nat}
end
section
variable {K : PySem.W.Frag} {x qual : Str} {st : Stmt} {f : Addr} {fd : FuncData} {p1 p2 p3 p4 p5 q1 q2 q3 q4 q5 : Str} {fi : List Nat}
end
section
variable {F : ET} {n : Nat} {f g : List Nat} {ε : TEnv} {P : D → Bool → TEnv → Prop} {X : Str → D → TEnv → Prop}
theorem w_pmT (h : ε.length = n) : qE (pmT n f g F ε) P X ↔ qE (F (pmL f ε)) (fun d k ε => P d k (pmL g ε)) fun k d ε => X k d (pmL g ε) := by
  unfold pmT
  rw [if_pos h]
  cases F (pmL f ε) with
  | none => exact Iff.rfl
  | some r =>
    cases r with
    | ok x ε =>
      obtain ⟨d, k⟩ := x
      exact Iff.rfl
    | ex c d ε => exact Iff.rfl
end
end Tr

/-! set(xs), ints. -/
namespace Tb
open PySem PySem.Spec PyProof.Rows L2 PySem.SetTable Md
/-- behind i items -/
def InsI (w : World) (ns : List Int) (i : Nat) (h : Heap) (S : Addr) : Prop := ∃ ks, CoreI w h S ks ∧ ks.length ≤ i ∧ ∀ k, k ∈ ks ↔ k ∈ ns.take i
theorem CoreI.at {w : World} {h h' : Heap} {a : Addr} {ks : List Int} (c : CoreI w h a ks) (k : ∀ o, h.get? a = some o → h'.get? a = some o) : CoreI w h' a ks := by
  obtain ⟨L, es, ep, t, S, e⟩ := c
  obtain ⟨o, ho, r⟩ := S.ob
  exact ⟨L, es, ep, t, ⟨⟨o, k o ho, r⟩, S.rows, S.laid, S.good, S.nd, S.plain, S.led, S.room, S.msk⟩, e⟩
theorem ints_item {vs : List Value} {ns : List Int} (hi : IntsAre vs ns) : ∀ {i : Nat} {v : Value}, vs.toArray[i]? = some v → ∃ k t, ns[i]? = some k ∧ v = Value.int k t := by
  induction hi with
  | nil => intro i v h; simp at h
  | cons n t r ih =>
    intro i v h
    rw [List.getElem?_toArray] at h
    cases i with
    | zero =>
      cases h
      exact ⟨n, t, rfl, rfl⟩
    | succ i => exact ih (by rw [List.getElem?_toArray]; exact h)
theorem insI_new {w : World} {ns : List Int} {h : Heap} {S : Addr} {led : Bool} (eled : (!w.params.followText "set-order") = led) (here : h.get? S = some (noSet led)) : InsI w ns 0 h S := by
  refine ⟨[], ⟨[], #[], 0, .fresh 0 0 led, ⟨⟨_, here, ⟨rfl, rfl, rfl⟩, rfl⟩, rfl, ⟨(show Msk 7 from .inl rfl).pow, rfl, rfl, List.Pairwise.nil, (fun x hx => nomatch hx), fun x hx => nomatch hx⟩, (fun x hx => nomatch hx), List.Pairwise.nil, rfl, ?_, (by show 0 * 5 < 7 * 3; decide), .inl (.inl rfl)⟩, rfl⟩, Nat.le_refl _, fun k => by simp⟩
  subst eled
  show w.params.followText "set-order" = true ∨ (!w.params.followText "set-order") = true
  cases w.params.followText "set-order"
  · exact .inr rfl
  · exact .inl rfl
section
variable {prog : Program} {w : World} {A : Around}
section
variable {R : Result → Shared → Prop} {I : Addr} {fp wr : List Addr} {G : Array GenState → Array GenState → Prop} {n : Nat} {P : Nat → Value → Prop} {St : Nat → Shared → Prop}
theorem set_fillI (W : WalksS prog w A.in1 I fp wr G n P St) (S : Addr) (away : S ∉ fp) (ns : List Int) (size : ns.length = n) (room : ns.length < 4000) (item : ∀ i v, P i v → ∃ k t, ns[i]? = some k ∧ v = Value.int k t) :
    ∀ (left i : Nat) (st : Shared), left + i = n → St i st → InsI w ns i st.heap S →
      (∀ st', Moved (S :: wr) G st st' → InsI w ns ns.length st'.heap S → R (.ok (.ret .none)) st') →
      codeAny (model prog w) A (.builtin "set.update.loop" ⟨[.ref S, .ref I], []⟩) R st := by
  have out : S ∉ wr := fun z => away (W.sub _ z)
  have wider : ∀ b ∈ wr, b ∈ S :: wr := fun b z => List.mem_cons_of_mem _ z
  intro left
  induction left with
  | zero =>
    intro i st e at_ held done
    have e : i = ns.length := by omega
    subst e
    subst size
    refine codeAny_builtin PyProof.Rows.F.entry_set_update_loop ?_
    rw [Around.under_plainId PyProof.Rows.F.plain_set_update_loop _]
    show wpAny _ A.in1 (pyNext (.ref I) >>= _) _ _ st
    refine wpAny_bind (W.done st _ _ at_ ?_)
    intro st' moved
    show wpAny _ A.in1 (ret Value.none) _ _ st'
    obtain ⟨ks, c, more⟩ := held
    exact wpAny_pure (done st' (moved.mono wider) ⟨ks, c.at fun o e => moved.heap S o out e, more⟩)
  | succ left ih =>
    intro i st e at_ held done
    have hi : i < n := by omega
    refine codeAny_builtin PyProof.Rows.F.entry_set_update_loop ?_
    rw [Around.under_plainId PyProof.Rows.F.plain_set_update_loop _]
    show wpAny _ A.in1 (pyNext (.ref I) >>= _) _ _ st
    refine wpAny_bind (W.item i st _ _ hi at_ ?_)
    intro v st1 hP at1 moved
    obtain ⟨k, t, hk, rfl⟩ := item i v hP
    obtain ⟨ks, c, lk, mem⟩ := held
    obtain ⟨L, es, ep, tb, S1, rfl⟩ := c.at fun o e => moved.heap S o out e
    have ll : (keysI L).length = L.length := List.length_map _
    show wpAny _ A.in1 (holding [Value.int k t] (setAdd S (.int k t)) >>= _) _ _ st1
    refine wpAny_bind (wpAny_holding ?_)
    unfold setAdd
    refine wpAny_holding ?_
    refine wpAny_bind ((intKind prog w).pyHash (k := k) (intKind_is prog w k t) ?_)
    refine SetI.add (s := { st1 with toks := st1.toks + 1 }) S1 (.inl (by omega)) (by omega) ?_
    intro b h2 L' es' ep' t' same S2 p1 p2
    have next : InsI w ns (i + 1) h2 S := by
      refine ⟨keysI L', ⟨L', es', ep', t', S2, rfl⟩, ?_, fun j => ?_⟩
      · by_cases c : k ∈ keysI L
        · rw [(p1 c).length_eq]; omega
        · rw [(p2 c).length_eq, List.length_cons]; omega
      · rw [List.take_add_one, hk, List.mem_append, ← mem j]
        by_cases c : k ∈ keysI L
        · rw [(p1 c).mem_iff]
          constructor
          · exact .inl
          · rintro (z | z)
            · exact z
            · have e : j = k := by simpa using z
              rw [e]
              exact c
        · rw [(p2 c).mem_iff, List.mem_cons]
          constructor
          · rintro (z | z)
            · exact .inr (by simp [z])
            · exact .inl z
          · rintro (z | z)
            · exact .inr z
            · exact .inl (by simpa using z)
    have kept : ∀ b o, b ≠ S → st1.heap.get? b = some o → h2.get? b = some o := fun b o nb z => (same.2 b nb).trans z
    refine wpAny_pure ⟨plainId_quiet PyProof.Rows.F.plain_set_update_loop _, ih (i + 1) _ (by omega) (W.frame _ st1 _ _ at1 (Nat.le_succ _) ?_) next ?_⟩
    · intro b hb o z
      exact kept b o (fun q => away (q ▸ hb)) z
    · intro st3 moved3 held3
      refine done st3 (Moved.trans W.gtrans ((moved.mono wider).then_heap (Nat.le_succ _) ?_) moved3) held3
      intro b o hb z
      exact kept b o (fun q => hb (by rw [q]; exact List.mem_cons_self)) z
end
section
variable {E : Value → Shared → Prop} {st : Shared}
set_option maxHeartbeats 4000000 in
theorem set_of_ints {l : Addr} {items : Array Value} {ns : List Int} {Q : Value → Shared → Prop} (hh : A.handled = none) (hl : st.heap.IsList l items) (hi : IntsAre items.toList ns) (room : ns.length < 4000)
    (h : ∀ (h' : Heap) (tk : Nat), InsI w ns ns.length h' st.heap.objs.size →
      (∀ b o, b < st.heap.objs.size → st.heap.get? b = some o → h'.get? b = some o) → Q (.ref st.heap.objs.size) { st with heap := h', toks := tk }) :
    wpAny (model prog w) A (call (.type "set") [.ref l]) Q E st := by
  obtain ⟨c, tl, hmro⟩ := F.called_set.mro
  have made := F.called_set.made
  have subs := F.called_set.sub
  have nt := F.called_set.notType
  have cc := F.called_set.canCreate
  have tc := F.typeCall_set_1 (.ref l)
  refine wpAny_call (codeAny_of_tree ?_)
  show wpAny _ _ (callAny (.type "set") _) _ _ _
  refine wpAny_pure ⟨Code.quiet_builtin _ (by decide +kernel), codeAny_builtin F.entry_type_call ?_⟩
  rw [Around.under_plain (weight_type_call_type "set" [.ref l] []) rfl]
  repeat (any_goals (first | assumption | wp_step))
  have size : ns.length = items.size := by rw [← Array.length_toList, IntsAre.length hi]
  generalize eS : st.heap.objs.size = S at h
  generalize eled : (!w.params.followText "set-order") = led
  have born : (st.heap.push (noSet led)).get? S = some (noSet led) := by
    rw [← eS]
    exact Heap.get?_push_size _ rfl
  refine codeAny_mono (code_set_led1 (.ref l) (E := E) (Q₁ := fun obj st1 => obj = .ref S ∧ st1 = { st with heap := st.heap.push (noSet led) }) ⟨by rw [eS], by rw [eled]⟩) ?_
  intro r st1 hr
  match r, hr with
  | .error e, hr => exact hr
  | .ok (.ret obj), hr =>
    obtain ⟨e1, e2⟩ := hr
    subst e1 e2
    have there0 : (st.heap.push { cls := .type "set", dict := none, data := .set #[] 0 (.fresh 0 0 led) }).get? S = some { cls := .type "set", dict := none, data := .set #[] 0 (.fresh 0 0 led) } := born
    have hT : Shared.TypeIs { st with heap := st.heap.push (noSet led) } (.ref S) "set" := ⟨_, born, rfl⟩
    have li := F.called_set.init.lookup
    have bi := F.called_set.init.bind (.ref S)
    repeat (any_goals (first | assumption | wp_step))
    refine codeAny_mono (codeAny_call_builtin (R := wants (fun r st2 => r = .none ∧ ∃ h' tk, st2 = { st with heap := h', toks := tk } ∧ InsI w ns ns.length h' S ∧
      (∀ b o, b < S → st.heap.get? b = some o → h'.get? b = some o)) E) F.called_set.init.plain PySem.F.entry_set_init (check_set_init_1 hT ?_)) ?_
    · obtain ⟨ol, hol, hcl, nl, hdl⟩ := hl
      obtain ⟨ocls, odict, odata, oslots⟩ := ol
      simp only at hcl hdl
      subst hcl hdl
      have there : (st.heap.push (noSet led)).get? l = some { cls := .type "list", dict := odict, data := .seq items nl, slots := oslots } := Heap.get?_push_of_some _ hol
      have nsl := F.sub_list_set
      have nf := F.sub_list_frozenset
      have nd : (Value.type "list" == Value.type "dict") = false := by decide
      have isl : (st.heap.push (noSet led)).IsList l items := ⟨_, there, rfl, nl, rfl⟩
      have wide1 : (st.heap.push (noSet led)).objs.size = S + 1 := by rw [Heap.size_push, eS]
      unfold Builtin.«set.__init__» noKeywords Builtin.Frozenset.updateFrom
      generalize same : pyIter = PI
      wp_walk
      subst same
      refine wpAny_pyIter_list isl ?_
      refine wpAny_bind (wpAny_runValue ?_)
      have lS : l < S := by
        rw [← eS]
        exact Heap.lt_size hol
      have calm3 : A.in1.in1.in1.handled = none := by simp [hh]
      have lI : l ≠ (st.heap.push (noSet led)).objs.size := by
        rw [wide1]
        exact Nat.ne_of_lt (Nat.lt_succ_of_lt lS)
      have away : S ∉ [(st.heap.push (noSet led)).objs.size, l] := by
        simp only [List.mem_cons, List.not_mem_nil, or_false, not_or]
        rw [wide1]
        exact ⟨Nat.ne_of_lt (Nat.lt_succ_self S), Nat.ne_of_gt lS⟩
      refine set_fillI ((Walks.list calm3 _ l lI items).toS) S away ns size room (fun i v hv => ints_item hi hv) items.size 0 _ (by omega) ⟨⟨_, Heap.get?_push_size _ rfl, rfl, rfl⟩, (isl.push _)⟩ ?_ ?_
      · have here : ((st.heap.push (noSet led)).push { cls := .type "list_iterator", data := .fields #[.ref l, .int 0 0] }).get? S = some (noSet led) := Heap.get?_push_of_some _ (born)
        exact insI_new eled here
      · intro st3 moved held
        obtain ⟨h3, g3, d3, t3, os3⟩ := st3
        have eg : g3 = st.gens := moved.gens
        have ed : d3 = st.drawn := moved.drawn
        have eo : os3 = st.os := moved.os
        subst eg ed eo
        show wpAny _ _ _ _ _ _
        refine wpAny_pure ?_
        show wpAny _ _ (ret Value.none) _ _ _
        refine wpAny_pure ⟨rfl, h3, t3, rfl, held, ?_⟩
        intro b o hb z
        refine moved.heap b o ?_ (Heap.get?_push_of_some _ (Heap.get?_push_of_some _ z))
        simp only [List.mem_cons, List.not_mem_nil, or_false, not_or]
        rw [wide1]
        exact ⟨Nat.ne_of_lt hb, Nat.ne_of_lt (Nat.lt_succ_of_lt hb)⟩
    · intro r2 st2 hr2
      match r2, hr2 with
      | .error e, hr2 => exact hr2
      | .ok (.ret v), hr2 =>
        obtain ⟨e3, h', tk, e4, held, keep⟩ := hr2
        subst e3 e4
        repeat (any_goals (first | assumption | wp_step))
        exact h _ _ held keep
end
section
variable {X : Cx}
/-- set(xs), ints -/
def rSetOfI (X : Cx) : List V → Hp → VK → Prop := fun vs H Q => ∃ (l : Addr) (ns : List Int), vs = [.ref l] ∧ SqL X.K H l (ns.map V.int) ∧ ns.length < 4000 ∧ ∀ (D : Addr) (ks : List Int), ks.length ≤ ns.length → (∀ k, k ∈ ks ↔ k ∈ ns) → H D = none → Q (.ref D) (upd H D (SetIH X.w D ks))
theorem cr_setOfI (hc : X.calm = true) : CallR X (.type "set") (rSetOfI X) := by
  intro pins s σ H vs us Q I r h
  obtain ⟨l, ns, rfl, hl, few, q⟩ := h
  obtain ⟨its, rv, pl, hz⟩ := I.list hl
  rw [Vals.ref1 r]
  refine set_of_ints (ns := ns) (I.ok.hd hc) pl.isList (by simpa using rv.ints) few fun h' tk held keep => ?_
  obtain ⟨ks, c, lk, mem⟩ := held
  rw [List.take_length] at mem
  have hn : H s.heap.objs.size = none := I.hok.fresh (Nat.le_refl _)
  exact ⟨.ref s.heap.objs.size, upd H s.heap.objs.size (SetIH X.w s.heap.objs.size ks), I.laid (t' := tk) (fun b o e => keep b o (Heap.lt_size e) e) (Nat.le_refl _) (setIH_new c), rfl, q _ ks lk mem hn⟩
end
end
end Tb

/-! sorted and len of sets of ints, set(xs), range with a step, list(range(n)), isinstance of built-in types. -/
namespace Tr
open PySem PySem.Spec PyProof.Rows L2 Md Tb
section
variable {X : Cx} {ca : CA} {W : WX} {elt tg iter : Expr} {ifs : List Expr} {scope : Scope} {own : List (Str × Nat)} {g : ET} {c : GT} {pos spos np : Pos} {t : TgT} {it : IT} {k : Nat}
theorem pet_sortedI (C : CtxT X W k) (hg0 : Gl X "sorted") (hm : X.mg "sorted" = none) (hi : PIT X ca W tg iter it) (ok : BlkOk X.N X.env.scope scope own)
    (hg : ∀ (s : Shared) (H : Hp) (A : Addr) (cl : List (Str × Addr)) (fp : List Addr), PGt (Bk X scope s H A cl fp) ca tg t) (ht : ∀ (s : Shared) (H : Hp) (A : Addr) (cl : List (Str × Addr)) (fp : List Addr), CtxT (Bk X scope s H A cl fp) WF k → PTTs (Bk X scope s H A cl fp) ca WF ifs c)
    (he : ∀ (s : Shared) (H : Hp) (A : Addr) (cl : List (Str × Addr)) (fp : List Addr), CtxT (Bk X scope s H A cl fp) WF k → PET (Bk X scope s H A cl fp) ca WF elt g) (sub : ∀ i ∈ t.ns, i ∈ own.map (·.2) := by decide) (hs : ∀ x, foldedSetIterable iter X.env x = pure x := by intro _; rfl)
    (hh : starEach [.SetComp elt [⟨tg, iter, ifs, 0⟩] scope spos] X.env = (false, eval (.SetComp elt [⟨tg, iter, ifs, 0⟩] scope spos) X.env) :: starEach [] X.env := by rfl) (hpl : (backTo pos (starEach [] X.env)).any (·.1) = false := by rfl) :
    PET X ca W (.Call (.Name "sorted" np) [.SetComp elt [⟨tg, iter, ifs, 0⟩] scope spos] [] pos) (sortedIT it t c g (own.map (·.2))) := by
  have hu : X.A.units + 64 < cLine := by have := C.room.units; omega
  have p1 := pe_sw (te := tEv X.K ca WF g) (tt := tTv X.K ca WF c) (g := tGv X.K ca t) (wi := tIv X.K ca W it) (pos := spos) (wayI X) hu C.calm C.nd hi ok hg (fun s H A cl fp => ht s H A cl fp C.blk) (fun s H A cl fp => he s H A cl fp C.blk) hs
  exact peWeak (pe_callB (cr_sortedSI C.calm) hg0 hm (by decide +kernel) (pa_cons p1 pa_nil) (by decide) (by decide) hh hpl) fun σ H Q h => ofSetT_read fin_sorted sub h
theorem pet_lenI (C : CtxT X W k) (hg0 : Gl X "len") (hm : X.mg "len" = none) (hi : PIT X ca W tg iter it) (ok : BlkOk X.N X.env.scope scope own)
    (hg : ∀ (s : Shared) (H : Hp) (A : Addr) (cl : List (Str × Addr)) (fp : List Addr), PGt (Bk X scope s H A cl fp) ca tg t) (ht : ∀ (s : Shared) (H : Hp) (A : Addr) (cl : List (Str × Addr)) (fp : List Addr), CtxT (Bk X scope s H A cl fp) WF k → PTTs (Bk X scope s H A cl fp) ca WF ifs c)
    (he : ∀ (s : Shared) (H : Hp) (A : Addr) (cl : List (Str × Addr)) (fp : List Addr), CtxT (Bk X scope s H A cl fp) WF k → PET (Bk X scope s H A cl fp) ca WF elt g) (sub : ∀ i ∈ t.ns, i ∈ own.map (·.2) := by decide) (hs : ∀ x, foldedSetIterable iter X.env x = pure x := by intro _; rfl)
    (hh : starEach [.SetComp elt [⟨tg, iter, ifs, 0⟩] scope spos] X.env = (false, eval (.SetComp elt [⟨tg, iter, ifs, 0⟩] scope spos) X.env) :: starEach [] X.env := by rfl) (hpl : (backTo pos (starEach [] X.env)).any (·.1) = false := by rfl) :
    PET X ca W (.Call (.Name "len" np) [.SetComp elt [⟨tg, iter, ifs, 0⟩] scope spos] [] pos) (lenIT it t c g (own.map (·.2))) := by
  have hu : X.A.units + 64 < cLine := by have := C.room.units; omega
  have p1 := pe_sw (te := tEv X.K ca WF g) (tt := tTv X.K ca WF c) (g := tGv X.K ca t) (wi := tIv X.K ca W it) (pos := spos) (wayI X) hu C.calm C.nd hi ok hg (fun s H A cl fp => ht s H A cl fp C.blk) (fun s H A cl fp => he s H A cl fp C.blk) hs
  exact peWeak (pe_callB cr_lenSI hg0 hm (by decide +kernel) (pa_cons p1 pa_nil) (by decide) (by decide) hh hpl) fun σ H Q h => ofSetT_read fin_len sub h
end
/-! ### sorted(set(xs)), len(set(xs)) -/
def fSortSet : List D → Option (D × Bool)
  | [.lst ds] => match toIs ds with
    | some ns => if ns.length < 4000 then some (.lst ((sortJ ns).map D.int), true) else none
    | none => none
  | _ => none
def fLenSet : List D → Option (D × Bool)
  | [.lst ds] => match toIs ds with
    | some ns => if ns.length < 4000 then some (.int (sortJ ns).length, false) else none
    | none => none
  | _ => none
section
variable {X : Cx} {ca : CA} {W : WX} {a : Expr} {ak : AK} {p p2 q pos : Pos} {k : Nat}
theorem repL_intsB {K : PySem.W.Frag} {ca : CA} {S : Addr → Prop} {H : Hp} : ∀ {vs : List V} {ns : List Int}, RepL K ca S H vs (ns.map D.int) → vs = ns.map V.int
  | _, [], .nil => rfl
  | _, n :: ns, .cons r t => by
    cases r
    rw [List.map_cons, repL_intsB t]
theorem os_setOf {fin : List Int → D × Bool} {r : List V → Hp → VK → Prop} (F : FinJ X ca r fin) {f : List D → Option (D × Bool)} (hf : ∀ ds res, f ds = some res → ∃ ns : List Int, ds = [.lst (ns.map D.int)] ∧ ns.length < 4000 ∧ res = fin (sortJ ns)) :
    OpS X.K ca (fun vs H Q => rSetOfI X vs H fun v H1 => r [v] H1 Q) f := by
  intro S H vs ds res Q hp hfe q
  obtain ⟨ns, rfl, few, rfl⟩ := hf ds res hfe
  obtain ⟨v, rfl, b⟩ := pair1 hp
  obtain ⟨l, us, rfl, hl, rl⟩ := b.lst
  have e := repL_intsB rl
  subst e
  refine ⟨l, ns, rfl, .inl (.inl hl), few, fun D0 ks lk mem nD => ?_⟩
  have sm : Same H (upd H D0 (SetIH X.w D0 ks)) := new_same nD
  refine F (S := S) (H := upd H D0 (SetIH X.w D0 ks)) upd_same (by omega) mem fun v H' s2 nr => q v H' (fun b o z => s2 b o (sm b o z)) ?_
  revert nr
  generalize fin (sortJ ns) = res
  obtain ⟨d, f⟩ := res
  cases f with
  | false => exact id
  | true =>
    rintro ⟨a, e, n, t⟩
    exact ⟨a, e, sm.free n, t⟩
theorem fSortSet_some (ds : List D) (res : D × Bool) (h : fSortSet ds = some res) : ∃ ns : List Int, ds = [.lst (ns.map D.int)] ∧ ns.length < 4000 ∧ res = finSrt (sortJ ns) := by
  unfold fSortSet at h
  split at h
  · split at h
    · rename_i ds ns e
      split at h
      · rename_i c
        cases h
        exact ⟨ns, by rw [toIs_intsJ e], c, rfl⟩
      · cases h
    · cases h
  · cases h
theorem pet_sortedSetOf (C : CtxT X W k) (hg : Gl X "sorted") (hm : X.mg "sorted" = none) (hg2 : Gl X "set") (hm2 : X.mg "set" = none) (ha : PAKs X ca W [a] [ak])
    (hs : starEach [a] X.env = (false, eval a X.env) :: starEach [] X.env := by rfl) (hpl : (backTo q (starEach [] X.env)).any (·.1) = false := by rfl)
    (hs2 : starEach [.Call (.Name "set" p2) [a] [] q] X.env = (false, eval (.Call (.Name "set" p2) [a] [] q) X.env) :: starEach [] X.env := by rfl) (hpl2 : (backTo pos (starEach [] X.env)).any (·.1) = false := by rfl) :
    PET X ca W (.Call (.Name "sorted" p) [.Call (.Name "set" p2) [a] [] q] [] pos) (opT fSortSet [ak]) :=
  peWeak (pe_callB (cr_sortedSI C.calm) hg hm (by decide +kernel) (pa_cons (pe_callTy (cr_setOfI C.calm) hg2 hm2 (by decide +kernel) ha (by decide) (by decide) hs hpl) pa_nil) (by decide) (by decide) hs2 hpl2) fun σ H Q h => by
    have z := opT_read (os_setOf fin_sorted fSortSet_some) h
    exact z
end
/-! ### sorted of many ints -/
def fSortedJ : List D → Option (D × Bool)
  | [.lst ds] => match toIs ds with
    | some ns => some (.lst ((ns.mergeSort fun a b => decide (a ≤ b)).map D.int), true)
    | none => none
  | _ => none
theorem le_unique {l m : List Int} (hl : l.Pairwise (· ≤ ·)) (hm : m.Pairwise (· ≤ ·)) (p : l.Perm m) : l = m := p.eq_of_pairwise (fun a b _ _ h1 h2 => Int.le_antisymm h1 h2) hl hm
theorem up_merge (ns : List Int) : (ns.mergeSort fun a b => decide (a ≤ b)).Pairwise (· ≤ ·) := by
  have := List.pairwise_mergeSort (le := fun a b : Int => decide (a ≤ b)) (fun a b c h1 h2 => by simp only [decide_eq_true_eq] at *; omega) (fun a b => by simp only [Bool.or_eq_true, decide_eq_true_eq]; omega) ns
  exact this.imp fun h => of_decide_eq_true h
theorem os_sortedJ {X : Cx} {ca : CA} : OpS X.K ca (rSortedI X.K) fSortedJ := by
  intro S H vs ds res Q hp hf q
  unfold fSortedJ at hf
  split at hf
  · split at hf
    · rename_i ds ns e
      cases hf
      obtain ⟨v, rfl, b⟩ := pair1 hp
      rw [toIs_intsJ e] at b
      obtain ⟨l, us, rfl, hl, rl⟩ := b.lst
      have e2 := repL_intsB rl
      subst e2
      refine ⟨l, ns, rfl, .inl (.inl hl), fun ms p pm up np => ?_⟩
      have e3 : ms = ns.mergeSort fun a b => decide (a ≤ b) := le_unique up (up_merge ns) (pm.trans (List.mergeSort_perm _ _).symm)
      subst e3
      exact q _ _ (new_same np) (new_lst (repL_ints _) np)
    · cases hf
  · cases hf
/-! ### isinstance of built-in types -/
/-- the built-in kinds, with truth values and dicts -/
def kdT : D → Option String
  | .non => some "NoneType"
  | .bl _ => some "bool"
  | .int _ => some "int"
  | .str _ => some "str"
  | .lst _ => some "list"
  | .tup _ => some "tuple"
  | .dct _ => some "dict"
  | _ => none
def isTy (t T : String) : Bool := t == T || (t == "bool" && T == "int")
def fIsTy (T : String) : List D → Option (D × Bool)
  | [d] => match kdT d with
    | some t => some (.bl (isTy t T), false)
    | none => none
  | _ => none
section
variable {K : PySem.W.Frag} {ca : CA} {S : Addr → Prop} {H : Hp} {v : V} {d : D} {T t : String}
theorem tyx_T (b : Bor K ca S H v d) (h : kdT d = some t) : TyX K H v (.type t) := by
  cases d <;> cases h
  case non => cases b.non; exact .base .non
  case bl => cases b.bl; exact .base (.bl _)
  case int => cases b.int; exact .base (.int _)
  case str => cases b.str; exact .base (.str _)
  case lst =>
    obtain ⟨a, vs, rfl, e, _⟩ := b.lst
    exact .base (.lst e)
  case tup =>
    obtain ⟨a, vs, rfl, e, _⟩ := b.tup
    rcases e with (e | ⟨o, e⟩) | ⟨o, its, n, e1, e2, _⟩
    · exact .base (.tup e)
    · exact .fTuple e
    · exact .kTuple e1 e2
  case dct =>
    obtain ⟨a, vs, rfl, e, _⟩ := b.dct
    exact .base (.dK e)
/-- the types whose answers are told -/
def tysT : List String := ["int", "bool", "str", "list", "tuple", "dict"]
theorem kit_T (hT : T ∈ tysT) (h : kdT d = some t) : PySem.W.kitOne K (.type t) (.type T) = some (isTy t T) := by
  have ht : t ∈ ["NoneType", "bool", "int", "str", "list", "tuple", "dict"] := by
    cases d <;> cases h <;> simp
  have all : ∀ t ∈ ["NoneType", "bool", "int", "str", "list", "tuple", "dict"], ∀ T ∈ tysT, ((t == T) = true ∧ isTy t T = true) ∨ ((t == T) = false ∧ PySem.W.kitMeta T = true ∧ (fastBuiltinMro t).map (·.contains (.type T)) = some (isTy t T)) := by decide +kernel
  rcases all t ht T hT with ⟨h1, h2⟩ | ⟨h1, h2, h3⟩
  · have e : t = T := beq_iff_eq.mp h1
    subst e
    unfold PySem.W.kitOne
    rw [if_pos (by simp), h2]
  · unfold PySem.W.kitOne
    rw [if_neg (by
      intro z
      have e : Value.type t = Value.type T := beq_iff_eq.mp z
      injection e with e
      rw [e] at h1
      simp at h1)]
    show (if PySem.W.kitMeta T = true then PySem.W.subIn K (.type t) (.type T) else none) = _
    rw [if_pos h2]
    exact h3
end
section
variable {X : Cx} {ca : CA} {W : WX} {e : Expr} {a : AK} {Tn : Str} {T : String} {p p2 pos : Pos}
def isTyT (T : String) (a : AK) : ET := opT (fIsTy T) [a]
theorem os_isTy (hT : T ∈ tysT) : OpS X.K ca (fun vs H Q => rIsi X.K (vs ++ [.ty T]) H Q) (fIsTy T) := by
  intro S H vs ds res Q hp hf q
  unfold fIsTy at hf
  split at hf
  · split at hf
    · rename_i d t e
      cases hf
      obtain ⟨v, rfl, b⟩ := pair1 hp
      exact ⟨v, .ty T, .type t, .type T, _, rfl, .ty T, tyx_T b e, kit_T hT e, q _ _ (Same.refl _) (.bl _)⟩
    · cases hf
  · cases hf
theorem pet_isTy (hT : T ∈ tysT) (ha : PAK X ca W e a) (hgi : Gl X "isinstance") (hmi : X.mg "isinstance" = none) (hg : Gl X Tn) (hm : X.mg Tn = none) (hv : bootBuiltins Tn = some (.type T)) (hn : Tn ≠ "__name__" := by decide) (hdc : (Tn == ("__debug__" : Str)) = false := by decide)
    (he : starEach [e, .Name Tn p2] X.env = (false, eval e X.env) :: starEach [.Name Tn p2] X.env := by rfl) : PET X ca W (.Call (.Name "isinstance" p) [e, .Name Tn p2] [] pos) (isTyT T a) :=
  peWeak (pe_callB call_isi hgi hmi (by decide +kernel) (pa_cons ha (pa_cons (pe_bltn (v := .ty T) hg hm hv rfl hn hdc) pa_nil) he) (by decide) (by decide) he) fun σ H Q h => by
    have z : tAks X.K ca W [a] σ H fun vs H1 => rIsi X.K (vs ++ [.ty T]) H1 Q := opT_read (os_isTy hT) h
    exact z
end
/-! ### range with a step -/
def rngC (lo c : Int) (n : Nat) : List D := (List.range n).map fun (i : Nat) => D.int (lo + (i : Int) * c)
theorem rngC_len {lo c : Int} {n : Nat} : (rngC lo c n).length = n := by simp [rngC]
theorem rngC_at {lo c : Int} {n i : Nat} (h : i < n) : (rngC lo c n)[i]? = some (.int (lo + i * c)) := by simp [rngC, h]
def okC (i j c : Int) : Bool := decide (c ≠ 0 ∧ c.natAbs < 1073741824) && Builtin.Range.small i j c && decide (0 ≤ Builtin.Range.rangeSize i j c)
def itRng3 (g g2 g3 : AK) : IT := fun ε => bindE (evA [g, g2, g3] ε) fun ads ε1 => match late ε1 ads with
  | some [.int i, .int j, .int c] => if okC i j c = true then some (.ok (rngC i c (Builtin.Range.rangeSize i j c).toNat, none) ε1) else none
  | _ => none
section
variable {K : PySem.W.Frag} {ca : CA} {W : WX} {O S : Addr → Prop} {H H1 : Hp} {σ : L2.St} {ε : TEnv}
theorem walk_rngC {lo c : Int} {n : Nat} : WalkD K ca O σ ε H (Itc lo c n) (rngC lo c n) none := fun S2 H2 _ _ _ => by
  rw [rngC_len]
  refine ⟨fun i hi => ⟨hi, fun x H3 z => ?_⟩, Nat.le_refl n⟩
  obtain ⟨e1, e2⟩ := z
  subst e1 e2
  exact ⟨Same.refl _, _, rngC_at hi, .int _⟩
theorem itRng3_read {x y z : AK} {P : It → Hp → Prop} (h : tIv K ca W (itRng3 x y z) σ H P) : iRng3 (tAks K ca W [x, y, z]) σ H P := by
  obtain ⟨O, ε, r, R, e, p⟩ := h
  unfold itRng3 at e
  cases q : evA [x, y, z] ε with
  | none => rw [q] at e; cases e
  | some r1 =>
    rw [q] at e
    refine evA_read [x, y, z] R q ?_
    cases r1 with
    | ex c d ε1 =>
      cases e
      exact p
    | ok ads ε1 =>
      rw [bindE_ok] at e
      intro vs H1 s ar
      split at e
      · rename_i i j c el
        split at e
        · rename_i ok
          cases e
          obtain ⟨v, w, u, rfl, b, b2, b3⟩ := pair3 (late_bor s.env ar el)
          unfold okC at ok
          rw [Bool.and_eq_true, Bool.and_eq_true, decide_eq_true_eq, decide_eq_true_eq] at ok
          exact ⟨i, j, c, _, by rw [b.int, b2.int, b3.int], ⟨ok.1.1.1, ok.1.1.2, ok.1.2, (Int.toNat_of_nonneg ok.2).symm⟩, p _ H1 s walk_rngC⟩
        · cases e
      · cases e
end
section
variable {X : Cx} {ca : CA} {W : WX} {tg e e1 e2 : Expr} {a b c : AK} {p pos : Pos}
theorem pit_rng3 (hg : Gl X "range") (hm : X.mg "range" = none) (ha : PAKs X ca W [e, e1, e2] [a, b, c]) (hs : starEach [e, e1, e2] X.env = (false, eval e X.env) :: starEach [e1, e2] X.env := by rfl) (hpl : (backTo pos (starEach [e1, e2] X.env)).any (·.1) = false := by rfl) : PIT X ca W tg (.Call (.Name "range" p) [e, e1, e2] [] pos) (itRng3 a b c) :=
  piWeak (pi_range3 hg hm ha hs hpl) fun _ _ _ h => itRng3_read h
end
end Tr

/-! list(range(n)); running sorted({..}), len({..}), sorted(set(..)), range with a step, isinstance of built-in types. -/
namespace Tr
open PySem PySem.Spec PyProof.Rows L2 Md Tb
/-! ### list(range(n)) -/
def rListRng (X : Cx) : List V → Hp → VK → Prop := fun vs H Q => ∃ j : Int, vs = [.int j] ∧ 0 ≤ j ∧ j ≤ 2 ^ 24 ∧ ∀ l H', Same H H' → H l = none → H' l = some (.lst ((List.range j.toNat).map fun (i : Nat) => V.int i)) → Q (.ref l) H'
def fListRng : List D → Option (D × Bool)
  | [.int j] => if 0 ≤ j ∧ j ≤ 2 ^ 24 then some (.lst ((List.range j.toNat).map fun (i : Nat) => D.int i), true) else none
  | _ => none
section
variable {X : Cx}
def rRng1 : List V → Hp → VK → Prop := fun vs H Q => ∃ j : Int, vs = [.int j] ∧ ∀ p, H p = none → Q (.ref p) (upd H p (.rng 0 j))
theorem cr_rng1 : CallR X (.type "range") rRng1 := by
  intro pins s σ H vs us Q I r h
  obtain ⟨j, rfl, q⟩ := h
  obtain ⟨u, rfl, ri⟩ := vals1 r
  obtain ⟨t, rfl⟩ := ri
  refine call_range_1 ⟨.ref s.heap.objs.size, upd H s.heap.objs.size (.rng 0 j), I.laid (t' := s.toks + 1 + 1) (fun b o e => Heap.get?_push_of_some _ e) (Nat.le_refl _) ?_, rfl, q _ (I.hok.fresh (Nat.le_refl _))⟩
  exact ⟨_, _, _, Heap.get?_push_size _ rfl⟩
def rLR : List V → Hp → VK → Prop := fun vs H Q => ∃ (p : Addr) (j : Int), vs = [.ref p] ∧ H p = some (.rng 0 j) ∧ 0 ≤ j ∧ j ≤ 2 ^ 24 ∧ ∀ l, H l = none → Q (.ref l) (upd H l (.lst ((List.range j.toNat).map fun (i : Nat) => V.int i)))
theorem vals_at : ∀ {xs : List V} {us : List Value}, xs.length = us.length → (∀ (i : Nat) v u, xs[i]? = some v → us[i]? = some u → RelV v u) → Vals xs us
  | [], [], _, _ => .nil
  | x :: xs, u :: us, l, h => .cons (h 0 x u rfl rfl) (vals_at (by simpa using l) fun i v w h1 h2 => h (i + 1) v w (by simpa using h1) (by simpa using h2))
theorem items_rng {acc : Array Value} {n : Nat} (h : ItemsOf (fun i v => ∃ t, v = .int (0 + (i : Int) * 1) t) acc n) : Vals ((List.range n).map fun (i : Nat) => V.int i) acc.toList := by
  refine vals_at (by rw [List.length_map, List.length_range, Array.length_toList, h.1]) fun i v u h1 h2 => ?_
  rw [List.getElem?_map] at h1
  have hi : i < n := by
    have := (List.getElem?_eq_some_iff.mp h2).1
    rw [Array.length_toList, h.1] at this
    exact this
  rw [List.getElem?_range hi] at h1
  cases h1
  obtain ⟨t, e⟩ := h.2 i u (by rw [← Array.getElem?_toList]; exact h2)
  rw [e]
  exact ⟨t, by rw [Int.zero_add, Int.mul_one]⟩
theorem cr_LR (hc : X.calm = true) : CallR X (.type "list") rLR := by
  intro pins s σ H vs us Q I r h
  obtain ⟨p, j, rfl, hp, j0, j1, q⟩ := h
  rw [Vals.ref1 r]
  obtain ⟨t, u, v, hr⟩ := I.hok p _ hp
  have sm : Builtin.Range.small 0 j 1 = true := small_one (by decide) (by decide) (by omega) (by omega)
  have sz : Builtin.Range.rangeSize 0 j 1 = (j.toNat : Int) := by
    rw [rangeSize_one]
    split <;> omega
  refine call_list_range (I.ok.hd hc) hr sm sz (by omega) fun h' tk acc c k hS items => ?_
  have r2 := items_rng items
  refine ⟨.ref _, upd H s.heap.objs.size (.lst ((List.range j.toNat).map fun (i : Nat) => V.int i)), I.laid (t' := tk) k (Nat.le_refl _) ⟨?_, acc.toList, c, r2, by simpa using hS⟩, rfl, q _ (I.hok.fresh (Nat.le_refl _))⟩
  rw [List.length_map, List.length_range, sizeLine_eq]
  omega
theorem repL_rng {K : PySem.W.Frag} {ca : CA} {S : Addr → Prop} {H : Hp} : ∀ l : List Nat, RepL K ca S H (l.map fun (i : Nat) => V.int i) (l.map fun (i : Nat) => D.int i)
  | [] => .nil
  | i :: l => .cons (.int _) (repL_rng l)
theorem os_listRng {ca : CA} : OpS X.K ca (fun vs H Q => rRng1 vs H fun v H1 => rLR [v] H1 Q) fListRng := by
  intro S H vs ds res Q hp hf q
  unfold fListRng at hf
  split at hf
  · split at hf
    · rename_i j c
      cases hf
      obtain ⟨v, rfl, b⟩ := pair1 hp
      refine ⟨j, by rw [b.int], fun p np => ⟨p, j, rfl, upd_same, c.1, c.2, fun l nl => ?_⟩⟩
      have s1 : Same H (upd H p (.rng 0 j)) := new_same np
      refine q _ _ (fun b o z => new_same nl b o (s1 b o z)) ?_
      exact ⟨l, rfl, s1.free nl, _, upd_same, (repL_rng _).with (s1.free nl) fun b o z => new_same nl b o (s1 b o z)⟩
    · cases hf
  · cases hf
section
variable {ca : CA} {W : WX} {a : Expr} {ak : AK} {p p2 q pos : Pos} {k : Nat}
theorem pet_listRng (C : CtxT X W k) (hg : Gl X "list") (hm : X.mg "list" = none) (hg2 : Gl X "range") (hm2 : X.mg "range" = none) (ha : PAKs X ca W [a] [ak])
    (hs : starEach [a] X.env = (false, eval a X.env) :: starEach [] X.env := by rfl) (hpl : (backTo q (starEach [] X.env)).any (·.1) = false := by rfl)
    (hs2 : starEach [.Call (.Name "range" p2) [a] [] q] X.env = (false, eval (.Call (.Name "range" p2) [a] [] q) X.env) :: starEach [] X.env := by rfl) (hpl2 : (backTo pos (starEach [] X.env)).any (·.1) = false := by rfl) :
    PET X ca W (.Call (.Name "list" p) [.Call (.Name "range" p2) [a] [] q] [] pos) (opT fListRng [ak]) :=
  peWeak (pe_callTy (cr_LR C.calm) hg hm (by decide +kernel) (pa_cons (pe_callTy cr_rng1 hg2 hm2 (by decide +kernel) ha (by decide) (by decide) hs hpl) pa_nil) (by decide) (by decide) hs2 hpl2) fun σ H Q h => by
    have z := opT_read os_listRng h
    exact z
end
end
/-! ### running them -/
def qSj (ys : List D) (Q : List Int → Prop) : Prop := match fSortJ ys with
  | some r => Q r
  | none => False
def qRn3 (d e f : D) (Q : List D → Prop) [Tg Q] : Prop := match d, e, f with
  | .int i, .int j, .int c => okC i j c = true ∧ Q (rngC i c (Builtin.Range.rangeSize i j c).toNat)
  | _, _, _ => False
def qHd3 (ds : List D) (Q : D → D → D → Prop) : Prop := match ds with
  | [d, e, f] => Q d e f
  | _ => False
section
variable {ε : TEnv} {vs : List Nat} {t : TgT} {cond : GT} {elt : ET} {it : IT} {P : D → Bool → TEnv → Prop} {X : Str → D → TEnv → Prop} {fin : List Int → D × Bool} {PO : D → Bool → Prop} {QD : List D → Prop} {a a2 a3 : AK} {PI : List D → Option Nat → TEnv → Prop}
theorem w_ofSetT : qE (ofSetT fin it t cond elt vs ε) P X ↔ qI (it ε) (fun xs s ε1 => qNo ε1 vs (qWi ε1 vs fun ε2 => qTn (loopG (turn1 t cond elt vs) (chkC ε1 s) xs ε2) fun ys ε3 => qSj ys fun r => qRe ε1 ε3 vs fun ε4 => P (fin r).1 (fin r).2 ε4)) X := by
  unfold ofSetT qE qI
  rw [qR_bind]
  cases it ε with
  | none => exact Iff.rfl
  | some r =>
    cases r with
    | ex c d ε3 => exact Iff.rfl
    | ok x ε1 =>
      dsimp only [qR, qNo, qWi]
      by_cases c : noOwn ε1 vs = true
      · rw [if_pos c]
        refine Iff.trans ?_ (Iff.symm (and_iff_right c))
        cases loopG (turn1 t cond elt vs) (chkC ε1 x.2) x.1 (wipeE ε1 vs) with
        | none => exact Iff.rfl
        | some z =>
          dsimp only [qTn, qRe, qSj]
          cases fSortJ z.1 with
          | none => exact Iff.rfl
          | some r => exact Iff.rfl
      · rw [if_neg c]
        exact ⟨fun h => h.elim, fun h => absurd h.1 c⟩
theorem toIs_ints : ∀ ns : List Int, toIs (ns.map D.int) = some ns
  | [] => rfl
  | n :: ns => by
    show (toIs (ns.map D.int)).map (n :: ·) = _
    rw [toIs_ints ns]
    rfl
theorem qSj_of {ns : List Int} {Q : List Int → Prop} (ok : okJ ns) : qSj (ns.map D.int) Q ↔ Q (sortJ ns) := by
  unfold qSj fSortJ
  rw [toIs_ints]
  dsimp only
  rw [if_pos ok]
theorem w_rng3 : qI (itRng3 a a2 a3 ε) PI X ↔ qA (evA [a, a2, a3] ε) (fun ads ε1 => qL ε1 ads fun ds => qHd3 ds fun d e f => qRn3 d e f fun xs => PI xs none ε1) X := by
  unfold itRng3 qI qA
  rw [qR_bind]
  cases evA [a, a2, a3] ε with
  | none => exact Iff.rfl
  | some r =>
    cases r with
    | ex c d ε2 => exact Iff.rfl
    | ok ads ε1 =>
      dsimp only [qR]
      unfold qL
      cases late ε1 ads with
      | none => exact Iff.rfl
      | some ds =>
        match ds with
        | [] => exact Iff.rfl
        | [d] => cases d <;> exact Iff.rfl
        | [d, e] => cases d <;> first | exact Iff.rfl | (cases e <;> exact Iff.rfl)
        | d :: e :: f :: _ :: _ => cases d <;> first | exact Iff.rfl | (cases e <;> first | exact Iff.rfl | (cases f <;> exact Iff.rfl))
        | [d, e, f] =>
          cases d <;> first | exact Iff.rfl | (cases e <;> first | exact Iff.rfl | (cases f <;> first | exact Iff.rfl | skip))
          rename_i i j c
          dsimp only [qHd3, qRn3]
          by_cases h : okC i j c = true
          · rw [if_pos h]; exact Iff.symm (and_iff_right h)
          · rw [if_neg h]; exact ⟨fun z => z.elim, fun z => absurd z.1 h⟩
theorem qHd3_i {d e f : D} {Q : D → D → D → Prop} : qHd3 [d, e, f] Q ↔ Q d e f := Iff.rfl
theorem qRn3_i {i j c : Int} : qRn3 (.int i) (.int j) (.int c) QD ↔ okC i j c = true ∧ QD (rngC i c (Builtin.Range.rangeSize i j c).toNat) := Iff.rfl
theorem okC_up {i j c : Int} (hi : midI i) (hj : midI j) (h0 : 0 < c) (h1 : c < 1073741824) : okC i j c = true := by
  have d0 : 0 ≤ (j - i - 1) / c ∨ j ≤ i := by
    by_cases h : j ≤ i
    · exact .inr h
    · exact .inl (Int.ediv_nonneg (by omega) (by omega))
  have d1 : i < j → (j - i - 1) / c ≤ j - i - 1 := fun h => Int.ediv_le_self _ (by omega)
  obtain ⟨a1, a2⟩ := hi
  obtain ⟨b1, b2⟩ := hj
  have sz : Builtin.Range.rangeSize i j c = if i < j then (j - i - 1) / c + 1 else 0 := by
    unfold Builtin.Range.rangeSize
    rw [if_pos (show c > 0 from h0)]
  have s0 : 0 ≤ Builtin.Range.rangeSize i j c := by
    rw [sz]
    split <;> omega
  have s1 : Builtin.Range.rangeSize i j c < 2 ^ 63 := by
    rw [sz]
    split
    · rename_i h
      have := d1 h
      omega
    · omega
  unfold okC Builtin.Range.small Builtin.Range.rangeFitsLong
  simp only [Bool.and_eq_true, Bool.or_eq_true, decide_eq_true_eq, if_pos (show c > 0 from h0)]
  refine ⟨⟨⟨by omega, by omega⟩, ⟨⟨⟨⟨by omega, by omega⟩, by omega⟩, by omega⟩, .inr (by omega)⟩⟩, s0⟩
theorem qO_listRng {j : Int} : qO (fListRng [.int j]) PO ↔ (0 ≤ j ∧ j ≤ 2 ^ 24) ∧ PO (.lst ((List.range j.toNat).map fun (i : Nat) => D.int i)) true := by
  unfold fListRng
  by_cases h : 0 ≤ j ∧ j ≤ 2 ^ 24
  · dsimp only
    rw [if_pos h]
    exact Iff.symm (and_iff_right h)
  · dsimp only
    rw [if_neg h]
    exact ⟨fun z => z.elim, fun z => absurd z.1 h⟩
theorem qO_sortSet {ns : List Int} : qO (fSortSet [.lst (ns.map D.int)]) PO ↔ ns.length < 4000 ∧ PO (.lst ((sortJ ns).map D.int)) true := by
  unfold fSortSet
  dsimp only
  rw [toIs_ints]
  dsimp only
  by_cases h : ns.length < 4000
  · rw [if_pos h]
    exact Iff.symm (and_iff_right h)
  · rw [if_neg h]
    exact ⟨fun z => z.elim, fun z => absurd z.1 h⟩
theorem qO_lenSet {ns : List Int} : qO (fLenSet [.lst (ns.map D.int)]) PO ↔ ns.length < 4000 ∧ PO (.int (sortJ ns).length) false := by
  unfold fLenSet
  dsimp only
  rw [toIs_ints]
  dsimp only
  by_cases h : ns.length < 4000
  · rw [if_pos h]
    exact Iff.symm (and_iff_right h)
  · rw [if_neg h]
    exact ⟨fun z => z.elim, fun z => absurd z.1 h⟩
theorem qO_sortedJ {ns : List Int} : qO (fSortedJ [.lst (ns.map D.int)]) PO ↔ PO (.lst ((ns.mergeSort fun a b => decide (a ≤ b)).map D.int)) true := by
  unfold fSortedJ
  dsimp only
  rw [toIs_ints]
  exact Iff.rfl
theorem w_isTyT {T : String} : qE (isTyT T a ε) P X ↔ qE (opT (fIsTy T) [a] ε) P X := Iff.rfl
theorem qO_isTy_i {T : String} {i : Int} : qO (fIsTy T [.int i]) PO ↔ PO (.bl (isTy "int" T)) false := Iff.rfl
theorem qO_isTy_b {T : String} {b : Bool} : qO (fIsTy T [.bl b]) PO ↔ PO (.bl (isTy "bool" T)) false := Iff.rfl
theorem qO_isTy_n {T : String} : qO (fIsTy T [.non]) PO ↔ PO (.bl (isTy "NoneType" T)) false := Iff.rfl
theorem qO_isTy_s {T : String} {x : Str} : qO (fIsTy T [.str x]) PO ↔ PO (.bl (isTy "str" T)) false := Iff.rfl
theorem qO_isTy_l {T : String} {x : List D} : qO (fIsTy T [.lst x]) PO ↔ PO (.bl (isTy "list" T)) false := Iff.rfl
theorem qO_isTy_t {T : String} {x : List D} : qO (fIsTy T [.tup x]) PO ↔ PO (.bl (isTy "tuple" T)) false := Iff.rfl
end
end Tr

/-! Keywords in another order: running them. -/
namespace Tr
open PySem PySem.Spec PyProof.Rows L2 Md
section
variable {F : ET} {a b c d : Slot} {P : D → Bool → TEnv → Prop} {X : Str → D → TEnv → Prop}
theorem pm_10 {α : Type} {a b : α} : pmL [1, 0] [a, b] = [b, a] := rfl
theorem w_pm_10 : qE (pmT 2 [1, 0] [1, 0] F [a, b]) P X ↔ qE (F [b, a]) (fun d k ε => P d k (pmL [1, 0] ε)) (fun k d ε => X k d (pmL [1, 0] ε)) := w_pmT rfl
theorem pm_021 {α : Type} {a b c : α} : pmL [0, 2, 1] [a, b, c] = [a, c, b] := rfl
theorem w_pm_021 : qE (pmT 3 [0, 2, 1] [0, 2, 1] F [a, b, c]) P X ↔ qE (F [a, c, b]) (fun d k ε => P d k (pmL [0, 2, 1] ε)) (fun k d ε => X k d (pmL [0, 2, 1] ε)) := w_pmT rfl
theorem pm_102 {α : Type} {a b c : α} : pmL [1, 0, 2] [a, b, c] = [b, a, c] := rfl
theorem w_pm_102 : qE (pmT 3 [1, 0, 2] [1, 0, 2] F [a, b, c]) P X ↔ qE (F [b, a, c]) (fun d k ε => P d k (pmL [1, 0, 2] ε)) (fun k d ε => X k d (pmL [1, 0, 2] ε)) := w_pmT rfl
theorem pm_120 {α : Type} {a b c : α} : pmL [1, 2, 0] [a, b, c] = [b, c, a] := rfl
theorem w_pm_120 : qE (pmT 3 [1, 2, 0] [2, 0, 1] F [a, b, c]) P X ↔ qE (F [b, c, a]) (fun d k ε => P d k (pmL [2, 0, 1] ε)) (fun k d ε => X k d (pmL [2, 0, 1] ε)) := w_pmT rfl
theorem pm_201 {α : Type} {a b c : α} : pmL [2, 0, 1] [a, b, c] = [c, a, b] := rfl
theorem w_pm_201 : qE (pmT 3 [2, 0, 1] [1, 2, 0] F [a, b, c]) P X ↔ qE (F [c, a, b]) (fun d k ε => P d k (pmL [1, 2, 0] ε)) (fun k d ε => X k d (pmL [1, 2, 0] ε)) := w_pmT rfl
theorem pm_210 {α : Type} {a b c : α} : pmL [2, 1, 0] [a, b, c] = [c, b, a] := rfl
theorem w_pm_210 : qE (pmT 3 [2, 1, 0] [2, 1, 0] F [a, b, c]) P X ↔ qE (F [c, b, a]) (fun d k ε => P d k (pmL [2, 1, 0] ε)) (fun k d ε => X k d (pmL [2, 1, 0] ε)) := w_pmT rfl
end
end Tr

/-! gcd and lcm of math. -/
namespace Tr
open PySem PySem.Spec PyProof.Rows L2 Md
def fGcd : List D → Option (D × Bool)
  | [.int a, .int b] => some (.int ((Nat.gcd a.natAbs b.natAbs : Nat) : Int), false)
  | _ => none
def fLcm : List D → Option (D × Bool)
  | [.int a, .int b] => if a.natAbs < 2 ^ 64 ∧ b.natAbs < 2 ^ 64 then some (.int ((Nat.lcm a.natAbs b.natAbs : Nat) : Int), false) else none
  | _ => none
def rLcm : List V → Hp → VK → Prop := fun vs H Q => ∃ a b : Int, vs = [.int a, .int b] ∧ a.natAbs < 2 ^ 64 ∧ b.natAbs < 2 ^ 64 ∧ Q (.int ((Nat.lcm a.natAbs b.natAbs : Nat) : Int)) H
section
variable {X : Cx} {K : PySem.W.Frag} {ca : CA} {W : WX}
theorem os_gcd : OpS K ca rGcd fGcd := by
  intro S H vs ds res Q hp hf q
  unfold fGcd at hf
  split at hf
  · cases hf
    obtain ⟨v, w, rfl, b1, b2⟩ := pair2 hp
    exact ⟨_, _, by rw [b1.int, b2.int], q _ _ (Same.refl _) (.int _)⟩
  · cases hf
theorem pet_callM {x : Str} {p pos : Pos} {e : Expr} {es : List Expr} {as : List AK} {id : String} {r : List V → Hp → VK → Prop} {f : List D → Option (D × Bool)} (hc : CallR X (.builtin id) r) (o : OpS X.K ca r f) (hg : Gl X x) (hm : X.mg x = some (.builtin id)) (ha : PAKs X ca W (e :: es) as)
    (hdb : (x == ("__debug__" : Str)) = false := by decide) (he : starEach (e :: es) X.env = (false, eval e X.env) :: starEach es X.env := by rfl) (hpl : (backTo pos (starEach es X.env)).any (·.1) = false := by rfl) : PET X ca W (.Call (.Name x p) (e :: es) [] pos) (opT f as) :=
  peWeak (pe_callBfun hc hg hm ha hdb he hpl) fun _ _ _ h => opT_read o h
end
section
variable {a b : Int} {PO : D → Bool → Prop}
theorem qO_gcd : qO (fGcd [.int a, .int b]) PO ↔ PO (.int ((Nat.gcd a.natAbs b.natAbs : Nat) : Int)) false := Iff.rfl
theorem qO_lcm : qO (fLcm [.int a, .int b]) PO ↔ (a.natAbs < 2 ^ 64 ∧ b.natAbs < 2 ^ 64) ∧ PO (.int ((Nat.lcm a.natAbs b.natAbs : Nat) : Int)) false := by
  unfold fLcm
  dsimp only
  by_cases h : a.natAbs < 2 ^ 64 ∧ b.natAbs < 2 ^ 64
  · rw [if_pos h]
    exact Iff.symm (and_iff_right h)
  · rw [if_neg h]
    exact ⟨fun z => z.elim, fun z => absurd z.1 h⟩
end
end Tr

namespace Mk
open PySem PySem.Spec PyProof.Rows L2 Md Tr
/-- is_name -/
noncomputable def F_is_name : ET := defT 1 2 (retT (andT (chT fLe fLe (cT (.int 1)) (opT fLen [.nm 0]) (cT (.int 8))) (opT fAll [.ex (lcT (itSeq (.nm 0)) (.nm 1) (yesG) (opT fInA [.nm 1, .ex (cT (.str "abcdefghijklmnopqrstuvwxyz"))]) [1])])))
/-- check_towns -/
noncomputable def F_check_towns : ET := defT 1 6 (seqT (setT 1 (lstT []))
 (forT (itSeq (.nm 0)) (.nm 2) (seqT (asgT (.tp (.cons (.nm 3) (.cons (.nm 4) (.cons (.nm 5) (.nil))))) (varT 2))
 (seqT (ifS (notG (truT (.ex (callT F_is_name [.nm 3])))) (raiseT "InvalidName" (varT 3)) (nilT))
 (seqT (ifS (boolT (opT fInA [.nm 3, .nm 1])) (raiseT "DoubleTown" (varT 3)) (nilT))
 (seqT (ifS (orG (boolT (opT fLt [.nm 4, .ex (cT (.int 1))])) (boolT (opT fLt [.nm 5, .nm 4]))) (raiseT "InvalidTown" (varT 2)) (nilT))
 (dropT (mutT fAppend 1 [.ex (varT 3)]))))))))
/-- check_asked -/
noncomputable def F_check_asked : ET := defT 2 3 (forT (itSeq (.nm 1)) (.nm 2) (ifS (boolT (opT fNotInA [.nm 2, .nm 0])) (raiseT "UnknownTown" (varT 2)) (nilT)))
/-- check_note -/
noncomputable def F_check_note : ET := defT 2 3 (seqT (ifS (orG (notG (truT (.nm 1))) (boolT (opT fNeA [.ex (opT fLen [.nm 1]), .ex (kdGetT [("market", .int 3), ("none", .int 3), ("one", .int 4), ("same", .int 4)] (.ex (opT (fOr fIx fDGet) [.nm 1, .ex (cT (.int 0))])))]))) (raiseT "InvalidNote" (varT 1)) (nilT))
 (seqT (setT 2 (sl3T (.nm 1) (cT (.int 1)) (opT fNeg [.ex (cT (.int 1))])))
 (seqT (dropT (callT F_check_asked [.nm 0, .nm 2]))
 (seqT (ifS (andG (boolT (opT fEqA [.ex (opT fLen [.nm 2]), .ex (cT (.int 2))])) (boolT (opT fEqA [.ex (opT (fOr fIx fDGet) [.nm 2, .ex (cT (.int 0))]), .ex (opT (fOr fIx fDGet) [.nm 2, .ex (cT (.int 1))])]))) (raiseT "InvalidNote" (varT 1)) (nilT))
 (ifS (boolT (opT fLt [.ex (opT (fOr fIx fDGet) [.nm 1, .ex (opT fNeg [.ex (cT (.int 1))])]), .ex (cT (.int 0))])) (raiseT "InvalidDay" (opT (fOr fIx fDGet) [.nm 1, .ex (opT fNeg [.ex (cT (.int 1))])])) (nilT))))))
/-- Diary.__init__ -/
noncomputable def F_Diary___init__ : ET := defT 3 6 (seqT (dropT (callT F_check_towns [.nm 1]))
 (seqT (setT 3 (lcT (itSeq (.nm 1)) (.nm 5) (yesG) (opT (fOr fIx fDGet) [.nm 5, .ex (cT (.int 0))]) [5]))
 (seqT (forT (itSeq (.nm 2)) (.nm 4) (dropT (callT F_check_note [.nm 3, .nm 4])))
 (seqT (storeF "Diary" "_towns" 0 (opT fList [.nm 1]))
 (storeF "Diary" "_notes" 0 (opT fList [.nm 2]))))))
/-- Diary.towns -/
noncomputable def F_Diary_towns : ET := defT 1 1 (retT (opT fList [.ex (opT (fFld "Diary" "_towns") [.nm 0])]))
/-- Diary.notes -/
noncomputable def F_Diary_notes : ET := defT 1 1 (retT (opT fList [.ex (opT (fFld "Diary" "_notes") [.nm 0])]))
/-- Diary.names -/
noncomputable def F_Diary_names : ET := defT 1 2 (retT (lcT (itSeq (.ex (opT (fFld "Diary" "_towns") [.nm 0]))) (.nm 1) (yesG) (opT (fOr fIx fDGet) [.nm 1, .ex (cT (.int 0))]) [1]))
/-- Diary.with_note -/
noncomputable def F_Diary_with_note : ET := defT 2 2 (retT (makeT "Diary" F_Diary___init__ [.ex (opT (fFld "Diary" "_towns") [.nm 0]), .ex (opT fAdd [.ex (opT (fFld "Diary" "_notes") [.nm 0]), .ex (lstT [.ex (varT 1)])])]))
/-- Diary.without -/
noncomputable def F_Diary_without : ET := defT 2 2 (seqT (ifS (orG (boolT (opT fLt [.nm 1, .ex (cT (.int 0))])) (boolT (opT fGe [.nm 1, .ex (opT fLen [.ex (opT (fFld "Diary" "_notes") [.nm 0])])]))) (raiseT "UnknownNote" (varT 1)) (nilT))
 (retT (makeT "Diary" F_Diary___init__ [.ex (opT (fFld "Diary" "_towns") [.nm 0]), .ex (opT fAdd [.ex (opT (fSl false true) [.ex (opT (fFld "Diary" "_notes") [.nm 0]), .ex (varT 1)]), .ex (opT (fSl true false) [.ex (opT (fFld "Diary" "_notes") [.nm 0]), .ex (opT fAdd [.nm 1, .ex (cT (.int 1))])])])])))
/-- Diary.__len__ -/
noncomputable def F_Diary___len__ : ET := defT 1 1 (retT (opT fLen [.ex (opT (fFld "Diary" "_notes") [.nm 0])]))
/-- bits_of -/
noncomputable def F_bits_of : ET := defT 1 3 (retT (opT fSum [.ex (lcT (itEnum (.nm 0)) (.tp (.cons (.nm 1) (.cons (.nm 2) (.nil)))) (truT (.nm 2)) (opT fShl [.ex (cT (.int 1)), .nm 1]) [1, 2])]))
/-- picked -/
noncomputable def F_picked : ET := defT 2 4 (retT (lcT (itEnum (.nm 0)) (.tp (.cons (.nm 2) (.cons (.nm 3) (.nil)))) (truT (.ex (opT fBand [.ex (opT fShr [.nm 1, .nm 2]), .ex (cT (.int 1))]))) (varT 3) [2, 3]))
/-- choices_of -/
noncomputable def F_choices_of : ET := defT 1 3 (retT (lc2T (itRng2 (.ex (opT (fOr fIx fDGet) [.nm 0, .ex (cT (.int 1))])) (.ex (opT fAdd [.ex (opT (fOr fIx fDGet) [.nm 0, .ex (cT (.int 2))]), .ex (cT (.int 1))]))) (.nm 1) (yesG) (itRng1 (.nm 1)) (.nm 2) (yesG) (tupT [.ex (varT 1), .ex (varT 2)]) [1, 2] [2]))
/-- has_market -/
noncomputable def F_has_market : ET := defT 2 2 (retT (opT fEqA [.ex (opT fMod [.nm 1, .ex (opT (fOr fIx fDGet) [.nm 0, .ex (cT (.int 0))])]), .ex (opT (fOr fIx fDGet) [.nm 0, .ex (cT (.int 1))])]))
/-- number_with -/
noncomputable def F_number_with : ET := defT 2 3 (retT (opT fLen [.ex (lcT (itSeq (.nm 0)) (.nm 2) (truT (.ex (callT F_has_market [.nm 2, .nm 1]))) (varT 2) [2])]))
/-- keeping -/
noncomputable def F_keeping : ET := defT 3 4 (retT (callT F_bits_of [.ex (lcT (itSeq (.nm 1)) (.nm 3) (yesG) (opT fInA [.ex (opT fAdd [.nm 2, .ex (callT F_number_with [.ex (lstT [.ex (varT 3)]), .ex (opT (fOr fIx fDGet) [.nm 0, .ex (opT fNeg [.ex (cT (.int 1))])])])]), .ex (kdIxT [("market", .tup [.int 1]), ("none", .tup [.int 0]), ("one", .tup [.int 1]), ("same", .tup [.int 0, .int 2])] (.ex (opT (fOr fIx fDGet) [.nm 0, .ex (cT (.int 0))])))]) [3])]))
/-- group_of -/
noncomputable def F_group_of : ET := defT 2 9 (seqT (setT 2 (lcT (itSeq (.ex (propT "Diary" F_Diary_notes (.nm 0)))) (.nm 7) (boolT (opT fEqA [.ex (opT fLen [.nm 7]), .ex (cT (.int 4))])) (sl3T (.nm 7) (cT (.int 1)) (cT (.int 3))) [7]))
 (seqT (setT 3 (set1T (varT 1)))
 (seqT (setT 4 (cT (.bl true)))
 (seqT (whileT (truT (.nm 4)) (seqT (setT 4 (cT (.bl false)))
 (forT (itSeq (.nm 2)) (.tp (.cons (.nm 5) (.cons (.nm 6) (.nil)))) (ifS (boolT (opT fNeA [.ex (opT fInA [.nm 5, .nm 3]), .ex (opT fInA [.nm 6, .nm 3])])) (seqT (dropT (addT 3 (.ex (varT 5))))
 (seqT (dropT (addT 3 (.ex (varT 6))))
 (setT 4 (cT (.bl true))))) (nilT)))))
 (retT (lcT (itSeq (.ex (methT "Diary" (some "names") F_Diary_names (.nm 0) []))) (.nm 8) (boolT (opT fInA [.nm 8, .nm 3])) (varT 8) [8]))))))
/-- groups_of -/
noncomputable def F_groups_of : ET := defT 1 4 (seqT (setT 1 (lstT []))
 (seqT (forT (itSeq (.ex (methT "Diary" (some "names") F_Diary_names (.nm 0) []))) (.nm 2) (seqT (setT 3 (callT F_group_of [.nm 0, .nm 2]))
 (ifS (boolT (opT fEqA [.ex (opT (fOr fIx fDGet) [.nm 3, .ex (cT (.int 0))]), .nm 2])) (dropT (mutT fAppend 1 [.ex (varT 3)])) (nilT))))
 (retN 1)))
/-- asked_of -/
noncomputable def F_asked_of : ET := defT 2 5 (retT (lcT (itEnum (.ex (propT "Diary" F_Diary_notes (.nm 0)))) (.tp (.cons (.nm 2) (.cons (.nm 3) (.nil)))) (truT (.ex (opT fAll [.ex (lcT (itSeq (.ex (sl3T (.nm 3) (cT (.int 1)) (opT fNeg [.ex (cT (.int 1))])))) (.nm 4) (yesG) (opT fInA [.nm 4, .nm 1]) [4])]))) (tupT [.ex (varT 2), .ex (varT 3), .ex (lcT (itSeq (.ex (sl3T (.nm 3) (cT (.int 1)) (opT fNeg [.ex (cT (.int 1))])))) (.nm 4) (yesG) (mthT isLstD fIndex (.nm 1) [.nm 4]) [4])]) [2, 3]))
/-- longer_lots -/
noncomputable def F_longer_lots : ET := defT 4 18 (seqT (setT 4 (lcT (itSeq (.nm 3)) (.tp (.cons (.nm 12) (.cons (.nm 13) (.nil)))) (yesG) (tupT [.ex (opT (fOr fIx fDGet) [.nm 12, .ex (opT fNeg [.ex (cT (.int 1))])]), .ex (lcT (itSeq (.nm 13)) (.nm 14) (boolT (opT fNeA [.nm 14, .nm 2])) (varT 14) [14]), .ex (lcT (itSeq (.ex (tupT [.ex (cT (.int 0)), .ex (cT (.int 1))]))) (.nm 15) (yesG) (callT F_keeping [.nm 12, .nm 1, .nm 15]) [15])]) [12, 13]))
 (seqT (setT 5 (dnewT))
 (seqT (setT 6 (lstT []))
 (seqT (forT (itSeq (.nm 0)) (.nm 7) (seqT (setT 8 (opT fSub [.ex (opT fShl [.ex (cT (.int 1)), .ex (opT fLen [.nm 1])]), .ex (cT (.int 1))]))
 (seqT (forT (itSeq (.nm 4)) (.tp (.cons (.nm 9) (.cons (.nm 10) (.cons (.nm 11) (.nil))))) (setT 8 (opT fBand [.nm 8, .ex (opT (fOr fIx fDGet) [.nm 11, .ex (callT F_number_with [.ex (lcT (itSeq (.nm 10)) (.nm 16) (yesG) (opT (fOr fIx fDGet) [.nm 7, .nm 16]) [16]), .nm 9])])])))
 (seqT (ifS (boolT (opT fNotInA [.nm 8, .nm 5])) (storeA 5 (varT 8) (callT F_picked [.nm 1, .nm 8])) (nilT))
 (dropT (mutT fExtend 6 [.ex (lcT (itSeq (.ex (opT (fOr fIx fDGet) [.nm 5, .nm 8]))) (.nm 17) (yesG) (opT fAdd [.nm 7, .ex (lstT [.ex (varT 17)])]) [17])]))))))
 (retN 6)))))
/-- lots_keeping -/
noncomputable def F_lots_keeping : ET := defT 3 11 (seqT (setT 3 (lcT (itSeq (.ex (propT "Diary" F_Diary_towns (.nm 0)))) (.nm 6) (boolT (opT fInA [.ex (opT (fOr fIx fDGet) [.nm 6, .ex (cT (.int 0))]), .nm 1])) (varT 6) [6]))
 (seqT (setT 4 (lstT [.ex (lstT [])]))
 (seqT (forT (itEnum (.nm 3)) (.tp (.cons (.nm 5) (.cons (.nm 6) (.nil)))) (seqT (setT 7 (lcT (itSeq (.nm 2)) (.tp (.cons (.nm 8) (.cons (.nm 9) (.cons (.nm 10) (.nil))))) (boolT (opT fEqA [.ex (opT fMax [.nm 10]), .nm 5])) (tupT [.ex (varT 9), .ex (varT 10)]) [8, 9, 10]))
 (setT 4 (callT F_longer_lots [.nm 4, .ex (callT F_choices_of [.nm 6]), .nm 5, .nm 7]))))
 (retN 4))))
/-- fitting_lots -/
noncomputable def F_fitting_lots : ET := defT 2 2 (retT (callT F_lots_keeping [.nm 0, .nm 1, .ex (callT F_asked_of [.nm 0, .nm 1])]))
/-- number_of_cases -/
noncomputable def F_number_of_cases : ET := defT 1 3 (seqT (setT 1 (cT (.int 1)))
 (seqT (forT (itSeq (.ex (callT F_groups_of [.nm 0]))) (.nm 2) (setT 1 (opT fMul [.nm 1, .ex (opT fLen [.ex (callT F_fitting_lots [.nm 0, .nm 2])])])))
 (retN 1)))
/-- _law_purse -/
noncomputable def F__law_purse : ET := defT 2 3 (seqT (setT 2 (ifT (boolT (opT fLt [.nm 1, .ex (opT fLen [.nm 0])])) (opT (fOr fIx fDGet) [.nm 0, .nm 1]) (cT (.int 0))))
 (retT (lstT [.ex (opT fMax [.ex (cT (.int 0)), .ex (opT fSub [.ex (opT fAbs [.nm 2]), .ex (opT fPow [.ex (cT (.int 10)), .ex (cT (.int 18))])])]), .ex (opT fMod [.ex (opT fInt [.ex (opT fAdd [.ex (opT fAdd [.ex (opT fMul [.nm 2, .ex (cT (.int 30011))]), .ex (opT fMul [.nm 1, .ex (cT (.int 7368787))])]), .ex (cT (.int 104729))])]), .ex (opT fAdd [.ex (opT fPow [.ex (cT (.int 10)), .ex (cT (.int 24))]), .ex (cT (.int 7))])]), .ex (cT (.int 0))])))
/-- _law_coin -/
noncomputable def F__law_coin : ET := defT 2 4 (seqT (ifS (boolT (opT fGt [.ex (opT (fOr fIx fDGet) [.nm 0, .ex (cT (.int 0))]), .ex (cT (.int 0))])) (seqT (setT 2 (opT fMod [.ex (opT fInt [.ex (opT (fOr fIx fDGet) [.nm 0, .ex (cT (.int 0))])]), .nm 1]))
 (seqT (storeA 0 (cT (.int 0)) (opT fDiv [.ex (opT (fOr fIx fDGet) [.nm 0, .ex (cT (.int 0))]), .nm 1]))
 (retN 2))) (nilT))
 (seqT (storeA 0 (cT (.int 2)) (opT fAdd [.ex (opT (fOr fIx fDGet) [.nm 0, .ex (cT (.int 2))]), .ex (cT (.int 1))]))
 (seqT (setT 3 (opT fMod [.ex (opT fPow [.ex (opT fInt [.ex (opT fAdd [.ex (opT (fOr fIx fDGet) [.nm 0, .ex (cT (.int 1))]), .ex (opT fMul [.ex (cT (.int 2038074743)), .ex (opT (fOr fIx fDGet) [.nm 0, .ex (cT (.int 2))])])])]), .ex (cT (.int 3))]), .ex (opT fAdd [.ex (opT fPow [.ex (cT (.int 10)), .ex (cT (.int 25))]), .ex (cT (.int 13))])]))
 (seqT (setT 3 (opT fMod [.ex (opT fPow [.ex (opT fInt [.ex (opT fAdd [.nm 3, .ex (opT fMul [.ex (cT (.int 982451653)), .ex (opT (fOr fIx fDGet) [.nm 0, .ex (cT (.int 2))])])])]), .ex (cT (.int 2))]), .ex (opT fAdd [.ex (opT fPow [.ex (cT (.int 10)), .ex (cT (.int 24))]), .ex (cT (.int 7))])]))
 (retT (opT fMod [.ex (opT fInt [.ex (opT fDiv [.nm 3, .ex (cT (.int 1024))])]), .nm 1]))))))
/-- _law_words -/
noncomputable def F__law_words : ET := defT 2 16 (seqT (parT [2, 3] [cT (.str "abcdefghijklmnopqrstuvwxyz"), callT F__law_coin [.nm 0, .ex (cT (.int 5))]])
 (seqT (setT 4 (lstT [.ex (cT (.str "market")), .ex (cT (.str "none")), .ex (cT (.str "one")), .ex (cT (.str "same")), .ex (cT (.str "by")), .ex (cT (.str "ulm")), .ex (cT (.str "wien"))]))
 (seqT (setT 4 (opT fAdd [.nm 4, .ex (lstT [.ex (cT (.str "bonn")), .ex (cT (.str "a")), .ex (cT (.str "b")), .ex (cT (.str "turn")), .ex (cT (.str "first")), .ex (cT (.str "town")), .ex (cT (.str "day"))])]))
 (seqT (setT 5 (mthT isStrD fJoin (.ex (cT (.str ""))) [.ex (lcT (itRng1 (.ex (cT (.int 8)))) (.nm 15) (yesG) (opT (fOr fIx fDGet) [.nm 2, .ex (callT F__law_coin [.nm 0, .ex (cT (.int 26))])]) [15])]))
 (seqT (ifS (andG (boolT (opT fEqA [.nm 3, .ex (cT (.int 0))])) (boolT (opT fLt [.nm 1, .ex (cT (.int 15))]))) (seqT (setT 6 (callT F__law_coin [.nm 0, .ex (cT (.int 14))]))
 (retT (lcT (itRng1 (.nm 1)) (.nm 8) (yesG) (opT (fOr fIx fDGet) [.nm 4, .ex (opT fMod [.ex (opT fInt [.ex (opT fAdd [.nm 6, .ex (opT fMul [.ex (cT (.int 3)), .nm 8])])]), .ex (cT (.int 14))])]) [8]))) (nilT))
 (seqT (ifS (andG (boolT (opT fEqA [.nm 3, .ex (cT (.int 1))])) (boolT (opT fLt [.nm 1, .ex (cT (.int 9))]))) (seqT (setT 6 (callT F__law_coin [.nm 0, .ex (opT fSub [.ex (cT (.int 9)), .nm 1])]))
 (retT (lcT (itRng1 (.nm 1)) (.nm 8) (yesG) (opT (fSl false true) [.nm 5, .ex (opT fAdd [.ex (opT fAdd [.nm 6, .nm 8]), .ex (cT (.int 1))])]) [8]))) (nilT))
 (seqT (setT 7 (lstT []))
 (seqT (ifS (boolT (opT fEqA [.nm 3, .ex (cT (.int 3))])) (forT (itRng1 (.nm 1)) (.nm 8) (seqT (setT 9 (opT fAdd [.ex (cT (.int 1)), .ex (callT F__law_coin [.nm 0, .ex (cT (.int 8))])]))
 (dropT (mutT fAppend 7 [.ex (mthT isStrD fJoin (.ex (cT (.str ""))) [.ex (lcT (itRng1 (.nm 9)) (.nm 15) (yesG) (opT (fOr fIx fDGet) [.nm 2, .ex (callT F__law_coin [.nm 0, .ex (cT (.int 26))])]) [15])])])))) (nilT))
 (seqT (ifS (boolT (opT fEqA [.nm 3, .ex (cT (.int 4))])) (seqT (setT 10 (opT (fSl false true) [.nm 5, .ex (opT fAdd [.ex (cT (.int 1)), .ex (callT F__law_coin [.nm 0, .ex (cT (.int 5))])])]))
 (seqT (setT 7 (lstT [.ex (varT 10)]))
 (seqT (forT (itSeq (.nm 4)) (.nm 11) (dropT (mutT fAppend 7 [.ex (opT (fOr fIx fDGet) [.ex (lstT [.ex (opT fAdd [.ex (opT (fSl false true) [.nm 11, .ex (cT (.int 3))]), .nm 10]), .ex (opT fAdd [.nm 10, .ex (opT (fSl false true) [.nm 11, .ex (cT (.int 3))])])]), .ex (callT F__law_coin [.nm 0, .ex (cT (.int 2))])])])))
 (setT 7 (opT (fSl false true) [.nm 7, .ex (varT 1)]))))) (nilT))
 (seqT (ifS (boolT (opT fEqA [.ex (opT fLenTexts [.nm 7]), .nm 1])) (retN 7) (nilT))
 (seqT (parT [6, 12] [callT F__law_coin [.nm 0, .ex (cT (.int 26))], opT (fSl false true) [.nm 5, .ex (callT F__law_coin [.nm 0, .ex (cT (.int 8))])]])
 (seqT (parT [13, 7] [callT F__law_coin [.nm 0, .ex (opT fAdd [.ex (opT fLen [.nm 12]), .ex (cT (.int 1))])], lstT []])
 (seqT (forT (itRng1 (.nm 1)) (.nm 8) (seqT (setT 14 (opT (fOr fIx fDGet) [.nm 2, .ex (opT fMod [.ex (opT fInt [.ex (opT fAdd [.nm 6, .nm 8])]), .ex (cT (.int 26))])]))
 (dropT (mutT fAppend 7 [.ex (opT fAdd [.ex (opT fAdd [.ex (opT (fSl false true) [.nm 12, .ex (varT 13)]), .nm 14]), .ex (opT (fSl true false) [.nm 12, .ex (varT 13)])])]))))
 (retN 7))))))))))))))
/-- _law_mk_moment -/
noncomputable def F__law_mk_moment : ET := defT 1 2 (seqT (setT 1 (callT F__law_coin [.nm 0, .ex (cT (.int 5))]))
 (seqT (ifS (boolT (opT fEqA [.nm 1, .ex (cT (.int 4))])) (retT (opT fSub [.ex (opT fPow [.ex (cT (.int 10)), .ex (cT (.int 30))]), .ex (callT F__law_coin [.nm 0, .ex (cT (.int 900))])])) (nilT))
 (retT (callT F__law_coin [.nm 0, .ex (opT (fOr fIx fDGet) [.ex (lstT [.ex (cT (.int 9)), .ex (cT (.int 40)), .ex (cT (.int 1700)), .ex (opT fAdd [.ex (opT fPow [.ex (cT (.int 10)), .ex (cT (.int 30))]), .ex (cT (.int 1))])]), .nm 1])]))))
/-- _law_mk_places -/
noncomputable def F__law_mk_places : ET := defT 3 6 (seqT (setT 3 (lstT []))
 (seqT (forT (itSeq (.ex (callT F__law_words [.nm 0, .nm 1]))) (.nm 4) (seqT (setT 5 (opT fSorted [.ex (lstT [.ex (opT fAdd [.ex (cT (.int 1)), .ex (callT F__law_coin [.nm 0, .nm 2])]), .ex (opT fAdd [.ex (cT (.int 1)), .ex (callT F__law_coin [.nm 0, .nm 2])])])]))
 (dropT (mutT fAppend 3 [.ex (tupT [.ex (varT 4), .ex (opT (fOr fIx fDGet) [.nm 5, .ex (cT (.int 0))]), .ex (opT (fOr fIx fDGet) [.nm 5, .ex (opT fMin [.ex (cT (.int 1)), .ex (callT F__law_coin [.nm 0, .ex (cT (.int 5))])])])])]))))
 (retN 3)))
/-- _law_mk_picks -/
noncomputable def F__law_mk_picks : ET := defT 2 5 (seqT (setT 2 (lstT []))
 (seqT (forT (itSeq (.nm 1)) (.nm 3) (seqT (setT 4 (opT fAdd [.ex (opT (fOr fIx fDGet) [.nm 3, .ex (cT (.int 1))]), .ex (callT F__law_coin [.nm 0, .ex (opT fAdd [.ex (opT fSub [.ex (opT (fOr fIx fDGet) [.nm 3, .ex (cT (.int 2))]), .ex (opT (fOr fIx fDGet) [.nm 3, .ex (cT (.int 1))])]), .ex (cT (.int 1))])])]))
 (dropT (mutT fAppend 2 [.ex (tupT [.ex (varT 4), .ex (callT F__law_coin [.nm 0, .nm 4])])]))))
 (retN 2)))
/-- _law_mk_pair -/
noncomputable def F__law_mk_pair : ET := defT 2 4 (seqT (ifS (orG (boolT (opT fLt [.ex (opT fLen [.nm 1]), .ex (cT (.int 2))])) (boolT (opT fEqA [.ex (callT F__law_coin [.nm 0, .ex (cT (.int 4))]), .ex (cT (.int 0))]))) (retT (lstT [])) (nilT))
 (seqT (parT [2, 3] [callT F__law_coin [.nm 0, .ex (opT fLen [.nm 1])], opT fAdd [.ex (cT (.int 1)), .ex (callT F__law_coin [.nm 0, .ex (opT fSub [.ex (opT fLen [.nm 1]), .ex (cT (.int 1))])])]])
 (retT (lstT [.ex (varT 2), .ex (opT fMod [.ex (opT fInt [.ex (opT fAdd [.nm 2, .nm 3])]), .ex (opT fLen [.nm 1])])]))))
/-- _law_mk_market -/
noncomputable def F__law_mk_market : ET := defT 2 2 (retT (opT fEqA [.ex (opT fMod [.ex (opT fInt [.nm 1]), .ex (opT (fOr fIx fDGet) [.nm 0, .ex (cT (.int 0))])]), .ex (opT (fOr fIx fDGet) [.nm 0, .ex (cT (.int 1))])]))
/-- _law_mk_entry -/
noncomputable def F__law_mk_entry : ET := defT 5 10 (seqT (parT [5, 6] [callT F__law_mk_moment [.nm 0], callT F__law_coin [.nm 0, .ex (opT fLen [.nm 1])]])
 (seqT (setT 7 (callT F__law_mk_market [.ex (opT (fOr fIx fDGet) [.nm 3, .nm 6]), .nm 5]))
 (seqT (setT 8 (andT (notT (.nm 4)) (opT fEqA [.ex (callT F__law_coin [.nm 0, .ex (cT (.int 2))]), .ex (cT (.int 0))])))
 (seqT (ifS (andG (boolT (opT fNeA [.nm 2, .ex (lstT [])])) (boolT (opT fEqA [.ex (callT F__law_coin [.nm 0, .ex (cT (.int 3))]), .ex (cT (.int 0))]))) (seqT (setT 9 (ifT (boolT (opT fEqA [.ex (callT F__law_coin [.nm 0, .ex (cT (.int 2))]), .ex (cT (.int 0))])) (opT fRev [.nm 2]) (varT 2)))
 (seqT (setT 7 (opT fEqA [.ex (callT F__law_mk_market [.ex (opT (fOr fIx fDGet) [.nm 3, .ex (opT (fOr fIx fDGet) [.nm 9, .ex (cT (.int 0))])]), .nm 5]), .ex (callT F__law_mk_market [.ex (opT (fOr fIx fDGet) [.nm 3, .ex (opT (fOr fIx fDGet) [.nm 9, .ex (cT (.int 1))])]), .nm 5])]))
 (retT (tupT [.ex (opT (fOr fIx fDGet) [.ex (lstT [.ex (cT (.str "one")), .ex (cT (.str "same"))]), .ex (opT fInt [.ex (opT fNeA [.nm 7, .nm 8])])]), .ex (opT (fOr fIx fDGet) [.ex (opT (fOr fIx fDGet) [.nm 1, .ex (opT (fOr fIx fDGet) [.nm 9, .ex (cT (.int 0))])]), .ex (cT (.int 0))]), .ex (opT (fOr fIx fDGet) [.ex (opT (fOr fIx fDGet) [.nm 1, .ex (opT (fOr fIx fDGet) [.nm 9, .ex (cT (.int 1))])]), .ex (cT (.int 0))]), .ex (varT 5)])))) (nilT))
 (retT (tupT [.ex (opT (fOr fIx fDGet) [.ex (lstT [.ex (cT (.str "none")), .ex (cT (.str "market"))]), .ex (opT fInt [.ex (opT fNeA [.nm 7, .nm 8])])]), .ex (opT (fOr fIx fDGet) [.ex (opT (fOr fIx fDGet) [.nm 1, .nm 6]), .ex (cT (.int 0))]), .ex (varT 5)]))))))
/-- _law_mk_sheet -/
noncomputable def F__law_mk_sheet : ET := defT 4 10 (seqT (setT 4 (callT F__law_mk_places [.nm 0, .ex (opT fAdd [.ex (cT (.int 1)), .ex (callT F__law_coin [.nm 0, .nm 1])]), .nm 2]))
 (seqT (parT [5, 6] [callT F__law_mk_pair [.nm 0, .nm 4], callT F__law_mk_picks [.nm 0, .nm 4]])
 (seqT (setT 7 (opT fGt [.ex (callT F__law_coin [.nm 0, .ex (cT (.int 4))]), .ex (cT (.int 0))]))
 (seqT (setT 8 (lcT (itRng1 (.ex (callT F__law_coin [.nm 0, .ex (opT fAdd [.nm 3, .ex (cT (.int 1))])]))) (.nm 9) (yesG) (callT F__law_mk_entry [.nm 0, .nm 4, .nm 5, .nm 6, .nm 7]) [9]))
 (retT (tupT [.ex (varT 4), .ex (varT 8)]))))))
/-- _law_mk_made -/
noncomputable def F__law_mk_made : ET := defT 1 1 (retT (makeT "Diary" F_Diary___init__ [.ex (opT fList [.ex (opT (fOr fIx fDGet) [.nm 0, .ex (cT (.int 0))])]), .ex (opT fList [.ex (opT (fOr fIx fDGet) [.nm 0, .ex (cT (.int 1))])])]))
/-- _law_mk_kept -/
noncomputable def F__law_mk_kept : ET := defT 2 3 (seqT (setT 2 (callT F__law_mk_market [.ex (opT (fOr fIx fDGet) [.nm 1, .ex (opT (fOr fIx fDGet) [.nm 0, .ex (cT (.int 1))])]), .ex (opT (fOr fIx fDGet) [.nm 0, .ex (opT fNeg [.ex (cT (.int 1))])])]))
 (seqT (ifS (boolT (opT fInA [.ex (opT (fOr fIx fDGet) [.nm 0, .ex (cT (.int 0))]), .ex (tupT [.ex (cT (.str "market")), .ex (cT (.str "none"))])])) (retT (opT fEqA [.nm 2, .ex (opT fEqA [.ex (opT (fOr fIx fDGet) [.nm 0, .ex (cT (.int 0))]), .ex (cT (.str "market"))])])) (nilT))
 (retT (opT fEqA [.ex (opT fEqA [.nm 2, .ex (callT F__law_mk_market [.ex (opT (fOr fIx fDGet) [.nm 1, .ex (opT (fOr fIx fDGet) [.nm 0, .ex (cT (.int 2))])]), .ex (opT (fOr fIx fDGet) [.nm 0, .ex (opT fNeg [.ex (cT (.int 1))])])])]), .ex (opT fEqA [.ex (opT (fOr fIx fDGet) [.nm 0, .ex (cT (.int 0))]), .ex (cT (.str "same"))])]))))
/-- _law_mk_free -/
noncomputable def F__law_mk_free : ET := defT 2 8 (seqT (parT [2, 3] [lcT (itSeq (.nm 1)) (.nm 7) (boolT (opT fEqA [.ex (sl3T (.nm 7) (cT (.int 1)) (opT fNeg [.ex (cT (.int 1))])), .ex (tupT [.ex (opT (fOr fIx fDGet) [.nm 0, .ex (cT (.int 0))])])])) (varT 7) [7], lstT []])
 (seqT (forT (itRng2 (.ex (opT (fOr fIx fDGet) [.nm 0, .ex (cT (.int 1))])) (.ex (opT fAdd [.ex (opT (fOr fIx fDGet) [.nm 0, .ex (cT (.int 2))]), .ex (cT (.int 1))]))) (.nm 4) (forT (itRng1 (.nm 4)) (.nm 5) (seqT (setT 6 (dctT [(opT (fOr fIx fDGet) [.nm 0, .ex (cT (.int 0))], tupT [.ex (varT 4), .ex (varT 5)])]))
 (ifS (boolT (opT fEqA [.ex (lcT (itSeq (.nm 2)) (.nm 7) (notG (truT (.ex (callT F__law_mk_kept [.nm 7, .nm 6])))) (varT 7) [7]), .ex (lstT [])])) (dropT (mutT fAppend 3 [.ex (tupT [.ex (varT 4), .ex (varT 5)])])) (nilT)))))
 (retN 3)))
/-- _law_mk_ranks -/
noncomputable def F__law_mk_ranks : ET := defT 1 4 (seqT (setT 1 (lcT (itSeq (.ex (opT (fOr fIx fDGet) [.nm 0, .ex (cT (.int 0))]))) (.nm 3) (yesG) (opT (fOr fIx fDGet) [.nm 3, .ex (cT (.int 0))]) [3]))
 (seqT (forT (itSeq (.ex (opT (fOr fIx fDGet) [.nm 0, .ex (cT (.int 1))]))) (.nm 2) (ifS (boolT (opT fEqA [.ex (opT fLen [.nm 2]), .ex (cT (.int 4))])) (retT (opT fSorted [.ex (lstT [.ex (mthT isLstD fIndex (.nm 1) [.ex (opT (fOr fIx fDGet) [.nm 2, .ex (cT (.int 1))])]), .ex (mthT isLstD fIndex (.nm 1) [.ex (opT (fOr fIx fDGet) [.nm 2, .ex (cT (.int 2))])])])])) (nilT)))
 (retT (lstT []))))
/-- _law_mk_couples -/
noncomputable def F__law_mk_couples : ET := defT 2 12 (seqT (asgT (.tp (.cons (.nm 2) (.cons (.nm 3) (.nil)))) (lcT (itSeq (.nm 1)) (.nm 10) (yesG) (opT (fOr fIx fDGet) [.ex (opT (fOr fIx fDGet) [.nm 0, .ex (cT (.int 0))]), .nm 10]) [10]))
 (seqT (parT [4, 5] [lcT (itSeq (.ex (opT (fOr fIx fDGet) [.nm 0, .ex (cT (.int 1))]))) (.nm 11) (boolT (opT fEqA [.ex (opT fLen [.nm 11]), .ex (cT (.int 4))])) (varT 11) [11], lstT []])
 (seqT (setT 6 (callT F__law_mk_free [.nm 3, .ex (opT (fOr fIx fDGet) [.nm 0, .ex (cT (.int 1))])]))
 (seqT (forT (itSeq (.ex (callT F__law_mk_free [.nm 2, .ex (opT (fOr fIx fDGet) [.nm 0, .ex (cT (.int 1))])]))) (.nm 7) (forT (itSeq (.nm 6)) (.nm 8) (seqT (setT 9 (dctT [(opT (fOr fIx fDGet) [.nm 2, .ex (cT (.int 0))], varT 7), (opT (fOr fIx fDGet) [.nm 3, .ex (cT (.int 0))], varT 8)]))
 (ifS (boolT (opT fEqA [.ex (lcT (itSeq (.nm 4)) (.nm 11) (notG (truT (.ex (callT F__law_mk_kept [.nm 11, .nm 9])))) (varT 11) [11]), .ex (lstT [])])) (dropT (mutT fAppend 5 [.ex (tupT [.ex (varT 7), .ex (varT 8)])])) (nilT)))))
 (retN 5)))))
/-- _law_mk_count -/
noncomputable def F__law_mk_count : ET := defT 1 5 (seqT (parT [1, 2] [cT (.int 1), callT F__law_mk_ranks [.nm 0]])
 (seqT (forT (itEnum (.ex (opT (fOr fIx fDGet) [.nm 0, .ex (cT (.int 0))]))) (.tp (.cons (.nm 3) (.cons (.nm 4) (.nil)))) (ifS (boolT (opT fNotInA [.nm 3, .nm 2])) (setT 1 (opT fMul [.nm 1, .ex (opT fLen [.ex (callT F__law_mk_free [.nm 4, .ex (opT (fOr fIx fDGet) [.nm 0, .ex (cT (.int 1))])])])])) (nilT)))
 (retT (ifT (boolT (opT fNeA [.nm 2, .ex (lstT [])])) (opT fMul [.nm 1, .ex (opT fLen [.ex (callT F__law_mk_couples [.nm 0, .nm 2])])]) (varT 1)))))
/-- _law_mk_wide -/
noncomputable def F__law_mk_wide : ET := defT 1 6 (seqT (setT 1 (callT F__law_mk_places [.nm 0, .ex (callT F__law_coin [.nm 0, .ex (cT (.int 21))]), .ex (opT (fOr fIx fDGet) [.ex (lstT [.ex (cT (.int 8)), .ex (opT fPow [.ex (cT (.int 10)), .ex (cT (.int 6))])]), .ex (callT F__law_coin [.nm 0, .ex (cT (.int 2))])])]))
 (seqT (ifS (boolT (opT fEqA [.nm 1, .ex (lstT [])])) (retT (tupT [.ex (lstT []), .ex (lstT [])])) (nilT))
 (seqT (parT [2, 3] [callT F__law_mk_picks [.nm 0, .nm 1], lstT []])
 (seqT (forT (itRng1 (.ex (callT F__law_coin [.nm 0, .ex (opT (fOr fIx fDGet) [.ex (lstT [.ex (cT (.int 7)), .ex (cT (.int 61))]), .ex (callT F__law_coin [.nm 0, .ex (cT (.int 2))])])]))) (.nm 4) (seqT (setT 5 (callT F__law_mk_pair [.nm 0, .nm 1]))
 (dropT (mutT fAppend 3 [.ex (callT F__law_mk_entry [.nm 0, .nm 1, .nm 5, .nm 2, .ex (cT (.bl false))])]))))
 (retT (tupT [.ex (varT 1), .ex (varT 3)]))))))
/-- _law_mk_child -/
noncomputable def F__law_mk_child : ET := defT 4 7 (seqT (ifS (andG (boolT (opT fNeA [.ex (opT (fOr fIx fDGet) [.nm 2, .ex (cT (.int 1))]), .ex (lstT [])])) (orG (boolT (opT fGe [.ex (opT fLen [.ex (opT (fOr fIx fDGet) [.nm 2, .ex (cT (.int 1))])]), .nm 3])) (boolT (opT fEqA [.ex (callT F__law_coin [.nm 0, .ex (cT (.int 3))]), .ex (cT (.int 0))])))) (seqT (setT 4 (callT F__law_coin [.nm 0, .ex (opT fLen [.ex (opT (fOr fIx fDGet) [.nm 2, .ex (cT (.int 1))])])]))
 (retT (lstT [.ex (methT "Diary" (some "without") F_Diary_without (.nm 1) [.nm 4]), .ex (tupT [.ex (opT (fOr fIx fDGet) [.nm 2, .ex (cT (.int 0))]), .ex (opT fAdd [.ex (opT (fSl false true) [.ex (opT (fOr fIx fDGet) [.nm 2, .ex (cT (.int 1))]), .ex (varT 4)]), .ex (opT (fSl true false) [.ex (opT (fOr fIx fDGet) [.nm 2, .ex (cT (.int 1))]), .ex (opT fAdd [.nm 4, .ex (cT (.int 1))])])])])]))) (nilT))
 (seqT (setT 5 (callT F__law_mk_ranks [.nm 2]))
 (seqT (setT 6 (callT F__law_mk_entry [.nm 0, .ex (opT (fOr fIx fDGet) [.nm 2, .ex (cT (.int 0))]), .nm 5, .ex (callT F__law_mk_picks [.nm 0, .ex (opT (fOr fIx fDGet) [.nm 2, .ex (cT (.int 0))])]), .ex (cT (.bl false))]))
 (retT (lstT [.ex (methT "Diary" (some "with_note") F_Diary_with_note (.nm 1) [.nm 6]), .ex (tupT [.ex (opT (fOr fIx fDGet) [.nm 2, .ex (cT (.int 0))]), .ex (opT fAdd [.ex (opT (fOr fIx fDGet) [.nm 2, .ex (cT (.int 1))]), .ex (lstT [.ex (varT 6)])])])])))))
end Mk

namespace Mk
open PySem PySem.Spec PyProof.Rows L2 Md Tr
/-- check_lot -/
noncomputable def F_check_lot : ET := defT 1 4 (seqT (asgT (.tp (.cons (.nm 1) (.cons (.nm 2) (.nil)))) (varT 0))
 (ifS (orG (boolT (opT fLt [.nm 1, .ex (cT (.int 1))])) (boolT (opT fNeA [.nm 2, .ex (sortedIT (itSeq (.nm 2)) (.nm 3) (yesG) (opT fMod [.nm 3, .nm 1]) [3])]))) (raiseT "InvalidLot" (tupT [.ex (varT 1), .ex (opT fList [.nm 2])])) (nilT)))
/-- check_day -/
noncomputable def F_check_day : ET := defT 1 1 (ifS (boolT (opT fLt [.nm 0, .ex (cT (.int 0))])) (raiseT "InvalidDay" (varT 0)) (nilT))
/-- number_ahead -/
noncomputable def F_number_ahead : ET := defT 2 5 (seqT (asgT (.tp (.cons (.nm 2) (.cons (.nm 3) (.nil)))) (varT 0))
 (retT (opT fAdd [.ex (opT fMul [.ex (opT fDiv [.nm 1, .nm 2]), .ex (opT fLen [.nm 3])]), .ex (opT fLen [.ex (lcT (itSeq (.nm 3)) (.nm 4) (boolT (opT fLt [.nm 4, .ex (opT fMod [.nm 1, .nm 2])])) (varT 4) [4])])])))
/-- number -/
noncomputable def F_number : ET := defT 3 3 (seqT (dropT (callT F_check_lot [.nm 0]))
 (seqT (dropT (callT F_check_day [.nm 1]))
 (seqT (dropT (callT F_check_day [.nm 2]))
 (seqT (ifS (boolT (opT fLt [.nm 2, .nm 1])) (retT (cT (.int 0))) (nilT))
 (retT (opT fSub [.ex (callT F_number_ahead [.nm 0, .ex (opT fAdd [.nm 2, .ex (cT (.int 1))])]), .ex (callT F_number_ahead [.nm 0, .nm 1])]))))))
/-- _law_mk_is_integer -/
noncomputable def F__law_mk_is_integer : ET := defT 1 1 (retT (andT (isTyT "int" (.nm 0)) (notT (.ex (isTyT "bool" (.nm 0))))))
/-- _law_mk_base -/
noncomputable def F__law_mk_base : ET := defT 1 3 (seqT (setT 1 (lstT [.ex (cT (.int 12)), .ex (cT (.int 30)), .ex (cT (.int 60)), .ex (cT (.int 72)), .ex (cT (.int 210)), .ex (cT (.int 420)), .ex (cT (.int 840)), .ex (cT (.int 2520)), .ex (cT (.int 5040)), .ex (cT (.int 4620)), .ex (cT (.int 4199)), .ex (cT (.int 4970)), .ex (cT (.int 5039)), .ex (cT (.int 4900)), .ex (cT (.int 3125)), .ex (cT (.int 4489)), .ex (cT (.int 4802))]))
 (seqT (setT 2 (callT F__law_coin [.nm 0, .ex (cT (.int 4))]))
 (seqT (ifS (boolT (opT fLt [.nm 2, .ex (cT (.int 2))])) (retT (opT fAdd [.ex (cT (.int 1)), .ex (callT F__law_coin [.nm 0, .ex (opT (fOr fIx fDGet) [.ex (lstT [.ex (cT (.int 40)), .ex (cT (.int 5040))]), .nm 2])])])) (nilT))
 (retT (opT (fOr fIx fDGet) [.nm 1, .ex (callT F__law_coin [.nm 0, .ex (opT (fOr fIx fDGet) [.ex (lstT [.ex (cT (.int 7)), .ex (cT (.int 17))]), .ex (opT fSub [.nm 2, .ex (cT (.int 2))])])])])))))
/-- _law_mk_primes -/
noncomputable def F__law_mk_primes : ET := defT 1 4 (seqT (setT 1 (lstT []))
 (seqT (forT (itRng2 (.ex (cT (.int 2))) (.ex (cT (.int 72)))) (.nm 2) (ifS (boolT (opT fEqA [.ex (opT fMod [.ex (opT fInt [.nm 0]), .nm 2]), .ex (cT (.int 0))])) (seqT (dropT (mutT fAppend 1 [.ex (varT 2)]))
 (forT (itRng1 (.ex (cT (.int 13)))) (.nm 3) (ifS (boolT (opT fEqA [.ex (opT fMod [.ex (opT fInt [.nm 0]), .nm 2]), .ex (cT (.int 0))])) (setT 0 (opT fDiv [.nm 0, .nm 2])) (nilT)))) (nilT)))
 (retT (ifT (boolT (opT fGt [.nm 0, .ex (cT (.int 1))])) (opT fAdd [.nm 1, .ex (lstT [.ex (varT 0)])]) (varT 1)))))
/-- _law_mk_part -/
noncomputable def F__law_mk_part : ET := defT 2 5 (seqT (setT 2 (varT 1))
 (seqT (forT (itSeq (.ex (callT F__law_mk_primes [.nm 1]))) (.nm 3) (forT (itRng1 (.ex (cT (.int 12)))) (.nm 4) (ifS (andG (boolT (opT fEqA [.ex (opT fMod [.ex (opT fInt [.nm 2]), .nm 3]), .ex (cT (.int 0))])) (boolT (opT fEqA [.ex (callT F__law_coin [.nm 0, .ex (cT (.int 2))]), .ex (cT (.int 0))]))) (setT 2 (opT fDiv [.nm 2, .nm 3])) (nilT))))
 (retN 2)))
/-- _law_mk_leaves -/
noncomputable def F__law_mk_leaves : ET := defT 2 9 (seqT (parT [2, 3] [callT F__law_coin [.nm 0, .ex (cT (.int 6))], lcT (itRng1 (.ex (cT (.int 13)))) (.nm 7) (yesG) (callT F__law_coin [.nm 0, .ex (cT (.int 2))]) [7]])
 (seqT (setT 4 (opT fSortSet [.ex (lcT (itRng1 (.ex (callT F__law_coin [.nm 0, .ex (cT (.int 5))]))) (.nm 7) (yesG) (callT F__law_coin [.nm 0, .nm 1]) [7])]))
 (seqT (ifS (boolT (opT fEqA [.nm 2, .ex (cT (.int 0))])) (retN 4) (nilT))
 (seqT (ifS (boolT (opT fEqA [.nm 2, .ex (cT (.int 1))])) (retT (lcT (itRng1 (.nm 1)) (.nm 8) (boolT (opT fNotInA [.nm 8, .nm 4])) (varT 8) [8])) (nilT))
 (seqT (ifS (boolT (opT fInA [.nm 2, .ex (tupT [.ex (cT (.int 2)), .ex (cT (.int 3))])])) (seqT (setT 5 (callT F__law_mk_part [.nm 0, .nm 1]))
 (seqT (setT 6 (lcT (itRng1 (.nm 1)) (.nm 8) (boolT (opT fEqA [.ex (opT (fOr fIx fDGet) [.nm 3, .ex (opT fMod [.ex (opT fMod [.ex (opT fInt [.nm 8]), .nm 5]), .ex (cT (.int 13))])]), .ex (cT (.int 1))])) (varT 8) [8]))
 (seqT (ifS (orG (boolT (opT fEqA [.nm 2, .ex (cT (.int 2))])) (boolT (opT fEqA [.nm 4, .ex (lstT [])]))) (retN 6) (nilT))
 (retT (ifT (boolT (opT fInA [.ex (opT (fOr fIx fDGet) [.nm 4, .ex (cT (.int 0))]), .nm 6])) (lcT (itSeq (.nm 6)) (.nm 8) (boolT (opT fNeA [.nm 8, .ex (opT (fOr fIx fDGet) [.nm 4, .ex (cT (.int 0))])])) (varT 8) [8]) (opT fSortedJ [.ex (opT fAdd [.nm 6, .ex (lstT [.ex (opT (fOr fIx fDGet) [.nm 4, .ex (cT (.int 0))])])])])))))) (nilT))
 (seqT (ifS (boolT (opT fEqA [.nm 2, .ex (cT (.int 4))])) (retT (lcT (itRng1 (.nm 1)) (.nm 8) (boolT (opT fEqA [.ex (opT (fOr fIx fDGet) [.nm 3, .ex (opT fMod [.ex (opT fInt [.nm 8]), .ex (cT (.int 13))])]), .ex (cT (.int 1))])) (varT 8) [8])) (nilT))
 (retT (ifT (boolT (opT fEqA [.ex (opT (fOr fIx fDGet) [.nm 3, .ex (cT (.int 0))]), .ex (cT (.int 1))])) (opT fListRng [.nm 1]) (lstT [])))))))))
/-- _law_mk_spread -/
noncomputable def F__law_mk_spread : ET := defT 2 5 (seqT (setT 2 (lstT []))
 (seqT (forT (itRng3 (.ex (cT (.int 0))) (.nm 1) (.ex (opT (fOr fIx fDGet) [.nm 0, .ex (cT (.int 0))]))) (.nm 3) (dropT (mutT fExtend 2 [.ex (lcT (itSeq (.ex (opT (fOr fIx fDGet) [.nm 0, .ex (cT (.int 1))]))) (.nm 4) (yesG) (opT fAdd [.nm 3, .nm 4]) [4])])))
 (retN 2)))
/-- _law_mk_marks -/
noncomputable def F__law_mk_marks : ET := defT 2 5 (seqT (setT 2 (lcT (itRng1 (.nm 1)) (.nm 4) (yesG) (cT (.bl false)) [4]))
 (seqT (forT (itSeq (.ex (callT F__law_mk_spread [.nm 0, .nm 1]))) (.nm 3) (storeA 2 (varT 3) (cT (.bl true))))
 (retN 2)))
/-- _law_mk_due -/
noncomputable def F__law_mk_due : ET := defT 3 8 (seqT (parT [3, 4] [opT fLen [.nm 0], cT (.int 0)])
 (seqT (ifS (boolT (opT fLt [.nm 2, .nm 1])) (retT (cT (.int 0))) (nilT))
 (seqT (setT 5 (opT fDiv [.ex (opT fAdd [.ex (opT fSub [.nm 2, .nm 1]), .ex (cT (.int 1))]), .nm 3]))
 (seqT (forT (itRng1 (.ex (opT fMod [.ex (opT fInt [.ex (opT fAdd [.ex (opT fSub [.nm 2, .nm 1]), .ex (cT (.int 1))])]), .nm 3]))) (.nm 6) (ifS (truT (.ex (opT (fOr fIx fDGet) [.nm 0, .ex (opT fMod [.ex (opT fInt [.ex (opT fAdd [.nm 1, .nm 6])]), .nm 3])]))) (setT 4 (opT fAdd [.nm 4, .ex (cT (.int 1))])) (nilT)))
 (retT (opT fAdd [.nm 4, .ex (opT fMul [.nm 5, .ex (opT fLen [.ex (lcT (itRng1 (.nm 3)) (.nm 7) (truT (.ex (opT (fOr fIx fDGet) [.nm 0, .nm 7]))) (varT 7) [7])])])]))))))
end Mk

namespace Mk
open PySem PySem.Spec PyProof.Rows L2 Md Tr
/-- has -/
noncomputable def F_has : ET := defT 2 2 (seqT (dropT (callT F_check_lot [.nm 0]))
 (seqT (dropT (callT F_check_day [.nm 1]))
 (retT (opT fInA [.ex (opT fMod [.nm 1, .ex (opT (fOr fIx fDGet) [.nm 0, .ex (cT (.int 0))])]), .ex (opT (fOr fIx fDGet) [.nm 0, .ex (cT (.int 1))])]))))
/-- next_day -/
noncomputable def F_next_day : ET := defT 2 6 (seqT (dropT (callT F_check_lot [.nm 0]))
 (seqT (dropT (callT F_check_day [.nm 1]))
 (seqT (asgT (.tp (.cons (.nm 2) (.cons (.nm 3) (.nil)))) (varT 0))
 (seqT (ifS (notG (truT (.nm 3))) (retT (cT .non)) (nilT))
 (seqT (setT 4 (opT fMod [.nm 1, .nm 2]))
 (seqT (forT (itSeq (.nm 3)) (.nm 5) (ifS (boolT (opT fGe [.nm 5, .nm 4])) (retT (opT fAdd [.ex (opT fSub [.nm 1, .nm 4]), .nm 5])) (nilT)))
 (retT (opT fAdd [.ex (opT fAdd [.ex (opT fSub [.nm 1, .nm 4]), .nm 2]), .ex (opT (fOr fIx fDGet) [.nm 3, .ex (cT (.int 0))])]))))))))
/-- _law_mk_next -/
noncomputable def F__law_mk_next : ET := defT 2 5 (seqT (setT 2 (opT fLen [.nm 0]))
 (seqT (setT 3 (opT fMod [.ex (opT fInt [.nm 1]), .nm 2]))
 (seqT (forT (itRng1 (.nm 2)) (.nm 4) (ifS (truT (.ex (opT (fOr fIx fDGet) [.nm 0, .ex (opT fMod [.ex (opT fInt [.ex (opT fAdd [.nm 3, .nm 4])]), .nm 2])]))) (retT (lstT [.ex (opT fAdd [.nm 1, .nm 4])])) (nilT)))
 (retT (lstT [])))))
/-- _law_mk_day_right -/
noncomputable def F__law_mk_day_right : ET := defT 4 8 (seqT (setT 4 (opT (fOr fIx fDGet) [.nm 1, .ex (opT fMod [.ex (opT fInt [.nm 2]), .ex (opT fLen [.nm 1])])]))
 (seqT (setT 5 (ifT (boolT (opT fEqA [.nm 3, .ex (cT (.int 0))])) (callT F_has [.nm 0, .nm 2]) (callT (pmT 2 [1, 0] [1, 0] F_has) [.nm 2, .nm 0])))
 (seqT (ifS (orG (notG (truT (.ex (isTyT "bool" (.nm 5))))) (boolT (opT fNeA [.nm 5, .nm 4]))) (retT (cT (.bl false))) (nilT))
 (seqT (setT 6 (callT F__law_mk_next [.nm 1, .nm 2]))
 (seqT (setT 7 (ifT (boolT (opT fEqA [.nm 3, .ex (cT (.int 0))])) (callT F_next_day [.nm 0, .nm 2]) (callT (pmT 2 [1, 0] [1, 0] F_next_day) [.nm 2, .nm 0])))
 (seqT (ifS (boolT (opT fEqA [.nm 6, .ex (lstT [])])) (retT (opT fIs [.nm 7, .ex (cT .non)])) (nilT))
 (retT (andT (callT F__law_mk_is_integer [.nm 7]) (opT fEqA [.nm 7, .ex (opT (fOr fIx fDGet) [.nm 6, .ex (cT (.int 0))])])))))))))
end Mk

namespace Mk
open PySem PySem.Spec PyProof.Rows L2 Md Tr
/-- least_every -/
noncomputable def F_least_every : ET := defT 2 5 (seqT (setT 2 (opT fGcd [.nm 0, .ex (opT fLen [.nm 1])]))
 (seqT (forT (itRng3 (.nm 2) (.ex (cT (.int 1))) (.ex (opT fNeg [.ex (cT (.int 1))]))) (.nm 3) (ifS (andG (boolT (opT fEqA [.ex (opT fMod [.nm 2, .nm 3]), .ex (cT (.int 0))])) (boolT (opT fEqA [.ex (opT fMul [.ex (lenIT (itSeq (.nm 1)) (.nm 4) (yesG) (opT fMod [.nm 4, .ex (opT fDiv [.nm 0, .nm 3])]) [4]), .nm 3]), .ex (opT fLen [.nm 1])]))) (retT (opT fDiv [.nm 0, .nm 3])) (nilT)))
 (retN 0)))
/-- lot -/
noncomputable def F_lot : ET := defT 2 5 (seqT (ifS (boolT (opT fLt [.nm 0, .ex (cT (.int 1))])) (raiseT "InvalidLot" (tupT [.ex (varT 0), .ex (opT fList [.nm 1])])) (nilT))
 (seqT (setT 2 (sortedIT (itSeq (.nm 1)) (.nm 4) (yesG) (opT fMod [.nm 4, .nm 0]) [4]))
 (seqT (setT 3 (callT F_least_every [.nm 0, .nm 2]))
 (retT (tupT [.ex (varT 3), .ex (sortedIT (itSeq (.nm 2)) (.nm 4) (yesG) (opT fMod [.nm 4, .nm 3]) [4])])))))
/-- widest -/
noncomputable def F_widest : ET := defT 1 6 (seqT (dropT (callT F_check_lot [.nm 0]))
 (seqT (asgT (.tp (.cons (.nm 1) (.cons (.nm 2) (.nil)))) (varT 0))
 (seqT (ifS (notG (truT (.nm 2))) (retT (cT .non)) (nilT))
 (seqT (setT 3 (opT fAdd [.ex (opT (fSl true false) [.nm 2, .ex (cT (.int 1))]), .ex (lstT [.ex (opT fAdd [.ex (opT (fOr fIx fDGet) [.nm 2, .ex (cT (.int 0))]), .nm 1])])]))
 (retT (opT fSub [.ex (opT fMax [.ex (lcT (itZip (.ex (varT 2)) (.ex (varT 3))) (.tp (.cons (.nm 4) (.cons (.nm 5) (.nil)))) (yesG) (opT fSub [.nm 5, .nm 4]) [4, 5])]), .ex (cT (.int 1))]))))))
/-- _law_mk_longest -/
noncomputable def F__law_mk_longest : ET := defT 1 4 (seqT (parT [1, 2] [cT (.int 0), cT (.int 0)])
 (seqT (forT (itSeq (.ex (opT fAdd [.nm 0, .nm 0]))) (.nm 3) (seqT (setT 2 (ifT (truT (.nm 3)) (cT (.int 0)) (opT fAdd [.nm 2, .ex (cT (.int 1))])))
 (setT 1 (opT fMax [.nm 1, .nm 2]))))
 (retN 1)))
end Mk

namespace K06
open PySem PySem.Spec PyProof.Rows L2 Md Tr Mk
/-- _law_right -/
noncomputable def F__law_right : ET := defT 1 12 (seqT (setT 1 (callT F__law_mk_base [.nm 0]))
 (seqT (setT 2 (tupT [.ex (varT 1), .ex (callT F__law_mk_leaves [.nm 0, .nm 1])]))
 (seqT (parT [3, 4] [opT fRepr [.nm 2], callT F__law_mk_marks [.nm 2, .nm 1]])
 (seqT (setT 5 (callT F_widest [.nm 2]))
 (seqT (ifS (boolT (opT fEqA [.ex (opT (fOr fIx fDGet) [.nm 2, .ex (cT (.int 1))]), .ex (lstT [])])) (retT (andT (opT fIs [.nm 5, .ex (cT .non)]) (andT (opT fIs [.ex (callT F_widest [.nm 2]), .ex (cT .non)]) (opT fEqA [.ex (opT fRepr [.nm 2]), .nm 3])))) (nilT))
 (seqT (setT 6 (callT F__law_mk_longest [.nm 4]))
 (seqT (ifS (orG (notG (truT (.ex (callT F__law_mk_is_integer [.nm 5])))) (orG (boolT (opT fNeA [.nm 5, .nm 6])) (boolT (opT fNeA [.ex (callT F_widest [.nm 2]), .nm 6])))) (retT (cT (.bl false))) (nilT))
 (seqT (parT [7, 8] [callT F__law_coin [.nm 0, .ex (opT fLen [.ex (opT (fOr fIx fDGet) [.nm 2, .ex (cT (.int 1))])])], lstT []])
 (seqT (setT 9 (opT fMul [.nm 1, .ex (callT F__law_coin [.nm 0, .ex (opT (fOr fIx fDGet) [.ex (lstT [.ex (cT (.int 2)), .ex (opT fPow [.ex (cT (.int 10)), .ex (cT (.int 26))])]), .ex (callT F__law_coin [.nm 0, .ex (cT (.int 2))])])])]))
 (seqT (forT (itSeq (.ex (opT fAdd [.ex (sl3T (.ex (opT (fOr fIx fDGet) [.nm 2, .ex (cT (.int 1))])) (varT 7) (opT fAdd [.nm 7, .ex (cT (.int 40))])), .ex (opT (fSl false true) [.ex (opT (fSl false true) [.ex (opT (fOr fIx fDGet) [.nm 2, .ex (cT (.int 1))]), .ex (varT 7)]), .ex (cT (.int 40))])]))) (.nm 10) (seqT (setT 11 (opT fAdd [.ex (opT fAdd [.nm 9, .nm 10]), .ex (cT (.int 1))]))
 (dropT (mutT fAppend 8 [.ex (opT fSub [.ex (callT F_next_day [.nm 2, .nm 11]), .nm 11])]))))
 (seqT (ifS (boolT (opT fGt [.ex (opT fMax [.nm 8]), .nm 6])) (retT (cT (.bl false))) (nilT))
 (seqT (ifS (andG (boolT (opT fLe [.ex (opT fLen [.ex (opT (fOr fIx fDGet) [.nm 2, .ex (cT (.int 1))])]), .ex (cT (.int 40))])) (boolT (opT fNeA [.ex (opT fMax [.nm 8]), .nm 6]))) (retT (cT (.bl false))) (nilT))
 (seqT (ifS (orG (boolT (opT fNeA [.ex (callT F_widest [.ex (callT F_lot [.nm 1, .ex (opT (fOr fIx fDGet) [.nm 2, .ex (cT (.int 1))])])]), .nm 6])) (boolT (opT fIsNot [.ex (callT F_widest [.ex (tupT [.ex (cT (.int 1)), .ex (lstT [])])]), .ex (cT .non)]))) (retT (cT (.bl false))) (nilT))
 (retT (andT (opT fEqA [.ex (callT F_widest [.ex (tupT [.ex (cT (.int 1)), .ex (lstT [.ex (cT (.int 0))])])]), .ex (cT (.int 0))]) (andT (opT fEqA [.ex (callT F_widest [.ex (tupT [.ex (varT 1), .ex (lstT [.ex (opT fSub [.nm 1, .ex (cT (.int 1))])])])]), .ex (opT fSub [.nm 1, .ex (cT (.int 1))])]) (opT fEqA [.ex (opT fRepr [.nm 2]), .nm 3])))))))))))))))))
/-- law -/
noncomputable def F_law : ET := defT 1 3 (seqT (forT (itRng1 (.ex (opT fMax [.ex (cT (.int 1)), .ex (opT fMin [.ex (cT (.int 6)), .ex (opT fLen [.nm 0])])]))) (.nm 1) (seqT (setT 2 (callT F__law_purse [.nm 0, .nm 1]))
 (ifS (notG (truT (.ex (callT F__law_right [.nm 2])))) (retT (cT (.bl false))) (nilT))))
 (retT (cT (.bl true))))
end K06

namespace K06
open PySem PySem.Spec PyProof.Rows L2 Md Tr Mk
def top (i : Nat) : Stmt := PySem.Challenge.pw_marketdays_k06_widest_waits.main.body.getD i (.Pass ⟨0, 0, 0, 0⟩)
section
variable {P : Program} {w : World} {K : PySem.W.Frag} {mg : Str → Option Value} {base : Heap} {ca : CA}
abbrev n_least_every : List Str := ["every", "rests", "most", "often", "rest"]
theorem s_least_every : FnScope n_least_every ["every", "rests"] (defScope (top 9)) := ⟨rfl, rfl, rfl, by decide +kernel, rfl, by decide +kernel, by decide +kernel⟩
theorem d_least_every {f : Addr} {fd : FuncData} (F : Fun K "least_every" "least_every" (top 9) f fd) (b : Binds K fd ["every", "rests"] []) (B : Blt3 mg) (eP : ca.P = P) (ew : ca.w = w) (mb_gcd : mg "gcd" = some (.builtin "math.gcd")) : DefT P w K mg base ca f fd ["every", "rests"] 1 F_least_every := mkDefC (n := 0) F s_least_every b fun _ _ _ _ _ _ _ hcd C0 =>
 psts_cons (pst_set (i := 2) C0.nd (by rfl) (by first | exact .inl rfl | exact .inr rfl) (pet_callM cr_gcd os_gcd (by rfl) mb_gcd (paks_cons (pak_nm 0) (paks_cons (pak_ex (pet_callB call_lenAll os_len (by rfl) B.len (by decide +kernel) (paks_cons (pak_nm 1) (paks_nil)))) (paks_nil)))))
 (psts_cons (pst_for C0 (pit_rng3 (by rfl) B.range (paks_cons (pak_nm 2) (paks_cons (pak_ex (pet_int)) (paks_cons (pak_ex (pet_un un_neg os_neg (pak_ex (pet_int)))) paks_nil)))) (pgt_nm (i := 3) C0.nd (by rfl) (by first | exact .inl rfl | exact .inr rfl)) (psts_one (pst_if (PWT.pt (pwt_and (ptt_cmp (op_eqA C0.room.units) os_eqA (pak_ex (pet_bin op_mod os_mod (pak_nm 2) (pak_nm 3))) (pak_ex (pet_int)) (nomark _)) (pwt_and1 (ptt_cmp (op_eqA C0.room.units) os_eqA (pak_ex (pet_bin op_mulAll os_mul (pak_ex (pet_lenI (own := [("rest", 4)]) C0 (by rfl) B.len (pit_seq (pak_nm 1)) (blkOk_by (N := n_least_every) (sc := defScope (top 9)) (by decide +kernel)) (fun _ _ _ _ _ => pgt_nm (i := 4) C0.nd (by rfl) (by first | exact .inl rfl | exact .inr rfl)) (fun _ _ _ _ _ C1 => ptts_nil) (fun _ _ _ _ _ C1 => pet_bin op_mod os_mod (pak_nm 4) (pak_ex (pet_bin op_fdivW os_div (pak_nm 0) (pak_nm 3)))))) (pak_nm 3))) (pak_ex (pet_callB call_lenAll os_len (by rfl) B.len (by decide +kernel) (paks_cons (pak_nm 1) (paks_nil)))) (nomark _))))) (psts_one (pst_ret (pet_bin op_fdivW os_div (pak_nm 0) (pak_nm 3)))) (psts_nil))))
 (psts_one (pst_retN 0)))
abbrev n_lot : List Str := ["every", "rests", "told", "least", "rest"]
theorem s_lot : FnScope n_lot ["every", "rests"] (defScope (top 6)) := ⟨rfl, rfl, rfl, by decide +kernel, rfl, by decide +kernel, by decide +kernel⟩
theorem d_lot {f : Addr} {fd : FuncData} (F : Fun K "lot" "lot" (top 6) f fd) (b : Binds K fd ["every", "rests"] []) (B : Blt3 mg) (eP : ca.P = P) (ew : ca.w = w) {f_least_every : Addr} {fd_least_every : FuncData} (T_least_every : DefT P w K mg base ca f_least_every fd_least_every ["every", "rests"] 1 F_least_every) {f_err : Addr} {fd_err : FuncData} (I_err : ErI P w K mg base f_err fd_err) (er_InvalidLot : Er K mg f_err "InvalidLot" (ca "InvalidLot")) (m_least_every : mg "least_every" = some (.ref f_least_every)) : DefT P w K mg base ca f fd ["every", "rests"] 3 F_lot := mkDefC (n := 2) F s_lot b fun _ _ _ _ _ _ _ hcd C0 =>
 psts_cons (pst_if (ptt_cmp op_lt os_lt (pak_nm 0) (pak_ex (pet_int)) (nomark _)) (psts_one (pst_raise er_InvalidLot I_err C0 (by omega) (by rfl) (pet_tup (paks_cons (pak_ex (pet_var 0)) (paks_cons (pak_ex (pet_callTy call_list_of os_list (by rfl) B.list (by decide +kernel) (paks_cons (pak_nm 1) (paks_nil)))) (paks_nil)))))) (psts_nil))
 (psts_cons (pst_set (i := 2) C0.nd (by rfl) (by first | exact .inl rfl | exact .inr rfl) (pet_sortedI (own := [("rest", 4)]) C0 (by rfl) B.sorted (pit_seq (pak_nm 1)) (blkOk_by (N := n_lot) (sc := defScope (top 6)) (by decide +kernel)) (fun _ _ _ _ _ => pgt_nm (i := 4) C0.nd (by rfl) (by first | exact .inl rfl | exact .inr rfl)) (fun _ _ _ _ _ C1 => ptts_nil) (fun _ _ _ _ _ C1 => pet_bin op_mod os_mod (pak_nm 4) (pak_nm 0))))
 (psts_cons (pst_set (i := 3) C0.nd (by rfl) (by first | exact .inl rfl | exact .inr rfl) (pet_call T_least_every C0 (by omega) (by rfl) m_least_every (paks_cons (pak_nm 0) (paks_cons (pak_nm 2) (paks_nil)))))
 (psts_one (pst_ret (pet_tup (paks_cons (pak_ex (pet_var 3)) (paks_cons (pak_ex (pet_sortedI (own := [("rest", 4)]) C0 (by rfl) B.sorted (pit_seq (pak_nm 2)) (blkOk_by (N := n_lot) (sc := defScope (top 6)) (by decide +kernel)) (fun _ _ _ _ _ => pgt_nm (i := 4) C0.nd (by rfl) (by first | exact .inl rfl | exact .inr rfl)) (fun _ _ _ _ _ C1 => ptts_nil) (fun _ _ _ _ _ C1 => pet_bin op_mod os_mod (pak_nm 4) (pak_nm 3)))) (paks_nil))))))))
abbrev n_check_lot : List Str := ["one", "every", "rests", "rest"]
theorem s_check_lot : FnScope n_check_lot ["one"] (defScope (top 10)) := ⟨rfl, rfl, rfl, by decide +kernel, rfl, by decide +kernel, by decide +kernel⟩
theorem d_check_lot {f : Addr} {fd : FuncData} (F : Fun K "check_lot" "check_lot" (top 10) f fd) (b : Binds K fd ["one"] []) (B : Blt3 mg) (eP : ca.P = P) (ew : ca.w = w) {f_err : Addr} {fd_err : FuncData} (I_err : ErI P w K mg base f_err fd_err) (er_InvalidLot : Er K mg f_err "InvalidLot" (ca "InvalidLot")) : DefT P w K mg base ca f fd ["one"] 3 F_check_lot := mkDefC (n := 2) F s_check_lot b fun _ _ _ _ _ _ _ hcd C0 =>
 psts_cons (pst_asg (pet_var 0) (pgt_tp C0.calm (pgts_cons (pgt_nm (i := 1) C0.nd (by rfl) (by first | exact .inl rfl | exact .inr rfl)) (pgts_cons (pgt_nm (i := 2) C0.nd (by rfl) (by first | exact .inl rfl | exact .inr rfl)) (pgts_nil)))))
 (psts_one (pst_if (PWT.pt (pwt_or (ptt_cmp op_lt os_lt (pak_nm 1) (pak_ex (pet_int)) (nomark _)) (pwt_or1 (ptt_cmp (op_neA C0.room.units) os_neA (pak_nm 2) (pak_ex (pet_sortedI (own := [("rest", 3)]) C0 (by rfl) B.sorted (pit_seq (pak_nm 2)) (blkOk_by (N := n_check_lot) (sc := defScope (top 10)) (by decide +kernel)) (fun _ _ _ _ _ => pgt_nm (i := 3) C0.nd (by rfl) (by first | exact .inl rfl | exact .inr rfl)) (fun _ _ _ _ _ C1 => ptts_nil) (fun _ _ _ _ _ C1 => pet_bin op_mod os_mod (pak_nm 3) (pak_nm 1)))) (nomark _))))) (psts_one (pst_raise er_InvalidLot I_err C0 (by omega) (by rfl) (pet_tup (paks_cons (pak_ex (pet_var 1)) (paks_cons (pak_ex (pet_callTy call_list_of os_list (by rfl) B.list (by decide +kernel) (paks_cons (pak_nm 2) (paks_nil)))) (paks_nil)))))) (psts_nil)))
abbrev n_check_day : List Str := ["day"]
theorem s_check_day : FnScope n_check_day ["day"] (defScope (top 11)) := ⟨rfl, rfl, rfl, by decide +kernel, rfl, by decide +kernel, by decide +kernel⟩
theorem d_check_day {f : Addr} {fd : FuncData} (F : Fun K "check_day" "check_day" (top 11) f fd) (b : Binds K fd ["day"] []) (B : Blt3 mg) (eP : ca.P = P) (ew : ca.w = w) {f_err : Addr} {fd_err : FuncData} (I_err : ErI P w K mg base f_err fd_err) (er_InvalidDay : Er K mg f_err "InvalidDay" (ca "InvalidDay")) : DefT P w K mg base ca f fd ["day"] 3 F_check_day := mkDefC (n := 2) F s_check_day b fun _ _ _ _ _ _ _ hcd C0 =>
 psts_one (pst_if (ptt_cmp op_lt os_lt (pak_nm 0) (pak_ex (pet_int)) (nomark _)) (psts_one (pst_raise er_InvalidDay I_err C0 (by omega) (by rfl) (pet_var 0))) (psts_nil))
abbrev n_next_day : List Str := ["one", "day", "every", "rests", "passed", "rest"]
theorem s_next_day : FnScope n_next_day ["one", "day"] (defScope (top 7)) := ⟨rfl, rfl, rfl, by decide +kernel, rfl, by decide +kernel, by decide +kernel⟩
theorem d_next_day {f : Addr} {fd : FuncData} (F : Fun K "next_day" "next_day" (top 7) f fd) (b : Binds K fd ["one", "day"] []) (B : Blt3 mg) (eP : ca.P = P) (ew : ca.w = w) {f_check_lot : Addr} {fd_check_lot : FuncData} (T_check_lot : DefT P w K mg base ca f_check_lot fd_check_lot ["one"] 3 F_check_lot) {f_check_day : Addr} {fd_check_day : FuncData} (T_check_day : DefT P w K mg base ca f_check_day fd_check_day ["day"] 3 F_check_day) (m_check_lot : mg "check_lot" = some (.ref f_check_lot)) (m_check_day : mg "check_day" = some (.ref f_check_day)) : DefT P w K mg base ca f fd ["one", "day"] 4 F_next_day := mkDefC (n := 3) F s_next_day b fun _ _ _ _ _ _ _ hcd C0 =>
 psts_cons (pst_drop (pet_call T_check_lot C0 (by omega) (by rfl) m_check_lot (paks_cons (pak_nm 0) (paks_nil))))
 (psts_cons (pst_drop (pet_call T_check_day C0 (by omega) (by rfl) m_check_day (paks_cons (pak_nm 1) (paks_nil))))
 (psts_cons (pst_asg (pet_var 0) (pgt_tp C0.calm (pgts_cons (pgt_nm (i := 2) C0.nd (by rfl) (by first | exact .inl rfl | exact .inr rfl)) (pgts_cons (pgt_nm (i := 3) C0.nd (by rfl) (by first | exact .inl rfl | exact .inr rfl)) (pgts_nil)))))
 (psts_cons (pst_if (ptt_not (ptt_tru (pak_nm 3))) (psts_one (pst_ret (pet_non))) (psts_nil))
 (psts_cons (pst_set (i := 4) C0.nd (by rfl) (by first | exact .inl rfl | exact .inr rfl) (pet_bin op_mod os_mod (pak_nm 1) (pak_nm 2)))
 (psts_cons (pst_for C0 (pit_seq (pak_nm 3)) (pgt_nm (i := 5) C0.nd (by rfl) (by first | exact .inl rfl | exact .inr rfl)) (psts_one (pst_if (ptt_cmp op_ge os_ge (pak_nm 5) (pak_nm 4) (nomark _)) (psts_one (pst_ret (pet_bin op_addAll os_add (pak_ex (pet_bin op_sub os_sub (pak_nm 1) (pak_nm 4))) (pak_nm 5)))) (psts_nil))))
 (psts_one (pst_ret (pet_bin op_addAll os_add (pak_ex (pet_bin op_addAll os_add (pak_ex (pet_bin op_sub os_sub (pak_nm 1) (pak_nm 4))) (pak_nm 2))) (pak_ex (pet_ixA C0 (pak_nm 3) (pak_ex (pet_int)) (fun _ _ => rfl) (fun _ _ => rfl)))))))))))
abbrev n_widest : List Str := ["one", "every", "rests", "following", "rest", "later"]
theorem s_widest : FnScope n_widest ["one"] (defScope (top 8)) := ⟨rfl, rfl, rfl, by decide +kernel, rfl, by decide +kernel, by decide +kernel⟩
theorem d_widest {f : Addr} {fd : FuncData} (F : Fun K "widest" "widest" (top 8) f fd) (b : Binds K fd ["one"] []) (B : Blt3 mg) (eP : ca.P = P) (ew : ca.w = w) {f_check_lot : Addr} {fd_check_lot : FuncData} (T_check_lot : DefT P w K mg base ca f_check_lot fd_check_lot ["one"] 3 F_check_lot) (m_check_lot : mg "check_lot" = some (.ref f_check_lot)) : DefT P w K mg base ca f fd ["one"] 4 F_widest := mkDefC (n := 3) F s_widest b fun _ _ _ _ _ _ _ hcd C0 =>
 psts_cons (pst_drop (pet_call T_check_lot C0 (by omega) (by rfl) m_check_lot (paks_cons (pak_nm 0) (paks_nil))))
 (psts_cons (pst_asg (pet_var 0) (pgt_tp C0.calm (pgts_cons (pgt_nm (i := 1) C0.nd (by rfl) (by first | exact .inl rfl | exact .inr rfl)) (pgts_cons (pgt_nm (i := 2) C0.nd (by rfl) (by first | exact .inl rfl | exact .inr rfl)) (pgts_nil)))))
 (psts_cons (pst_if (ptt_not (ptt_tru (pak_nm 2))) (psts_one (pst_ret (pet_non))) (psts_nil))
 (psts_cons (pst_set (i := 3) C0.nd (by rfl) (by first | exact .inl rfl | exact .inr rfl) (pet_bin op_addAll os_add (pak_ex (pet_sl1 (pak_nm 2) (pet_int))) (pak_ex (pet_lst (paks_cons (pak_ex (pet_bin op_addAll os_add (pak_ex (pet_ixA C0 (pak_nm 2) (pak_ex (pet_int)) (fun _ _ => rfl) (fun _ _ => rfl))) (pak_nm 1))) (paks_nil))))))
 (psts_one (pst_ret (pet_bin op_sub os_sub (pak_ex (pet_callB (call_maxAll C0.calm) os_max (by rfl) B.max (by decide +kernel) (paks_cons (pak_ex (pet_lc (own := [("rest", 4), ("later", 5)]) C0 (pit_zip (by rfl) B.zip (paks_cons (pak_ex (pet_var 2)) (paks_cons (pak_ex (pet_var 3)) paks_nil))) (blkOk_by (N := n_widest) (sc := defScope (top 8)) (by decide +kernel)) (fun _ _ _ _ _ => pgt_tp C0.calm (pgts_cons (pgt_nm (i := 4) C0.nd (by rfl) (by first | exact .inl rfl | exact .inr rfl)) (pgts_cons (pgt_nm (i := 5) C0.nd (by rfl) (by first | exact .inl rfl | exact .inr rfl)) (pgts_nil)))) (fun _ _ _ _ _ C1 => ptts_nil) (fun _ _ _ _ _ C1 => pet_bin op_sub os_sub (pak_nm 5) (pak_nm 4)))) (paks_nil)))) (pak_ex (pet_int))))))))
abbrev n__law_purse : List Str := ["script", "place", "cell"]
abbrev n__law_coin : List Str := ["purse", "many", "drawn", "stirred"]
theorem s__law_coin : FnScope n__law_coin ["purse", "many"] (defScope (top 14)) := ⟨rfl, rfl, rfl, by decide +kernel, rfl, by decide +kernel, by decide +kernel⟩
theorem d__law_coin {f : Addr} {fd : FuncData} (F : Fun K "_law_coin" "_law_coin" (top 14) f fd) (b : Binds K fd ["purse", "many"] []) (B : Blt3 mg) (eP : ca.P = P) (ew : ca.w = w)  : DefT P w K mg base ca f fd ["purse", "many"] 1 F__law_coin := mkDefC (n := 0) F s__law_coin b fun _ _ _ _ _ _ _ hcd C0 =>
 psts_cons (pst_if (ptt_cmp op_gt os_gt (pak_ex (pet_ixA C0 (pak_nm 0) (pak_ex (pet_int)) (fun _ _ => rfl) (fun _ _ => rfl))) (pak_ex (pet_int)) (nomark _)) (psts_cons (pst_set (i := 2) C0.nd (by rfl) (by first | exact .inl rfl | exact .inr rfl) (pet_bin op_mod os_mod (pak_ex (pet_callTy call_int1 os_int (by rfl) B.int (by decide +kernel) (paks_cons (pak_ex (pet_ixA C0 (pak_nm 0) (pak_ex (pet_int)) (fun _ _ => rfl) (fun _ _ => rfl))) (paks_nil)))) (pak_nm 1)))
 (psts_cons (pst_storeA C0 (pv 0) (pet_int) (pet_bin op_fdivW os_div (pak_ex (pet_ixA C0 (pak_nm 0) (pak_ex (pet_int)) (fun _ _ => rfl) (fun _ _ => rfl))) (pak_nm 1)))
 (psts_one (pst_retN 2)))) (psts_nil))
 (psts_cons (pst_storeA C0 (pv 0) (pet_int) (pet_bin op_addAll os_add (pak_ex (pet_ixA C0 (pak_nm 0) (pak_ex (pet_int)) (fun _ _ => rfl) (fun _ _ => rfl))) (pak_ex (pet_int))))
 (psts_cons (pst_set (i := 3) C0.nd (by rfl) (by first | exact .inl rfl | exact .inr rfl) (pet_bin op_mod os_mod (pak_ex (pet_bin op_powAll os_pow (pak_ex (pet_callTy call_int1 os_int (by rfl) B.int (by decide +kernel) (paks_cons (pak_ex (pet_bin op_addAll os_add (pak_ex (pet_ixA C0 (pak_nm 0) (pak_ex (pet_int)) (fun _ _ => rfl) (fun _ _ => rfl))) (pak_ex (pet_bin op_mulAll os_mul (pak_ex (pet_int)) (pak_ex (pet_ixA C0 (pak_nm 0) (pak_ex (pet_int)) (fun _ _ => rfl) (fun _ _ => rfl))))))) (paks_nil)))) (pak_ex (pet_int)))) (pak_ex (pet_bin op_addAll os_add (pak_ex (pet_bin op_powAll os_pow (pak_ex (pet_int)) (pak_ex (pet_int)))) (pak_ex (pet_int))))))
 (psts_cons (pst_set (i := 3) C0.nd (by rfl) (by first | exact .inl rfl | exact .inr rfl) (pet_bin op_mod os_mod (pak_ex (pet_bin op_powAll os_pow (pak_ex (pet_callTy call_int1 os_int (by rfl) B.int (by decide +kernel) (paks_cons (pak_ex (pet_bin op_addAll os_add (pak_nm 3) (pak_ex (pet_bin op_mulAll os_mul (pak_ex (pet_int)) (pak_ex (pet_ixA C0 (pak_nm 0) (pak_ex (pet_int)) (fun _ _ => rfl) (fun _ _ => rfl))))))) (paks_nil)))) (pak_ex (pet_int)))) (pak_ex (pet_bin op_addAll os_add (pak_ex (pet_bin op_powAll os_pow (pak_ex (pet_int)) (pak_ex (pet_int)))) (pak_ex (pet_int))))))
 (psts_one (pst_ret (pet_bin op_mod os_mod (pak_ex (pet_callTy call_int1 os_int (by rfl) B.int (by decide +kernel) (paks_cons (pak_ex (pet_bin op_fdivW os_div (pak_nm 3) (pak_ex (pet_int)))) (paks_nil)))) (pak_nm 1)))))))
abbrev n__law_mk_is_integer : List Str := ["thing"]
theorem s__law_mk_is_integer : FnScope n__law_mk_is_integer ["thing"] (defScope (top 15)) := ⟨rfl, rfl, rfl, by decide +kernel, rfl, by decide +kernel, by decide +kernel⟩
theorem d__law_mk_is_integer {f : Addr} {fd : FuncData} (F : Fun K "_law_mk_is_integer" "_law_mk_is_integer" (top 15) f fd) (b : Binds K fd ["thing"] []) (B : Blt3 mg) (eP : ca.P = P) (ew : ca.w = w) (nb_bool : mg "bool" = none) : DefT P w K mg base ca f fd ["thing"] 1 F__law_mk_is_integer := mkDefC (n := 0) F s__law_mk_is_integer b fun _ _ _ _ _ _ _ hcd C0 =>
 psts_one (pst_ret (pet_and (pet_isTy (by decide) (pak_nm 0) (by rfl) B.isinstance (by rfl) B.int (by decide +kernel)) (pet_one (pet_not (pak_ex (pet_isTy (by decide) (pak_nm 0) (by rfl) B.isinstance (by rfl) nb_bool (by decide +kernel)))))))
abbrev n__law_mk_base : List Str := ["purse", "menu", "way"]
theorem s__law_mk_base : FnScope n__law_mk_base ["purse"] (defScope (top 16)) := ⟨rfl, rfl, rfl, by decide +kernel, rfl, by decide +kernel, by decide +kernel⟩
theorem d__law_mk_base {f : Addr} {fd : FuncData} (F : Fun K "_law_mk_base" "_law_mk_base" (top 16) f fd) (b : Binds K fd ["purse"] []) (B : Blt3 mg) (eP : ca.P = P) (ew : ca.w = w) {f__law_coin : Addr} {fd__law_coin : FuncData} (T__law_coin : DefT P w K mg base ca f__law_coin fd__law_coin ["purse", "many"] 1 F__law_coin) (m__law_coin : mg "_law_coin" = some (.ref f__law_coin)) : DefT P w K mg base ca f fd ["purse"] 2 F__law_mk_base := mkDefC (n := 1) F s__law_mk_base b fun _ _ _ _ _ _ _ hcd C0 =>
 psts_cons (pst_set (i := 1) C0.nd (by rfl) (by first | exact .inl rfl | exact .inr rfl) (pet_lst (paks_cons (pak_ex (pet_int)) (paks_cons (pak_ex (pet_int)) (paks_cons (pak_ex (pet_int)) (paks_cons (pak_ex (pet_int)) (paks_cons (pak_ex (pet_int)) (paks_cons (pak_ex (pet_int)) (paks_cons (pak_ex (pet_int)) (paks_cons (pak_ex (pet_int)) (paks_cons (pak_ex (pet_int)) (paks_cons (pak_ex (pet_int)) (paks_cons (pak_ex (pet_int)) (paks_cons (pak_ex (pet_int)) (paks_cons (pak_ex (pet_int)) (paks_cons (pak_ex (pet_int)) (paks_cons (pak_ex (pet_int)) (paks_cons (pak_ex (pet_int)) (paks_cons (pak_ex (pet_int)) (paks_nil))))))))))))))))))))
 (psts_cons (pst_set (i := 2) C0.nd (by rfl) (by first | exact .inl rfl | exact .inr rfl) (pet_call T__law_coin C0 (by omega) (by rfl) m__law_coin (paks_cons (pak_nm 0) (paks_cons (pak_ex (pet_int)) (paks_nil)))))
 (psts_cons (pst_if (ptt_cmp op_lt os_lt (pak_nm 2) (pak_ex (pet_int)) (nomark _)) (psts_one (pst_ret (pet_bin op_addAll os_add (pak_ex (pet_int)) (pak_ex (pet_call T__law_coin C0 (by omega) (by rfl) m__law_coin (paks_cons (pak_nm 0) (paks_cons (pak_ex (pet_ixA C0 (pak_ex (pet_lst (paks_cons (pak_ex (pet_int)) (paks_cons (pak_ex (pet_int)) (paks_nil))))) (pak_nm 2) (fun _ _ => rfl) (fun _ _ => rfl))) (paks_nil)))))))) (psts_nil))
 (psts_one (pst_ret (pet_ixA C0 (pak_nm 1) (pak_ex (pet_call T__law_coin C0 (by omega) (by rfl) m__law_coin (paks_cons (pak_nm 0) (paks_cons (pak_ex (pet_ixA C0 (pak_ex (pet_lst (paks_cons (pak_ex (pet_int)) (paks_cons (pak_ex (pet_int)) (paks_nil))))) (pak_ex (pet_bin op_sub os_sub (pak_nm 2) (pak_ex (pet_int)))) (fun _ _ => rfl) (fun _ _ => rfl))) (paks_nil))))) (fun _ _ => rfl) (fun _ _ => rfl))))))
abbrev n__law_mk_primes : List Str := ["base", "found", "part", "turn"]
theorem s__law_mk_primes : FnScope n__law_mk_primes ["base"] (defScope (top 21)) := ⟨rfl, rfl, rfl, by decide +kernel, rfl, by decide +kernel, by decide +kernel⟩
theorem d__law_mk_primes {f : Addr} {fd : FuncData} (F : Fun K "_law_mk_primes" "_law_mk_primes" (top 21) f fd) (b : Binds K fd ["base"] []) (B : Blt3 mg) (eP : ca.P = P) (ew : ca.w = w)  : DefT P w K mg base ca f fd ["base"] 1 F__law_mk_primes := mkDefC (n := 0) F s__law_mk_primes b fun _ _ _ _ _ _ _ hcd C0 =>
 psts_cons (pst_set (i := 1) C0.nd (by rfl) (by first | exact .inl rfl | exact .inr rfl) (pet_lst (paks_nil)))
 (psts_cons (pst_for C0 (pit_rng2 (by rfl) B.range (paks_cons (pak_ex (pet_int)) (paks_cons (pak_ex (pet_int)) paks_nil))) (pgt_nm (i := 2) C0.nd (by rfl) (by first | exact .inl rfl | exact .inr rfl)) (psts_one (pst_if (ptt_cmp (op_eqA C0.room.units) os_eqA (pak_ex (pet_bin op_mod os_mod (pak_ex (pet_callTy call_int1 os_int (by rfl) B.int (by decide +kernel) (paks_cons (pak_nm 0) (paks_nil)))) (pak_nm 2))) (pak_ex (pet_int)) (nomark _)) (psts_cons (pst_drop (pet_append (pv 1) (paks_cons (pak_ex (pet_var 2)) (paks_nil))))
 (psts_one (pst_for C0 (pit_rng1 (by rfl) B.range (paks_cons (pak_ex (pet_int)) paks_nil)) (pgt_nm (i := 3) C0.nd (by rfl) (by first | exact .inl rfl | exact .inr rfl)) (psts_one (pst_if (ptt_cmp (op_eqA C0.room.units) os_eqA (pak_ex (pet_bin op_mod os_mod (pak_ex (pet_callTy call_int1 os_int (by rfl) B.int (by decide +kernel) (paks_cons (pak_nm 0) (paks_nil)))) (pak_nm 2))) (pak_ex (pet_int)) (nomark _)) (psts_one (pst_set (i := 0) C0.nd (by rfl) (by first | exact .inl rfl | exact .inr rfl) (pet_bin op_fdivW os_div (pak_nm 0) (pak_nm 2)))) (psts_nil)))))) (psts_nil))))
 (psts_one (pst_ret (pet_if (ptt_cmp op_gt os_gt (pak_nm 0) (pak_ex (pet_int)) (nomark _)) (pet_bin op_addAll os_add (pak_nm 1) (pak_ex (pet_lst (paks_cons (pak_ex (pet_var 0)) (paks_nil))))) (pet_var 1)))))
abbrev n__law_mk_part : List Str := ["purse", "base", "found", "prime", "turn"]
theorem s__law_mk_part : FnScope n__law_mk_part ["purse", "base"] (defScope (top 17)) := ⟨rfl, rfl, rfl, by decide +kernel, rfl, by decide +kernel, by decide +kernel⟩
theorem d__law_mk_part {f : Addr} {fd : FuncData} (F : Fun K "_law_mk_part" "_law_mk_part" (top 17) f fd) (b : Binds K fd ["purse", "base"] []) (B : Blt3 mg) (eP : ca.P = P) (ew : ca.w = w) {f__law_mk_primes : Addr} {fd__law_mk_primes : FuncData} (T__law_mk_primes : DefT P w K mg base ca f__law_mk_primes fd__law_mk_primes ["base"] 1 F__law_mk_primes) {f__law_coin : Addr} {fd__law_coin : FuncData} (T__law_coin : DefT P w K mg base ca f__law_coin fd__law_coin ["purse", "many"] 1 F__law_coin) (m__law_mk_primes : mg "_law_mk_primes" = some (.ref f__law_mk_primes)) (m__law_coin : mg "_law_coin" = some (.ref f__law_coin)) : DefT P w K mg base ca f fd ["purse", "base"] 2 F__law_mk_part := mkDefC (n := 1) F s__law_mk_part b fun _ _ _ _ _ _ _ hcd C0 =>
 psts_cons (pst_set (i := 2) C0.nd (by rfl) (by first | exact .inl rfl | exact .inr rfl) (pet_var 1))
 (psts_cons (pst_for C0 (pit_seq (pak_ex (pet_call T__law_mk_primes C0 (by omega) (by rfl) m__law_mk_primes (paks_cons (pak_nm 1) (paks_nil))))) (pgt_nm (i := 3) C0.nd (by rfl) (by first | exact .inl rfl | exact .inr rfl)) (psts_one (pst_for C0 (pit_rng1 (by rfl) B.range (paks_cons (pak_ex (pet_int)) paks_nil)) (pgt_nm (i := 4) C0.nd (by rfl) (by first | exact .inl rfl | exact .inr rfl)) (psts_one (pst_if (PWT.pt (pwt_and (ptt_cmp (op_eqA C0.room.units) os_eqA (pak_ex (pet_bin op_mod os_mod (pak_ex (pet_callTy call_int1 os_int (by rfl) B.int (by decide +kernel) (paks_cons (pak_nm 2) (paks_nil)))) (pak_nm 3))) (pak_ex (pet_int)) (nomark _)) (pwt_and1 (ptt_cmp (op_eqA C0.room.units) os_eqA (pak_ex (pet_call T__law_coin C0 (by omega) (by rfl) m__law_coin (paks_cons (pak_nm 0) (paks_cons (pak_ex (pet_int)) (paks_nil))))) (pak_ex (pet_int)) (nomark _))))) (psts_one (pst_set (i := 2) C0.nd (by rfl) (by first | exact .inl rfl | exact .inr rfl) (pet_bin op_fdivW os_div (pak_nm 2) (pak_nm 3)))) (psts_nil))))))
 (psts_one (pst_retN 2)))
abbrev n__law_mk_leaves : List Str := ["purse", "base", "way", "mask", "few", "step", "some", "turn", "leaf"]
theorem s__law_mk_leaves : FnScope n__law_mk_leaves ["purse", "base"] (defScope (top 18)) := ⟨rfl, rfl, rfl, by decide +kernel, rfl, by decide +kernel, by decide +kernel⟩
theorem d__law_mk_leaves {f : Addr} {fd : FuncData} (F : Fun K "_law_mk_leaves" "_law_mk_leaves" (top 18) f fd) (b : Binds K fd ["purse", "base"] []) (B : Blt3 mg) (eP : ca.P = P) (ew : ca.w = w) {f__law_coin : Addr} {fd__law_coin : FuncData} (T__law_coin : DefT P w K mg base ca f__law_coin fd__law_coin ["purse", "many"] 1 F__law_coin) {f__law_mk_part : Addr} {fd__law_mk_part : FuncData} (T__law_mk_part : DefT P w K mg base ca f__law_mk_part fd__law_mk_part ["purse", "base"] 2 F__law_mk_part) (m__law_coin : mg "_law_coin" = some (.ref f__law_coin)) (m__law_mk_part : mg "_law_mk_part" = some (.ref f__law_mk_part)) : DefT P w K mg base ca f fd ["purse", "base"] 3 F__law_mk_leaves := mkDefC (n := 2) F s__law_mk_leaves b fun _ _ _ _ _ _ _ hcd C0 =>
 psts_cons (pst_par C0.calm (paks_cons (pak_ex (pet_call T__law_coin C0 (by omega) (by rfl) m__law_coin (paks_cons (pak_nm 0) (paks_cons (pak_ex (pet_int)) (paks_nil))))) (paks_cons (pak_ex (pet_lc (own := [("turn", 7)]) C0 (pit_rng1 (by rfl) B.range (paks_cons (pak_ex (pet_int)) paks_nil)) (blkOk_by (N := n__law_mk_leaves) (sc := defScope (top 18)) (by decide +kernel)) (fun _ _ _ _ _ => pgt_nm (i := 7) C0.nd (by rfl) (by first | exact .inl rfl | exact .inr rfl)) (fun _ _ _ _ _ C1 => ptts_nil) (fun _ _ _ _ _ C1 => pet_call T__law_coin C1 (by omega) (by rfl) m__law_coin (paks_cons (pak_nm 0) (paks_cons (pak_ex (pet_int)) (paks_nil)))))) (paks_nil))) (pgs_cons (pg_name (i := 2) C0.nd (by rfl) (by first | exact .inl rfl | exact .inr rfl)) (pgs_cons (pg_name (i := 3) C0.nd (by rfl) (by first | exact .inl rfl | exact .inr rfl)) (pgs_nil))))
 (psts_cons (pst_set (i := 4) C0.nd (by rfl) (by first | exact .inl rfl | exact .inr rfl) (pet_sortedSetOf C0 (by rfl) B.sorted (by rfl) B.set (paks_cons (pak_ex (pet_lc (own := [("turn", 7)]) C0 (pit_rng1 (by rfl) B.range (paks_cons (pak_ex (pet_call T__law_coin C0 (by omega) (by rfl) m__law_coin (paks_cons (pak_nm 0) (paks_cons (pak_ex (pet_int)) (paks_nil))))) paks_nil)) (blkOk_by (N := n__law_mk_leaves) (sc := defScope (top 18)) (by decide +kernel)) (fun _ _ _ _ _ => pgt_nm (i := 7) C0.nd (by rfl) (by first | exact .inl rfl | exact .inr rfl)) (fun _ _ _ _ _ C1 => ptts_nil) (fun _ _ _ _ _ C1 => pet_call T__law_coin C1 (by omega) (by rfl) m__law_coin (paks_cons (pak_nm 0) (paks_cons (pak_nm 1) (paks_nil)))))) paks_nil)))
 (psts_cons (pst_if (ptt_cmp (op_eqA C0.room.units) os_eqA (pak_nm 2) (pak_ex (pet_int)) (nomark _)) (psts_one (pst_retN 4)) (psts_nil))
 (psts_cons (pst_if (ptt_cmp (op_eqA C0.room.units) os_eqA (pak_nm 2) (pak_ex (pet_int)) (nomark _)) (psts_one (pst_ret (pet_lc (own := [("leaf", 8)]) C0 (pit_rng1 (by rfl) B.range (paks_cons (pak_nm 1) paks_nil)) (blkOk_by (N := n__law_mk_leaves) (sc := defScope (top 18)) (by decide +kernel)) (fun _ _ _ _ _ => pgt_nm (i := 8) C0.nd (by rfl) (by first | exact .inl rfl | exact .inr rfl)) (fun _ _ _ _ _ C1 => ptts_one (ptt_cmp (op_notInAA (hu1 C1)) (os_notInAA eP ew) (pak_nm 8) (pak_nm 4) (by rfl))) (fun _ _ _ _ _ C1 => pet_var 8)))) (psts_nil))
 (psts_cons (pst_if (ptt_cmp (op_inAA (hu1 C0)) (os_inAA eP ew) (pak_nm 2) (pak_ex (pet_tup (paks_cons (pak_ex (pet_int)) (paks_cons (pak_ex (pet_int)) (paks_nil))))) (by rfl)) (psts_cons (pst_set (i := 5) C0.nd (by rfl) (by first | exact .inl rfl | exact .inr rfl) (pet_call T__law_mk_part C0 (by omega) (by rfl) m__law_mk_part (paks_cons (pak_nm 0) (paks_cons (pak_nm 1) (paks_nil)))))
 (psts_cons (pst_setLc (i := 6) (own := [("leaf", 8)]) C0 (by rfl) (by rfl) (sw_true rfl rfl rfl (by decide +kernel)) (pit_rng1 (by rfl) B.range (paks_cons (pak_nm 1) paks_nil)) (blkOk_by (N := n__law_mk_leaves) (sc := defScope (top 18)) (by decide +kernel)) (fun _ _ _ _ _ => pgt_nm (i := 8) C0.nd (by rfl) (by first | exact .inl rfl | exact .inr rfl)) (fun _ _ _ _ _ C1 => ptts_one (ptt_cmp (op_eqA C1.room.units) os_eqA (pak_ex (pet_ixA C1 (pak_nm 3) (pak_ex (pet_bin op_mod os_mod (pak_ex (pet_bin op_mod os_mod (pak_ex (pet_callTy call_int1 os_int (by rfl) B.int (by decide +kernel) (paks_cons (pak_nm 8) (paks_nil)))) (pak_nm 5))) (pak_ex (pet_int)))) (fun _ _ => rfl) (fun _ _ => rfl))) (pak_ex (pet_int)) (nomark _))) (fun _ _ _ _ _ C1 => pet_var 8))
 (psts_cons (pst_if (PWT.pt (pwt_or (ptt_cmp (op_eqA C0.room.units) os_eqA (pak_nm 2) (pak_ex (pet_int)) (nomark _)) (pwt_or1 (ptt_cmp (op_eqA C0.room.units) os_eqA (pak_nm 4) (pak_ex (pet_lst (paks_nil))) (nomark _))))) (psts_one (pst_retN 6)) (psts_nil))
 (psts_one (pst_ret (pet_if (ptt_cmp (op_inAA (hu1 C0)) (os_inAA eP ew) (pak_ex (pet_ixA C0 (pak_nm 4) (pak_ex (pet_int)) (fun _ _ => rfl) (fun _ _ => rfl))) (pak_nm 6) (by rfl)) (pet_lc (own := [("leaf", 8)]) C0 (pit_seq (pak_nm 6)) (blkOk_by (N := n__law_mk_leaves) (sc := defScope (top 18)) (by decide +kernel)) (fun _ _ _ _ _ => pgt_nm (i := 8) C0.nd (by rfl) (by first | exact .inl rfl | exact .inr rfl)) (fun _ _ _ _ _ C1 => ptts_one (ptt_cmp (op_neA C1.room.units) os_neA (pak_nm 8) (pak_ex (pet_ixA C1 (pak_nm 4) (pak_ex (pet_int)) (fun _ _ => rfl) (fun _ _ => rfl))) (nomark _))) (fun _ _ _ _ _ C1 => pet_var 8)) (pet_callB cr_sortedI os_sortedJ (by rfl) B.sorted (by decide +kernel) (paks_cons (pak_ex (pet_bin op_addAll os_add (pak_nm 6) (pak_ex (pet_lst (paks_cons (pak_ex (pet_ixA C0 (pak_nm 4) (pak_ex (pet_int)) (fun _ _ => rfl) (fun _ _ => rfl))) (paks_nil)))))) (paks_nil))))))))) (psts_nil))
 (psts_cons (pst_if (ptt_cmp (op_eqA C0.room.units) os_eqA (pak_nm 2) (pak_ex (pet_int)) (nomark _)) (psts_one (pst_ret (pet_lc (own := [("leaf", 8)]) C0 (pit_rng1 (by rfl) B.range (paks_cons (pak_nm 1) paks_nil)) (blkOk_by (N := n__law_mk_leaves) (sc := defScope (top 18)) (by decide +kernel)) (fun _ _ _ _ _ => pgt_nm (i := 8) C0.nd (by rfl) (by first | exact .inl rfl | exact .inr rfl)) (fun _ _ _ _ _ C1 => ptts_one (ptt_cmp (op_eqA C1.room.units) os_eqA (pak_ex (pet_ixA C1 (pak_nm 3) (pak_ex (pet_bin op_mod os_mod (pak_ex (pet_callTy call_int1 os_int (by rfl) B.int (by decide +kernel) (paks_cons (pak_nm 8) (paks_nil)))) (pak_ex (pet_int)))) (fun _ _ => rfl) (fun _ _ => rfl))) (pak_ex (pet_int)) (nomark _))) (fun _ _ _ _ _ C1 => pet_var 8)))) (psts_nil))
 (psts_one (pst_ret (pet_if (ptt_cmp (op_eqA C0.room.units) os_eqA (pak_ex (pet_ixA C0 (pak_nm 3) (pak_ex (pet_int)) (fun _ _ => rfl) (fun _ _ => rfl))) (pak_ex (pet_int)) (nomark _)) (pet_listRng C0 (by rfl) B.list (by rfl) B.range (paks_cons (pak_nm 1) paks_nil)) (pet_lst (paks_nil))))))))))
abbrev n__law_mk_spread : List Str := ["lot_here", "base", "found", "start", "leaf"]
theorem s__law_mk_spread : FnScope n__law_mk_spread ["lot_here", "base"] (defScope (top 19)) := ⟨rfl, rfl, rfl, by decide +kernel, rfl, by decide +kernel, by decide +kernel⟩
theorem d__law_mk_spread {f : Addr} {fd : FuncData} (F : Fun K "_law_mk_spread" "_law_mk_spread" (top 19) f fd) (b : Binds K fd ["lot_here", "base"] []) (B : Blt3 mg) (eP : ca.P = P) (ew : ca.w = w)  : DefT P w K mg base ca f fd ["lot_here", "base"] 1 F__law_mk_spread := mkDefC (n := 0) F s__law_mk_spread b fun _ _ _ _ _ _ _ hcd C0 =>
 psts_cons (pst_set (i := 2) C0.nd (by rfl) (by first | exact .inl rfl | exact .inr rfl) (pet_lst (paks_nil)))
 (psts_cons (pst_for C0 (pit_rng3 (by rfl) B.range (paks_cons (pak_ex (pet_int)) (paks_cons (pak_nm 1) (paks_cons (pak_ex (pet_ixA C0 (pak_nm 0) (pak_ex (pet_int)) (fun _ _ => rfl) (fun _ _ => rfl))) paks_nil)))) (pgt_nm (i := 3) C0.nd (by rfl) (by first | exact .inl rfl | exact .inr rfl)) (psts_one (pst_drop (pet_extend (pv 2) (paks_cons (pak_ex (pet_lc (own := [("leaf", 4)]) C0 (pit_seq (pak_ex (pet_ixA C0 (pak_nm 0) (pak_ex (pet_int)) (fun _ _ => rfl) (fun _ _ => rfl)))) (blkOk_by (N := n__law_mk_spread) (sc := defScope (top 19)) (by decide +kernel)) (fun _ _ _ _ _ => pgt_nm (i := 4) C0.nd (by rfl) (by first | exact .inl rfl | exact .inr rfl)) (fun _ _ _ _ _ C1 => ptts_nil) (fun _ _ _ _ _ C1 => pet_bin op_addAll os_add (pak_nm 3) (pak_nm 4)))) (paks_nil))))))
 (psts_one (pst_retN 2)))
abbrev n__law_mk_marks : List Str := ["lot_here", "base", "marks", "spot", "turn"]
theorem s__law_mk_marks : FnScope n__law_mk_marks ["lot_here", "base"] (defScope (top 20)) := ⟨rfl, rfl, rfl, by decide +kernel, rfl, by decide +kernel, by decide +kernel⟩
theorem d__law_mk_marks {f : Addr} {fd : FuncData} (F : Fun K "_law_mk_marks" "_law_mk_marks" (top 20) f fd) (b : Binds K fd ["lot_here", "base"] []) (B : Blt3 mg) (eP : ca.P = P) (ew : ca.w = w) {f__law_mk_spread : Addr} {fd__law_mk_spread : FuncData} (T__law_mk_spread : DefT P w K mg base ca f__law_mk_spread fd__law_mk_spread ["lot_here", "base"] 1 F__law_mk_spread) (m__law_mk_spread : mg "_law_mk_spread" = some (.ref f__law_mk_spread)) : DefT P w K mg base ca f fd ["lot_here", "base"] 2 F__law_mk_marks := mkDefC (n := 1) F s__law_mk_marks b fun _ _ _ _ _ _ _ hcd C0 =>
 psts_cons (pst_setLc (i := 2) (own := [("turn", 4)]) C0 (by rfl) (by rfl) (sw_true rfl rfl rfl (by decide +kernel)) (pit_rng1 (by rfl) B.range (paks_cons (pak_nm 1) paks_nil)) (blkOk_by (N := n__law_mk_marks) (sc := defScope (top 20)) (by decide +kernel)) (fun _ _ _ _ _ => pgt_nm (i := 4) C0.nd (by rfl) (by first | exact .inl rfl | exact .inr rfl)) (fun _ _ _ _ _ C1 => ptts_nil) (fun _ _ _ _ _ C1 => pet_bl))
 (psts_cons (pst_for C0 (pit_seq (pak_ex (pet_call T__law_mk_spread C0 (by omega) (by rfl) m__law_mk_spread (paks_cons (pak_nm 0) (paks_cons (pak_nm 1) (paks_nil)))))) (pgt_nm (i := 3) C0.nd (by rfl) (by first | exact .inl rfl | exact .inr rfl)) (psts_one (pst_storeA C0 (pv 2) (pet_var 3) (pet_bl))))
 (psts_one (pst_retN 2)))
abbrev n__law_mk_longest : List Str := ["marks", "best", "now", "here"]
theorem s__law_mk_longest : FnScope n__law_mk_longest ["marks"] (defScope (top 22)) := ⟨rfl, rfl, rfl, by decide +kernel, rfl, by decide +kernel, by decide +kernel⟩
theorem d__law_mk_longest {f : Addr} {fd : FuncData} (F : Fun K "_law_mk_longest" "_law_mk_longest" (top 22) f fd) (b : Binds K fd ["marks"] []) (B : Blt3 mg) (eP : ca.P = P) (ew : ca.w = w)  : DefT P w K mg base ca f fd ["marks"] 1 F__law_mk_longest := mkDefC (n := 0) F s__law_mk_longest b fun _ _ _ _ _ _ _ hcd C0 =>
 psts_cons (pst_par C0.calm (paks_cons (pak_ex (pet_int)) (paks_cons (pak_ex (pet_int)) (paks_nil))) (pgs_cons (pg_name (i := 1) C0.nd (by rfl) (by first | exact .inl rfl | exact .inr rfl)) (pgs_cons (pg_name (i := 2) C0.nd (by rfl) (by first | exact .inl rfl | exact .inr rfl)) (pgs_nil))))
 (psts_cons (pst_for C0 (pit_seq (pak_ex (pet_bin op_addAll os_add (pak_nm 0) (pak_nm 0)))) (pgt_nm (i := 3) C0.nd (by rfl) (by first | exact .inl rfl | exact .inr rfl)) (psts_cons (pst_set (i := 2) C0.nd (by rfl) (by first | exact .inl rfl | exact .inr rfl) (pet_if (ptt_tru (pak_nm 3)) (pet_int) (pet_bin op_addAll os_add (pak_nm 2) (pak_ex (pet_int)))))
 (psts_one (pst_set (i := 1) C0.nd (by rfl) (by first | exact .inl rfl | exact .inr rfl) (pet_callB (call_maxAll C0.calm) os_max (by rfl) B.max (by decide +kernel) (paks_cons (pak_nm 1) (paks_cons (pak_nm 2) (paks_nil))))))))
 (psts_one (pst_retN 1)))
abbrev n__law_right : List Str := ["purse", "base", "item", "kept", "marks", "told", "due", "start", "waits", "far", "leaf", "moment"]
theorem s__law_right : FnScope n__law_right ["purse"] (defScope (top 23)) := ⟨rfl, rfl, rfl, by decide +kernel, rfl, by decide +kernel, by decide +kernel⟩
theorem d__law_right {f : Addr} {fd : FuncData} (F : Fun K "_law_right" "_law_right" (top 23) f fd) (b : Binds K fd ["purse"] []) (B : Blt3 mg) (eP : ca.P = P) (ew : ca.w = w) {f__law_mk_base : Addr} {fd__law_mk_base : FuncData} (T__law_mk_base : DefT P w K mg base ca f__law_mk_base fd__law_mk_base ["purse"] 2 F__law_mk_base) {f__law_mk_leaves : Addr} {fd__law_mk_leaves : FuncData} (T__law_mk_leaves : DefT P w K mg base ca f__law_mk_leaves fd__law_mk_leaves ["purse", "base"] 3 F__law_mk_leaves) {f__law_mk_marks : Addr} {fd__law_mk_marks : FuncData} (T__law_mk_marks : DefT P w K mg base ca f__law_mk_marks fd__law_mk_marks ["lot_here", "base"] 2 F__law_mk_marks) {f_widest : Addr} {fd_widest : FuncData} (T_widest : DefT P w K mg base ca f_widest fd_widest ["one"] 4 F_widest) {f__law_mk_longest : Addr} {fd__law_mk_longest : FuncData} (T__law_mk_longest : DefT P w K mg base ca f__law_mk_longest fd__law_mk_longest ["marks"] 1 F__law_mk_longest) {f__law_mk_is_integer : Addr} {fd__law_mk_is_integer : FuncData} (T__law_mk_is_integer : DefT P w K mg base ca f__law_mk_is_integer fd__law_mk_is_integer ["thing"] 1 F__law_mk_is_integer) {f__law_coin : Addr} {fd__law_coin : FuncData} (T__law_coin : DefT P w K mg base ca f__law_coin fd__law_coin ["purse", "many"] 1 F__law_coin) {f_next_day : Addr} {fd_next_day : FuncData} (T_next_day : DefT P w K mg base ca f_next_day fd_next_day ["one", "day"] 4 F_next_day) {f_lot : Addr} {fd_lot : FuncData} (T_lot : DefT P w K mg base ca f_lot fd_lot ["every", "rests"] 3 F_lot) (m__law_mk_base : mg "_law_mk_base" = some (.ref f__law_mk_base)) (m__law_mk_leaves : mg "_law_mk_leaves" = some (.ref f__law_mk_leaves)) (m__law_mk_marks : mg "_law_mk_marks" = some (.ref f__law_mk_marks)) (m_widest : mg "widest" = some (.ref f_widest)) (kb_widest : KBn K fd_widest ["one"] 0 ["one"] all0 all0V) (m__law_mk_longest : mg "_law_mk_longest" = some (.ref f__law_mk_longest)) (m__law_mk_is_integer : mg "_law_mk_is_integer" = some (.ref f__law_mk_is_integer)) (m__law_coin : mg "_law_coin" = some (.ref f__law_coin)) (m_next_day : mg "next_day" = some (.ref f_next_day)) (m_lot : mg "lot" = some (.ref f_lot)) : DefT P w K mg base ca f fd ["purse"] 5 F__law_right := mkDefC (n := 4) F s__law_right b fun _ _ _ _ _ _ _ hcd C0 =>
 psts_cons (pst_set (i := 1) C0.nd (by rfl) (by first | exact .inl rfl | exact .inr rfl) (pet_call T__law_mk_base C0 (by omega) (by rfl) m__law_mk_base (paks_cons (pak_nm 0) (paks_nil))))
 (psts_cons (pst_set (i := 2) C0.nd (by rfl) (by first | exact .inl rfl | exact .inr rfl) (pet_tup (paks_cons (pak_ex (pet_var 1)) (paks_cons (pak_ex (pet_call T__law_mk_leaves C0 (by omega) (by rfl) m__law_mk_leaves (paks_cons (pak_nm 0) (paks_cons (pak_nm 1) (paks_nil))))) (paks_nil)))))
 (psts_cons (pst_par2 (i := 3) (j := 4) C0 (by rfl) (by rfl) (by decide) (by rfl) (by rfl) (paks_cons (pak_ex (pet_callB (call_repr C0.ng C0.room.units) os_repr (by rfl) B.repr (by decide +kernel) (paks_cons (pak_nm 2) (paks_nil)))) (paks_cons (pak_ex (pet_call T__law_mk_marks C0 (by omega) (by rfl) m__law_mk_marks (paks_cons (pak_nm 2) (paks_cons (pak_nm 1) (paks_nil))))) (paks_nil))) (by rfl))
 (psts_cons (pst_set (i := 5) C0.nd (by rfl) (by first | exact .inl rfl | exact .inr rfl) (pet_call T_widest C0 (by omega) (by rfl) m_widest (paks_cons (pak_nm 2) (paks_nil))))
 (psts_cons (pst_if (ptt_cmp (op_eqA C0.room.units) os_eqA (pak_ex (pet_ixA C0 (pak_nm 2) (pak_ex (pet_int)) (fun _ _ => rfl) (fun _ _ => rfl))) (pak_ex (pet_lst (paks_nil))) (nomark _)) (psts_one (pst_ret (pet_and (pet_cmp op_isN os_is (pak_nm 5) (pak_ex (pet_non)) (nomark _)) (pet_and (pet_cmp op_isN os_is (pak_ex (pet_callK0 T_widest kb_widest C0 (by omega) (by rfl) m_widest (pks_cons (pak_nm 2) (pks_nil)))) (pak_ex (pet_non)) (nomark _)) (pet_one (pet_cmp (op_eqA C0.room.units) os_eqA (pak_ex (pet_callB (call_repr C0.ng C0.room.units) os_repr (by rfl) B.repr (by decide +kernel) (paks_cons (pak_nm 2) (paks_nil)))) (pak_nm 3) (nomark _))))))) (psts_nil))
 (psts_cons (pst_set (i := 6) C0.nd (by rfl) (by first | exact .inl rfl | exact .inr rfl) (pet_call T__law_mk_longest C0 (by omega) (by rfl) m__law_mk_longest (paks_cons (pak_nm 4) (paks_nil))))
 (psts_cons (pst_if (PWT.pt (pwt_or (ptt_not (ptt_tru (pak_ex (pet_call T__law_mk_is_integer C0 (by omega) (by rfl) m__law_mk_is_integer (paks_cons (pak_nm 5) (paks_nil)))))) (pwt_or (ptt_cmp (op_neA C0.room.units) os_neA (pak_nm 5) (pak_nm 6) (nomark _)) (pwt_or1 (ptt_cmp (op_neA C0.room.units) os_neA (pak_ex (pet_callK0 T_widest kb_widest C0 (by omega) (by rfl) m_widest (pks_cons (pak_nm 2) (pks_nil)))) (pak_nm 6) (nomark _)))))) (psts_one (pst_ret (pet_bl))) (psts_nil))
 (psts_cons (pst_par2 (i := 7) (j := 8) C0 (by rfl) (by rfl) (by decide) (by rfl) (by rfl) (paks_cons (pak_ex (pet_call T__law_coin C0 (by omega) (by rfl) m__law_coin (paks_cons (pak_nm 0) (paks_cons (pak_ex (pet_callB call_lenAll os_len (by rfl) B.len (by decide +kernel) (paks_cons (pak_ex (pet_ixA C0 (pak_nm 2) (pak_ex (pet_int)) (fun _ _ => rfl) (fun _ _ => rfl))) (paks_nil)))) (paks_nil))))) (paks_cons (pak_ex (pet_lst (paks_nil))) (paks_nil))) (by rfl))
 (psts_cons (pst_set (i := 9) C0.nd (by rfl) (by first | exact .inl rfl | exact .inr rfl) (pet_bin op_mulAll os_mul (pak_nm 1) (pak_ex (pet_call T__law_coin C0 (by omega) (by rfl) m__law_coin (paks_cons (pak_nm 0) (paks_cons (pak_ex (pet_ixA C0 (pak_ex (pet_lst (paks_cons (pak_ex (pet_int)) (paks_cons (pak_ex (pet_bin op_powAll os_pow (pak_ex (pet_int)) (pak_ex (pet_int)))) (paks_nil))))) (pak_ex (pet_call T__law_coin C0 (by omega) (by rfl) m__law_coin (paks_cons (pak_nm 0) (paks_cons (pak_ex (pet_int)) (paks_nil))))) (fun _ _ => rfl) (fun _ _ => rfl))) (paks_nil)))))))
 (psts_cons (pst_for C0 (pit_seq (pak_ex (pet_bin op_addAll os_add (pak_ex (pet_sl3 (pak_ex (pet_ixA C0 (pak_nm 2) (pak_ex (pet_int)) (fun _ _ => rfl) (fun _ _ => rfl))) (pet_var 7) (pet_bin op_addAll os_add (pak_nm 7) (pak_ex (pet_int))))) (pak_ex (pet_sl2 (pak_ex (pet_sl2 (pak_ex (pet_ixA C0 (pak_nm 2) (pak_ex (pet_int)) (fun _ _ => rfl) (fun _ _ => rfl))) (pet_var 7))) (pet_int)))))) (pgt_nm (i := 10) C0.nd (by rfl) (by first | exact .inl rfl | exact .inr rfl)) (psts_cons (pst_set (i := 11) C0.nd (by rfl) (by first | exact .inl rfl | exact .inr rfl) (pet_bin op_addAll os_add (pak_ex (pet_bin op_addAll os_add (pak_nm 9) (pak_nm 10))) (pak_ex (pet_int))))
 (psts_one (pst_drop (pet_append (pv 8) (paks_cons (pak_ex (pet_bin op_sub os_sub (pak_ex (pet_call T_next_day C0 (by omega) (by rfl) m_next_day (paks_cons (pak_nm 2) (paks_cons (pak_nm 11) (paks_nil))))) (pak_nm 11))) (paks_nil)))))))
 (psts_cons (pst_if (ptt_cmp op_gt os_gt (pak_ex (pet_callB (call_maxAll C0.calm) os_max (by rfl) B.max (by decide +kernel) (paks_cons (pak_nm 8) (paks_nil)))) (pak_nm 6) (nomark _)) (psts_one (pst_ret (pet_bl))) (psts_nil))
 (psts_cons (pst_if (PWT.pt (pwt_and (ptt_cmp op_le os_le (pak_ex (pet_callB call_lenAll os_len (by rfl) B.len (by decide +kernel) (paks_cons (pak_ex (pet_ixA C0 (pak_nm 2) (pak_ex (pet_int)) (fun _ _ => rfl) (fun _ _ => rfl))) (paks_nil)))) (pak_ex (pet_int)) (nomark _)) (pwt_and1 (ptt_cmp (op_neA C0.room.units) os_neA (pak_ex (pet_callB (call_maxAll C0.calm) os_max (by rfl) B.max (by decide +kernel) (paks_cons (pak_nm 8) (paks_nil)))) (pak_nm 6) (nomark _))))) (psts_one (pst_ret (pet_bl))) (psts_nil))
 (psts_cons (pst_if (PWT.pt (pwt_or (ptt_cmp (op_neA C0.room.units) os_neA (pak_ex (pet_call T_widest C0 (by omega) (by rfl) m_widest (paks_cons (pak_ex (pet_call T_lot C0 (by omega) (by rfl) m_lot (paks_cons (pak_nm 1) (paks_cons (pak_ex (pet_ixA C0 (pak_nm 2) (pak_ex (pet_int)) (fun _ _ => rfl) (fun _ _ => rfl))) (paks_nil))))) (paks_nil)))) (pak_nm 6) (nomark _)) (pwt_or1 (ptt_cmp op_notN os_isNot (pak_ex (pet_call T_widest C0 (by omega) (by rfl) m_widest (paks_cons (pak_ex (pet_tup (paks_cons (pak_ex (pet_int)) (paks_cons (pak_ex (pet_lst (paks_nil))) (paks_nil))))) (paks_nil)))) (pak_ex (pet_non)) (nomark _))))) (psts_one (pst_ret (pet_bl))) (psts_nil))
 (psts_one (pst_ret (pet_and (pet_cmp (op_eqA C0.room.units) os_eqA (pak_ex (pet_call T_widest C0 (by omega) (by rfl) m_widest (paks_cons (pak_ex (pet_tup (paks_cons (pak_ex (pet_int)) (paks_cons (pak_ex (pet_lst (paks_cons (pak_ex (pet_int)) (paks_nil)))) (paks_nil))))) (paks_nil)))) (pak_ex (pet_int)) (nomark _)) (pet_and (pet_cmp (op_eqA C0.room.units) os_eqA (pak_ex (pet_call T_widest C0 (by omega) (by rfl) m_widest (paks_cons (pak_ex (pet_tup (paks_cons (pak_ex (pet_var 1)) (paks_cons (pak_ex (pet_lst (paks_cons (pak_ex (pet_bin op_sub os_sub (pak_nm 1) (pak_ex (pet_int)))) (paks_nil)))) (paks_nil))))) (paks_nil)))) (pak_ex (pet_bin op_sub os_sub (pak_nm 1) (pak_ex (pet_int)))) (nomark _)) (pet_one (pet_cmp (op_eqA C0.room.units) os_eqA (pak_ex (pet_callB (call_repr C0.ng C0.room.units) os_repr (by rfl) B.repr (by decide +kernel) (paks_cons (pak_nm 2) (paks_nil)))) (pak_nm 3) (nomark _)))))))))))))))))))
abbrev n_law : List Str := ["script", "spot", "purse"]
end
end K06

local macro_rules | `(tactic| walk_at "EV") => `(tactic| simp -dsimp only [↓Tr.qO_gcd, ↓Tr.qO_lcm, ↓Tr.w_ofSetT, ↓Tr.w_rng3, ↓Tr.qHd3_i, ↓Tr.qRn3_i, ↓Tr.qO_listRng, ↓Tr.qO_sortSet, ↓Tr.qO_lenSet, ↓Tr.qO_sortedJ, ↓Tr.w_isTyT, ↓Tr.qO_isTy_i, ↓Tr.qO_isTy_b, ↓Tr.qO_isTy_n, ↓Tr.qO_isTy_s, ↓Tr.qO_isTy_l, ↓Tr.qO_isTy_t, ↓Tr.pm_10, ↓Tr.w_pm_10, ↓Tr.pm_021, ↓Tr.w_pm_021, ↓Tr.pm_102, ↓Tr.w_pm_102, ↓Tr.pm_120, ↓Tr.w_pm_120, ↓Tr.pm_201, ↓Tr.w_pm_201, ↓Tr.pm_210, ↓Tr.w_pm_210, ↓Tr.qO_revA_l, ↓Tr.qO_revA_t, ↓Tr.w_isAT, ↓Tr.qO_isA_s, ↓Tr.qO_isA_n, ↓Tr.qO_isA_i, ↓Tr.qO_isA_z, ↓Tr.qO_isA_l, ↓Tr.qO_isA_t, ↓Tr.w_eqMT, ↓Tr.qV_z, ↓Tr.qV_s, ↓Tr.qSet_z, ↓Tr.qSet_s, ↓Tr.qG_0, ↓Tr.qG_1, ↓Tr.qG_2, ↓Tr.qG_3, ↓Tr.qB_t, ↓Tr.qB_f, ↓Tr.qB_n, ↓Tr.w_cT, ↓Tr.w_varT, ↓Tr.qA_nil, ↓Tr.qA_nm, ↓Tr.qA_ex, ↓Tr.qL_nil, ↓Tr.qL_tm, ↓Tr.qL_sl, ↓Tr.qM_nil, ↓Tr.qM_tm, ↓Tr.w_opT, ↓Tr.qL_n_app, ↓Tr.qL_tm_app, ↓Tr.qL_sl_app, ↓Tr.qIs_str, ↓Tr.qIs_lst, ↓Tr.w_mthT, ↓Tr.w_sl3T, ↓Tr.qBl_b, ↓Tr.w_boolT, ↓Tr.qTr_bl, ↓Tr.qTr_int, ↓Tr.qTr_lst, ↓Tr.qTr_tup, ↓Tr.qTr_non, ↓Tr.qTr_str, ↓Tr.w_truT, ↓Tr.w_notG, ↓Tr.w_andG, ↓Tr.w_orG, ↓Tr.w_yesG, ↓Tr.w_ifT, ↓Tr.w_andT, ↓Tr.w_orT, ↓Tr.w_notT, ↓Tr.w_chT, ↓Tr.w_tupT, ↓Tr.w_lstT, ↓Tr.qC_nil, ↓Tr.qC_tm, ↓Tr.qC_sl, ↓Tr.qU_0, ↓Tr.qU_1, ↓Tr.qU_2, ↓Tr.qBack_0, ↓Tr.qBack_tm, ↓Tr.w_callT, ↓Tr.w_seqT, ↓Tr.w_nilT, ↓Tr.w_ifS, ↓Tr.w_dropT, ↓Tr.w_retT, ↓Tr.w_retN, ↓Tr.w_setT, ↓Tr.qPut_s, ↓Tr.qPut_n0, ↓Tr.qPut_n1, ↓Tr.qPut_s00, ↓Tr.qPut_s01, ↓Tr.qPut_s10, ↓Tr.qPut_s11, ↓Tr.w_asgT, ↓Tr.qBG_nm, ↓Tr.qBG_tt, ↓Tr.qBG_tl, ↓Tr.qBGs_nil, ↓Tr.qBGs_cons, ↓Tr.w_parT, ↓Tr.qEs_nil, ↓Tr.qEs_cons, ↓Tr.qPL_nil, ↓Tr.qPL_cons, ↓Tr.qO_add_i, ↓Tr.qO_add_s, ↓Tr.qO_add_l, ↓Tr.qO_add_t, ↓Tr.qO_sub, ↓Tr.qO_mul, ↓Tr.qO_div, ↓Tr.qO_mod, ↓Tr.qO_pow, ↓Tr.qO_neg, ↓Tr.qO_lt, ↓Tr.qO_le, ↓Tr.qO_gt, ↓Tr.qO_ge, ↓Tr.qO_eq_i, ↓Tr.qO_ne_i, ↓Tr.qO_int_i, ↓Tr.qO_int_b, ↓Tr.qO_abs, ↓Tr.qO_max, ↓Tr.qO_min, ↓Tr.qO_len_l, ↓Tr.qO_len_t, ↓Tr.qO_len_s, ↓Tr.qO_list_t, ↓Tr.qO_tup_l, ↓Tr.qO_tup_t, ↓Tr.qO_ixl_0, ↓Tr.qO_ixl_1, ↓Tr.qO_ixl_2, ↓Tr.qO_ixt_0, ↓Tr.qO_ixt_1, ↓Tr.qO_ixt_2, ↓Tr.w_storeT, ↓Tr.qLst_l, ↓Tr.qSt_0, ↓Tr.qSt_1, ↓Tr.qSt_2, ↓Tr.w_mutT, ↓Tr.qMu_app, ↓Tr.qRn_i, ↓Tr.qRn2_i, ↓Tr.w_rng1, ↓Tr.w_rng2, ↓Tr.qHd_1, ↓Tr.qHd2_1, ↓Tr.qSeq_l, ↓Tr.qSeq_t, ↓Tr.qSeq_s, ↓Tr.w_seq, ↓Tr.w_enum, ↓Tr.srcOf_nm, ↓Tr.srcOf_ex, ↓Tr.qWi_nil, ↓Tr.qWi_cons, ↓Tr.qRe_nil, ↓Tr.qRe_cons, ↓Tr.qGet_z, ↓Tr.qGet_s, ↓Tr.qNo_nil, ↓Tr.qNo_cons, ↓Tr.w_turn1, ↓Tr.w_turn2, ↓Tr.w_compT, ↓Tr.qO_or_l, ↓Tr.qO_or_t, ↓Tr.qO_or_s, ↓Tr.qO_or_di, ↓Tr.qO_or_ds, ↓Tr.qO_in_l, ↓Tr.qO_in_t, ↓Tr.qO_in_s, ↓Tr.qO_in_si, ↓Tr.qO_in_ss, ↓Tr.qO_in_di, ↓Tr.qO_in_ds, ↓Tr.qO_nin_l, ↓Tr.qO_nin_t, ↓Tr.qO_nin_si, ↓Tr.qO_nin_ss, ↓Tr.qO_nin_di, ↓Tr.qO_nin_ds, ↓Tr.qO_shl, ↓Tr.qO_shr, ↓Tr.qO_band, ↓Tr.qO_bor, ↓Tr.qO_fld, ↓Tr.qVal_some, ↓Tr.w_dnewT, ↓Tr.w_set1T, ↓Tr.w_storeA, ↓Tr.qStA_l, ↓Tr.qStA_di, ↓Tr.qStA_ds, ↓Tr.w_storeF, ↓Tr.qMade_ok, ↓Tr.w_makeT, ↓Tr.qBk_11, ↓Tr.qBk_22, ↓Tr.qBk_13, ↓Tr.qBk_23, ↓Tr.qBk_0, ↓Tr.qBk_3, ↓Tr.qBk_n, ↓Tr.qBack_at, ↓Tr.qO_cut_s, ↓Tr.qO_cut_l, ↓Tr.qO_cut_t, ↓Tr.qO_sl_0, ↓Tr.qO_sl_1, ↓Tr.qO_sl_2, ↓Tr.qInt_i, ↓Tr.qO_rev, ↓Tr.qFor_n, ↓Tr.qFor_s, ↓Tr.w_methT, ↓Tr.qIns_i, ↓Tr.noAt_none, ↓Tr.w_propT, ↓Tr.w_addT, ↓Tr.qSta_s, ↓Tr.qKy_s, ↓Tr.qKy_i, ↓Tr.w_kdIxT, ↓Tr.qPs_nil, ↓Tr.qPs_cons, ↓Tr.w_dctT, ↓Tr.qMu_ext, ↓Tr.qO_eqA_i, ↓Tr.qO_neA_i, ↓Tr.qO_eqA_s, ↓Tr.qO_neA_s, ↓Tr.qO_eqA_b, ↓Tr.qO_neA_b, ↓Tr.qO_eqA_l, ↓Tr.qO_neA_l, ↓Tr.qO_eqA_t, ↓Tr.qO_neA_t, ↓Tr.qNf_f, ↓Tr.qXe_at, ↓Tr.qOb_s, ↓Tr.qCm_t, ↓Tr.qCm_f, ↓Tr.w_raiseT, ↓Tr.w_isxT, ↓Tr.w_xvT, ↓Tr.w_guardI, ↓Tr.w_instT, ↓Tr.w_isCT, ↓Tr.qO_isC, ↓Tr.w_eqIT, ↓Tr.qBo_b, ↓Tr.w_guard2, ↓Tr.su_0_0, ↓Tr.su_0_1, ↓Tr.su_0_2, ↓Tr.su_0_3, ↓Tr.su_0_4, ↓Tr.su_0_5, ↓Tr.su_0_6, ↓Tr.su_0_7, ↓Tr.su_0_8, ↓Tr.su_0_9, ↓Tr.su_0_10, ↓Tr.su_0_11, ↓Tr.su_1_0, ↓Tr.su_1_1, ↓Tr.su_1_2, ↓Tr.su_1_3, ↓Tr.su_1_4, ↓Tr.su_1_5, ↓Tr.su_1_6, ↓Tr.su_1_7, ↓Tr.su_1_8, ↓Tr.su_1_9, ↓Tr.su_1_10, ↓Tr.su_1_11, ↓Tr.su_2_0, ↓Tr.su_2_1, ↓Tr.su_2_2, ↓Tr.su_2_3, ↓Tr.su_2_4, ↓Tr.su_2_5, ↓Tr.su_2_6, ↓Tr.su_2_7, ↓Tr.su_2_8, ↓Tr.su_2_9, ↓Tr.su_2_10, ↓Tr.su_2_11, ↓Tr.su_3_0, ↓Tr.su_3_1, ↓Tr.su_3_2, ↓Tr.su_3_3, ↓Tr.su_3_4, ↓Tr.su_3_5, ↓Tr.su_3_6, ↓Tr.su_3_7, ↓Tr.su_3_8, ↓Tr.su_3_9, ↓Tr.su_3_10, ↓Tr.su_3_11, ↓Tr.su_4_0, ↓Tr.su_4_1, ↓Tr.su_4_2, ↓Tr.su_4_3, ↓Tr.su_4_4, ↓Tr.su_4_5, ↓Tr.su_4_6, ↓Tr.su_4_7, ↓Tr.su_4_8, ↓Tr.su_4_9, ↓Tr.su_4_10, ↓Tr.su_4_11, ↓Tr.su_5_0, ↓Tr.su_5_1, ↓Tr.su_5_2, ↓Tr.su_5_3, ↓Tr.su_5_4, ↓Tr.su_5_5, ↓Tr.su_5_6, ↓Tr.su_5_7, ↓Tr.su_5_8, ↓Tr.su_5_9, ↓Tr.su_5_10, ↓Tr.su_5_11, ↓Tr.su_6_0, ↓Tr.su_6_1, ↓Tr.su_6_2, ↓Tr.su_6_3, ↓Tr.su_6_4, ↓Tr.su_6_5, ↓Tr.su_6_6, ↓Tr.su_6_7, ↓Tr.su_6_8, ↓Tr.su_6_9, ↓Tr.su_6_10, ↓Tr.su_6_11, ↓Tr.su_7_0, ↓Tr.su_7_1, ↓Tr.su_7_2, ↓Tr.su_7_3, ↓Tr.su_7_4, ↓Tr.su_7_5, ↓Tr.su_7_6, ↓Tr.su_7_7, ↓Tr.su_7_8, ↓Tr.su_7_9, ↓Tr.su_7_10, ↓Tr.su_7_11, ↓Tr.su_8_0, ↓Tr.su_8_1, ↓Tr.su_8_2, ↓Tr.su_8_3, ↓Tr.su_8_4, ↓Tr.su_8_5, ↓Tr.su_8_6, ↓Tr.su_8_7, ↓Tr.su_8_8, ↓Tr.su_8_9, ↓Tr.su_8_10, ↓Tr.su_8_11, ↓Tr.su_9_0, ↓Tr.su_9_1, ↓Tr.su_9_2, ↓Tr.su_9_3, ↓Tr.su_9_4, ↓Tr.su_9_5, ↓Tr.su_9_6, ↓Tr.su_9_7, ↓Tr.su_9_8, ↓Tr.su_9_9, ↓Tr.su_9_10, ↓Tr.su_9_11, ↓Tr.su_10_0, ↓Tr.su_10_1, ↓Tr.su_10_2, ↓Tr.su_10_3, ↓Tr.su_10_4, ↓Tr.su_10_5, ↓Tr.su_10_6, ↓Tr.su_10_7, ↓Tr.su_10_8, ↓Tr.su_10_9, ↓Tr.su_10_10, ↓Tr.su_10_11, ↓Tr.su_11_0, ↓Tr.su_11_1, ↓Tr.su_11_2, ↓Tr.su_11_3, ↓Tr.su_11_4, ↓Tr.su_11_5, ↓Tr.su_11_6, ↓Tr.su_11_7, ↓Tr.su_11_8, ↓Tr.su_11_9, ↓Tr.su_11_10, ↓Tr.su_11_11, ↓Tr.w_mut0T, ↓Tr.qMu_clear, ↓Tr.qMu_reverse, ↓Tr.w_sortedSetT, ↓Tr.w_kdGetT, ↓Tr.w_neIT, ↓Tr.qBn_b, ↓Tr.w_guardN, ↓Tr.qO_list_l, List.isEmpty_cons, List.isEmpty_nil, Bool.not_true, Bool.not_false, Tr.ownF_0, Tr.ownF_1, Tr.ownF_2, Tr.ownF_3, Tr.slOwn_z, Tr.slOwn_s, Tr.slOwn_n])
namespace Mk
open PySem PySem.Spec PyProof.Rows L2 Md Tr
def PurseD (c : Nat) (d : D) : Prop := ∃ p0 p1 p2 : Int, d = .lst [.int p0, .int p1, .int p2] ∧ 0 ≤ p0 ∧ 0 ≤ p1 ∧ p1 < 10 ^ 24 + 7 ∧ 0 ≤ p2 ∧ p2 ≤ c
theorem wide_of {i : Int} (h : i.natAbs < 2 ^ 200) : wideI i := Nat.lt_of_lt_of_le h (Nat.pow_le_pow_right (by decide) (by decide))
theorem w_coin {c : Nat} {d : D} {m : Int} {P : D → Bool → TEnv → Prop} {X : Str → D → TEnv → Prop} (hd : PurseD c d) (hc : c ≤ 1000000) (h1 : 1 ≤ m) (h2 : m ≤ 10 ^ 31)
    (q : ∀ (r : Int) (d' : D), 0 ≤ r → r < m → PurseD (c + 1) d' → P (.int r) false [some (d', 2), some (.int m, 0)]) : qE (F__law_coin [some (d, 2), some (.int m, 0)]) P X := by
  obtain ⟨p0, p1, p2, rfl, a0, a1, a2, a3, a4⟩ := hd
  have wm : wideI m := wide_of (by have e : (10 : Int) ^ 31 < 2 ^ 200 := by decide
                                   omega)
  unfold F__law_coin
  rw [qE_defT]
  refine ⟨rfl, rfl, ?_⟩
  simp only [List.replicate, List.cons_append, List.nil_append]
  walk_at "EV"
  have m0 : 0 < m := by omega
  have s1 : ∀ x : Int, 0 ≤ x % (10 ^ 25 + 13) ∧ x % (10 ^ 25 + 13) < 10 ^ 25 + 13 := fun x => ⟨Int.emod_nonneg _ (by decide), Int.emod_lt_of_pos _ (by decide)⟩
  have e40 : (10 : Nat) ^ 40 < 2 ^ 200 := by decide
  refine qB_cases (fun e => ?_) fun _ => ?_
  · walk_at "EV"
    exact ⟨m0, ⟨m0, wm⟩, trivial, trivial, q _ _ (Int.emod_nonneg _ (by omega)) (Int.emod_lt_of_pos _ m0) ⟨_, _, _, rfl, Int.ediv_nonneg a0 (by omega), a1, a2, a3, by omega⟩⟩
  walk_at "EV"
  have s2 := s1 ((p1 + 2038074743 * (p2 + 1)) ^ Int.toNat 3)
  refine ⟨trivial, trivial, ⟨wide_of (by decide), wide_of (by omega)⟩, .inl ⟨by decide, by decide, by omega⟩, .inr ⟨by decide, by decide, by decide⟩, by decide, ⟨wide_of (by decide), wide_of (by omega)⟩, .inl ⟨by decide, by decide, ?_⟩, .inr ⟨by decide, by decide, by decide⟩, by decide, ⟨by decide, wide_of (by decide)⟩, m0, ?_⟩
  · have e : (10 ^ Int.toNat 25 + 13 : Int) = 10 ^ 25 + 13 := rfl
    rw [e]
    generalize (p1 + 2038074743 * (p2 + 1)) ^ Int.toNat 3 % (10 ^ 25 + 13) = x at s2
    omega
  · exact q _ _ (Int.emod_nonneg _ (by omega)) (Int.emod_lt_of_pos _ m0) ⟨_, _, _, rfl, a0, a1, a2, by omega, by omega⟩
end Mk

namespace Md
open PySem PySem.Spec PyProof.Rows L2
/-- the sign is a letter from a to z -/
def letB (c : Nat) : Bool := decide (c ∈ (("abcdefghijklmnopqrstuvwxyz" : Str)).cps.toList)
/-- whether a text is a town's name -/
def nameB (z : Str) : Bool := (decide ((1 : Int) ≤ z.length) && decide ((z.length : Int) ≤ 8)) && (z.cps.toList.map letB).all id
abbrev sg (z : Str) : List Nat := z.cps.toList
theorem sg_app (x y : Str) : sg (x ++ y) = sg x ++ sg y := by
  show (x.cps ++ y.cps).toList = _
  simp
/-- nothing but letters -/
def LetS (z : Str) : Prop := ∀ c ∈ sg z, letB c = true
theorem LetS.name {z : Str} (h : LetS z) (h1 : 1 ≤ z.length) (h2 : z.length ≤ 8) : nameB z = true := by
  unfold nameB
  rw [decide_eq_true (show (1 : Int) ≤ z.length by omega), decide_eq_true (show (z.length : Int) ≤ 8 by omega)]
  have e : (z.cps.toList.map letB).all id = true := by
    rw [List.all_eq_true]
    intro b hb
    obtain ⟨c, hc, e⟩ := List.mem_map.mp hb
    rw [← e]
    exact h c hc
  rw [e]
  rfl
theorem LetS.app {x y : Str} (h : LetS x) (k : LetS y) : LetS (x ++ y) := by
  intro c hc
  rw [sg_app, List.mem_append] at hc
  exact hc.elim (h c) (k c)
theorem LetS.cut {z : Str} (h : LetS z) (lo hi : Option Int) : LetS (cutS z lo hi) := by
  intro c hc
  have m : c ∈ (z.cps.toList.drop (HT.sIx z.length 0 lo)).take (HT.sIx z.length z.length hi - HT.sIx z.length 0 lo) := by
    unfold cutS at hc
    simpa using hc
  exact h c (List.mem_of_mem_drop (List.mem_of_mem_take m))
/-- one sign -/
abbrev one (c : Nat) : Str := ⟨#[c]⟩
abbrev alphabet : Str := "abcdefghijklmnopqrstuvwxyz"
theorem alpha_len : (sg alphabet).length = 26 := by decide +kernel
theorem alpha_let {i c : Nat} (h : (sg alphabet)[i]? = some c) : letB c = true := decide_eq_true (List.mem_of_getElem? h)
/-- right names -/
def NamesR (zs : List Str) (m : Nat) : Prop := zs.length = m ∧ zs.Nodup ∧ ∀ z ∈ zs, nameB z = true ∧ z.length ≤ 8
abbrev menuS : List Str := ["market", "none", "one", "same", "by", "ulm", "wien", "bonn", "a", "b", "turn", "first", "town", "day"]
/-- the menu in steps of three -/
abbrev menuAt (s i : Nat) : Str := menuS.getD ((s + 3 * i) % 14) Str.empty
/-- the sign of the alphabet -/
abbrev alphaAt (i : Nat) : Nat := (sg alphabet).getD (i % 26) 0
theorem alphaAt_get (i : Nat) : (sg alphabet)[i % 26]? = some (alphaAt i) := by
  have h : i % 26 < (sg alphabet).length := by rw [alpha_len]; exact Nat.mod_lt _ (by decide)
  show _ = some ((sg alphabet).getD (i % 26) 0)
  rw [List.getD_eq_getElem?_getD, List.getElem?_eq_getElem h]
  rfl
theorem LetS.one {i : Nat} : LetS (one (alphaAt i)) := fun c hc => by
  have e : c = alphaAt i := List.mem_singleton.mp hc
  rw [e]
  exact alpha_let (alphaAt_get i)
/-- one text, another letter in one place each time -/
abbrev spotted (tail : Str) (spot : Nat) (i : Nat) : Str := cutS tail none (some (spot : Int)) ++ one (alphaAt i) ++ cutS tail (some (spot : Int)) none
end Md

/-! Cases: towns, notes, choices, and what lots of choices keep; plain lists. -/
namespace Mk
open PySem
/-- a place: its name and its bounds -/
abbrev Pl := Str × Int × Int
/-- a choice: its turn and its first day -/
abbrev Ck := Int × Int
inductive Nt where
  | one (mk : Bool) (w : Str) (d : Int)
  | two (sm : Bool) (a b : Str) (d : Int)
def Nt.mids : Nt → List Str
  | .one _ w _ => [w]
  | .two _ a b _ => [a, b]
def Nt.day : Nt → Int
  | .one _ _ d => d
  | .two _ _ _ d => d
def hasM (c : Ck) (d : Int) : Bool := decide (d % c.1 = c.2)
/-- whether a note is kept by the choices of its towns -/
def keptF : Nt → (Str → Ck) → Bool
  | .one mk w d, f => hasM (f w) d == mk
  | .two sm a b d, f => (hasM (f a) d == hasM (f b) d) == sm
/-- the choices of a turn -/
def waysOf (t : Int) : List Ck := (List.range t.toNat).map fun j : Nat => (t, (j : Int))
/-- the choices of turns from lo to hi -/
def ways (lo hi : Int) : List Ck := (List.range (hi + 1 - lo).toNat).flatMap fun i : Nat => waysOf (lo + (i : Int))
def chs (p : Pl) : List Ck := ways p.2.1 p.2.2
/-- all lots of one choice of each row -/
def prodL {α : Type} : List (List α) → List (List α)
  | [] => [[]]
  | r :: rs => r.flatMap fun c => (prodL rs).map (c :: ·)
def names (us : List Pl) : List Str := us.map (·.1)
/-- the choice of a name in a lot of choices of some names -/
def look (gs : List Str) (l : List Ck) (z : Str) : Ck := l.getD (gs.idxOf z) (1, 0)
def inside (gs : List Str) (nt : Nt) : Bool := nt.mids.all fun u => decide (u ∈ gs)
/-- whether a lot of choices keeps all notes of these towns -/
def fitsL (nts : List Nt) (gs : List Str) (l : List Ck) : Bool := nts.all fun nt => !(inside gs nt) || keptF nt (look gs l)
/-- the lots of choices of some towns that keep all notes of them -/
def lots (nts : List Nt) (us : List Pl) : List (List Ck) := (prodL (us.map chs)).filter (fitsL nts (names us))
def cnt (nts : List Nt) (us : List Pl) : Nat := (lots nts us).length
/-! ### counting parts apart -/
section
variable {α β : Type}
/-- the part of a lot whose rows are marked -/
def part (S : α → Bool) : List α → List β → List β
  | [], _ => []
  | _, [] => []
  | u :: us, c :: l => if S u = true then c :: part S us l else part S us l
def nOf (p : List β → Bool) (rs : List (List β)) : Nat := ((prodL rs).filter p).length
end
end Mk

/-! Counting by groups, and the two ways of counting. -/
namespace Mk
open PySem
/-! ### groups -/
/-- what towns that hang together are told by -/
structure Hangs (R : Str → Str → Bool) (nts : List Nt) : Prop where
  refl : ∀ z, R z z = true
  symm : ∀ x y, R x y = true → R y x = true
  trans : ∀ x y z, R x y = true → R y z = true → R x z = true
  nts : ∀ nt ∈ nts, ∀ a ∈ nt.mids, ∀ b ∈ nt.mids, R a b = true
def leads (R : Str → Str → Bool) (zs : List Str) (z : Str) : Bool := decide ((zs.filter (R z)).head? = some z)
def prodN (l : List Nat) : Nat := l.foldr (· * ·) 1
def prodG (R : Str → Str → Bool) (nts : List Nt) (us : List Pl) : Nat := prodN (((names us).filter (leads R (names us))).map fun z => cnt nts (us.filter fun u => R z u.1))
/-! ### towns for themselves, and two towns -/
/-- the choices of a town that keep the notes of it alone -/
def freeOf (nts : List Nt) (p : Pl) : List Ck := (chs p).filter fun c => (nts.filter fun nt => decide (nt.mids = [p.1])).all fun nt => keptF nt fun _ => c
/-- whether two notes of one town -/
def TwoNe (nts : List Nt) : Prop := ∀ sm a b d, Nt.two sm a b d ∈ nts → a ≠ b
def isTwo : Nt → Bool
  | .two _ _ _ _ => true
  | _ => false
/-- whether two choices keep all notes of two towns -/
def okTwo (nts : List Nt) (u : Str) (c d : Ck) : Bool := (nts.filter isTwo).all fun nt => keptF nt fun w => if w = u then c else d
/-- the choices of two towns that keep all notes of them -/
def cplOf (nts : List Nt) (p q : Pl) : List (Ck × Ck) := (freeOf nts p).flatMap fun c => ((freeOf nts q).filter (okTwo nts p.1 c)).map fun d => (c, d)
/-- all notes of two towns ask of the same two -/
structure PairOf (nts : List Nt) (x y : Str) : Prop where
  ne : x ≠ y
  all : ∀ sm a b d, Nt.two sm a b d ∈ nts → (a = x ∧ b = y) ∨ (a = y ∧ b = x)
theorem PairOf.two {nts : List Nt} {x y : Str} (h : PairOf nts x y) : TwoNe nts := fun sm a b d hm e => by
  rcases h.all sm a b d hm with ⟨rfl, rfl⟩ | ⟨rfl, rfl⟩
  · exact h.ne e
  · exact h.ne e.symm
theorem PairOf.symm {nts : List Nt} {x y : Str} (h : PairOf nts x y) : PairOf nts y x := ⟨h.ne.symm, fun sm a b d hm => (h.all sm a b d hm).symm⟩
/-- what a rank adds to the law's product -/
def prodR (nts : List Nt) (is : List Int) : Nat → List Pl → Nat
  | _, [] => 1
  | i, u :: us => (if (i : Int) ∈ is then 1 else (freeOf nts u).length) * prodR nts is (i + 1) us
end Mk

namespace Mk
open PySem PySem.Spec PyProof.Rows L2 Md Tr
theorem rngD_get {lo : Int} {n i : Nat} {d : D} (h : (rngD lo n)[i]? = some d) : d = .int (lo + i) ∧ i < n := by
  have l : i < (rngD lo n).length := (List.getElem?_eq_some_iff.mp h).1
  rw [rngD_len] at l
  rw [rngD_at l] at h
  cases h
  exact ⟨rfl, l⟩
/-- a draw, as a natural number -/
theorem w_coinN {c : Nat} {d : D} {m : Int} {P : D → Bool → TEnv → Prop} {X : Str → D → TEnv → Prop} (hd : PurseD c d) (hc : c ≤ 1000000) (h1 : 1 ≤ m) (h2 : m ≤ 10 ^ 31)
    (q : ∀ (r : Nat) (d' : D), (r : Int) < m → PurseD (c + 1) d' → P (.int r) false [some (d', 2), some (.int m, 0)]) : qE (F__law_coin [some (d, 2), some (.int m, 0)]) P X := by
  refine w_coin hd hc h1 h2 fun r d' r0 r1 h => ?_
  obtain ⟨n, rfl⟩ := Int.eq_ofNat_of_zero_le r0
  exact q n d' r1 h
end Mk

namespace Mk
open PySem PySem.Spec PyProof.Rows L2 Md Tr
theorem midN {m : Nat} (h : m ≤ 100000) : midI (m : Int) := by
  have e : (2 : Int) ^ 62 = 4611686018427387904 := by decide
  constructor
  · rw [e]; omega
  · rw [e]; omega
theorem PurseD.more {c c' : Nat} {d : D} (h : PurseD c d) (e : c ≤ c') : PurseD c' d := by
  obtain ⟨p0, p1, p2, a, b1, b2, b3, b4, b5⟩ := h
  exact ⟨p0, p1, p2, a, b1, b2, b3, b4, by omega⟩
/-- a slot that may be set -/
def ShS (s : Slot) : Prop := s = none ∨ ∃ e, s = some (e, 0)
theorem qPut_sh {s : Slot} {ε : TEnv} {d : D} {Q : TEnv → Prop} (h : ShS s) : qPut (s :: ε) 0 d false Q ↔ Q (some (d, 0) :: ε) := by
  rcases h with rfl | ⟨e, rfl⟩
  · exact qPut_n0
  · exact qPut_s00
/-- what is left when words were found or not -/
noncomputable abbrev endW : ST := seqT (ifS (boolT (opT fEqA [.ex (opT fLenTexts [.nm 7]), .nm 1])) (retN 7) (nilT))
 (seqT (parT [6, 12] [callT F__law_coin [.nm 0, .ex (cT (.int 26))], opT (fSl false true) [.nm 5, .ex (callT F__law_coin [.nm 0, .ex (cT (.int 8))])]])
 (seqT (parT [13, 7] [callT F__law_coin [.nm 0, .ex (opT fAdd [.ex (opT fLen [.nm 12]), .ex (cT (.int 1))])], lstT []])
 (seqT (forT (itRng1 (.nm 1)) (.nm 8) (seqT (setT 14 (opT (fOr fIx fDGet) [.nm 2, .ex (opT fMod [.ex (opT fInt [.ex (opT fAdd [.nm 6, .nm 8])]), .ex (cT (.int 26))])]))
 (dropT (mutT fAppend 7 [.ex (opT fAdd [.ex (opT fAdd [.ex (opT (fSl false true) [.nm 12, .ex (varT 13)]), .nm 14]), .ex (opT (fSl true false) [.nm 12, .ex (varT 13)])])]))))
 (retN 7))))
/-- what is left when no first way gave the words -/
noncomputable abbrev restW : ST := seqT (setT 7 (lstT []))
 (seqT (ifS (boolT (opT fEqA [.nm 3, .ex (cT (.int 3))])) (forT (itRng1 (.nm 1)) (.nm 8) (seqT (setT 9 (opT fAdd [.ex (cT (.int 1)), .ex (callT F__law_coin [.nm 0, .ex (cT (.int 8))])]))
 (dropT (mutT fAppend 7 [.ex (mthT isStrD fJoin (.ex (cT (.str ""))) [.ex (lcT (itRng1 (.nm 9)) (.nm 15) (yesG) (opT (fOr fIx fDGet) [.nm 2, .ex (callT F__law_coin [.nm 0, .ex (cT (.int 26))])]) [15])])])))) (nilT))
 (seqT (ifS (boolT (opT fEqA [.nm 3, .ex (cT (.int 4))])) (seqT (setT 10 (opT (fSl false true) [.nm 5, .ex (opT fAdd [.ex (cT (.int 1)), .ex (callT F__law_coin [.nm 0, .ex (cT (.int 5))])])]))
 (seqT (setT 7 (lstT [.ex (varT 10)]))
 (seqT (forT (itSeq (.nm 4)) (.nm 11) (dropT (mutT fAppend 7 [.ex (opT (fOr fIx fDGet) [.ex (lstT [.ex (opT fAdd [.ex (opT (fSl false true) [.nm 11, .ex (cT (.int 3))]), .nm 10]), .ex (opT fAdd [.nm 10, .ex (opT (fSl false true) [.nm 11, .ex (cT (.int 3))])])]), .ex (callT F__law_coin [.nm 0, .ex (cT (.int 2))])])])))
 (setT 7 (opT (fSl false true) [.nm 7, .ex (varT 1)]))))) (nilT))
 (seqT (ifS (boolT (opT fEqA [.ex (opT fLenTexts [.nm 7]), .nm 1])) (retN 7) (nilT))
 (seqT (parT [6, 12] [callT F__law_coin [.nm 0, .ex (cT (.int 26))], opT (fSl false true) [.nm 5, .ex (callT F__law_coin [.nm 0, .ex (cT (.int 8))])]])
 (seqT (parT [13, 7] [callT F__law_coin [.nm 0, .ex (opT fAdd [.ex (opT fLen [.nm 12]), .ex (cT (.int 1))])], lstT []])
 (seqT (forT (itRng1 (.nm 1)) (.nm 8) (seqT (setT 14 (opT (fOr fIx fDGet) [.nm 2, .ex (opT fMod [.ex (opT fInt [.ex (opT fAdd [.nm 6, .nm 8])]), .ex (cT (.int 26))])]))
 (dropT (mutT fAppend 7 [.ex (opT fAdd [.ex (opT fAdd [.ex (opT (fSl false true) [.nm 12, .ex (varT 13)]), .nm 14]), .ex (opT (fSl true false) [.nm 12, .ex (varT 13)])])]))))
 (retN 7)))))))
abbrev envW (d : D) (m : Nat) (sort : Int) (stem : Str) (s6 s7 s8 s9 s10 s11 s12 s13 s14 : Slot) : TEnv := [some (d, 2), some (.int m, 0), some (.str alphabet, 0), some (.int sort, 0), some (.lst (menuS.map D.str), 1), some (.str stem, 0), s6, s7, s8, s9, s10, s11, s12, s13, s14, none]
end Mk

namespace Mk
open PySem PySem.Spec PyProof.Rows L2 Md Tr
/-- a place: its name and its bounds -/
abbrev plD (p : Pl) : D := .tup [.str p.1, .int p.2.1, .int p.2.2]
end Mk

/-! Lots: what they are drawn from. -/
namespace Mk
open PySem PySem.Spec PyProof.Rows L2 Md Tr
/-- some ints -/
abbrev ilD (ls : List Int) : D := .lst (ls.map D.int)
theorem toPs_ints : ∀ ls : List Int, toPs (ls.map D.int) = some (ls.map PyData.int)
  | [] => rfl
  | p :: r => by
    show toPs (D.int p :: r.map D.int) = _
    unfold toPs
    rw [toPs_ints r]
    rfl
theorem okDs_ints {n : Nat} {ls : List Int} (h : ∀ k ∈ ls, k.natAbs < 10 ^ 31) : okDs n (ls.map D.int) = true := okDs_all.mpr fun x hx => by
  obtain ⟨k, hk, rfl⟩ := List.mem_map.mp hx
  cases n <;> (unfold okD; exact decide_eq_true (h k hk))
theorem eqv_ints : ∀ xs ys : List Int, PyData.eqvAll (xs.map PyData.int) (ys.map PyData.int) = decide (xs = ys)
  | [], [] => by simp [PyData.eqvAll]
  | [], _ :: _ => by simp [PyData.eqvAll]
  | _ :: _, [] => by simp [PyData.eqvAll]
  | x :: xs, y :: ys => by
    rw [List.map_cons, List.map_cons, show PyData.eqvAll (.int x :: xs.map PyData.int) (.int y :: ys.map PyData.int) = (PyData.eqv (.int x) (.int y) && PyData.eqvAll (xs.map PyData.int) (ys.map PyData.int)) by simp only [PyData.eqvAll], Tr.eqv_int, eqv_ints xs ys]
    rw [Bool.eq_iff_iff]
    simp
theorem qO_ne_ints {xs ys : List Int} {PO : D → Bool → Prop} (hx : ∀ k ∈ xs, k.natAbs < 10 ^ 31) (hy : ∀ k ∈ ys, k.natAbs < 10 ^ 31) : qO (fNe [ilD xs, ilD ys]) PO ↔ PO (.bl (!decide (xs = ys))) false := by
  have e : ∀ l : List Int, toP (.lst (l.map D.int)) = some (.list (l.map PyData.int)) := fun l => by
    unfold toP
    rw [toPs_ints]
    rfl
  obtain ⟨p, e1, s1⟩ := okD_shaped (n := 2) (d := ilD xs) (by unfold okD; exact okDs_ints hx) (by omega)
  obtain ⟨p', e2, s2⟩ := okD_shaped (n := 2) (d := ilD ys) (by unfold okD; exact okDs_ints hy) (by omega)
  rw [e] at e1 e2
  cases e1
  cases e2
  unfold fNe
  dsimp only
  rw [e, e]
  dsimp only
  rw [if_pos ⟨s1, s2⟩, show PyData.eqv (.list (xs.map PyData.int)) (.list (ys.map PyData.int)) = PyData.eqvAll (xs.map PyData.int) (ys.map PyData.int) by simp only [PyData.eqv], eqv_ints]
  exact Iff.rfl
/-- a lot by its number: the rests -/
structure Lot (b : Int) (ls : List Int) : Prop where
  lo : 1 ≤ b
  hi : b ≤ 5040
  up : ls.Pairwise (· < ·)
  wi : ∀ k ∈ ls, 0 ≤ k ∧ k < b
theorem up_len : ∀ {ls : List Int} {a b : Int}, ls.Pairwise (· < ·) → (∀ k ∈ ls, a ≤ k ∧ k < b) → (ls.length : Int) ≤ max 0 (b - a)
  | [], a, b, _, _ => by simp; omega
  | x :: r, a, b, h, w => by
    obtain ⟨h1, h2⟩ := List.pairwise_cons.mp h
    have z := w x (List.mem_cons_self ..)
    have ih := up_len (a := x + 1) (b := b) h2 fun k hk => ⟨by have := h1 k hk; omega, (w k (List.mem_cons_of_mem _ hk)).2⟩
    rw [List.length_cons]
    omega
theorem Lot.len {b : Int} {ls : List Int} (L : Lot b ls) : (ls.length : Int) ≤ b := by
  have z := up_len L.up L.wi
  have := L.lo
  omega
theorem Lot.small {b : Int} {ls : List Int} (L : Lot b ls) : ∀ k ∈ ls, k.natAbs < 10 ^ 31 := fun k hk => by
  have z := L.wi k hk
  have := L.hi
  omega
/-- the lot as a tuple -/
abbrev ltD (b : Int) (ls : List Int) : D := .tup [.int b, ilD ls]
section
variable {c : Nat} {d : D} {P : D → Bool → TEnv → Prop} {X : Str → D → TEnv → Prop}
theorem w_isint {i : Int} (q : P (.bl true) false [some (.int i, 0)]) : qE (F__law_mk_is_integer [some (.int i, 0)]) P X := by
  unfold F__law_mk_is_integer
  rw [qE_defT]
  with_reducible refine ⟨rfl, rfl, ?_⟩
  simp only [List.replicate, List.cons_append, List.nil_append]
  walk_at "EV"
  have e0 : isTy "int" "int" = true := by decide
  rw [e0]
  walk_at "EV"
  have e : isTy "int" "bool" = false := by decide
  rw [e]
  exact q
theorem w_day {i : Int} (h : 0 ≤ i) (q : P .non false [some (.int i, 0)]) : qE (F_check_day [some (.int i, 0)]) P X := by
  unfold F_check_day
  rw [qE_defT]
  with_reducible refine ⟨rfl, rfl, ?_⟩
  simp only [List.replicate, List.cons_append, List.nil_append]
  walk_at "EV"
  with_reducible refine qB_cases (fun c2 => ?_) fun n2 => ?_
  · omega
  · walk_at "EV"
    exact q
theorem w_base (hd : PurseD c d) (hc : c ≤ 800000) (q : ∀ (b : Int) (d' : D), 1 ≤ b → b ≤ 5040 → PurseD (c + 2) d' → P (.int b) false [some (d', 2)]) : qE (F__law_mk_base [some (d, 2)]) P X := by
  unfold F__law_mk_base
  rw [qE_defT]
  with_reducible refine ⟨rfl, rfl, ?_⟩
  simp only [List.replicate, List.cons_append, List.nil_append]
  walk_at "EV"
  with_reducible refine w_coinN (m := 4) hd (by omega) (by decide) (by decide) fun way d1 t1 hd1 => ?_
  walk_at "EV"
  with_reducible refine qB_cases (fun c4 => ?_) fun n4 => ?_
  · walk_at "EV"
    have get : ∃ b : Int, ([D.int 40, D.int 5040] : List D)[way]? = some (.int b) ∧ 1 ≤ b ∧ b ≤ 5040 := by
      have z : way = 0 ∨ way = 1 := by omega
      rcases z with rfl | rfl
      · exact ⟨40, rfl, by decide, by decide⟩
      · exact ⟨5040, rfl, by decide, by decide⟩
    obtain ⟨b, get, b1, b2⟩ := get
    rw [qO_ixl get]
    walk_at "EV"
    with_reducible refine w_coin (m := b) hd1 (by omega) b1 (Int.le_trans b2 (by decide)) fun r d2 r0 r1 hd2 => ?_
    walk_at "EV"
    exact q _ d2 (by omega) (by omega) hd2
  · walk_at "EV"
    have get : ∃ b : Int, ([D.int 7, D.int 17] : List D)[way - 2]? = some (.int b) ∧ 1 ≤ b ∧ b ≤ 17 := by
      have z : way = 2 ∨ way = 3 := by omega
      rcases z with rfl | rfl
      · exact ⟨7, rfl, by decide, by decide⟩
      · exact ⟨17, rfl, by decide, by decide⟩
    obtain ⟨b, get, b1, b2⟩ := get
    have e : ((way : Int) - 2) = ((way - 2 : Nat) : Int) := by omega
    rw [e, qO_ixl get]
    walk_at "EV"
    with_reducible refine w_coinN (m := b) hd1 (by omega) b1 (Int.le_trans b2 (by decide)) fun r d2 r1 hd2 => ?_
    walk_at "EV"
    have get2 : ∃ x : Int, ([12, 30, 60, 72, 210, 420, 840, 2520, 5040, 4620, 4199, 4970, 5039, 4900, 3125, 4489, 4802] : List Int)[r]? = some x ∧ 1 ≤ x ∧ x ≤ 5040 := by
      have hr : r < 17 := by omega
      have all : ∀ r < 17, ∃ x : Int, ([12, 30, 60, 72, 210, 420, 840, 2520, 5040, 4620, 4199, 4970, 5039, 4900, 3125, 4489, 4802] : List Int)[r]? = some x ∧ 1 ≤ x ∧ x ≤ 5040 := by
        intro r hr
        have z : r = 0 ∨ r = 1 ∨ r = 2 ∨ r = 3 ∨ r = 4 ∨ r = 5 ∨ r = 6 ∨ r = 7 ∨ r = 8 ∨ r = 9 ∨ r = 10 ∨ r = 11 ∨ r = 12 ∨ r = 13 ∨ r = 14 ∨ r = 15 ∨ r = 16 := by omega
        rcases z with rfl | rfl | rfl | rfl | rfl | rfl | rfl | rfl | rfl | rfl | rfl | rfl | rfl | rfl | rfl | rfl | rfl <;> exact ⟨_, rfl, by decide, by decide⟩
      exact all r hr
    obtain ⟨x, g2, x1, x2⟩ := get2
    have g3 : ([D.int 12, D.int 30, D.int 60, D.int 72, D.int 210, D.int 420, D.int 840, D.int 2520, D.int 5040, D.int 4620, D.int 4199, D.int 4970, D.int 5039, D.int 4900, D.int 3125, D.int 4489, D.int 4802] : List D)[r]? = some (.int x) := by
      have := congrArg (Option.map D.int) g2
      rwa [← List.getElem?_map] at this
    rw [qO_ixl g3]
    exact q x d2 x1 x2 hd2
end
end Mk

/-! Divisors of a number. -/
namespace Mk
open PySem PySem.Spec PyProof.Rows L2 Md Tr
theorem div_pos {b p : Int} (hb : 1 ≤ b) (hp : 1 ≤ p) (e : b % p = 0) : 1 ≤ b / p ∧ b / p ≤ b := by
  have h := Int.mul_ediv_add_emod b p
  rw [e, Int.add_zero] at h
  have h1 : b / p ≤ b := Int.ediv_le_self _ (by omega)
  refine ⟨?_, h1⟩
  have h0 : 0 ≤ b / p := Int.ediv_nonneg (by omega) (by omega)
  by_cases z : b / p = 0
  · rw [z, Int.mul_zero] at h
    omega
  · omega
section
variable {c : Nat} {d : D} {P : D → Bool → TEnv → Prop} {X : Str → D → TEnv → Prop}
theorem w_primes {b : Int} (h1 : 1 ≤ b) (h2 : b ≤ 5040) (q : ∀ (ps : List Int) (f : Bool), (∀ p ∈ ps, 1 ≤ p ∧ p ≤ 5040) → ps.length ≤ 71 → P (ilD ps) f [some (.int b, 0)]) : qE (F__law_mk_primes [some (.int b, 0)]) P X := by
  unfold F__law_mk_primes
  rw [qE_defT]
  with_reducible refine ⟨rfl, rfl, ?_⟩
  simp only [List.replicate, List.cons_append, List.nil_append]
  walk_at "EV"
  with_reducible refine w_forT ?_
  walk_at "EV"
  refine And.intro (by decide) ?_
  refine qLp_ind (fun i ε => ∃ (b' : Int) (ps : List Int) (s2 s3 : Slot), ε = [some (.int b', 0), some (ilD ps, 1), s2, s3] ∧ ShS s2 ∧ ShS s3 ∧ 1 ≤ b' ∧ b' ≤ 5040 ∧ (∀ p ∈ ps, 1 ≤ p ∧ p ≤ 5040) ∧ ps.length ≤ i) 0 ⟨b, [], none, none, rfl, .inl rfl, .inl rfl, h1, h2, fun _ h => (nomatch h), Nat.le_refl _⟩ ?_ ?_
  · rintro i x ε hx ⟨b', ps, s2, s3, rfl, o2, o3, g1, g2, g3, g4⟩
    rw [Nat.zero_add] at g4 ⊢
    obtain ⟨ex2, hi⟩ := rngD_get hx
    rw [ex2]
    walk_at "EV"
    rw [qPut_sh o2]
    walk_at "EV"
    have i70 : i < 70 := by simpa using hi
    refine ⟨by omega, ?_⟩
    with_reducible refine qB_cases (fun c4 => ?_) fun n4 => ?_
    · walk_at "EV"
      have e1 : ([D.int (2 + (i : Int))] : List D) = [D.int (2 + (i : Int))] := rfl
      have e2 : ps.map D.int ++ [D.int (2 + (i : Int))] = (ps ++ [2 + (i : Int)]).map D.int := by rw [List.map_append]; rfl
      rw [e2]
      refine ⟨True.intro, True.intro, by rw [List.length_map]; show ps.length ≤ 1000000; omega, ?_⟩
      with_reducible refine w_forT ?_
      walk_at "EV"
      refine And.intro (by decide) ?_
      refine qLp_ind (fun j ε => ∃ (b' : Int) (s3 : Slot), ε = [some (.int b', 0), some (ilD (ps ++ [2 + (i : Int)]), 1), some (.int (2 + (i : Int)), 0), s3] ∧ ShS s3 ∧ 1 ≤ b' ∧ b' ≤ 5040) 0 ⟨b', s3, rfl, o3, g1, g2⟩ ?_ ?_
      · rintro j y ε hy ⟨b2, s3, rfl, o3, k1, k2⟩
        obtain ⟨ey, hj⟩ := rngD_get hy
        rw [ey]
        walk_at "EV"
        rw [qPut_sh o3]
        walk_at "EV"
        refine ⟨by omega, ?_⟩
        with_reducible refine qB_cases (fun c5 => ?_) fun n5 => ?_
        · walk_at "EV"
          refine ⟨by omega, ?_⟩
          have z := div_pos k1 (by omega : (1 : Int) ≤ 2 + (i : Int)) c5
          exact ⟨True.intro, _, _, rfl, .inr ⟨_, rfl⟩, z.1, by omega⟩
        · walk_at "EV"
          exact ⟨True.intro, _, _, rfl, .inr ⟨_, rfl⟩, k1, k2⟩
      · rintro ε ⟨b2, s3, rfl, o3, k1, k2⟩
        refine ⟨True.intro, b2, _, _, _, rfl, .inr ⟨_, rfl⟩, o3, k1, k2, fun p hp => ?_, by rw [List.length_append, List.length_singleton]; omega⟩
        rcases List.mem_append.mp hp with hp | hp
        · exact g3 p hp
        · rw [List.mem_singleton.mp hp]
          omega
    · walk_at "EV"
      exact ⟨True.intro, _, _, _, _, rfl, .inr ⟨_, rfl⟩, o3, g1, g2, g3, by omega⟩
  · rintro ε ⟨b', ps, s2, s3, rfl, o2, o3, g1, g2, g3, g4⟩
    have l : ps.length ≤ 70 := by
      rw [rngD_len, Nat.zero_add] at g4
      exact g4
    walk_at "EV"
    with_reducible refine qB_cases (fun c4 => ?_) fun n4 => ?_
    · walk_at "EV"
      refine ⟨by rw [List.length_map]; show ps.length + 1 ≤ 1000000; omega, ?_⟩
      have e : ps.map D.int ++ [D.int b'] = (ps ++ [b']).map D.int := by rw [List.map_append]; rfl
      rw [e]
      refine q (ps ++ [b']) true (fun p hp => ?_) (by rw [List.length_append, List.length_singleton]; omega)
      rcases List.mem_append.mp hp with hp | hp
      · exact g3 p hp
      · rw [List.mem_singleton.mp hp]
        omega
    · walk_at "EV"
      exact q ps false g3 (by omega)
theorem w_part {b : Int} (hd : PurseD c d) (hc : c ≤ 700000) (h1 : 1 ≤ b) (h2 : b ≤ 5040) (q : ∀ (m : Int) (d' : D), 1 ≤ m → m ≤ b → PurseD (c + 900) d' → P (.int m) false [some (d', 2), some (.int b, 0)]) : qE (F__law_mk_part [some (d, 2), some (.int b, 0)]) P X := by
  unfold F__law_mk_part
  rw [qE_defT]
  with_reducible refine ⟨rfl, rfl, ?_⟩
  simp only [List.replicate, List.cons_append, List.nil_append]
  walk_at "EV"
  with_reducible refine w_forT ?_
  walk_at "EV"
  with_reducible refine w_primes h1 h2 fun ps fl gp lp => ?_
  walk_at "EV"
  refine qLp_ind (fun i ε => ∃ (m : Int) (d' : D) (s3 s4 : Slot), ε = [some (d', 2), some (.int b, 0), some (.int m, 0), s3, s4] ∧ ShS s3 ∧ ShS s4 ∧ 1 ≤ m ∧ m ≤ b ∧ PurseD (c + 12 * i) d') 0 ⟨b, d, none, none, rfl, .inl rfl, .inl rfl, h1, Int.le_refl _, hd⟩ ?_ ?_
  · rintro i x ε hx ⟨m, d', s3, s4, rfl, o3, o4, g1, g2, hd'⟩
    rw [Nat.zero_add] at hd' ⊢
    rw [List.getElem?_map, Option.map_eq_some_iff] at hx
    obtain ⟨p, hp, rfl⟩ := hx
    have pm := gp p (List.mem_of_getElem? hp)
    have il : i < ps.length := (List.getElem?_eq_some_iff.mp hp).1
    walk_at "EV"
    rw [qPut_sh o3]
    walk_at "EV"
    with_reducible refine w_forT ?_
    walk_at "EV"
    refine And.intro (by decide) ?_
    refine qLp_ind (fun j ε => ∃ (m : Int) (d' : D) (s4 : Slot), ε = [some (d', 2), some (.int b, 0), some (.int m, 0), some (.int p, 0), s4] ∧ ShS s4 ∧ 1 ≤ m ∧ m ≤ b ∧ PurseD (c + 12 * i + j) d') 0 ⟨m, d', s4, rfl, o4, g1, g2, hd'⟩ ?_ ?_
    · rintro j y ε hy ⟨m, d', s4, rfl, o4, g1, g2, hd'⟩
      rw [Nat.zero_add] at hd' ⊢
      obtain ⟨ey, hj⟩ := rngD_get hy
      have j12 : j < 12 := by simpa using hj
      rw [ey]
      walk_at "EV"
      rw [qPut_sh o4]
      walk_at "EV"
      refine ⟨by omega, ?_⟩
      with_reducible refine qB_cases (fun c5 => ?_) fun n5 => ?_
      · walk_at "EV"
        with_reducible refine w_coinN (m := 2) hd' (by omega) (by decide) (by decide) fun r d2 t2 hd2 => ?_
        walk_at "EV"
        with_reducible refine qB_cases (fun c6 => ?_) fun n6 => ?_
        · walk_at "EV"
          refine ⟨by omega, ?_⟩
          have z := div_pos g1 pm.1 c5
          exact ⟨True.intro, _, _, _, rfl, .inr ⟨_, rfl⟩, z.1, by omega, hd2⟩
        · walk_at "EV"
          exact ⟨True.intro, _, _, _, rfl, .inr ⟨_, rfl⟩, g1, g2, hd2⟩
      · walk_at "EV"
        exact ⟨True.intro, _, _, _, rfl, .inr ⟨_, rfl⟩, g1, g2, hd'.more (by omega)⟩
    · rintro ε ⟨m, d', s4, rfl, o4, g1, g2, hd'⟩
      rw [rngD_len] at hd'
      exact ⟨True.intro, m, d', _, _, rfl, .inr ⟨_, rfl⟩, o4, g1, g2, hd'.more (by simp; omega)⟩
  · rintro ε ⟨m, d', s3, s4, rfl, o3, o4, g1, g2, hd'⟩
    rw [List.length_map] at hd'
    walk_at "EV"
    exact q m d' g1 g2 (hd'.more (by omega))
end
end Mk

/-! The rests that are drawn. -/
namespace Mk
open PySem PySem.Spec PyProof.Rows L2 Md Tr
/-- 0, 1, .. -/
abbrev upTo (n : Nat) : List Int := (List.range n).map fun (i : Nat) => (i : Int)
theorem up_upTo (n : Nat) : (upTo n).Pairwise (· < ·) := by
  rw [List.pairwise_map]
  exact List.pairwise_lt_range.imp fun h => by omega
theorem mem_upTo {n : Nat} {k : Int} : k ∈ upTo n ↔ 0 ≤ k ∧ k < n := by
  rw [List.mem_map]
  constructor
  · rintro ⟨i, hi, rfl⟩
    have := List.mem_range.mp hi
    omega
  · rintro ⟨h1, h2⟩
    exact ⟨k.toNat, List.mem_range.mpr (by omega), by omega⟩
theorem rngD_up {n : Nat} : rngD 0 n = (upTo n).map D.int := by
  unfold rngD upTo
  rw [List.map_map]
  refine List.map_congr_left fun i _ => ?_
  show D.int (0 + (i : Int)) = D.int i
  rw [Int.zero_add]
theorem Lot.filt {b : Int} {ls : List Int} (L : Lot b ls) (p : Int → Bool) : Lot b (ls.filter p) := ⟨L.lo, L.hi, L.up.filter _, fun k hk => L.wi k (List.mem_filter.mp hk).1⟩
theorem Lot.all {b : Int} (h1 : 1 ≤ b) (h2 : b ≤ 5040) : Lot b (upTo b.toNat) := ⟨h1, h2, up_upTo _, fun k hk => by have := mem_upTo.mp hk; omega⟩
theorem Lot.none {b : Int} (h1 : 1 ≤ b) (h2 : b ≤ 5040) : Lot b [] := ⟨h1, h2, .nil, fun _ h => (nomatch h)⟩
theorem Lot.sorted {b : Int} {ns : List Int} (h1 : 1 ≤ b) (h2 : b ≤ 5040) (h : ∀ k ∈ ns, 0 ≤ k ∧ k < b) : Lot b (sortJ ns) := ⟨h1, h2, up_sortJ ns, fun k hk => h k (mem_sortJ.mp hk)⟩
/-- one more, sorted -/
theorem Lot.more {b : Int} {ls : List Int} (L : Lot b ls) {x : Int} (hx : 0 ≤ x ∧ x < b) (nx : x ∉ ls) : Lot b ((ls ++ [x]).mergeSort fun a b => decide (a ≤ b)) := by
  have pm := List.mergeSort_perm (ls ++ [x]) fun a b : Int => decide (a ≤ b)
  refine ⟨L.lo, L.hi, L2.lt_of_le_nodup _ (up_merge _) (pm.nodup_iff.mpr ?_), fun k hk => ?_⟩
  · rw [List.nodup_append]
    refine ⟨L.up.imp fun h => Int.ne_of_lt h, by simp, fun a ha b hb e => ?_⟩
    rw [List.mem_singleton] at hb
    subst hb e
    exact nx ha
  · rcases List.mem_append.mp (pm.mem_iff.mp hk) with h | h
    · exact L.wi k h
    · rw [List.mem_singleton.mp h]
      exact hx
theorem bit_at {bs : List Int} (lb : bs.length = 13) (k : Int) : k % 13 = ((k % 13).toNat : Int) ∧ (bs.map D.int)[(k % 13).toNat]? = some (.int (bs.getD (k % 13).toNat 0)) := by
  have h1 : 0 ≤ k % 13 := Int.emod_nonneg _ (by decide)
  have h2 : k % 13 < 13 := Int.emod_lt_of_pos _ (by decide)
  refine ⟨by omega, ?_⟩
  rw [List.getElem?_map, List.getD_eq_getElem?_getD, List.getElem?_eq_getElem (by omega : (k % 13).toNat < bs.length)]
  rfl
section
variable {c : Nat} {d : D} {P : D → Bool → TEnv → Prop} {X : Str → D → TEnv → Prop} {b : Int}
theorem w_leaves (hd : PurseD c d) (hc : c ≤ 600000) (h1 : 1 ≤ b) (h2 : b ≤ 5040) (q : ∀ (ls : List Int) (f : Bool) (d' : D), Lot b ls → PurseD (c + 1000) d' → P (ilD ls) f [some (d', 2), some (.int b, 0)]) : qE (F__law_mk_leaves [some (d, 2), some (.int b, 0)]) P X := by
  unfold F__law_mk_leaves
  rw [qE_defT]
  with_reducible refine ⟨rfl, rfl, ?_⟩
  simp only [List.replicate, List.cons_append, List.nil_append]
  walk_at "EV"
  with_reducible refine w_coinN (m := 6) hd (by omega) (by decide) (by decide) fun way d1 t1 hd1 => ?_
  walk_at "EV"
  refine ⟨by decide, True.intro, ?_⟩
  refine qTn_ind (fun i ys ε => ∃ (bs : List Int) (d' : D), ys = bs.map D.int ∧ bs.length = i ∧ ε = [some (d', 2), some (.int b, 0), none, none, none, none, none, none, none] ∧ PurseD (c + 1 + i) d') [] 0 ⟨[], d1, rfl, rfl, rfl, hd1⟩ ?_ ?_
  · rintro i x ys ε hx ⟨bs, d', rfl, lb, rfl, hd'⟩
    rw [Nat.zero_add] at lb hd' ⊢
    obtain ⟨ex, hi⟩ := rngD_get hx
    have hi13 : i < 13 := by simpa using hi
    rw [ex]
    walk_at "EV"
    with_reducible refine w_coinN (m := 2) hd' (by omega) (by decide) (by decide) fun r d2 t2 hd2 => ?_
    walk_at "EV"
    exact ⟨True.intro, bs ++ [(r : Int)], d2, by rw [List.map_append]; rfl, by rw [List.length_append, lb]; rfl, rfl, hd2⟩
  rintro zs ε ⟨bs, d2, e, lb, rfl, hd2⟩
  rw [List.nil_append] at e
  subst e
  rw [rngD_len, Nat.zero_add] at lb hd2
  walk_at "EV"
  refine ⟨by rw [List.length_map, lb]; decide, ?_⟩
  with_reducible refine w_coinN (m := 5) hd2 (by omega) (by decide) (by decide) fun r d3 t3 hd3 => ?_
  walk_at "EV"
  refine ⟨midN (by omega), True.intro, ?_⟩
  refine qTn_ind (fun i ys ε => ∃ (ks : List Int) (d' : D), ys = ks.map D.int ∧ ks.length = i ∧ (∀ k ∈ ks, 0 ≤ k ∧ k < b) ∧ ε = [some (d', 2), some (.int b, 0), some (.int way, 0), some (ilD bs, 1), none, none, none, none, none] ∧ PurseD (c + 15 + i) d') [] 0 ⟨[], d3, rfl, rfl, fun _ h => (nomatch h), rfl, hd3⟩ ?_ ?_
  · rintro i x ys ε hx ⟨ks, d', rfl, lk, gk, rfl, hd'⟩
    rw [Nat.zero_add] at lk hd' ⊢
    obtain ⟨ex, hi⟩ := rngD_get hx
    have hi5 : i < 5 := by rw [Int.toNat_natCast] at hi; omega
    rw [ex]
    walk_at "EV"
    with_reducible refine w_coinN (m := b) hd' (by omega) h1 (by omega) fun r d4 t4 hd4 => ?_
    walk_at "EV"
    refine ⟨True.intro, ks ++ [(r : Int)], d4, by rw [List.map_append]; rfl, by rw [List.length_append, lk]; rfl, fun k hk => ?_, rfl, hd4⟩
    rcases List.mem_append.mp hk with hk | hk
    · exact gk k hk
    · rw [List.mem_singleton.mp hk]
      omega
  rintro zs ε ⟨ks, d4, e, lk, gk, rfl, hd4⟩
  rw [List.nil_append] at e
  subst e
  rw [rngD_len, Int.toNat_natCast, Nat.zero_add] at lk hd4
  have lk5 : ks.length < 5 := by omega
  walk_at "EV"
  refine ⟨by rw [List.length_map]; show ks.length ≤ 1000000; omega, by omega, ?_⟩
  have Lf := Lot.sorted h1 h2 gk
  generalize sortJ ks = few at Lf
  have hd5 : PurseD (c + 20) d4 := hd4.more (by omega)
  -- 0
  with_reducible refine qB_cases (fun c0 => ?_) fun n0 => ?_
  · walk_at "EV"
    exact q few _ d4 Lf (hd5.more (by omega))
  walk_at "EV"
  have La := Lot.all h1 h2
  have mb : midI b := ⟨by omega, by omega⟩
  have lenL : ∀ {ls : List Int}, Lot b ls → (ls.map D.int).length ≤ most := fun {ls} L => by
    rw [List.length_map]
    have := L.len
    show ls.length ≤ 1000000
    omega
  with_reducible refine qB_cases (fun c1 => ?_) fun n1 => ?_
  · walk_at "EV"
    refine ⟨mb, True.intro, ?_⟩
    rw [rngD_up]
    refine qTn_filt (fun k => !(decide (k ∈ few))) (fun k => D.int k) True.intro (fun k hk => ?_) ?_
    · walk_at "EV"
      rw [qO_nin_li]
      walk_at "EV"
      with_reducible refine qB_cases (fun c2 => ?_) fun n2 => ?_
      · walk_at "EV"
        exact ⟨by simp [c2], True.intro⟩
      · walk_at "EV"
        exact ⟨by simp [n2], True.intro⟩
    · walk_at "EV"
      exact ⟨lenL (La.filt _), q _ true d4 (La.filt _) (hd5.more (by omega))⟩
  walk_at "EV"
  have e23 : ([D.int 2, D.int 3] : List D) = ([2, 3] : List Int).map D.int := rfl
  rw [e23, qO_in_ti]
  walk_at "EV"
  with_reducible refine qB_cases (fun c2 => ?_) fun n2 => ?_
  · walk_at "EV"
    with_reducible refine w_part hd5 (by omega) h1 h2 fun m d6 m1 m2 hd6 => ?_
    walk_at "EV"
    refine ⟨mb, True.intro, ?_⟩
    rw [rngD_up]
    refine qTn_filt (fun k => decide (bs.getD (k % m % 13).toNat 0 = 1)) (fun k => D.int k) True.intro (fun k hk => ?_) ?_
    · obtain ⟨ek, gk⟩ := bit_at lb (k % m)
      walk_at "EV"
      refine ⟨by omega, ?_⟩
      rw [ek, qO_ixl gk]
      walk_at "EV"
      rw [← ek]
      refine ⟨by decide, ?_⟩
      with_reducible refine qB_cases (fun c3 => ?_) fun n3 => ?_
      · walk_at "EV"
        exact ⟨by rw [if_pos (decide_eq_true c3)], True.intro⟩
      · walk_at "EV"
        exact ⟨by rw [if_neg (fun z => n3 (of_decide_eq_true z))], True.intro⟩
    have Ls := La.filt fun k => decide (bs.getD (k % m % 13).toNat 0 = 1)
    generalize (upTo b.toNat).filter (fun k => decide (bs.getD (k % m % 13).toNat 0 = 1)) = some_ at Ls
    walk_at "EV"
    refine ⟨lenL Ls, ?_⟩
    with_reducible refine qB_cases (fun c3 => ?_) fun n3 => ?_
    · walk_at "EV"
      exact q _ _ d6 Ls (hd6.more (by omega))
    walk_at "EV"
    rw [qO_eq_nil (n := 1) (okDs_ints Lf.small) (by decide)]
    walk_at "EV"
    cases few with
    | nil =>
      simp only [List.map_nil]
      walk_at "EV"
      exact q _ _ d6 Ls (hd6.more (by omega))
    | cons x few =>
      simp only [List.map_cons]
      walk_at "EV"
      have gx : ((x :: few).map D.int)[0]? = some (.int x) := rfl
      have e0 : (0 : Int) = ((0 : Nat) : Int) := rfl
      rw [e0, qO_ixl gx]
      walk_at "EV"
      rw [qO_in_li]
      walk_at "EV"
      with_reducible refine qB_cases (fun c4 => ?_) fun n4 => ?_
      · walk_at "EV"
        refine ⟨True.intro, ?_⟩
        refine qTn_filt (fun k => !(decide (k = x))) (fun k => D.int k) (fun _ => rfl) (fun k hk => ?_) ?_
        · walk_at "EV"
          rw [qO_ixl gx]
          walk_at "EV"
          with_reducible refine qB_cases (fun c5 => ?_) fun n5 => ?_
          · walk_at "EV"
            exact ⟨by simp [c5], True.intro⟩
          · walk_at "EV"
            exact ⟨by simp [n5], True.intro⟩
        · walk_at "EV"
          exact ⟨lenL (Ls.filt _), q _ true d6 (Ls.filt _) (hd6.more (by omega))⟩
      · walk_at "EV"
        rw [qO_ixl gx]
        walk_at "EV"
        have e5 : some_.map D.int ++ [D.int x] = (some_ ++ [x]).map D.int := by rw [List.map_append]; rfl
        rw [e5]
        walk_at "EV"
        refine ⟨?_, q _ true d6 (Ls.more (Lf.wi x (List.mem_cons_self ..)) n4) (hd6.more (by omega))⟩
        have := Ls.len
        rw [List.length_map]
        show some_.length + 1 ≤ 1000000
        omega
  walk_at "EV"
  with_reducible refine qB_cases (fun c4 => ?_) fun n4 => ?_
  · walk_at "EV"
    refine ⟨mb, True.intro, ?_⟩
    rw [rngD_up]
    refine qTn_filt (fun k => decide (bs.getD (k % 13).toNat 0 = 1)) (fun k => D.int k) True.intro (fun k hk => ?_) ?_
    · obtain ⟨ek, gk⟩ := bit_at lb k
      walk_at "EV"
      rw [ek, qO_ixl gk]
      walk_at "EV"
      rw [← ek]
      refine ⟨by decide, ?_⟩
      with_reducible refine qB_cases (fun c3 => ?_) fun n3 => ?_
      · walk_at "EV"
        exact ⟨by rw [if_pos (decide_eq_true c3)], True.intro⟩
      · walk_at "EV"
        exact ⟨by rw [if_neg (fun z => n3 (of_decide_eq_true z))], True.intro⟩
    · walk_at "EV"
      exact ⟨lenL (La.filt _), q _ true d4 (La.filt _) (hd5.more (by omega))⟩
  walk_at "EV"
  have g0 : (bs.map D.int)[0]? = some (.int (bs.getD 0 0)) := by
    rw [List.getElem?_map, List.getD_eq_getElem?_getD, List.getElem?_eq_getElem (by omega : 0 < bs.length)]
    rfl
  have e0 : (0 : Int) = ((0 : Nat) : Int) := rfl
  rw [e0, qO_ixl g0]
  walk_at "EV"
  with_reducible refine qB_cases (fun c3 => ?_) fun n3 => ?_
  · walk_at "EV"
    refine ⟨⟨by omega, by omega⟩, ?_⟩
    have e : (List.range b.toNat).map (fun (i : Nat) => D.int i) = (upTo b.toNat).map D.int := by rw [List.map_map]; rfl
    rw [e]
    exact q _ _ d4 La (hd5.more (by omega))
  · walk_at "EV"
    exact q [] _ d4 (Lot.none h1 h2) (hd5.more (by omega))
end
end Mk

/-! How many days of a lot lie ahead of a day. -/
namespace Mk
open PySem PySem.Spec PyProof.Rows L2 Md Tr
/-- the rests below r -/
def below (ls : List Int) (r : Int) : Nat := (ls.filter fun x => decide (x < r)).length
def one (b : Bool) : Int := if b = true then 1 else 0
theorem below_succ : ∀ {ls : List Int} {r : Int}, ls.Nodup → (below ls (r + 1) : Int) = below ls r + one (decide (r ∈ ls))
  | [], r, _ => by simp [below, one]
  | x :: ls, r, h => by
    obtain ⟨h1, h2⟩ := List.nodup_cons.mp h
    have ih := below_succ (ls := ls) (r := r) h2
    unfold below at ih ⊢
    rw [List.filter_cons, List.filter_cons]
    by_cases e : x = r
    · subst e
      rw [if_pos (decide_eq_true (by omega)), if_neg (by simp)]
      have n : one (decide (x ∈ ls)) = 0 := by unfold one; rw [if_neg (by simpa using h1)]
      have y : one (decide (x ∈ x :: ls)) = 1 := by unfold one; rw [if_pos (by simp)]
      rw [n] at ih
      rw [y, List.length_cons]
      omega
    · have m : decide (r ∈ x :: ls) = decide (r ∈ ls) := by
        rw [Bool.eq_iff_iff, decide_eq_true_iff, decide_eq_true_iff, List.mem_cons]
        exact ⟨fun z => z.elim (fun z => absurd z.symm e) id, .inr⟩
      rw [m]
      by_cases l : x < r
      · rw [if_pos (decide_eq_true (by omega)), if_pos (decide_eq_true l), List.length_cons, List.length_cons]
        omega
      · rw [if_neg (by rw [decide_eq_true_iff]; omega), if_neg (by rw [decide_eq_true_iff]; exact l)]
        exact ih
theorem below_zero {b : Int} {ls : List Int} (L : Lot b ls) : below ls 0 = 0 := by
  unfold below
  rw [List.length_eq_zero_iff, List.filter_eq_nil_iff]
  intro x hx
  have := L.wi x hx
  rw [decide_eq_true_iff]
  omega
theorem below_all {b : Int} {ls : List Int} (L : Lot b ls) : below ls b = ls.length := by
  unfold below
  rw [List.filter_eq_self.mpr]
  intro x hx
  exact decide_eq_true (L.wi x hx).2
theorem Lot.nd {b : Int} {ls : List Int} (L : Lot b ls) : ls.Nodup := L.up.imp fun h => Int.ne_of_lt h
/-- the lot's days ahead of d -/
def ahead (b : Int) (ls : List Int) (d : Int) : Int := d / b * ls.length + below ls (d % b)
section
variable {b : Int} {ls : List Int}
theorem ahead_succ (L : Lot b ls) (d : Int) : ahead b ls (d + 1) = ahead b ls d + one (decide (d % b ∈ ls)) := by
  have b0 := L.lo
  have e := Int.mul_ediv_add_emod d b
  have r0 : 0 ≤ d % b := Int.emod_nonneg _ (by omega)
  have r1 : d % b < b := Int.emod_lt_of_pos _ (by omega)
  have st := below_succ (r := d % b) L.nd
  unfold ahead
  by_cases c : d % b + 1 < b
  · have m : (d + 1) % b = d % b + 1 := by
      rw [← Int.emod_add_emod, Int.emod_eq_of_lt (by omega) c]
    have q : (d + 1) / b = d / b := by
      have e2 := Int.mul_ediv_add_emod (d + 1) b
      rw [m] at e2
      have : b * ((d + 1) / b) = b * (d / b) := by omega
      exact Int.eq_of_mul_eq_mul_left (by omega) this
    rw [m, q, st]
    omega
  · have m : (d + 1) % b = 0 := by
      rw [← Int.emod_add_emod, show d % b + 1 = b by omega, Int.emod_self]
    have q : (d + 1) / b = d / b + 1 := by
      have e2 := Int.mul_ediv_add_emod (d + 1) b
      rw [m] at e2
      have : b * ((d + 1) / b) = b * (d / b + 1) := by rw [Int.mul_add]; omega
      exact Int.eq_of_mul_eq_mul_left (by omega) this
    rw [show d % b + 1 = b by omega, below_all L] at st
    rw [m, q, below_zero L, Int.add_mul]
    omega
theorem ahead_zero (L : Lot b ls) : ahead b ls 0 = 0 := by
  unfold ahead
  rw [Int.zero_ediv, Int.zero_emod, below_zero L]
  omega
/-- from a to e, both included -/
def days (b : Int) (ls : List Int) (a e : Int) : Int := if e < a then 0 else ahead b ls (e + 1) - ahead b ls a
end
/-- the marks -/
abbrev marksL (b : Int) (ls : List Int) : List Bool := (upTo b.toNat).map fun k => decide (k ∈ ls)
theorem marks_at {b : Int} {ls : List Int} (h : 1 ≤ b) (d : Int) : d % b = ((d % b).toNat : Int) ∧ ((marksL b ls).map D.bl)[(d % b).toNat]? = some (.bl (decide (d % b ∈ ls))) := by
  have r0 : 0 ≤ d % b := Int.emod_nonneg _ (by omega)
  have r1 : d % b < b := Int.emod_lt_of_pos _ (by omega)
  have e : d % b = ((d % b).toNat : Int) := by omega
  refine ⟨e, ?_⟩
  rw [List.getElem?_map, List.getElem?_map, List.getElem?_map, List.getElem?_range (by omega)]
  show some (D.bl (decide (((d % b).toNat : Int) ∈ ls))) = _
  rw [← e]
theorem marks_set {n : Nat} {ls : List Int} {i : Nat} {k : Int} (hk : ls[i]? = some k) (w : 0 ≤ k ∧ k < n) : ((upTo n).map fun j => D.bl (decide (j ∈ ls.take i))).set k.toNat (D.bl true) = (upTo n).map fun j => D.bl (decide (j ∈ ls.take (i + 1))) := by
  refine List.ext_getElem? fun m => ?_
  rw [List.take_add_one, hk]
  simp only [upTo, List.getElem?_set, List.getElem?_map, List.length_map, List.length_range]
  by_cases c : m < n
  · rw [List.getElem?_range c]
    by_cases e : k.toNat = m
    · rw [if_pos e, if_pos (by omega)]
      have ek : (m : Int) = k := by omega
      simp [ek]
    · rw [if_neg e]
      have ne : ¬ ((m : Int) = k) := by omega
      simp [ne]
  · rw [List.getElem?_eq_none (by rw [List.length_range]; omega)]
    rw [if_neg (by omega)]
    simp
end Mk

/-! A lot's marks; what is due; number. -/
namespace Mk
open PySem PySem.Spec PyProof.Rows L2 Md Tr
section
variable {c : Nat} {d : D} {P : D → Bool → TEnv → Prop} {X : Str → D → TEnv → Prop} {b : Int} {ls : List Int}
theorem Lot.most {b : Int} {ls : List Int} (L : Lot b ls) : (ls.map D.int).length ≤ most := by
  rw [List.length_map]
  have := L.len
  have := L.hi
  show ls.length ≤ 1000000
  omega
theorem Lot.mid {b : Int} {ls : List Int} (L : Lot b ls) : midI b := ⟨by have := L.lo; omega, by have := L.hi; omega⟩
theorem w_lot {f : Nat} (L : Lot b ls) (hf : f = 0) (q : P .non false [some (ltD b ls, f)]) : qE (F_check_lot [some (ltD b ls, f)]) P X := by
  subst hf
  have b1 := L.lo
  unfold F_check_lot
  rw [qE_defT]
  with_reducible refine ⟨rfl, rfl, ?_⟩
  simp only [List.replicate, List.cons_append, List.nil_append]
  walk_at "EV"
  with_reducible refine qB_cases (fun c2 => ?_) fun n2 => ?_
  · omega
  walk_at "EV"
  refine ⟨True.intro, ?_⟩
  refine qTn_map (fun k => D.int k) (fun _ => rfl) (fun k hk => ?_) ?_
  · walk_at "EV"
    have w := L.wi k hk
    rw [Int.emod_eq_of_lt w.1 w.2]
    exact ⟨by omega, rfl, True.intro⟩
  have len := L.len
  have hi := L.hi
  rw [qSj_of ⟨by omega, .inr fun k hk => by have w := L.wi k hk; exact ⟨w.1, by omega⟩⟩, sortJ_self L.up]
  walk_at "EV"
  rw [qO_ne_ints L.small L.small]
  walk_at "EV"
  have e : decide True = true := rfl
  rw [e]
  walk_at "EV"
  exact q
theorem w_spread {f : Nat} (L : Lot b ls) (hf : f = 0) (q : P (ilD ls) true [some (ltD b ls, f), some (.int b, 0)]) : qE (F__law_mk_spread [some (ltD b ls, f), some (.int b, 0)]) P X := by
  subst hf
  have b1 := L.lo
  unfold F__law_mk_spread
  rw [qE_defT]
  with_reducible refine ⟨rfl, rfl, ?_⟩
  simp only [List.replicate, List.cons_append, List.nil_append]
  walk_at "EV"
  with_reducible refine w_forT ?_
  walk_at "EV"
  refine ⟨okC_up ⟨by decide, by decide⟩ L.mid (by omega) (by have := L.hi; omega), ?_⟩
  have e : rngC 0 b (Builtin.Range.rangeSize 0 b b).toNat = [D.int 0] := by
    have z : Builtin.Range.rangeSize 0 b b = 1 := by
      unfold Builtin.Range.rangeSize
      rw [if_pos (show b > 0 by omega), if_pos (show (0 : Int) < b by omega), Int.ediv_eq_zero_of_lt (by omega) (by omega)]
      rfl
    rw [z]
    show [D.int (0 + ((0 : Nat) : Int) * b)] = _
    rw [show (0 + ((0 : Nat) : Int) * b) = 0 by simp]
  rw [e]
  refine qLp_ind (fun i ε => ∃ (zs : List Int) (s3 : Slot), ε = [some (ltD b ls, 0), some (.int b, 0), some (ilD zs, 1), s3, none] ∧ ((i = 0 ∧ zs = []) ∨ (i = 1 ∧ zs = ls)) ∧ ShS s3) 0 ⟨[], none, rfl, .inl ⟨rfl, rfl⟩, .inl rfl⟩ ?_ ?_
  · rintro i x ε hx ⟨zs, s3, rfl, z, o3⟩
    obtain rfl : i = 0 := by
      have := (List.getElem?_eq_some_iff.mp hx).1
      simp at this
      exact this
    obtain rfl : zs = [] := by
      rcases z with z | z
      · exact z.2
      · exact absurd z.1 (by decide)
    cases hx
    walk_at "EV"
    rw [qPut_sh o3]
    walk_at "EV"
    refine ⟨True.intro, True.intro, ?_⟩
    refine qTn_map (fun k => D.int k) True.intro (fun k hk => ?_) ?_
    · walk_at "EV"
      exact ⟨by rw [Int.zero_add], True.intro⟩
    walk_at "EV"
    refine ⟨L.most, True.intro, by rw [List.map_nil, List.length_nil, Nat.zero_add]; exact L.most, True.intro, ls, some (.int 0, 0), ?_, .inr ⟨True.intro, rfl⟩, .inr ⟨_, rfl⟩⟩
    rw [List.map_nil, List.nil_append]
  · rintro ε ⟨zs, s3, rfl, z, o3⟩
    obtain rfl : zs = ls := by
      rcases z with z | z
      · exact absurd z.1 (by decide)
      · exact z.2
    walk_at "EV"
    exact q
theorem w_marks {f : Nat} (L : Lot b ls) (hf : f = 0) (q : P (.lst ((marksL b ls).map D.bl)) true [some (ltD b ls, f), some (.int b, 0)]) : qE (F__law_mk_marks [some (ltD b ls, f), some (.int b, 0)]) P X := by
  subst hf
  have b1 := L.lo
  unfold F__law_mk_marks
  rw [qE_defT]
  with_reducible refine ⟨rfl, rfl, ?_⟩
  simp only [List.replicate, List.cons_append, List.nil_append]
  walk_at "EV"
  refine ⟨L.mid, True.intro, ?_⟩
  rw [rngD_up]
  refine qTn_map (fun k => D.bl false) True.intro (fun k hk => ?_) ?_
  · walk_at "EV"
    exact ⟨True.intro, True.intro⟩
  walk_at "EV"
  refine ⟨?_, ?_⟩
  · rw [List.length_map, List.length_map, List.length_range]
    have := L.hi
    show _ ≤ 1000000
    omega
  with_reducible refine w_forT ?_
  walk_at "EV"
  with_reducible refine w_spread L rfl ?_
  walk_at "EV"
  refine qLp_ind (fun i ε => ∃ s3 : Slot, ε = [some (ltD b ls, 0), some (.int b, 0), some (.lst ((upTo b.toNat).map fun k => D.bl (decide (k ∈ ls.take i))), 1), s3, none] ∧ ShS s3) 0 ⟨none, by simp, .inl rfl⟩ ?_ ?_
  · rintro i x ε hx ⟨s3, rfl, o3⟩
    rw [Nat.zero_add]
    rw [List.getElem?_map, Option.map_eq_some_iff] at hx
    obtain ⟨k, hk, rfl⟩ := hx
    walk_at "EV"
    rw [qPut_sh o3]
    walk_at "EV"
    have w := L.wi k (List.mem_of_getElem? hk)
    have ek : k = ((k.toNat : Nat) : Int) := by omega
    refine ⟨True.intro, True.intro, ?_⟩
    rw [ek, qSt_nat (by rw [List.length_map, List.length_map, List.length_range]; omega), ← ek]
    walk_at "EV"
    refine ⟨True.intro, some (.int k, 0), ?_, .inr ⟨_, rfl⟩⟩
    rw [marks_set hk (by omega)]
  · rintro ε ⟨s3, rfl, o3⟩
    walk_at "EV"
    rw [List.length_map, Nat.zero_add, List.take_length]
    rw [List.map_map] at q
    exact q
end
end Mk

/-! repr of a lot. -/
namespace Mk
open PySem PySem.Spec PyProof.Rows L2 Md Tr
theorem weight_ints : ∀ {ls : List Int}, (∀ k ∈ ls, 0 ≤ k ∧ k < 8192) → PyData.weightAll (ls.map PyData.int) ≤ 14 * ls.length ∧ PyData.leavesShortAll 32 (ls.map PyData.int) = true
  | [], _ => ⟨by simp [PyData.weightAll], rfl⟩
  | k :: ls, h => by
    have ih := weight_ints fun x hx => h x (List.mem_cons_of_mem _ hx)
    have hk := h k (List.mem_cons_self ..)
    have z := okD_show (n := 1) (d := .int k) (p := .int k) (by unfold okD; exact decide_eq_true (by omega)) rfl
    refine ⟨?_, ?_⟩
    · rw [List.map_cons, List.length_cons]
      have w : PyData.weight (.int k) ≤ 13 := by
        unfold PyData.weight
        split
        · omega
        · rename_i n0
          have n0 : k.natAbs ≠ 0 := fun e => n0 (by simp; omega)
          have := (Nat.log2_lt n0 (k := 13)).mpr (by omega)
          omega
      have e : PyData.weightAll (.int k :: ls.map PyData.int) = PyData.weight (.int k) + 1 + PyData.weightAll (ls.map PyData.int) := by simp only [PyData.weightAll]
      rw [e]
      omega
    · rw [List.map_cons, show PyData.leavesShortAll 32 (.int k :: ls.map PyData.int) = (PyData.leavesShort 32 (.int k) && PyData.leavesShortAll 32 (ls.map PyData.int)) by simp only [PyData.leavesShortAll], z.1, ih.2]
      rfl
theorem qO_repr_lot {b : Int} {ls : List Int} {PO : D → Bool → Prop} (L : Lot b ls) : qO (fRepr [ltD b ls]) PO ↔ PO (.str (shownD (ltD b ls))) false := by
  have lo := L.lo
  have hi := L.hi
  have ok : okDs 2 [D.int b, ilD ls] = true := okDs_all.mpr fun x hx => by
    simp only [List.mem_cons, List.not_mem_nil, or_false] at hx
    rcases hx with rfl | rfl
    · unfold okD
      exact decide_eq_true (by omega)
    · unfold okD
      exact okDs_ints L.small
  obtain ⟨p, e, a, dp, c, dd⟩ := okD_P (n := 3) (d := ltD b ls) (by unfold okD; exact ok)
  have e2 : toP (ltD b ls) = some (.tuple [.int b, .list (ls.map PyData.int)]) := by
    have e3 : toP (ilD ls) = some (.list (ls.map PyData.int)) := by
      unfold toP
      rw [toPs_ints]
      rfl
    unfold toP
    unfold toPs
    unfold toPs
    rw [e3]
    rfl
  rw [e2] at e
  cases e
  have z := okD_show (n := 3) (d := ltD b ls) (by unfold okD; exact ok) e2
  have l := PyData.shown_le 32 (by decide) (.tuple [.int b, .list (ls.map PyData.int)]) z.1
  have w := weight_ints (ls := b :: ls) fun k hk => by
    rcases List.mem_cons.mp hk with rfl | hk
    · omega
    · have := L.wi k hk
      omega
  have we : PyData.weight (.tuple [.int b, .list (ls.map PyData.int)]) = PyData.weightAll ((b :: ls).map PyData.int) + 1 := by
    rw [List.map_cons]
    simp only [PyData.weight, PyData.weightAll]
    omega
  have := L.len
  rw [List.length_cons] at w
  unfold fRepr shownD
  dsimp only
  rw [e2]
  dsimp only
  rw [if_pos ⟨c, dd, by omega, Nat.le_trans l (by unfold sizeLine; omega)⟩]
  exact Iff.rfl
end Mk

local macro_rules | `(tactic| walk_at "EX") => `(tactic| simp -dsimp only [↓Tr.qO_gcd, ↓Tr.qO_lcm, ↓Tr.w_ofSetT, ↓Tr.w_rng3, ↓Tr.qHd3_i, ↓Tr.qRn3_i, ↓Tr.qO_listRng, ↓Tr.qO_sortSet, ↓Tr.qO_lenSet, ↓Tr.qO_sortedJ, ↓Tr.w_isTyT, ↓Tr.qO_isTy_i, ↓Tr.qO_isTy_b, ↓Tr.qO_isTy_n, ↓Tr.qO_isTy_s, ↓Tr.qO_isTy_l, ↓Tr.qO_isTy_t, ↓Tr.pm_10, ↓Tr.w_pm_10, ↓Tr.pm_021, ↓Tr.w_pm_021, ↓Tr.pm_102, ↓Tr.w_pm_102, ↓Tr.pm_120, ↓Tr.w_pm_120, ↓Tr.pm_201, ↓Tr.w_pm_201, ↓Tr.pm_210, ↓Tr.w_pm_210, ↓Tr.qO_revA_l, ↓Tr.qO_revA_t, ↓Tr.w_isAT, ↓Tr.qO_isA_s, ↓Tr.qO_isA_n, ↓Tr.qO_isA_i, ↓Tr.qO_isA_z, ↓Tr.qO_isA_l, ↓Tr.qO_isA_t, ↓Tr.w_eqMT, ↓Tr.qV_z, ↓Tr.qV_s, ↓Tr.qSet_z, ↓Tr.qSet_s, ↓Tr.qG_0, ↓Tr.qG_1, ↓Tr.qG_2, ↓Tr.qG_3, ↓Tr.qB_t, ↓Tr.qB_f, ↓Tr.qB_n, ↓Tr.w_cT, ↓Tr.w_varT, ↓Tr.qA_nil, ↓Tr.qA_nm, ↓Tr.qA_ex, ↓Tr.qL_nil, ↓Tr.qL_tm, ↓Tr.qL_sl, ↓Tr.qM_nil, ↓Tr.qM_tm, ↓Tr.w_opT, ↓Tr.qL_n_app, ↓Tr.qL_tm_app, ↓Tr.qL_sl_app, ↓Tr.qIs_str, ↓Tr.qIs_lst, ↓Tr.w_mthT, ↓Tr.w_sl3T, ↓Tr.qBl_b, ↓Tr.w_boolT, ↓Tr.qTr_bl, ↓Tr.qTr_int, ↓Tr.qTr_lst, ↓Tr.qTr_tup, ↓Tr.qTr_non, ↓Tr.qTr_str, ↓Tr.w_truT, ↓Tr.w_notG, ↓Tr.w_andG, ↓Tr.w_orG, ↓Tr.w_yesG, ↓Tr.w_ifT, ↓Tr.w_andT, ↓Tr.w_orT, ↓Tr.w_notT, ↓Tr.w_chT, ↓Tr.w_tupT, ↓Tr.w_lstT, ↓Tr.qC_nil, ↓Tr.qC_tm, ↓Tr.qC_sl, ↓Tr.qU_0, ↓Tr.qU_1, ↓Tr.qU_2, ↓Tr.qBack_0, ↓Tr.qBack_tm, ↓Tr.w_callT, ↓Tr.w_seqT, ↓Tr.w_nilT, ↓Tr.w_ifS, ↓Tr.w_dropT, ↓Tr.w_retT, ↓Tr.w_retN, ↓Tr.w_setT, ↓Tr.qPut_s, ↓Tr.qPut_n0, ↓Tr.qPut_n1, ↓Tr.qPut_s00, ↓Tr.qPut_s01, ↓Tr.qPut_s10, ↓Tr.qPut_s11, ↓Tr.w_asgT, ↓Tr.qBG_nm, ↓Tr.qBG_tt, ↓Tr.qBG_tl, ↓Tr.qBGs_nil, ↓Tr.qBGs_cons, ↓Tr.w_parT, ↓Tr.qEs_nil, ↓Tr.qEs_cons, ↓Tr.qPL_nil, ↓Tr.qPL_cons, ↓Tr.qO_add_i, ↓Tr.qO_add_s, ↓Tr.qO_add_l, ↓Tr.qO_add_t, ↓Tr.qO_sub, ↓Tr.qO_mul, ↓Tr.qO_div, ↓Tr.qO_mod, ↓Tr.qO_pow, ↓Tr.qO_neg, ↓Tr.qO_lt, ↓Tr.qO_le, ↓Tr.qO_gt, ↓Tr.qO_ge, ↓Tr.qO_eq_i, ↓Tr.qO_ne_i, ↓Tr.qO_int_i, ↓Tr.qO_int_b, ↓Tr.qO_abs, ↓Tr.qO_max, ↓Tr.qO_min, ↓Tr.qO_len_l, ↓Tr.qO_len_t, ↓Tr.qO_len_s, ↓Tr.qO_list_t, ↓Tr.qO_tup_l, ↓Tr.qO_tup_t, ↓Tr.qO_ixl_0, ↓Tr.qO_ixl_1, ↓Tr.qO_ixl_2, ↓Tr.qO_ixt_0, ↓Tr.qO_ixt_1, ↓Tr.qO_ixt_2, ↓Tr.w_storeT, ↓Tr.qLst_l, ↓Tr.qSt_0, ↓Tr.qSt_1, ↓Tr.qSt_2, ↓Tr.w_mutT, ↓Tr.qMu_app, ↓Tr.qRn_i, ↓Tr.qRn2_i, ↓Tr.w_rng1, ↓Tr.w_rng2, ↓Tr.qHd_1, ↓Tr.qHd2_1, ↓Tr.qSeq_l, ↓Tr.qSeq_t, ↓Tr.qSeq_s, ↓Tr.w_seq, ↓Tr.w_enum, ↓Tr.srcOf_nm, ↓Tr.srcOf_ex, ↓Tr.qWi_nil, ↓Tr.qWi_cons, ↓Tr.qRe_nil, ↓Tr.qRe_cons, ↓Tr.qGet_z, ↓Tr.qGet_s, ↓Tr.qNo_nil, ↓Tr.qNo_cons, ↓Tr.w_turn1, ↓Tr.w_turn2, ↓Tr.w_compT, ↓Tr.qO_or_l, ↓Tr.qO_or_t, ↓Tr.qO_or_s, ↓Tr.qO_or_di, ↓Tr.qO_or_ds, ↓Tr.qO_in_l, ↓Tr.qO_in_t, ↓Tr.qO_in_s, ↓Tr.qO_in_si, ↓Tr.qO_in_ss, ↓Tr.qO_in_di, ↓Tr.qO_in_ds, ↓Tr.qO_nin_l, ↓Tr.qO_nin_t, ↓Tr.qO_nin_si, ↓Tr.qO_nin_ss, ↓Tr.qO_nin_di, ↓Tr.qO_nin_ds, ↓Tr.qO_shl, ↓Tr.qO_shr, ↓Tr.qO_band, ↓Tr.qO_bor, ↓Tr.qO_fld, ↓Tr.qVal_some, ↓Tr.w_dnewT, ↓Tr.w_set1T, ↓Tr.w_storeA, ↓Tr.qStA_l, ↓Tr.qStA_di, ↓Tr.qStA_ds, ↓Tr.w_storeF, ↓Tr.qMade_ok, ↓Tr.w_makeT, ↓Tr.qBk_11, ↓Tr.qBk_22, ↓Tr.qBk_13, ↓Tr.qBk_23, ↓Tr.qBk_0, ↓Tr.qBk_3, ↓Tr.qBk_n, ↓Tr.qBack_at, ↓Tr.qO_cut_s, ↓Tr.qO_cut_l, ↓Tr.qO_cut_t, ↓Tr.qO_sl_0, ↓Tr.qO_sl_1, ↓Tr.qO_sl_2, ↓Tr.qInt_i, ↓Tr.qO_rev, ↓Tr.qFor_n, ↓Tr.qFor_s, ↓Tr.w_methT, ↓Tr.qIns_i, ↓Tr.noAt_none, ↓Tr.w_propT, ↓Tr.w_addT, ↓Tr.qSta_s, ↓Tr.qKy_s, ↓Tr.qKy_i, ↓Tr.w_kdIxT, ↓Tr.qPs_nil, ↓Tr.qPs_cons, ↓Tr.w_dctT, ↓Tr.qMu_ext, ↓Tr.qO_eqA_i, ↓Tr.qO_neA_i, ↓Tr.qO_eqA_s, ↓Tr.qO_neA_s, ↓Tr.qO_eqA_b, ↓Tr.qO_neA_b, ↓Tr.qO_eqA_l, ↓Tr.qO_neA_l, ↓Tr.qO_eqA_t, ↓Tr.qO_neA_t, ↓Tr.qNf_f, ↓Tr.qXe_at, ↓Tr.qOb_s, ↓Tr.qCm_t, ↓Tr.qCm_f, ↓Tr.w_raiseT, ↓Tr.w_isxT, ↓Tr.w_xvT, ↓Tr.w_guardI, ↓Tr.w_instT, ↓Tr.w_isCT, ↓Tr.qO_isC, ↓Tr.w_eqIT, ↓Tr.qBo_b, ↓Tr.w_guard2, ↓Tr.su_0_0, ↓Tr.su_0_1, ↓Tr.su_0_2, ↓Tr.su_0_3, ↓Tr.su_0_4, ↓Tr.su_0_5, ↓Tr.su_0_6, ↓Tr.su_0_7, ↓Tr.su_0_8, ↓Tr.su_0_9, ↓Tr.su_0_10, ↓Tr.su_0_11, ↓Tr.su_1_0, ↓Tr.su_1_1, ↓Tr.su_1_2, ↓Tr.su_1_3, ↓Tr.su_1_4, ↓Tr.su_1_5, ↓Tr.su_1_6, ↓Tr.su_1_7, ↓Tr.su_1_8, ↓Tr.su_1_9, ↓Tr.su_1_10, ↓Tr.su_1_11, ↓Tr.su_2_0, ↓Tr.su_2_1, ↓Tr.su_2_2, ↓Tr.su_2_3, ↓Tr.su_2_4, ↓Tr.su_2_5, ↓Tr.su_2_6, ↓Tr.su_2_7, ↓Tr.su_2_8, ↓Tr.su_2_9, ↓Tr.su_2_10, ↓Tr.su_2_11, ↓Tr.su_3_0, ↓Tr.su_3_1, ↓Tr.su_3_2, ↓Tr.su_3_3, ↓Tr.su_3_4, ↓Tr.su_3_5, ↓Tr.su_3_6, ↓Tr.su_3_7, ↓Tr.su_3_8, ↓Tr.su_3_9, ↓Tr.su_3_10, ↓Tr.su_3_11, ↓Tr.su_4_0, ↓Tr.su_4_1, ↓Tr.su_4_2, ↓Tr.su_4_3, ↓Tr.su_4_4, ↓Tr.su_4_5, ↓Tr.su_4_6, ↓Tr.su_4_7, ↓Tr.su_4_8, ↓Tr.su_4_9, ↓Tr.su_4_10, ↓Tr.su_4_11, ↓Tr.su_5_0, ↓Tr.su_5_1, ↓Tr.su_5_2, ↓Tr.su_5_3, ↓Tr.su_5_4, ↓Tr.su_5_5, ↓Tr.su_5_6, ↓Tr.su_5_7, ↓Tr.su_5_8, ↓Tr.su_5_9, ↓Tr.su_5_10, ↓Tr.su_5_11, ↓Tr.su_6_0, ↓Tr.su_6_1, ↓Tr.su_6_2, ↓Tr.su_6_3, ↓Tr.su_6_4, ↓Tr.su_6_5, ↓Tr.su_6_6, ↓Tr.su_6_7, ↓Tr.su_6_8, ↓Tr.su_6_9, ↓Tr.su_6_10, ↓Tr.su_6_11, ↓Tr.su_7_0, ↓Tr.su_7_1, ↓Tr.su_7_2, ↓Tr.su_7_3, ↓Tr.su_7_4, ↓Tr.su_7_5, ↓Tr.su_7_6, ↓Tr.su_7_7, ↓Tr.su_7_8, ↓Tr.su_7_9, ↓Tr.su_7_10, ↓Tr.su_7_11, ↓Tr.su_8_0, ↓Tr.su_8_1, ↓Tr.su_8_2, ↓Tr.su_8_3, ↓Tr.su_8_4, ↓Tr.su_8_5, ↓Tr.su_8_6, ↓Tr.su_8_7, ↓Tr.su_8_8, ↓Tr.su_8_9, ↓Tr.su_8_10, ↓Tr.su_8_11, ↓Tr.su_9_0, ↓Tr.su_9_1, ↓Tr.su_9_2, ↓Tr.su_9_3, ↓Tr.su_9_4, ↓Tr.su_9_5, ↓Tr.su_9_6, ↓Tr.su_9_7, ↓Tr.su_9_8, ↓Tr.su_9_9, ↓Tr.su_9_10, ↓Tr.su_9_11, ↓Tr.su_10_0, ↓Tr.su_10_1, ↓Tr.su_10_2, ↓Tr.su_10_3, ↓Tr.su_10_4, ↓Tr.su_10_5, ↓Tr.su_10_6, ↓Tr.su_10_7, ↓Tr.su_10_8, ↓Tr.su_10_9, ↓Tr.su_10_10, ↓Tr.su_10_11, ↓Tr.su_11_0, ↓Tr.su_11_1, ↓Tr.su_11_2, ↓Tr.su_11_3, ↓Tr.su_11_4, ↓Tr.su_11_5, ↓Tr.su_11_6, ↓Tr.su_11_7, ↓Tr.su_11_8, ↓Tr.su_11_9, ↓Tr.su_11_10, ↓Tr.su_11_11, ↓Tr.w_mut0T, ↓Tr.qMu_clear, ↓Tr.qMu_reverse, ↓Tr.w_sortedSetT, ↓Tr.w_kdGetT, ↓Tr.w_neIT, ↓Tr.qBn_b, ↓Tr.w_guardN, ↓Tr.qO_list_l, List.isEmpty_cons, List.isEmpty_nil, Bool.not_true, Bool.not_false, Tr.ownF_0, Tr.ownF_1, Tr.ownF_2, Tr.ownF_3, Tr.slOwn_z, Tr.slOwn_s, Tr.slOwn_n, decide_true, decide_false])
/-! has; the next day. -/
namespace Mk
open PySem PySem.Spec PyProof.Rows L2 Md Tr
/-- t is the first of the lot's days from d on -/
structure IsNext (b : Int) (ls : List Int) (d t : Int) : Prop where
  le : d ≤ t
  lt : t < d + b
  at_ : t % b ∈ ls
  no : ∀ u, d ≤ u → u < t → u % b ∉ ls
theorem IsNext.eq {b : Int} {ls : List Int} {d t t' : Int} (h : IsNext b ls d t) (h' : IsNext b ls d t') : t = t' := by
  by_cases c : t < t'
  · exact absurd h.at_ (h'.no t h.le c)
  · by_cases c' : t' < t
    · exact absurd h'.at_ (h.no t' h'.le c')
    · omega
theorem mod_of {b q v : Int} (h0 : 0 ≤ v) (h1 : v < b) : (b * q + v) % b = v := by
  rw [Int.mul_add_emod_self_left, Int.emod_eq_of_lt h0 h1]
section
variable {b d : Int} {ls : List Int}
theorem next_here (L : Lot b ls) {i : Nat} {r : Int} (hr : ls[i]? = some r) (lo : ∀ k ∈ ls.take i, k < d % b) (ge : d % b ≤ r) : IsNext b ls d (d - d % b + r) := by
  have e := Int.mul_ediv_add_emod d b
  have p0 : 0 ≤ d % b := Int.emod_nonneg _ (by have := L.lo; omega)
  have m : r ∈ ls := List.mem_of_getElem? hr
  have w := L.wi r m
  have et : d - d % b + r = b * (d / b) + r := by omega
  refine ⟨by omega, by omega, by rw [et, mod_of w.1 w.2]; exact m, fun u h1 h2 hu => ?_⟩
  have eu : u = b * (d / b) + (u - b * (d / b)) := by omega
  rw [eu, mod_of (by omega) (by omega)] at hu
  obtain ⟨j, hj, gj⟩ := List.getElem_of_mem hu
  obtain ⟨hi, gi⟩ := List.getElem?_eq_some_iff.mp hr
  by_cases c : j < i
  · have z := lo (u - b * (d / b)) (by
      rw [← gj]
      exact List.mem_take_iff_getElem.mpr ⟨j, by omega, rfl⟩)
    omega
  · by_cases c2 : j = i
    · subst c2
      omega
    · have z := List.pairwise_iff_getElem.mp L.up i j hi hj (by omega)
      omega
theorem next_round (L : Lot b ls) {r : Int} (hr : ls[0]? = some r) (lo : ∀ k ∈ ls, k < d % b) : IsNext b ls d (d - d % b + b + r) := by
  have e := Int.mul_ediv_add_emod d b
  have p0 : 0 ≤ d % b := Int.emod_nonneg _ (by have := L.lo; omega)
  have p1 : d % b < b := Int.emod_lt_of_pos _ (by have := L.lo; omega)
  have m : r ∈ ls := List.mem_of_getElem? hr
  have w := L.wi r m
  have l := lo r m
  have e2 : b * (d / b + 1) = b * (d / b) + b := by rw [Int.mul_add]; omega
  have et : d - d % b + b + r = b * (d / b + 1) + r := by omega
  refine ⟨by omega, by omega, by rw [et, mod_of w.1 w.2]; exact m, fun u h1 h2 hu => ?_⟩
  by_cases c : u < b * (d / b) + b
  · have eu : u = b * (d / b) + (u - b * (d / b)) := by omega
    rw [eu, mod_of (by omega) (by omega)] at hu
    have := lo _ hu
    omega
  · have eu : u = b * (d / b + 1) + (u - b * (d / b + 1)) := by omega
    rw [eu, mod_of (by omega) (by omega)] at hu
    obtain ⟨j, hj, gj⟩ := List.getElem_of_mem hu
    obtain ⟨hi, gi⟩ := List.getElem?_eq_some_iff.mp hr
    by_cases c2 : j = 0
    · subst c2
      omega
    · have z := List.pairwise_iff_getElem.mp L.up 0 j hi hj (by omega)
      omega
end
section
variable {c : Nat} {d : D} {P : D → Bool → TEnv → Prop} {X : Str → D → TEnv → Prop} {b : Int} {ls : List Int} {x : Int}
theorem w_next (L : Lot b ls) (x0 : 0 ≤ x) (x1 : x ≤ 10 ^ 30) (q0 : ls = [] → P .non false [some (ltD b ls, 0), some (.int x, 0)]) (q : ∀ t, IsNext b ls x t → P (.int t) false [some (ltD b ls, 0), some (.int x, 0)]) : qE (F_next_day [some (ltD b ls, 0), some (.int x, 0)]) P X := by
  have lo := L.lo
  unfold F_next_day
  rw [qE_defT]
  with_reducible refine ⟨rfl, rfl, ?_⟩
  simp only [List.replicate, List.cons_append, List.nil_append]
  walk_at "EX"
  with_reducible refine w_lot L rfl ?_
  walk_at "EX"
  with_reducible refine w_day x0 ?_
  walk_at "EX"
  by_cases e : ls = []
  · have em : (ls.map D.int).isEmpty = true := by rw [e]; rfl
    rw [em]
    walk_at "EX"
    exact q0 e
  have em : (ls.map D.int).isEmpty = false := by
    cases ls with
    | nil => exact absurd rfl e
    | cons a l => rfl
  rw [em]
  walk_at "EX"
  refine ⟨by omega, ?_⟩
  with_reducible refine w_forT ?_
  walk_at "EX"
  refine qLp_ind (fun i ε => ∃ s5 : Slot, ε = [some (ltD b ls, 0), some (.int x, 0), some (.int b, 0), some (ilD ls, 0), some (.int (x % b), 0), s5] ∧ ShS s5 ∧ ∀ k ∈ ls.take i, k < x % b) 0 ⟨none, rfl, .inl rfl, fun _ h => (nomatch h)⟩ ?_ ?_
  · rintro i y ε hy ⟨s5, rfl, o5, g⟩
    rw [Nat.zero_add] at g ⊢
    rw [List.getElem?_map, Option.map_eq_some_iff] at hy
    obtain ⟨k, hk, rfl⟩ := hy
    walk_at "EX"
    rw [qPut_sh o5]
    walk_at "EX"
    with_reducible refine qB_cases (fun c2 => ?_) fun n2 => ?_
    · walk_at "EX"
      exact q _ (next_here L hk g (by omega))
    · walk_at "EX"
      refine ⟨True.intro, some (.int k, 0), rfl, .inr ⟨_, rfl⟩, fun j hj => ?_⟩
      rw [List.take_add_one, hk] at hj
      rcases List.mem_append.mp hj with hj | hj
      · exact g j hj
      · have ej : j = k := by simpa using hj
        omega
  · rintro ε ⟨s5, rfl, o5, g⟩
    rw [List.length_map, Nat.zero_add, List.take_length] at g
    have l0 : 0 < ls.length := List.length_pos_iff.mpr e
    have h0 : ls[0]? = some ls[0] := List.getElem?_eq_getElem l0
    have g0 : (ls.map D.int)[0]? = some (.int ls[0]) := by rw [List.getElem?_map, h0]; rfl
    have e0 : (0 : Int) = ((0 : Nat) : Int) := rfl
    walk_at "EX"
    rw [e0, qO_ixl g0]
    walk_at "EX"
    exact q _ (next_round L h0 g)
end
end Mk

/-! Lots by a lesser number. -/
namespace Mk
open PySem PySem.Spec PyProof.Rows L2 Md Tr
/-- the rests by a lesser number -/
def modsL (m : Int) (ls : List Int) : List Int := sortJ (ls.map (· % m))
theorem mem_mods {m k : Int} {ls : List Int} : k ∈ modsL m ls ↔ ∃ x ∈ ls, x % m = k := by
  unfold modsL
  rw [mem_sortJ, List.mem_map]
section
variable {b m : Int} {ls ms : List Int}
theorem mods_lot (h1 : 1 ≤ m) (h2 : m ≤ 5040) : Lot m (modsL m ls) := ⟨h1, h2, up_sortJ _, fun k hk => by
  obtain ⟨x, _, rfl⟩ := mem_mods.mp hk
  exact ⟨Int.emod_nonneg _ (by omega), Int.emod_lt_of_pos _ (by omega)⟩⟩
theorem upTo_succ (n : Nat) : upTo (n + 1) = upTo n ++ [(n : Int)] := by
  unfold upTo
  rw [List.range_succ, List.map_append]
  rfl
theorem count_ahead (L : Lot m ms) : ∀ n : Nat, (((upTo n).filter fun k => decide (k % m ∈ ms)).length : Int) = ahead m ms n
  | 0 => by
    rw [show ((0 : Nat) : Int) = 0 from rfl, ahead_zero L]
    rfl
  | n + 1 => by
    have ih := count_ahead L n
    rw [upTo_succ, List.filter_append, List.length_append, show ((n + 1 : Nat) : Int) = (n : Int) + 1 by omega, ahead_succ L, ← ih]
    unfold one
    by_cases c : (n : Int) % m ∈ ms
    · simp [c]
    · simp [c]
theorem mods_all {t : Int} (L : Lot b ls) (hb : b = m * t) (hm : 1 ≤ m) : (((upTo b.toNat).filter fun k => decide (k % m ∈ modsL m ls)).length : Int) = t * (modsL m ls).length := by
  have lo := L.lo
  have hi := L.hi
  have t1 : 1 ≤ t := by
    by_cases c : t ≤ 0
    · have := Int.mul_nonpos_of_nonneg_of_nonpos (a := m) (b := t) (by omega) c
      omega
    · omega
  have mb : m ≤ b := by
    have := Int.mul_le_mul_of_nonneg_left t1 (show 0 ≤ m by omega)
    omega
  have M := mods_lot (ls := ls) hm (by omega)
  rw [count_ahead M]
  unfold ahead
  have e : ((b.toNat : Nat) : Int) = m * t := by omega
  rw [e, Int.mul_ediv_cancel_left t (by omega), Int.mul_emod_right, below_zero M]
  omega
theorem mods_days {t : Int} (L : Lot b ls) (hb : b = m * t) (hm : 1 ≤ m) (hl : (modsL m ls).length * t = ls.length) (d : Int) : d % m ∈ modsL m ls ↔ d % b ∈ ls := by
  have lo := L.lo
  have dv : m ∣ b := ⟨t, hb⟩
  constructor
  · intro h
    have r0 : 0 ≤ d % b := Int.emod_nonneg _ (by omega)
    have r1 : d % b < b := Int.emod_lt_of_pos _ (by omega)
    have cnt := mods_all L hb hm
    generalize eL : ((upTo b.toNat).filter fun k => decide (k % m ∈ modsL m ls)) = L' at cnt
    have mem : d % b ∈ L' := by
      rw [← eL, List.mem_filter, mem_upTo]
      refine ⟨⟨r0, by omega⟩, decide_eq_true ?_⟩
      rw [Int.emod_emod_of_dvd d dv]
      exact h
    have up : L'.Pairwise (· < ·) := by
      rw [← eL]
      exact (up_upTo _).filter _
    have e : (L'.filter fun k => decide (k ∈ ls)) = ls := up_unique (up.filter _) L.up fun k => by
      rw [List.mem_filter, decide_eq_true_iff]
      refine ⟨fun z => z.2, fun z => ⟨?_, z⟩⟩
      have w := L.wi k z
      rw [← eL, List.mem_filter, mem_upTo]
      exact ⟨⟨w.1, by omega⟩, decide_eq_true (mem_mods.mpr ⟨k, z, rfl⟩)⟩
    have l : (L'.filter fun k => decide (k ∈ ls)).length = L'.length := by
      rw [e]
      rw [Int.mul_comm] at hl
      omega
    exact of_decide_eq_true (List.length_filter_eq_length_iff.mp l _ mem)
  · intro h
    exact mem_mods.mpr ⟨d % b, h, Int.emod_emod_of_dvd d dv⟩
/-- the rests shrink just so often -/
structure Often (b : Int) (ls : List Int) (o : Int) : Prop where
  lo : 1 ≤ o
  dv : b = b / o * o
  dl : o ∣ ls.length
  cnt : (modsL (b / o) ls).length * o = ls.length
theorem Often.pos {o : Int} (L : Lot b ls) (h : Often b ls o) : 1 ≤ b / o := by
  have lo := L.lo
  have h1 := h.lo
  have e := h.dv
  by_cases c : b / o ≤ 0
  · have := Int.mul_nonpos_of_nonpos_of_nonneg c (show 0 ≤ o by omega)
    omega
  · omega
theorem Often.days {o : Int} (L : Lot b ls) (h : Often b ls o) (d : Int) : d % (b / o) ∈ modsL (b / o) ls ↔ d % b ∈ ls := mods_days L h.dv (h.pos L) h.cnt d
theorem often_one (L : Lot b ls) : Often b ls 1 := by
  refine ⟨by decide, by rw [Int.ediv_one, Int.mul_one], ⟨ls.length, by rw [Int.one_mul]⟩, ?_⟩
  rw [Int.ediv_one, Int.mul_one]
  have e : modsL b ls = ls := sortJ_eq L.up fun k => by
    rw [List.mem_map]
    constructor
    · intro h
      exact ⟨k, h, Int.emod_eq_of_lt (L.wi k h).1 (L.wi k h).2⟩
    · rintro ⟨x, hx, rfl⟩
      rw [Int.emod_eq_of_lt (L.wi x hx).1 (L.wi x hx).2]
      exact hx
  rw [e]
/-- .. and no oftener -/
structure Least (b : Int) (ls : List Int) (o : Int) : Prop where
  of : Often b ls o
  no : ∀ o', o < o' → ¬ Often b ls o'
end
end Mk

/-! The least number of a lot; lot. -/
namespace Mk
open PySem PySem.Spec PyProof.Rows L2 Md Tr
theorem rngC_get {lo c : Int} {n i : Nat} {y : D} (h : (rngC lo c n)[i]? = some y) : y = .int (lo + i * c) ∧ i < n := by
  have l : i < n := by
    have := (List.getElem?_eq_some_iff.mp h).1
    rwa [rngC_len] at this
  rw [rngC_at l] at h
  cases h
  exact ⟨rfl, l⟩
theorem size_down {i j : Int} (h : j ≤ i) : Builtin.Range.rangeSize i j (-1) = i - j := by
  unfold Builtin.Range.rangeSize
  rw [if_neg (by decide)]
  by_cases c : i > j
  · rw [if_pos c]
    have e : (i - j - 1) / (- -1) = i - j - 1 := by rw [Int.neg_neg, Int.ediv_one]
    rw [e]
    omega
  · rw [if_neg c]
    omega
theorem okC_down {i j : Int} (h : j ≤ i) (h0 : 0 ≤ j) (h1 : i ≤ 1000000) : okC i j (-1) = true := by
  have sz := size_down h
  unfold okC Builtin.Range.small Builtin.Range.rangeFitsLong
  rw [sz]
  simp only [Bool.and_eq_true, Bool.or_eq_true, decide_eq_true_eq, if_neg (show ¬ ((-1 : Int) > 0) by decide)]
  refine ⟨⟨⟨by omega, by omega⟩, ⟨⟨⟨⟨by omega, by omega⟩, by omega⟩, by omega⟩, .inr (by omega)⟩⟩, by omega⟩
section
variable {c : Nat} {d : D} {P : D → Bool → TEnv → Prop} {X : Str → D → TEnv → Prop} {b : Int} {ls : List Int}
theorem Often.of_dvd {o : Int} (h : Often b ls o) : o ∣ b := ⟨b / o, by rw [Int.mul_comm]; exact h.dv⟩
theorem w_least (L : Lot b ls) (q : ∀ o, Least b ls o → P (.int (b / o)) false [some (.int b, 0), some (ilD ls, 2)]) : qE (F_least_every [some (.int b, 0), some (ilD ls, 2)]) P X := by
  have lo := L.lo
  have hi := L.hi
  have len := L.len
  unfold F_least_every
  rw [qE_defT]
  with_reducible refine ⟨rfl, rfl, ?_⟩
  simp only [List.replicate, List.cons_append, List.nil_append]
  walk_at "EX"
  have el : ((ls.map D.int).length : Int) = (ls.length : Int) := by rw [List.length_map]
  rw [el]
  have gb : ((Nat.gcd b.natAbs ((ls.length : Nat) : Int).natAbs : Nat) : Int) ∣ b := Int.ofNat_dvd_left.mpr (Nat.gcd_dvd_left ..)
  have gl : ((Nat.gcd b.natAbs ((ls.length : Nat) : Int).natAbs : Nat) : Int) ∣ (ls.length : Int) := Int.ofNat_dvd_left.mpr (Nat.gcd_dvd_right ..)
  have gd : ∀ o : Int, o ∣ b → o ∣ (ls.length : Int) → o ∣ ((Nat.gcd b.natAbs ((ls.length : Nat) : Int).natAbs : Nat) : Int) := fun o h1 h2 => Int.ofNat_dvd_right.mpr (Nat.dvd_gcd (Int.natAbs_dvd_natAbs.mpr h1) (Int.natAbs_dvd_natAbs.mpr h2))
  have g1 : 1 ≤ ((Nat.gcd b.natAbs ((ls.length : Nat) : Int).natAbs : Nat) : Int) := by
    have := Nat.gcd_pos_of_pos_left ((ls.length : Nat) : Int).natAbs (show 0 < b.natAbs by omega)
    omega
  generalize ((Nat.gcd b.natAbs ((ls.length : Nat) : Int).natAbs : Nat) : Int) = m at gb gl gd g1 ⊢
  have mb : m ≤ b := Int.le_of_dvd (by omega) gb
  have over : ∀ o, m < o → ¬ Often b ls o := fun o h1 h2 => by
    have := Int.le_of_dvd (by omega) (gd o h2.of_dvd h2.dl)
    omega
  with_reducible refine w_forT ?_
  walk_at "EX"
  refine ⟨okC_down g1 (by decide) (by omega), ?_⟩
  refine qLp_ind (fun i ε => ∃ s3 : Slot, ε = [some (.int b, 0), some (ilD ls, 2), some (.int m, 0), s3, none] ∧ ShS s3 ∧ ∀ o, m - i < o → ¬ Often b ls o) 0 ⟨none, rfl, .inl rfl, fun o h => over o (by omega)⟩ ?_ ?_
  · rintro i y ε hy ⟨s3, rfl, o3, no⟩
    rw [Nat.zero_add] at no ⊢
    obtain ⟨ey, hi⟩ := rngC_get hy
    rw [size_down g1] at hi
    have eo : m + (i : Int) * -1 = m - i := by omega
    rw [eo] at ey
    rw [ey]
    have o2 : 2 ≤ m - i := by omega
    have no' : ¬ Often b ls (m - i) → ∀ o, m - (i + 1 : Nat) < o → ¬ Often b ls o := fun h o h1 => by
      by_cases c : o = m - i
      · rw [c]; exact h
      · exact no o (by omega)
    generalize eo2 : m - (i : Int) = o at o2 no no'
    walk_at "EX"
    rw [qPut_sh o3]
    walk_at "EX"
    refine ⟨by omega, ?_⟩
    with_reducible refine qB_cases (fun c2 => ?_) fun n2 => ?_
    · have dm : o ∣ m := Int.dvd_of_emod_eq_zero c2
      have db : o ∣ b := Int.dvd_trans dm gb
      have dl : o ∣ (ls.length : Int) := Int.dvd_trans dm gl
      have ob : o ≤ b := Int.le_of_dvd (by omega) db
      have p1 : 1 ≤ b / o := by
        have := Int.ediv_mul_cancel db
        by_cases c : b / o ≤ 0
        · have := Int.mul_nonpos_of_nonpos_of_nonneg c (show 0 ≤ o by omega)
          omega
        · omega
      have pb : b / o ≤ b := Int.ediv_le_self _ (by omega)
      walk_at "EX"
      refine ⟨True.intro, ?_⟩
      refine qTn_map (fun k => D.int (k % (b / o))) (fun _ => rfl) (fun k hk => ?_) ?_
      · walk_at "EX"
        exact ⟨by omega, by omega, True.intro, True.intro⟩
      have e : ls.map (fun k => D.int (k % (b / o))) = (ls.map (· % (b / o))).map D.int := by rw [List.map_map]; rfl
      rw [e, qSj_of ⟨by rw [List.length_map]; omega, .inr fun k hk => by
        obtain ⟨x, _, rfl⟩ := List.mem_map.mp hk
        have := Int.emod_nonneg x (show b / o ≠ 0 by omega)
        have := Int.emod_lt_of_pos x (show 0 < b / o by omega)
        exact ⟨by omega, by omega⟩⟩]
      have em : sortJ (ls.map fun k => k % (b / o)) = modsL (b / o) ls := rfl
      rw [em]
      have lm := (mods_lot (ls := ls) p1 (by omega)).len
      walk_at "EX"
      have lmb := mods_all L (show b = b / o * o by rw [Int.ediv_mul_cancel db]) p1
      refine ⟨⟨wide_of (by omega), wide_of (by omega)⟩, ?_⟩
      rw [el]
      with_reducible refine qB_cases (fun c3 => ?_) fun n3 => ?_
      · walk_at "EX"
        exact ⟨by omega, q o ⟨⟨by omega, (Int.ediv_mul_cancel db).symm, dl, c3⟩, fun o' h => no o' (by omega)⟩⟩
      · walk_at "EX"
        exact ⟨True.intro, _, rfl, .inr ⟨_, rfl⟩, no' fun h => n3 h.cnt⟩
    · walk_at "EX"
      exact ⟨True.intro, _, rfl, .inr ⟨_, rfl⟩, no' fun h => n2 (Int.emod_eq_zero_of_dvd (gd o h.of_dvd h.dl))⟩
  · rintro ε ⟨s3, rfl, o3, no⟩
    rw [rngC_len, size_down g1] at no
    walk_at "EX"
    have := q 1 ⟨often_one L, fun o h => no o (by omega)⟩
    rw [Int.ediv_one] at this
    exact this
theorem mods_self (L : Lot b ls) : modsL b ls = ls := sortJ_eq L.up fun k => by
  rw [List.mem_map]
  constructor
  · intro h
    exact ⟨k, h, Int.emod_eq_of_lt (L.wi k h).1 (L.wi k h).2⟩
  · rintro ⟨x, hx, rfl⟩
    rw [Int.emod_eq_of_lt (L.wi x hx).1 (L.wi x hx).2]
    exact hx
theorem w_lotF {f : Nat} {xs : List Int} (h1 : 1 ≤ b) (h2 : b ≤ 5040) (hx : xs.length < 9900) (hf : f = 0) (q : ∀ o, Least b (modsL b xs) o → P (ltD (b / o) (modsL (b / o) (modsL b xs))) false [some (.int b, 0), some (ilD xs, f)]) : qE (F_lot [some (.int b, 0), some (ilD xs, f)]) P X := by
  subst hf
  unfold F_lot
  rw [qE_defT]
  with_reducible refine ⟨rfl, rfl, ?_⟩
  simp only [List.replicate, List.cons_append, List.nil_append]
  walk_at "EX"
  with_reducible refine qB_cases (fun c2 => ?_) fun n2 => ?_
  · omega
  walk_at "EX"
  refine ⟨True.intro, ?_⟩
  refine qTn_map (fun k => D.int (k % b)) (fun _ => rfl) (fun k hk => ?_) ?_
  · walk_at "EX"
    exact ⟨by omega, True.intro, True.intro⟩
  have e : xs.map (fun k => D.int (k % b)) = (xs.map (· % b)).map D.int := by rw [List.map_map]; rfl
  rw [e, qSj_of ⟨by rw [List.length_map]; omega, .inr fun k hk => by
    obtain ⟨x, _, rfl⟩ := List.mem_map.mp hk
    have := Int.emod_nonneg x (show b ≠ 0 by omega)
    have := Int.emod_lt_of_pos x (show 0 < b by omega)
    exact ⟨by omega, by omega⟩⟩]
  have em : sortJ (xs.map fun k => k % b) = modsL b xs := rfl
  rw [em]
  have L : Lot b (modsL b xs) := mods_lot h1 h2
  generalize modsL b xs = ls at L q
  walk_at "EX"
  with_reducible refine w_least L fun o ho => ?_
  walk_at "EX"
  have len := L.len
  have o1 := ho.of.lo
  have p1 := ho.of.pos L
  have pb : b / o ≤ b := Int.ediv_le_self _ (by omega)
  refine ⟨True.intro, ?_⟩
  refine qTn_map (fun k => D.int (k % (b / o))) (fun _ => rfl) (fun k hk => ?_) ?_
  · walk_at "EX"
    exact ⟨by omega, True.intro, True.intro⟩
  have e : ls.map (fun k => D.int (k % (b / o))) = (ls.map (· % (b / o))).map D.int := by rw [List.map_map]; rfl
  rw [e, qSj_of ⟨by rw [List.length_map]; omega, .inr fun k hk => by
    obtain ⟨x, _, rfl⟩ := List.mem_map.mp hk
    have := Int.emod_nonneg x (show b / o ≠ 0 by omega)
    have := Int.emod_lt_of_pos x (show 0 < b / o by omega)
    exact ⟨by omega, by omega⟩⟩]
  walk_at "EX"
  exact q o ho
end
end Mk

/-! The widest wait. -/
namespace Mk
open PySem PySem.Spec PyProof.Rows L2 Md Tr
/-- w is the greatest number of days without one of S -/
structure WideS (S : Int → Prop) (w : Int) : Prop where
  ge : 0 ≤ w
  any : ∀ d, ∃ t, d ≤ t ∧ t ≤ d + w ∧ S t
  at_ : ∃ d, ∀ t, d ≤ t → t < d + w → ¬ S t
theorem WideS.eq {S S' : Int → Prop} {w w' : Int} (h : WideS S w) (h' : WideS S' w') (e : ∀ t, S t ↔ S' t) : w = w' := by
  by_cases c : w < w'
  · obtain ⟨d, hd⟩ := h'.at_
    obtain ⟨t, h1, h2, h3⟩ := h.any d
    exact absurd ((e t).mp h3) (hd t h1 (by omega))
  · by_cases c' : w' < w
    · obtain ⟨d, hd⟩ := h.at_
      obtain ⟨t, h1, h2, h3⟩ := h'.any d
      exact absurd ((e t).mpr h3) (hd t h1 (by omega))
    · omega
/-- a day is one of the lot's -/
abbrev dayS (b : Int) (ls : List Int) : Int → Prop := fun t => t % b ∈ ls
section
variable {b : Int} {ls : List Int}
/-- what follows each rest -/
abbrev folL (b : Int) (ls : List Int) : List Int := ls.tail ++ [ls.headD 0 + b]
theorem fol_len (h : ls ≠ []) : (folL b ls).length = ls.length := by
  cases ls with
  | nil => exact absurd rfl h
  | cons a l => simp
theorem fol_next (L : Lot b ls) {i : Nat} {r f : Int} (hr : ls[i]? = some r) (hf : (folL b ls)[i]? = some f) : IsNext b ls (r + 1) f := by
  have lo := L.lo
  obtain ⟨hi, gi⟩ := List.getElem?_eq_some_iff.mp hr
  have wr := L.wi r (List.mem_of_getElem? hr)
  have up := List.pairwise_iff_getElem.mp L.up
  have tl : ls.tail.length = ls.length - 1 := List.length_tail
  -- a day u between
  have mid : ∀ u : Int, r < u → u < f → f ≤ b + r → (∀ j (hj : j < ls.length), i < j → f ≤ ls[j]) → (∀ j (hj : j < ls.length), f ≤ ls[j] + b) → u % b ∉ ls := by
    intro u h1 h2 h3 h4 h5 hu
    obtain ⟨j, hj, gj⟩ := List.getElem_of_mem hu
    by_cases c : u < b
    · rw [Int.emod_eq_of_lt (by omega) c] at gj
      by_cases cj : i < j
      · have := h4 j hj cj
        omega
      · by_cases ej : j = i
        · subst ej
          omega
        · have := up j i hj hi (by omega)
          omega
    · have e : u % b = u - b := by
        rw [← Int.sub_emod_right, Int.emod_eq_of_lt (by omega) (by omega)]
      rw [e] at gj
      have := h5 j hj
      omega
  by_cases c : i + 1 < ls.length
  · have ef : f = ls[i + 1] := by
      rw [List.getElem?_append_left (by omega), List.getElem?_tail, List.getElem?_eq_getElem c] at hf
      exact (Option.some.inj hf).symm
    have mf : f ∈ ls := by rw [ef]; exact List.getElem_mem _
    have wf := L.wi f mf
    have lt : r < f := by
      have := up i (i + 1) hi c (by omega)
      omega
    refine ⟨by omega, by omega, by rw [Int.emod_eq_of_lt wf.1 wf.2]; exact mf, fun u h1 h2 => mid u (by omega) h2 (by omega) (fun j hj h => ?_) fun j hj => ?_⟩
    · by_cases e : j = i + 1
      · subst e
        omega
      · have := up (i + 1) j c hj (by omega)
        omega
    · have := L.wi ls[j] (List.getElem_mem hj)
      omega
  · have ei : i = ls.length - 1 := by omega
    have h0 : 0 < ls.length := by omega
    have eh : ls.headD 0 = ls[0] := by
      cases ls with
      | nil => exact absurd h0 (by simp)
      | cons a l => rfl
    have ef : f = ls[0] + b := by
      rw [List.getElem?_append_right (by omega), tl, ei, Nat.sub_self] at hf
      have := Option.some.inj hf
      rw [← this, eh]
    have mf : ls[0] ∈ ls := List.getElem_mem _
    have wf := L.wi ls[0] mf
    have le : ls[0] ≤ r := by
      by_cases e : i = 0
      · subst e
        omega
      · have := up 0 i h0 hi (by omega)
        omega
    refine ⟨by omega, by omega, ?_, fun u h1 h2 => mid u (by omega) h2 (by omega) (fun j hj h => by omega) fun j hj => ?_⟩
    · rw [ef, Int.add_emod_right, Int.emod_eq_of_lt wf.1 wf.2]
      exact mf
    · by_cases e : j = 0
      · subst e
        omega
      · have := up 0 j h0 hj (by omega)
        omega
/-- the widest wait, by what follows each rest -/
theorem wide_of_next (L : Lot b ls) {w : Int} (ne : ls ≠ []) (le : ∀ (i : Nat) (r f : Int), ls[i]? = some r → (folL b ls)[i]? = some f → f - r - 1 ≤ w) (at_ : ∃ (i : Nat) (r f : Int), ls[i]? = some r ∧ (folL b ls)[i]? = some f ∧ f - r - 1 = w) : WideS (dayS b ls) w := by
  have lo := L.lo
  obtain ⟨i0, r0, f0, h0, g0, e0⟩ := at_
  have n0 := fol_next L h0 g0
  have w0 : 0 ≤ w := by have := n0.le; omega
  have step : ∀ p : Int, p % b ∈ ls → ∃ t, p < t ∧ t ≤ p + w + 1 ∧ t % b ∈ ls := by
    intro p hp
    obtain ⟨i, hi, gi⟩ := List.getElem_of_mem hp
    have hr : ls[i]? = some (p % b) := by rw [List.getElem?_eq_getElem hi, gi]
    have hi2 : i < (folL b ls).length := by rw [fol_len ne]; exact hi
    have hf : (folL b ls)[i]? = some (folL b ls)[i] := List.getElem?_eq_getElem hi2
    generalize (folL b ls)[i] = f at hf
    have n := fol_next L hr hf
    have l := le i _ _ hr hf
    have n1 := n.le
    have e := Int.mul_ediv_add_emod p b
    refine ⟨f + b * (p / b), by omega, by omega, ?_⟩
    rw [Int.add_mul_emod_self_left]
    exact n.at_
  refine ⟨w0, fun d => ?_, r0 + 1, fun t h1 h2 => n0.no t h1 (by omega)⟩
  have wr := L.wi r0 (List.mem_of_getElem? h0)
  have base : (r0 + b * (d / b - 1)) % b ∈ ls := by
    rw [Int.add_mul_emod_self_left, Int.emod_eq_of_lt wr.1 wr.2]
    exact List.mem_of_getElem? h0
  have lb : r0 + b * (d / b - 1) ≤ d := by
    have e := Int.mul_ediv_add_emod d b
    have p0 : 0 ≤ d % b := Int.emod_nonneg _ (by omega)
    rw [Int.mul_sub]
    omega
  generalize r0 + b * (d / b - 1) = t0 at base lb
  have all : ∀ n : Nat, ∃ t, t0 + n ≤ t ∧ t ≤ t0 + n + w ∧ t % b ∈ ls := by
    intro n
    induction n with
    | zero => exact ⟨t0, by omega, by omega, base⟩
    | succ n ih =>
      obtain ⟨t, h1, h2, h3⟩ := ih
      by_cases c : t0 + (n + 1 : Nat) ≤ t
      · exact ⟨t, c, by omega, h3⟩
      · obtain ⟨t', k1, k2, k3⟩ := step t h3
        exact ⟨t', by omega, by omega, k3⟩
  obtain ⟨t, h1, h2, h3⟩ := all (d - t0).toNat
  exact ⟨t, by omega, by omega, h3⟩
/-- the next day is not farther than that -/
theorem WideS.next {w d t : Int} (h : WideS (dayS b ls) w) (n : IsNext b ls d t) : t - d ≤ w := by
  obtain ⟨u, h1, h2, h3⟩ := h.any d
  by_cases c : t ≤ u
  · omega
  · exact absurd h3 (n.no u h1 (by omega))
/-- behind some rest one waits so long -/
theorem WideS.some (L : Lot b ls) {w : Int} (ne : ls ≠ []) (h : WideS (dayS b ls) w) : ∃ r ∈ ls, ∀ (q t : Int), IsNext b ls (b * q + r + 1) t → t - (b * q + r + 1) = w := by
  have lo := L.lo
  obtain ⟨d, hd⟩ := h.at_
  -- the day ahead of the stretch
  obtain ⟨t, t1, t2, t3⟩ := h.any (d - 1 - w)
  have last : ∃ p, p % b ∈ ls ∧ p < d ∧ ∀ t, p < t → t < d + w → t % b ∉ ls := by
    have go : ∀ n : Nat, ∀ p, p % b ∈ ls → p < d → d - 1 - p ≤ n → ∃ p, p % b ∈ ls ∧ p < d ∧ ∀ t, p < t → t < d + w → t % b ∉ ls := by
      intro n
      induction n with
      | zero =>
        intro p h1 h2 h3
        exact ⟨p, h1, h2, fun t k1 k2 => hd t (by omega) k2⟩
      | succ n ih =>
        intro p h1 h2 h3
        by_cases c : ∃ t, p < t ∧ t < d ∧ t % b ∈ ls
        · obtain ⟨t, k1, k2, k3⟩ := c
          exact ih t k3 k2 (by omega)
        · refine ⟨p, h1, h2, fun t k1 k2 k3 => ?_⟩
          by_cases ct : t < d
          · exact c ⟨t, k1, ct, k3⟩
          · exact hd t (by omega) k2 k3
    exact go (d - 1 - t).toNat t t3 (by omega) (by omega)
  obtain ⟨p, p1, p2, p3⟩ := last
  refine ⟨p % b, p1, fun q t n => ?_⟩
  have le := h.next n
  have e := Int.mul_ediv_add_emod p b
  have k := n.at_
  have n1 := n.le
  -- shifted back behind p
  have sh : (t + b * (p / b - q)) % b ∈ ls := by rw [Int.add_mul_emod_self_left]; exact k
  by_cases c : t - (b * q + p % b + 1) = w
  · exact c
  · exfalso
    rw [Int.mul_sub] at sh
    exact p3 _ (by omega) (by omega) sh
/-- it is less than the number -/
theorem WideS.lt (L : Lot b ls) {w : Int} (ne : ls ≠ []) (h : WideS (dayS b ls) w) : w < b := by
  have lo := L.lo
  obtain ⟨d, hd⟩ := h.at_
  obtain ⟨r, hr⟩ := List.exists_mem_of_ne_nil ls ne
  have wr := L.wi r hr
  by_cases c : w < b
  · exact c
  · exfalso
    have j0 : 0 ≤ (r - d) % b := Int.emod_nonneg _ (by omega)
    have j1 : (r - d) % b < b := Int.emod_lt_of_pos _ (by omega)
    refine hd (d + (r - d) % b) (by omega) (by omega) ?_
    show (d + (r - d) % b) % b ∈ ls
    rw [Int.add_emod_emod, show d + (r - d) = r by omega, Int.emod_eq_of_lt wr.1 wr.2]
    exact hr
/-- the loop over the marks, twice round -/
structure Runs (b : Int) (ls : List Int) (i best now : Int) : Prop where
  n0 : 0 ≤ now
  n1 : now ≤ i
  n2 : ∀ t, i - now ≤ t → t < i → t % b ∉ ls
  n3 : now < i → (i - now - 1) % b ∈ ls
  b0 : 0 ≤ best
  b1 : ∃ a, 0 ≤ a ∧ a + best ≤ i ∧ ∀ t, a ≤ t → t < a + best → t % b ∉ ls
  b2 : ∀ a n, 0 ≤ a → a + n ≤ i → (∀ t, a ≤ t → t < a + n → t % b ∉ ls) → n ≤ best
theorem Runs.zero : Runs b ls 0 0 0 := ⟨by omega, by omega, fun t h1 h2 => by omega, fun h => by omega, by omega, ⟨0, by omega, by omega, fun t h1 h2 => by omega⟩, fun a n h1 h2 _ => by omega⟩
theorem Runs.yes {i best now : Int} (R : Runs b ls i best now) (h : i % b ∈ ls) : Runs b ls (i + 1) (max best 0) 0 := by
  have n0 := R.n0
  have n1 := R.n1
  have b0 := R.b0
  have e : max best 0 = best := by omega
  rw [e]
  obtain ⟨a, a1, a2, a3⟩ := R.b1
  refine ⟨by omega, by omega, fun t h1 h2 => by omega, fun _ => by rw [show i + 1 - 0 - 1 = i by omega]; exact h, b0, ⟨a, a1, by omega, a3⟩, fun a n h1 h2 h3 => ?_⟩
  by_cases c : a + n ≤ i
  · exact R.b2 a n h1 c h3
  · by_cases c2 : n ≤ 0
    · omega
    · exact absurd h (h3 i (by omega) (by omega))
theorem Runs.no {i best now : Int} (R : Runs b ls i best now) (h : i % b ∉ ls) : Runs b ls (i + 1) (max best (now + 1)) (now + 1) := by
  have n0 := R.n0
  have n1 := R.n1
  have b0 := R.b0
  have run : ∀ t, i + 1 - (now + 1) ≤ t → t < i + 1 → t % b ∉ ls := fun t h1 h2 => by
    by_cases c : t = i
    · rw [c]; exact h
    · exact R.n2 t (by omega) (by omega)
  refine ⟨by omega, by omega, run, fun c => by rw [show i + 1 - (now + 1) - 1 = i - now - 1 by omega]; exact R.n3 (by omega), by omega, ?_, fun a n h1 h2 h3 => ?_⟩
  · by_cases c : best ≤ now + 1
    · refine ⟨i - now, by omega, by omega, fun t k1 k2 => run t (by omega) (by omega)⟩
    · obtain ⟨a, a1, a2, a3⟩ := R.b1
      have e : max best (now + 1) = best := by omega
      rw [e]
      exact ⟨a, a1, by omega, a3⟩
  · by_cases c : a + n ≤ i
    · have := R.b2 a n h1 c h3
      omega
    · by_cases c2 : n ≤ now + 1
      · omega
      · exfalso
        exact h3 (i - now - 1) (by omega) (by omega) (R.n3 (by omega))
theorem Runs.wide {best now w : Int} (L : Lot b ls) (ne : ls ≠ []) (R : Runs b ls (b + b) best now) (h : WideS (dayS b ls) w) : best = w := by
  have lo := L.lo
  have lt := h.lt L ne
  have ge := h.ge
  have up : best ≤ w := by
    obtain ⟨a, a1, a2, a3⟩ := R.b1
    obtain ⟨t, t1, t2, t3⟩ := h.any a
    by_cases c : best ≤ w
    · exact c
    · exact absurd t3 (a3 t t1 (by omega))
  have dn : w ≤ best := by
    obtain ⟨d, hd⟩ := h.at_
    have p0 : 0 ≤ d % b := Int.emod_nonneg _ (by omega)
    have p1 : d % b < b := Int.emod_lt_of_pos _ (by omega)
    have e := Int.mul_ediv_add_emod d b
    refine R.b2 (d % b) w p0 (by omega) fun t h1 h2 h3 => hd (t + b * (d / b)) (by omega) (by omega) ?_
    show (t + b * (d / b)) % b ∈ ls
    rw [Int.add_mul_emod_self_left]
    exact h3
  omega
end
end Mk

/-! widest; the longest stretch. -/
namespace Mk
open PySem PySem.Spec PyProof.Rows L2 Md Tr
theorem w_zip {g h : ET} {ε : TEnv} {PI : List D → Option Nat → TEnv → Prop} {X : Str → D → TEnv → Prop} : qI (itZip (.ex g) (.ex h) ε) PI X ↔ qA (evA [.ex g, .ex h] ε) (fun ads ε1 => qL ε1 ads fun ds => qHd2 ds fun d e => qLst d fun xs => qLst e fun ys => PI (zipD xs ys) none ε1) X := by
  unfold itZip qI qA
  rw [qR_bind]
  cases evA [.ex g, .ex h] ε with
  | none => exact Iff.rfl
  | some r =>
    cases r with
    | ex c d ε2 => exact Iff.rfl
    | ok ads ε1 =>
      dsimp only [qR]
      unfold qL
      cases late ε1 ads with
      | none => exact Iff.rfl
      | some ds =>
        match ds with
        | [] => exact Iff.rfl
        | [d] => cases d <;> exact Iff.rfl
        | d :: e :: _ :: _ => cases d <;> first | exact Iff.rfl | (cases e <;> exact Iff.rfl)
        | [d, e] =>
          cases d with
          | lst xs =>
            cases e with
            | lst ys =>
              dsimp only [qHd2, qLst]
              rw [if_pos ⟨rfl, rfl⟩]
            | _ => exact Iff.rfl
          | _ => exact Iff.rfl
theorem qO_max_ints {a : Int} {ks : List Int} {PO : D → Bool → Prop} : qO (fMax [.lst ((a :: ks).map D.int)]) PO ↔ PO (.int (ks.foldl max a)) false := by
  unfold fMax
  dsimp only
  rw [toIs_ints]
  exact Iff.rfl
theorem foldl_max : ∀ (ks : List Int) (a : Int), (a ≤ ks.foldl max a ∧ ∀ k ∈ ks, k ≤ ks.foldl max a) ∧ (ks.foldl max a = a ∨ ks.foldl max a ∈ ks)
  | [], a => ⟨⟨Int.le_refl _, fun k h => (nomatch h)⟩, .inl rfl⟩
  | k :: ks, a => by
    have ih := foldl_max ks (max a k)
    rw [List.foldl_cons]
    refine ⟨⟨by have := ih.1.1; omega, fun j hj => ?_⟩, ?_⟩
    · rcases List.mem_cons.mp hj with rfl | hj
      · have := ih.1.1
        omega
      · exact ih.1.2 j hj
    · rcases ih.2 with h | h
      · by_cases c : a ≤ k
        · have e : max a k = k := by omega
          rw [e] at h ⊢
          exact .inr (by rw [h]; exact List.mem_cons_self ..)
        · have e : max a k = a := by omega
          rw [e] at h ⊢
          exact .inl h
      · exact .inr (List.mem_cons_of_mem _ h)
/-- the greatest of some ints -/
structure MaxOf (ks : List Int) (m : Int) : Prop where
  mem : m ∈ ks
  le : ∀ k ∈ ks, k ≤ m
theorem qO_max_of {ks : List Int} {PO : D → Bool → Prop} (ne : ks ≠ []) (q : ∀ m, MaxOf ks m → PO (.int m) false) : qO (fMax [.lst (ks.map D.int)]) PO := by
  cases ks with
  | nil => exact absurd rfl ne
  | cons a l =>
    rw [qO_max_ints]
    have z := foldl_max l a
    refine q _ ⟨?_, fun k hk => ?_⟩
    · rcases z.2 with h | h
      · rw [h]; exact List.mem_cons_self ..
      · exact List.mem_cons_of_mem _ h
    · rcases List.mem_cons.mp hk with rfl | hk
      · exact z.1.1
      · exact z.1.2 k hk
theorem cutI_to {α : Type} {f : α → D} {l : List α} {i : Nat} : Tr.cutD (l.map f) none (some (i : Int)) = (l.take i).map f := by
  unfold Tr.cutD
  rw [HT.sIx_none, HT.sIx_nat, List.drop_zero, Nat.sub_zero, List.length_map, ← List.map_take]
  congr 1
  by_cases c : i ≤ l.length
  · rw [Nat.min_eq_left c]
  · rw [Nat.min_eq_right (by omega), List.take_length, List.take_of_length_le (by omega)]
theorem cutI_from {α : Type} {f : α → D} {l : List α} {i : Nat} : Tr.cutD (l.map f) (some (i : Int)) none = (l.drop i).map f := by
  unfold Tr.cutD
  rw [HT.sIx_none, HT.sIx_nat, List.length_map, ← List.map_drop, ← List.map_take]
  congr 1
  by_cases c : i ≤ l.length
  · rw [Nat.min_eq_left c, List.take_of_length_le (by rw [List.length_drop]; omega)]
  · rw [Nat.min_eq_right (by omega), List.drop_of_length_le (Nat.le_refl _), List.drop_of_length_le (by omega), List.take_nil]
theorem cutI_ft {α : Type} {f : α → D} {l : List α} {i j : Nat} (h : i ≤ l.length) : Tr.cutD (l.map f) (some (i : Int)) (some ((i : Int) + (j : Int))) = ((l.drop i).take j).map f := by
  unfold Tr.cutD
  rw [show ((i : Int) + (j : Int)) = ((i + j : Nat) : Int) by omega, HT.sIx_nat, HT.sIx_nat, List.length_map, Nat.min_eq_left h, ← List.map_drop, ← List.map_take]
  congr 1
  by_cases c : i + j ≤ l.length
  · rw [Nat.min_eq_left c]
    congr 1
    omega
  · rw [Nat.min_eq_right (by omega), List.take_of_length_le (by rw [List.length_drop]; omega), List.take_of_length_le (by rw [List.length_drop]; omega)]
theorem zipD_ints : ∀ xs ys : List Int, zipD (xs.map D.int) (ys.map D.int) = (xs.zip ys).map fun p => D.tup [.int p.1, .int p.2]
  | [], _ => by cases ‹List Int› <;> rfl
  | _ :: _, [] => rfl
  | x :: xs, y :: ys => by
    show D.tup [.int x, .int y] :: zipD (xs.map D.int) (ys.map D.int) = _
    rw [zipD_ints xs ys]
    rfl
theorem ml_max (l m : Int) : (if m > l then m else l) = max l m := by
  split <;> omega
section
variable {c : Nat} {d : D} {P : D → Bool → TEnv → Prop} {X : Str → D → TEnv → Prop} {b : Int} {ls : List Int}
theorem w_widest (L : Lot b ls) (q0 : ls = [] → P .non false [some (ltD b ls, 0)]) (q : ls ≠ [] → ∀ w, WideS (dayS b ls) w → P (.int w) false [some (ltD b ls, 0)]) : qE (F_widest [some (ltD b ls, 0)]) P X := by
  have lo := L.lo
  have hi := L.hi
  have len := L.len
  unfold F_widest
  rw [qE_defT]
  with_reducible refine ⟨rfl, rfl, ?_⟩
  simp only [List.replicate, List.cons_append, List.nil_append]
  walk_at "EX"
  with_reducible refine w_lot L rfl ?_
  walk_at "EX"
  by_cases e : ls = []
  · have em : (ls.map D.int).isEmpty = true := by rw [e]; rfl
    rw [em]
    walk_at "EX"
    exact q0 e
  have em : (ls.map D.int).isEmpty = false := by
    cases ls with
    | nil => exact absurd rfl e
    | cons a l => rfl
  have h1 : 1 ≤ ls.length := List.length_pos_iff.mpr e
  have h0 : (ls.map D.int)[0]? = some (.int (ls.headD 0)) := by
    cases ls with
    | nil => exact absurd rfl e
    | cons a l => rfl
  have e0 : (0 : Int) = ((0 : Nat) : Int) := rfl
  have ct : Tr.cutD (ls.map D.int) (some 1) none = ls.tail.map D.int := by
    have := cutI_from (f := D.int) (l := ls) (i := 1)
    rw [List.drop_one] at this
    exact this
  have fl := fol_len (b := b) e
  have ef : ls.tail.map D.int ++ [D.int (ls.headD 0 + b)] = (folL b ls).map D.int := by rw [List.map_append]; rfl
  rw [em]
  walk_at "EX"
  rw [ct, e0, qO_ixl h0]
  walk_at "EX"
  rw [ef]
  refine ⟨by rw [List.length_map, List.length_tail]; show ls.length - 1 + 1 ≤ 1000000; omega, ?_⟩
  rw [w_zip]
  walk_at "EX"
  rw [zipD_ints]
  refine ⟨True.intro, True.intro, ?_⟩
  refine qTn_map (fun p : Int × Int => D.int (p.2 - p.1)) (φ := fun p : Int × Int => D.tup [.int p.1, .int p.2]) ?_ (fun k hk => ?_) ?_
  · trivial
  · walk_at "EX"
    exact ⟨True.intro, True.intro⟩
  have e2 : ((ls.zip (folL b ls)).map fun p : Int × Int => D.int (p.2 - p.1)) = (((ls.zip (folL b ls)).map fun p => p.2 - p.1)).map D.int := by rw [List.map_map]; rfl
  rw [e2]
  have lz : (ls.zip (folL b ls)).length = ls.length := by rw [List.length_zip, fl, Nat.min_self]
  walk_at "EX"
  refine ⟨by rw [List.length_map, List.length_map, lz]; show ls.length ≤ 1000000; omega, ?_⟩
  refine qO_max_of (fun h => by
    have := congrArg List.length h
    rw [List.length_map, lz, List.length_nil] at this
    omega) fun m hm => ?_
  walk_at "EX"
  have mem : ∀ (i : Nat) (r f : Int), ls[i]? = some r → (folL b ls)[i]? = some f → f - r ∈ (ls.zip (folL b ls)).map fun p => p.2 - p.1 := fun i r f hr hf => by
    refine List.mem_map.mpr ⟨(r, f), List.mem_of_getElem? (i := i) ?_, rfl⟩
    exact List.getElem?_zip_eq_some.mpr ⟨hr, hf⟩
  refine q e (m - 1) (wide_of_next L e (fun i r f hr hf => by have := hm.le _ (mem i r f hr hf); omega) ?_)
  obtain ⟨p, hp, e3⟩ := List.mem_map.mp hm.mem
  obtain ⟨i, hi⟩ := List.mem_iff_getElem?.mp hp
  have z := List.getElem?_zip_eq_some.mp hi
  exact ⟨i, p.1, p.2, z.1, z.2, by omega⟩
theorem marks2_at {i : Nat} {y : D} (h : 1 ≤ b) (hy : ((marksL b ls).map D.bl ++ (marksL b ls).map D.bl)[i]? = some y) : y = .bl (decide ((i : Int) % b ∈ ls)) := by
  have el : ((marksL b ls).map D.bl).length = b.toNat := by rw [List.length_map, List.length_map, List.length_map, List.length_range]
  have hi := (List.getElem?_eq_some_iff.mp hy).1
  rw [List.length_append, el] at hi
  obtain ⟨ek, gk⟩ := marks_at (ls := ls) h (i : Int)
  by_cases c : i < b.toNat
  · rw [List.getElem?_append_left (by omega)] at hy
    have e : ((i : Int) % b).toNat = i := by rw [Int.emod_eq_of_lt (by omega) (by omega)]; omega
    rw [e, hy] at gk
    exact Option.some.inj gk
  · rw [List.getElem?_append_right (by omega), el] at hy
    have e : ((i : Int) % b).toNat = i - b.toNat := by
      rw [← Int.sub_emod_right, Int.emod_eq_of_lt (by omega) (by omega)]
      omega
    rw [e, hy] at gk
    exact Option.some.inj gk
theorem w_longest {w : Int} (L : Lot b ls) (ne : ls ≠ []) (hw : WideS (dayS b ls) w) (q : P (.int w) false [some (.lst ((marksL b ls).map D.bl), 2)]) : qE (F__law_mk_longest [some (.lst ((marksL b ls).map D.bl), 2)]) P X := by
  have lo := L.lo
  have hi := L.hi
  have el : ((marksL b ls).map D.bl).length = b.toNat := by rw [List.length_map, List.length_map, List.length_map, List.length_range]
  unfold F__law_mk_longest
  rw [qE_defT]
  with_reducible refine ⟨rfl, rfl, ?_⟩
  simp only [List.replicate, List.cons_append, List.nil_append]
  walk_at "EX"
  with_reducible refine w_forT ?_
  walk_at "EX"
  refine ⟨by rw [el]; show b.toNat + b.toNat ≤ 1000000; omega, ?_⟩
  refine qLp_ind (fun i ε => ∃ (best now : Int) (s3 : Slot), ε = [some (.lst ((marksL b ls).map D.bl), 2), some (.int best, 0), some (.int now, 0), s3] ∧ ShS s3 ∧ Runs b ls i best now) 0 ⟨0, 0, none, rfl, .inl rfl, Runs.zero⟩ ?_ ?_
  · rintro i y ε hy ⟨best, now, s3, rfl, o3, R⟩
    rw [Nat.zero_add] at R ⊢
    rw [marks2_at lo hy]
    walk_at "EX"
    rw [qPut_sh o3]
    walk_at "EX"
    with_reducible refine qB_cases (fun c2 => ?_) fun n2 => ?_
    · walk_at "EX"
      rw [ml_max]
      exact ⟨True.intro, _, _, _, rfl, .inr ⟨_, rfl⟩, R.yes c2⟩
    · walk_at "EX"
      rw [ml_max]
      exact ⟨True.intro, _, _, _, rfl, .inr ⟨_, rfl⟩, R.no n2⟩
  · rintro ε ⟨best, now, s3, rfl, o3, R⟩
    rw [Nat.zero_add, List.length_append, el, show ((b.toNat + b.toNat : Nat) : Int) = b + b by omega] at R
    rw [R.wide L ne hw]
    walk_at "EX"
    exact q
end
end Mk

/-! k06: widest waits. -/
namespace K06
open PySem PySem.Spec PyProof.Rows L2 Md Tr Mk
theorem qO_isN_n {PO : D → Bool → Prop} : qO (fIs [.non, .non]) PO ↔ PO (.bl true) false := Iff.rfl
theorem qO_isNotN_n {PO : D → Bool → Prop} : qO (fIsNot [.non, .non]) PO ↔ PO (.bl false) false := Iff.rfl
section
variable {c : Nat} {d : D} {P : D → Bool → TEnv → Prop} {X : Str → D → TEnv → Prop} {nx : TEnv → Prop} {rt : D → Bool → TEnv → Prop} {bk ct : TEnv → Prop} {b w far : Int} {ls : List Int} {r : Nat} {s10 s11 : Slot}
theorem wide_one : WideS (dayS 1 [0]) 0 := ⟨by decide, fun d => ⟨d, by omega, by omega, by show d % 1 ∈ [0]; rw [Int.emod_one]; simp⟩, 0, fun t h1 h2 => by omega⟩
theorem lot_one : Lot 1 [0] := ⟨by decide, by decide, List.pairwise_singleton .., fun k hk => by rw [List.mem_singleton.mp hk]; exact ⟨by decide, by decide⟩⟩
theorem lot_last (h1 : 1 ≤ b) (h2 : b ≤ 5040) : Lot b [b - 1] := ⟨h1, h2, List.pairwise_singleton .., fun k hk => by rw [List.mem_singleton.mp hk]; omega⟩
theorem wide_last (h1 : 1 ≤ b) : WideS (dayS b [b - 1]) (b - 1) := ⟨by omega, fun d => by
  have p0 : 0 ≤ d % b := Int.emod_nonneg _ (by omega)
  have p1 : d % b < b := Int.emod_lt_of_pos _ (by omega)
  have e := Int.mul_ediv_add_emod d b
  refine ⟨d + (b - 1 - d % b), by omega, by omega, ?_⟩
  show (d + (b - 1 - d % b)) % b ∈ [b - 1]
  rw [show d + (b - 1 - d % b) = (b - 1) + b * (d / b) by omega, Int.add_mul_emod_self_left, Int.emod_eq_of_lt (by omega) (by omega)]
  exact List.mem_singleton.mpr rfl, 0, fun t t1 t2 h => by
  have h : t % b ∈ [b - 1] := h
  rw [Int.emod_eq_of_lt t1 (by omega), List.mem_singleton] at h
  omega⟩
/-- what the waits tell -/
structure Waits (b w : Int) (ls zs ws : List Int) : Prop where
  len : ws.length = zs.length
  le : ∀ k ∈ ws, k ≤ w
  hit : ∀ z ∈ zs, (∀ (q t : Int), IsNext b ls (b * q + z + 1) t → t - (b * q + z + 1) = w) → w ∈ ws
theorem Waits.nil : Waits b w ls [] [] := ⟨rfl, fun k h => (nomatch h), fun k h => (nomatch h)⟩
theorem Waits.snoc {zs ws : List Int} {z t q0 : Int} (W : Waits b w ls zs ws) (hw : WideS (dayS b ls) w) (n : IsNext b ls (b * q0 + z + 1) t) : Waits b w ls (zs ++ [z]) (ws ++ [t - (b * q0 + z + 1)]) := by
  refine ⟨by rw [List.length_append, List.length_append, W.len]; rfl, fun k hk => ?_, fun y hy g => ?_⟩
  · rcases List.mem_append.mp hk with hk | hk
    · exact W.le k hk
    · rw [List.mem_singleton.mp hk]
      exact hw.next n
  · rcases List.mem_append.mp hy with hy | hy
    · exact List.mem_append_left _ (W.hit y hy g)
    · rw [List.mem_singleton.mp hy] at g
      exact List.mem_append_right _ (by rw [g q0 t n]; exact List.mem_singleton.mpr rfl)
theorem wd_none (h : P .non false [some (.tup [.int 1, .lst []], 0)]) : qE (F_widest [some (.tup [.int 1, .lst []], 0)]) P X := w_widest (b := 1) (ls := []) (Lot.none (by decide) (by decide)) (fun _ => h) fun n _ _ => absurd rfl n
theorem wd_all (h : P (.int 0) false [some (.tup [.int 1, .lst [.int 0]], 0)]) : qE (F_widest [some (.tup [.int 1, .lst [.int 0]], 0)]) P X := w_widest (b := 1) (ls := [0]) lot_one (fun e => nomatch e) fun _ w1 h1 => by
  have e1 := h1.eq wide_one fun _ => Iff.rfl
  subst e1
  exact h
theorem wd_last (b1 : 1 ≤ b) (b2 : b ≤ 5040) (h : P (.int (b - 1)) false [some (.tup [.int b, .lst [.int (b - 1)]], 0)]) : qE (F_widest [some (.tup [.int b, .lst [.int (b - 1)]], 0)]) P X := w_widest (b := b) (ls := [b - 1]) (lot_last b1 b2) (fun e => nomatch e) fun _ w1 h1 => by
  have e1 := h1.eq (wide_last b1) fun _ => Iff.rfl
  subst e1
  exact h
end
theorem w_right {d : D} {P : D → Bool → TEnv → Prop} {X : Str → D → TEnv → Prop} (hd : PurseD 0 d) (q : ∀ ε, P (.bl true) false ε) : qE (F__law_right [some (d, 2)]) P X := by
  unfold F__law_right
  rw [qE_defT]
  with_reducible refine ⟨rfl, rfl, ?_⟩
  simp only [List.replicate, List.cons_append, List.nil_append]
  walk_at "EX"
  with_reducible refine w_base hd (by omega) fun b d1 b1 b2 hd1 => ?_
  walk_at "EX"
  with_reducible refine w_leaves hd1 (by omega) b1 b2 fun ls fl d2 L hd2 => ?_
  walk_at "EX"
  rw [qO_repr_lot L]
  walk_at "EX"
  with_reducible refine w_marks L rfl ?_
  walk_at "EX"
  have okn : okDs 1 (ls.map D.int) = true := okDs_ints L.small
  with_reducible refine w_widest L (fun e => ?_) fun ne w hw => ?_
  · have em : (ls.map D.int).isEmpty = true := by rw [e]; rfl
    walk_at "EX"
    rw [qO_eq_nil okn (by decide), em]
    walk_at "EX"
    rw [qO_isN_n]
    walk_at "EX"
    with_reducible refine w_widest L (fun _ => ?_) fun ne _ _ => absurd e ne
    walk_at "EX"
    rw [qO_isN_n]
    walk_at "EX"
    rw [qO_repr_lot L]
    walk_at "EX"
    exact q _
  have em : (ls.map D.int).isEmpty = false := by
    cases ls with
    | nil => exact absurd rfl ne
    | cons a l => rfl
  walk_at "EX"
  rw [qO_eq_nil okn (by decide), em]
  walk_at "EX"
  with_reducible refine w_longest L ne hw ?_
  walk_at "EX"
  with_reducible refine w_isint ?_
  walk_at "EX"
  have wid : ∀ {P : D → Bool → TEnv → Prop} {X : Str → D → TEnv → Prop}, P (.int w) false [some (ltD b ls, 0)] → qE (F_widest [some (ltD b ls, 0)]) P X := fun {P X} h => w_widest L (fun e => absurd e ne) fun _ w' hw' => by
    obtain rfl : w = w' := hw.eq hw' fun _ => Iff.rfl
    exact h
  with_reducible refine wid ?_
  have hpos : 1 ≤ ls.length := List.length_pos_iff.mpr ne
  have hlen := L.len
  have ell : ((ls.map D.int).length : Int) = (ls.length : Int) := by rw [List.length_map]
  have lw := hw.lt L ne
  have e26 : (10 : Int) ^ Int.toNat 26 = 10 ^ 26 := rfl
  walk_at "EX"
  rw [ell]
  with_reducible refine w_coinN (m := (ls.length : Int)) hd2 (by omega) (by omega) (by omega) fun r d3 t3 hd3 => ?_
  walk_at "EX"
  refine ⟨.inr ⟨by decide, by decide, by decide⟩, ?_⟩
  rw [e26]
  with_reducible refine w_coinN (m := 2) hd3 (by omega) (by omega) (by omega) fun r2 d4 t4 hd4 => ?_
  have get : ∃ m : Int, ([D.int 2, D.int (10 ^ 26)] : List D)[r2]? = some (.int m) ∧ 1 ≤ m ∧ m ≤ 10 ^ 26 := by
    have z : r2 = 0 ∨ r2 = 1 := by omega
    rcases z with rfl | rfl
    · exact ⟨2, rfl, by decide, by decide⟩
    · exact ⟨10 ^ 26, rfl, by decide, by decide⟩
  obtain ⟨m, get, m1, m2⟩ := get
  walk_at "EX"
  rw [qO_ixl get]
  walk_at "EX"
  with_reducible refine w_coin (m := m) hd4 (by omega) m1 (by omega) fun far d5 r0 r1 hd5 => ?_
  walk_at "EX"
  refine ⟨⟨wide_of (by omega), wide_of (by omega)⟩, ?_⟩
  have hr : r < ls.length := by omega
  have c1 : Tr.cutD (ls.map D.int) (some (r : Int)) (some ((r : Int) + 40)) = ((ls.drop r).take 40).map D.int := cutI_ft (j := 40) (by omega)
  have c2 : Tr.cutD (ls.map D.int) none (some (r : Int)) = (ls.take r).map D.int := cutI_to
  have c3 : Tr.cutD ((ls.take r).map D.int) none (some 40) = ((ls.take r).take 40).map D.int := cutI_to (i := 40)
  have l1 : ((ls.drop r).take 40).length ≤ 40 := by rw [List.length_take]; omega
  have l2 : ((ls.take r).take 40).length ≤ 40 := by rw [List.length_take]; omega
  have f0 : 0 ≤ b * far := Int.mul_nonneg (by omega) r0
  have f1 : b * far ≤ 5040 * 10 ^ 26 := by
    have h1 := Int.mul_le_mul_of_nonneg_right b2 r0
    have h2 := Int.mul_le_mul_of_nonneg_left (show far ≤ 10 ^ 26 by omega) (show (0 : Int) ≤ 5040 by decide)
    omega
  with_reducible refine w_forT ?_
  walk_at "EX"
  rw [c1, c2, c3]
  refine ⟨by rw [List.length_map, List.length_map]; show _ ≤ 1000000; omega, ?_⟩
  rw [← List.map_append]
  have zne : (ls.drop r).take 40 ++ (ls.take r).take 40 ≠ [] := fun h => by
    have := congrArg List.length h
    rw [List.length_append, List.length_take, List.length_drop, List.length_nil] at this
    omega
  have zin : ∀ z ∈ (ls.drop r).take 40 ++ (ls.take r).take 40, z ∈ ls := fun z hz => by
    rcases List.mem_append.mp hz with hz | hz
    · exact List.mem_of_mem_drop (List.mem_of_mem_take hz)
    · exact List.mem_of_mem_take (List.mem_of_mem_take hz)
  have zall : ls.length ≤ 40 → ∀ z ∈ ls, z ∈ (ls.drop r).take 40 ++ (ls.take r).take 40 := fun h z hz => by
    rw [List.take_of_length_le (by rw [List.length_drop]; omega), List.take_of_length_le (by rw [List.length_take]; omega)]
    rw [← List.take_append_drop r ls] at hz
    rcases List.mem_append.mp hz with hz | hz
    · exact List.mem_append_right _ hz
    · exact List.mem_append_left _ hz
  have zlen : ((ls.drop r).take 40 ++ (ls.take r).take 40).length ≤ 80 := by rw [List.length_append]; omega
  generalize (ls.drop r).take 40 ++ (ls.take r).take 40 = zs at zne zin zall zlen ⊢
  refine qLp_ind (fun i ε => ∃ (ws : List Int) (s10 s11 : Slot), ε = [some (d5, 2), some (.int b, 0), some (ltD b ls, 0), some (.str (shownD (ltD b ls)), 0), some (.lst ((marksL b ls).map D.bl), 1), some (.int w, 0), some (.int w, 0), some (.int (r : Int), 0), some (ilD ws, 1), some (.int (b * far), 0), s10, s11] ∧ ShS s10 ∧ ShS s11 ∧ Waits b w ls (zs.take i) ws) 0 ⟨[], none, none, rfl, .inl rfl, .inl rfl, Waits.nil⟩ ?_ ?_
  · rintro i y ε hy ⟨ws, s10, s11, rfl, o10, o11, W⟩
    rw [Nat.zero_add] at W ⊢
    rw [List.getElem?_map, Option.map_eq_some_iff] at hy
    obtain ⟨z, hz, rfl⟩ := hy
    have wz := L.wi z (zin z (List.mem_of_getElem? hz))
    walk_at "EX"
    rw [qPut_sh o10]
    walk_at "EX"
    rw [qPut_sh o11]
    walk_at "EX"
    refine ⟨True.intro, ?_⟩
    with_reducible refine Mk.w_next L (by omega) (by omega) (fun e => absurd e ne) fun t ht => ?_
    walk_at "EX"
    refine ⟨True.intro, by rw [List.length_map, W.len, List.length_take]; show _ ≤ 1000000; omega, True.intro, ws ++ [t - (b * far + z + 1)], some (.int z, 0), some (.int (b * far + z + 1), 0), ?_, .inr ⟨_, rfl⟩, .inr ⟨_, rfl⟩, ?_⟩
    · show _ = [_, _, _, _, _, _, _, _, some (D.lst ((ws ++ [t - (b * far + z + 1)]).map D.int), 1), _, _, _]
      rw [List.map_append]
      rfl
    · rw [List.take_add_one, hz]
      exact W.snoc hw ht
  · rintro ε ⟨ws, s10, s11, rfl, o10, o11, W⟩
    rw [Nat.zero_add, List.length_map, List.take_length] at W
    have wne : ws ≠ [] := fun h => by
      have := W.len
      rw [h, List.length_nil] at this
      exact zne (List.length_eq_zero_iff.mp this.symm)
    have mx : ∀ m, MaxOf ws m → m ≤ w ∧ (ls.length ≤ 40 → m = w) := fun m hm => by
      have m1 := W.le m hm.mem
      refine ⟨m1, fun h => ?_⟩
      obtain ⟨r0, hr0, g⟩ := hw.some L ne
      have := hm.le w (W.hit r0 (zall h r0 hr0) g)
      omega
    walk_at "EX"
    refine qO_max_of wne fun m hm => ?_
    walk_at "EX"
    with_reducible refine qB_cases (fun c4 => ?_) fun n4 => ?_
    · have := (mx m hm).1
      omega
    walk_at "EX"
    rw [ell]
    have wl : ∀ {P : D → Bool → TEnv → Prop} {X : Str → D → TEnv → Prop} {m : Int} {ms : List Int}, Lot m ms → (∀ t, t % m ∈ ms ↔ t % b ∈ ls) → P (.int w) false [some (ltD m ms, 0)] → qE (F_widest [some (ltD m ms, 0)]) P X := fun {P X m ms} M same h => w_widest M (fun e => by
      exfalso
      obtain ⟨r0, hr0⟩ := List.exists_mem_of_ne_nil ls ne
      have wr := L.wi r0 hr0
      have := (same r0).mpr (by rw [Int.emod_eq_of_lt wr.1 wr.2]; exact hr0)
      rw [e] at this
      exact nomatch this) fun _ w' hw' => by
      obtain rfl : w = w' := hw.eq hw' fun t => (same t).symm
      exact h
    with_reducible refine qB_cases (fun c5 => ?_) fun n5 => ?_
    · walk_at "EX"
      refine qO_max_of wne fun m' hm' => ?_
      walk_at "EX"
      have em' := (mx m' hm').2 (by omega)
      rw [em', decide_eq_true (rfl : w = w)]
      walk_at "EX"
      with_reducible refine w_lotF b1 b2 (by omega) rfl fun o ho => ?_
      walk_at "EX"
      have Lm : Lot (b / o) (modsL (b / o) (modsL b ls)) := mods_lot (by rw [mods_self L] at ho; exact ho.of.pos L) (Int.le_trans (Int.ediv_le_self _ (by omega)) b2)
      with_reducible refine wl Lm (fun t => by rw [mods_self L] at ho ⊢; exact ho.of.days L t) ?_
      walk_at "EX"
      with_reducible refine wd_none ?_
      walk_at "EX"
      rw [qO_isNotN_n]
      walk_at "EX"
      with_reducible refine wd_all ?_
      walk_at "EX"
      with_reducible refine wd_last b1 b2 ?_
      walk_at "EX"
      rw [qO_repr_lot L]
      walk_at "EX"
      exact q _
    · walk_at "EX"
      with_reducible refine w_lotF b1 b2 (by omega) rfl fun o ho => ?_
      walk_at "EX"
      have Lm : Lot (b / o) (modsL (b / o) (modsL b ls)) := mods_lot (by rw [mods_self L] at ho; exact ho.of.pos L) (Int.le_trans (Int.ediv_le_self _ (by omega)) b2)
      with_reducible refine wl Lm (fun t => by rw [mods_self L] at ho ⊢; exact ho.of.days L t) ?_
      walk_at "EX"
      with_reducible refine wd_none ?_
      walk_at "EX"
      rw [qO_isNotN_n]
      walk_at "EX"
      with_reducible refine wd_all ?_
      walk_at "EX"
      with_reducible refine wd_last b1 b2 ?_
      walk_at "EX"
      rw [qO_repr_lot L]
      walk_at "EX"
      exact q _
end K06

/-! The law's end: what its right promises, by what is told of it. -/
namespace Mk
open PySem PySem.Spec PyProof.Rows L2 Md Tr
def PurAt (H : Hp) (p : Addr) : Prop := ∃ p0 p1 p2 : Int, H p = some (.lst [.int p0, .int p1, .int p2]) ∧ 0 ≤ p0 ∧ 0 ≤ p1 ∧ p1 < 10 ^ 24 + 7 ∧ 0 ≤ p2 ∧ p2 ≤ 0
/-- all but the object at p is as it was -/
def KeepP (p : Addr) (H H' : Hp) : Prop := ∀ b o, H b = some o → b ≠ p → H' b = some o
def spRightE : Sp := fun vs H Q _ => ∃ p, vs = [.ref p] ∧ PurAt H p ∧ ∀ H', KeepP p H H' → Q (.bl true) H'
theorem FnG.imp {P : Program} {w : World} {K : PySem.W.Frag} {mg : Str → Option Value} {base : Heap} {CX : CXT} {k : Nat} {f : Addr} {fd : FuncData} {ps : List Str} {sp sp' : Sp} (F : FnG P w K mg base CX k f fd ps sp) (h : ∀ vs H Q E, sp' vs H Q E → sp vs H Q E) : FnG P w K mg base CX k f fd ps sp' :=
  ⟨fun vs H Q E z => F.many vs H Q E (h vs H Q E z), fun A around st H ag us vs Q E g r e b v z => F.goes A around st H ag us vs Q E g r e b v (h vs H Q E z)⟩
/-- no error leaves -/
theorem FnG.to0 {P : Program} {w : World} {K : PySem.W.Frag} {mg : Str → Option Value} {base : Heap} {k : Nat} {f : Addr} {fd : FuncData} {ps : List Str} {sp sp' : Sp} (F : FnG P w K mg base (L2.CX P w) k f fd ps sp) (h : ∀ vs H Q E, sp' vs H Q E → sp vs H Q fun _ _ _ => False) : FnG P w K mg base CX0 k f fd ps sp' := by
  refine ⟨fun vs H Q E z => F.many vs H Q _ (h vs H Q E z), fun A around st H ag us vs Q E g r e b v z => ?_⟩
  refine codeAny_mono (F.goes A around st H ag us vs Q _ g r e b v (h vs H Q E z)) fun r s c => ?_
  match r, c with
  | .ok (.ret u), c => exact c
  | .error e, c =>
    obtain ⟨_, _, _, _, _, _, _, _, _, _, _, _, n⟩ := c
    exact n.elim
/-- a def that shows data, as its callers see it -/
structure GAtE (P : Program) (w : World) (K : PySem.W.Frag) (mg : Str → Option Value) (base : Heap) (x : Str) (f : Addr) (fd : FuncData) (ps : List Str) (n : Nat) (sp : Sp) : Prop where
  ok : ∀ k, FnG P w K mg base CX0 (k + n) f fd ps sp
  mg : mg x = some (.ref f)
  kp : PySem.W.keepIn K (.ref f) = true
  b : Binds K fd ps []
/-- a def by hand -/
structure DefAtE (P : Program) (w : World) (K : PySem.W.Frag) (mg : Str → Option Value) (base : Heap) (x : Str) (f : Addr) (fd : FuncData) (ps : List Str) (n : Nat) (sp : Sp) : Prop where
  ok : ∀ k, FnOk P w K mg base CX0 (k + n) f fd ps sp
  mg : mg x = some (.ref f)
  kp : PySem.W.keepIn K (.ref f) = true
  b : Binds K fd ps []
theorem right_of {P : Program} {w : World} {K : PySem.W.Frag} {mg : Str → Option Value} {base : Heap} {ca : CA} {x : Str} {f : Addr} {fd : FuncData} {ps : List Str} {n : Nat} {F : ET} (T : DefT P w K mg base ca f fd ps n F) (l : ps.length = 1) (hm : mg x = some (.ref f))
    (h : ∀ d, PurseD 0 d → qE (F [some (d, 2)]) (fun v b _ => v = .bl true ∧ b = false) fun _ _ _ => False) : GAtE P w K mg base x f fd ps n spRightE := by
  refine ⟨fun k => FnG.to0 (T.ok k) ?_, hm, T.kp, T.b⟩
  rintro vs H Q E ⟨p, rfl, ⟨p0, p1, p2, hp, a0, a1, a2, a3, a4⟩, q⟩
  refine ⟨l.symm, fun _ => False, [some (.lst [.int p0, .int p1, .int p2], 2)], ?_⟩
  have hF := h (.lst [.int p0, .int p1, .int p2]) ⟨p0, p1, p2, rfl, a0, a1, a2, a3, a4⟩
  unfold qE at hF
  have own : ∀ a, Own [some (V.ref p)] [some (D.lst [.int p0, .int p1, .int p2], 2)] a → a = p := by
    rintro a ⟨i, d, k, h1, h2, h3⟩
    match i with
    | 0 =>
      have : some (some (V.ref p)) = some (some (V.ref a)) := h3
      cases this
      rfl
    | i + 1 => simp at h1
  have env : EnvR K ca (fun _ => False) H [some (V.ref p)] [some (D.lst [.int p0, .int p1, .int p2], 2)] := by
    refine ⟨rfl, ?_, ?_, ?_, fun a z => z.elim⟩
    · intro i d k h1 h2
      match i with
      | 0 =>
        have : some (some (D.lst [.int p0, .int p1, .int p2], 2)) = some (some (d, k)) := h1
        cases this
        cases h2
      | i + 1 => simp at h1
    · intro i d k h1 h2
      match i with
      | 0 =>
        have : some (some (D.lst [.int p0, .int p1, .int p2], 2)) = some (some (d, k)) := h1
        cases this
        exact ⟨p, rfl, fun z => z, _, hp, .cons (.int _) (.cons (.int _) (.cons (.int _) .nil))⟩
      | i + 1 => simp at h1
    · intro i j d k d' k' a h1 h2 h3 h4 h5 h6
      match i, j with
      | 0, 0 => rfl
      | 0, j + 1 => simp at h3
      | i + 1, _ => simp at h1
  cases hr : F [some (D.lst [.int p0, .int p1, .int p2], 2)] with
  | none => rw [hr] at hF; exact hF.elim
  | some r =>
    rw [hr] at hF
    cases r with
    | ex c d ε => exact hF.elim
    | ok y ε =>
      obtain ⟨v, b⟩ := y
      obtain ⟨e1, e2⟩ := hF
      dsimp only at e1 e2
      subst e1 e2
      refine ⟨_, env, rfl, fun v H' s rr => ?_⟩
      have ev : v = .bl true := by
        have rr : Rep K ca _ H' v (.bl true) := rr
        cases rr
        rfl
      subst ev
      exact q H' fun b o hb ne => s.fr b o hb fun z => ne (own b z)
def spPurE (K : PySem.W.Frag) : Sp := fun vs H Q _ => ∃ (a : Addr) (ns : List Int) (i : Nat), vs = [.ref a, .int i] ∧ SqL K H a (ns.map V.int) ∧ ∀ p H', H p = none → PurAt H' p → Same H H' → Q (.ref p) H'
def spLawE (K : PySem.W.Frag) : Sp := fun vs H Q _ => ∃ (a : Addr) (ns : List Int), vs = [.ref a] ∧ SqL K H a (ns.map V.int) ∧ ns.length ≤ 63 ∧ ∀ H', Q (.bl true) H'
/-- what a dict of the module holds, one by one -/
def KVals (K : PySem.W.Frag) (ca : CA) (d : Addr) (kv : List (Str × D)) : Prop := ∀ z dd, kv.lookup z = some dd → ∃ v u, PySem.W.nsIn K d z = some (some u) ∧ RelV v u ∧ ∀ S H, Rep K ca S H v dd
end Mk

namespace Mk
open PySem PySem.Spec PyProof.Rows L2 Md Tr
theorem su_eq {C c : Str} {b b' : Bool} (h : subT C c = some b) (e : subT C c = some b') : b = b' := by
  rw [h] at e
  exact Option.some.inj e
end Mk

namespace K06
open PySem PySem.Spec PyProof.Rows L2 Md Tr Mk
abbrev sPurse : Stmt := top 13
abbrev sLaw : Stmt := top 24
abbrev sErr : Stmt := inClass (top 2) 0
section
variable {P : Program} {w : World} {K : PySem.W.Frag} {mg : Str → Option Value} {base : Heap}
theorem scPurse : FnScope ["script", "place", "cell"] ["script", "place"] (defScope sPurse) := ⟨rfl, rfl, rfl, by decide +kernel, rfl, by decide +kernel, by decide +kernel⟩
theorem ok_purse {f : Addr} {fd : FuncData} {k : Nat} (F : Fun K "_law_purse" "_law_purse" sPurse f fd) (B : Blt3 mg) : FnOk P w K mg base CX0 (k + 1) f fd ["script", "place"] (spPurE K) := by
  refine F.ok scPurse (fun vs H Q E h => ?_) (fun cdv A outer s H vs Q E hr h => ?_)
  · obtain ⟨a, ns, i, rfl, _⟩ := h
    rfl
  · obtain ⟨a, ns, i, rfl, hS, q⟩ := h
    refine ⟨_, pss_cons (ps_set (i := 2) scPurse.nd rfl (.inl rfl) (pe_ifExp (pt_cmpR op_lt (pv 1) (pe_callB call_len_seq (by rfl) B.len PySem.boot_len (pa_cons (pv 0) pa_nil)) (nomark _)) (pe_ix ix_list (pv 0) (pv 1) (fun _ _ => rfl)) pe_int))
      (pss_one (ps_ret (pe_lst (pa_cons (pe_callB (call_max2 rfl) (by rfl) B.max (by decide +kernel) (pa_cons pe_int (pa_cons (pe_op op_sub (pe_callB call_abs (by rfl) B.abs (by decide +kernel) (pa_cons (pv 2) pa_nil)) (pe_op op_pow pe_int pe_int)) pa_nil)))
        (pa_cons (pe_op op_mod (pe_callTy call_int1 (by rfl) B.int (by decide +kernel) (pa_cons (pe_op op_add (pe_op op_add (pe_op op_mul (pv 2) pe_int) (pe_op op_mul (pv 1) pe_int)) pe_int) pa_nil)) (pe_op op_add (pe_op op_pow pe_int pe_int) pe_int)) (pa_cons pe_int pa_nil)))))), ?_⟩
    -- cell
    refine ⟨_, rfl, .ref a, rfl, a, _, rfl, .inl hS, _, _, rfl, rfl, _, rfl, ?_⟩
    refine ite2 (fun e => ?_) (fun e => ?_)
    · have e1 : (i : Int) < ((ns.map V.int).length : Nat) := of_decide_eq_true e
      rw [List.length_map] at e1
      have e2 : i < ns.length := by omega
      refine ⟨_, rfl, _, rfl, a, _, _, .int ns[i], rfl, rfl, hS, atI_nat (by rw [List.getElem?_map, List.getElem?_eq_getElem e2]; rfl), ?_⟩
      generalize ns[i] = cell
      refine ⟨_, rfl, _, rfl, _, _, rfl, rfl, ⟨by decide, by decide, by decide⟩, _, _, rfl, rfl, _, _, rfl, ?_⟩
      refine ⟨_, rfl, _, _, rfl, rfl, .inr ⟨by decide, by decide⟩, _, rfl, _, _, rfl, rfl, .inr ⟨by decide, by decide⟩, _, _, rfl, rfl, _, _, rfl, rfl, .inl ⟨_, rfl, ?_⟩⟩
      refine ⟨_, _, rfl, rfl, ⟨by decide, by decide, by decide⟩, _, _, rfl, rfl, _, _, rfl, rfl, (by show (0 : Int) < 10 ^ 24 + 7; decide), by show 3 ≤ sizeLine; decide, fun p np => ?_⟩
      refine q p _ np ⟨_, _, 0, upd_same, ?_, ?_, ?_, by decide, by decide⟩ fun b o z => by rw [upd_ne (ne_of_none z np)]; exact z
      · split <;> omega
      · exact Int.emod_nonneg _ (by decide)
      · exact Int.emod_lt_of_pos _ (by decide)
    · refine ⟨_, rfl, _, rfl, _, _, rfl, rfl, ⟨by decide, by decide, by decide⟩, _, _, rfl, rfl, _, _, rfl, ?_⟩
      refine ⟨_, rfl, _, _, rfl, rfl, .inr ⟨by decide, by decide⟩, _, rfl, _, _, rfl, rfl, .inr ⟨by decide, by decide⟩, _, _, rfl, rfl, _, _, rfl, rfl, .inl ⟨_, rfl, ?_⟩⟩
      refine ⟨_, _, rfl, rfl, ⟨by decide, by decide, by decide⟩, _, _, rfl, rfl, _, _, rfl, rfl, (by show (0 : Int) < 10 ^ 24 + 7; decide), by show 3 ≤ sizeLine; decide, fun p np => ?_⟩
      refine q p _ np ⟨_, _, 0, upd_same, ?_, ?_, ?_, by decide, by decide⟩ fun b o z => by rw [upd_ne (ne_of_none z np)]; exact z
      · split <;> omega
      · exact Int.emod_nonneg _ (by decide)
      · exact Int.emod_lt_of_pos _ (by decide)
theorem scErr : FnScope ["self", "value"] ["self", "value"] (defScope sErr) := ⟨rfl, rfl, rfl, by decide +kernel, rfl, by decide +kernel, by decide +kernel⟩
theorem ok_err {f : Addr} {fd : FuncData} {k : Nat} (F : Fun K "__init__" "MarketError.__init__" sErr f fd) : FnOk P w K mg base CX0 (k + 1) f fd ["self", "value"] (spErr K) := by
  refine F.ok scErr (fun vs H Q E h => ?_) (fun cdv A outer s H vs Q E hr h => ?_)
  · obtain ⟨a, C, v, rfl, _⟩ := h
    rfl
  · obtain ⟨a, C, v, rfl, T, hno, ha, q⟩ := h
    refine ⟨_, pss_one (ps_ost (pv 0) (pv 1)), ?_⟩
    exact ⟨_, rfl, _, rfl, a, C, rfl, T, hno, .inl ⟨ha, fun dx n ne => q dx n ne⟩⟩
theorem scLaw : FnScope ["script", "spot", "purse"] ["script"] (defScope sLaw) := ⟨rfl, rfl, rfl, by decide +kernel, rfl, by decide +kernel, by decide +kernel⟩
theorem ok_law {f fP fR : Addr} {fd fdP fdR : FuncData} {k : Nat} (F : Fun K "law" "law" sLaw f fd) (PP : DefAtE P w K mg base "_law_purse" fP fdP ["script", "place"] 1 (spPurE K)) (R : GAtE P w K mg base "_law_right" fR fdR ["purse"] 5 spRightE) (B : Blt3 mg) :
    FnG P w K mg base CX0 (k + 6) f fd ["script"] (spLawE K) := by
  have GP := PP.ok (k + 4)
  have GR := R.ok k
  refine okG F scLaw (fun vs H Q E h => ?_) (fun cdv A outer s H vs Q E g hr h => ?_)
  · obtain ⟨a, ns, rfl, _⟩ := h
    rfl
  · obtain ⟨a, ns, rfl, hS, few, k0⟩ := h
    have nd := scLaw.nd
    refine ⟨_, pss_cons (ps_for PassesOwn.never rfl (pi_range1 rfl B.range (pa_cons (pe_callB (call_max2 rfl) (by rfl) B.max (by decide +kernel) (pa_cons pe_int (pa_cons (pe_callB (call_min2 rfl) (by rfl) B.min (by decide +kernel) (pa_cons pe_int (pa_cons (pe_callB call_len_seq (by rfl) B.len PySem.boot_len (pa_cons (pv 0) pa_nil)) pa_nil))) pa_nil))) pa_nil)) (pg_name (i := 1) nd rfl (.inl rfl))
        (pss_cons (ps_set (i := 2) nd rfl (.inl rfl) (pe_call GP hr (by rfl) PP.mg PP.kp PP.b .nil pass0 (pa_cons (pv 0) (pa_cons (pv 1) pa_nil))))
        (pss_one (ps_if (pt_not (pt_val (pe_callG GR g hr (by rfl) R.mg R.kp R.b pass0 (pa_cons (pv 2) pa_nil)))) (pss_one ps_never) pss_nil))))
      (pss_one (ps_ret pe_bl)), ?_⟩
    refine ⟨_, rfl, a, _, rfl, .inl hS, _, _, rfl, _, _, rfl, ?_⟩
    obtain ⟨v, ev, v0, v1⟩ : ∃ v : Int, (if (if ((ns.map V.int).length : Int) < 6 then ((ns.map V.int).length : Int) else 6) > 1 then (if ((ns.map V.int).length : Int) < 6 then ((ns.map V.int).length : Int) else 6) else 1) = v ∧ 0 ≤ v ∧ v ≤ 63 := by
      refine ⟨_, rfl, ?_, ?_⟩ <;> split <;> (try split) <;> omega
    rw [ev]
    refine ⟨v, rfl, by omega, by omega, for_range (lo := 0) (n := v.toNat) (fun i sl G => ∃ v1 v2, sl = [some (.ref a), v1, v2] ∧ Same H G) ⟨none, none, rfl, Same.refl H⟩ ?_ ?_⟩
    · rintro i sl G hi ⟨v1, v2, rfl, sG⟩
      refine ⟨_, rfl, _, rfl, a, ns, i, ?_, sG.seq hS, fun p H1 np hp s1 => ?_⟩
      · rw [Int.zero_add]
        rfl
      refine ⟨_, rfl, p, rfl, hp, fun H2 k2 => ⟨_, rfl, iteF ?_⟩⟩
      exact ⟨_, _, rfl, fun b u z => k2 b u (s1 b u (sG b u z)) (ne_of_none (sG b u z) np)⟩
    · rintro sl G ⟨v1, v2, rfl, sG⟩
      exact k0 G
end
set_option maxHeartbeats 4000000 in
theorem all_mk {l : PySem.W.OpenLaw} {w : World} {K : PySem.W.Frag} {h : Heap} {mg : Str → Option Value} {fa : Addr} {fx0 fx1 fx2 fx3 fx4 fx5 fx6 fx7 fx8 fx9 fx10 fx11 fx12 fx13 fx14 fx15 fx16 fx17 : Addr}
    {C_MarketError C_InvalidDay C_InvalidLot fme : Addr} {ocme kVme dcme pmme cdme ctme : Value} {odme anme : Option Addr} {slme : Array (Option Value)}
    {nmInvalidDay qnInvalidDay : Str} {NInvalidDay : Addr} {bsInvalidDay bmInvalidDay : List Value} {snInvalidDay : List Str} {suInvalidDay : List Value} {abInvalidDay : Bool} {coInvalidDay : Option Bool} {ddInvalidDay : Option Addr} {v0InvalidDay v1InvalidDay v2InvalidDay v3InvalidDay v5InvalidDay : Option Value}
    {nmInvalidLot qnInvalidLot : Str} {NInvalidLot : Addr} {bsInvalidLot bmInvalidLot : List Value} {snInvalidLot : List Str} {suInvalidLot : List Value} {abInvalidLot : Bool} {coInvalidLot : Option Bool} {ddInvalidLot : Option Addr} {v0InvalidLot v1InvalidLot v2InvalidLot v3InvalidLot v5InvalidLot : Option Value}
    (X : K.In h) (G : h.Ns mainGlobals mg) (hfa : mg "law" = some (.ref fa))
    {odx0 anx0 odx1 anx1 odx2 anx2 odx3 anx3 odx4 anx4 odx5 anx5 odx6 anx6 odx7 anx7 odx8 anx8 odx9 anx9 odx10 anx10 odx11 anx11 odx12 anx12 odx13 anx13 odx14 anx14 odx15 anx15 odx16 anx16 odx17 anx17 : Option Addr} {slx0 slx1 slx2 slx3 slx4 slx5 slx6 slx7 slx8 slx9 slx10 slx11 slx12 slx13 slx14 slx15 slx16 slx17 : Array (Option Value)}
    {ocx0 kVx0 dcx0 pmx0 cdx0 ctx0 ocx1 kVx1 dcx1 pmx1 cdx1 ctx1 ocx2 kVx2 dcx2 pmx2 cdx2 ctx2 ocx3 kVx3 dcx3 pmx3 cdx3 ctx3 ocx4 kVx4 dcx4 pmx4 cdx4 ctx4 ocx5 kVx5 dcx5 pmx5 cdx5 ctx5 ocx6 kVx6 dcx6 pmx6 cdx6 ctx6 ocx7 kVx7 dcx7 pmx7 cdx7 ctx7 ocx8 kVx8 dcx8 pmx8 cdx8 ctx8 ocx9 kVx9 dcx9 pmx9 cdx9 ctx9 ocx10 kVx10 dcx10 pmx10 cdx10 ctx10 ocx11 kVx11 dcx11 pmx11 cdx11 ctx11 ocx12 kVx12 dcx12 pmx12 cdx12 ctx12 ocx13 kVx13 dcx13 pmx13 cdx13 ctx13 ocx14 kVx14 dcx14 pmx14 cdx14 ctx14 ocx15 kVx15 dcx15 pmx15 cdx15 ctx15 ocx16 kVx16 dcx16 pmx16 cdx16 ctx16 ocx17 kVx17 dcx17 pmx17 cdx17 ctx17 : Value}
    (ax0 : PySem.W.nsIn K mainGlobals "_law_coin" = some (some (.ref fx0)))
    (lx0 : K.lookup fx0 = some ⟨ocx0, odx0, .func (PySem.W.fnOf "_law_coin" "_law_coin" (defArgs (top 14)) (defBody (top 14)) (defScope (top 14)) .none kVx0 dcx0 pmx0 anx0 cdx0 ctx0), slx0⟩)
    (cx0 : PySem.W.codeIn K cdx0 "_law_coin" = true)
    (kx0 : PySem.W.keepIn K (.ref fx0) = true)
    (ax1 : PySem.W.nsIn K mainGlobals "_law_mk_base" = some (some (.ref fx1)))
    (lx1 : K.lookup fx1 = some ⟨ocx1, odx1, .func (PySem.W.fnOf "_law_mk_base" "_law_mk_base" (defArgs (top 16)) (defBody (top 16)) (defScope (top 16)) .none kVx1 dcx1 pmx1 anx1 cdx1 ctx1), slx1⟩)
    (cx1 : PySem.W.codeIn K cdx1 "_law_mk_base" = true)
    (kx1 : PySem.W.keepIn K (.ref fx1) = true)
    (ax2 : PySem.W.nsIn K mainGlobals "_law_mk_primes" = some (some (.ref fx2)))
    (lx2 : K.lookup fx2 = some ⟨ocx2, odx2, .func (PySem.W.fnOf "_law_mk_primes" "_law_mk_primes" (defArgs (top 21)) (defBody (top 21)) (defScope (top 21)) .none kVx2 dcx2 pmx2 anx2 cdx2 ctx2), slx2⟩)
    (cx2 : PySem.W.codeIn K cdx2 "_law_mk_primes" = true)
    (kx2 : PySem.W.keepIn K (.ref fx2) = true)
    (ax3 : PySem.W.nsIn K mainGlobals "_law_mk_part" = some (some (.ref fx3)))
    (lx3 : K.lookup fx3 = some ⟨ocx3, odx3, .func (PySem.W.fnOf "_law_mk_part" "_law_mk_part" (defArgs (top 17)) (defBody (top 17)) (defScope (top 17)) .none kVx3 dcx3 pmx3 anx3 cdx3 ctx3), slx3⟩)
    (cx3 : PySem.W.codeIn K cdx3 "_law_mk_part" = true)
    (kx3 : PySem.W.keepIn K (.ref fx3) = true)
    (ax4 : PySem.W.nsIn K mainGlobals "_law_mk_leaves" = some (some (.ref fx4)))
    (lx4 : K.lookup fx4 = some ⟨ocx4, odx4, .func (PySem.W.fnOf "_law_mk_leaves" "_law_mk_leaves" (defArgs (top 18)) (defBody (top 18)) (defScope (top 18)) .none kVx4 dcx4 pmx4 anx4 cdx4 ctx4), slx4⟩)
    (cx4 : PySem.W.codeIn K cdx4 "_law_mk_leaves" = true)
    (kx4 : PySem.W.keepIn K (.ref fx4) = true)
    (ax5 : PySem.W.nsIn K mainGlobals "_law_mk_spread" = some (some (.ref fx5)))
    (lx5 : K.lookup fx5 = some ⟨ocx5, odx5, .func (PySem.W.fnOf "_law_mk_spread" "_law_mk_spread" (defArgs (top 19)) (defBody (top 19)) (defScope (top 19)) .none kVx5 dcx5 pmx5 anx5 cdx5 ctx5), slx5⟩)
    (cx5 : PySem.W.codeIn K cdx5 "_law_mk_spread" = true)
    (kx5 : PySem.W.keepIn K (.ref fx5) = true)
    (ax6 : PySem.W.nsIn K mainGlobals "_law_mk_marks" = some (some (.ref fx6)))
    (lx6 : K.lookup fx6 = some ⟨ocx6, odx6, .func (PySem.W.fnOf "_law_mk_marks" "_law_mk_marks" (defArgs (top 20)) (defBody (top 20)) (defScope (top 20)) .none kVx6 dcx6 pmx6 anx6 cdx6 ctx6), slx6⟩)
    (cx6 : PySem.W.codeIn K cdx6 "_law_mk_marks" = true)
    (kx6 : PySem.W.keepIn K (.ref fx6) = true)
    (ax7 : PySem.W.nsIn K mainGlobals "check_lot" = some (some (.ref fx7)))
    (lx7 : K.lookup fx7 = some ⟨ocx7, odx7, .func (PySem.W.fnOf "check_lot" "check_lot" (defArgs (top 10)) (defBody (top 10)) (defScope (top 10)) .none kVx7 dcx7 pmx7 anx7 cdx7 ctx7), slx7⟩)
    (cx7 : PySem.W.codeIn K cdx7 "check_lot" = true)
    (kx7 : PySem.W.keepIn K (.ref fx7) = true)
    (ax8 : PySem.W.nsIn K mainGlobals "widest" = some (some (.ref fx8)))
    (lx8 : K.lookup fx8 = some ⟨ocx8, odx8, .func (PySem.W.fnOf "widest" "widest" (defArgs (top 8)) (defBody (top 8)) (defScope (top 8)) .none kVx8 dcx8 pmx8 anx8 cdx8 ctx8), slx8⟩)
    (cx8 : PySem.W.codeIn K cdx8 "widest" = true)
    (kx8 : PySem.W.keepIn K (.ref fx8) = true)
    (ax9 : PySem.W.nsIn K mainGlobals "_law_mk_longest" = some (some (.ref fx9)))
    (lx9 : K.lookup fx9 = some ⟨ocx9, odx9, .func (PySem.W.fnOf "_law_mk_longest" "_law_mk_longest" (defArgs (top 22)) (defBody (top 22)) (defScope (top 22)) .none kVx9 dcx9 pmx9 anx9 cdx9 ctx9), slx9⟩)
    (cx9 : PySem.W.codeIn K cdx9 "_law_mk_longest" = true)
    (kx9 : PySem.W.keepIn K (.ref fx9) = true)
    (ax10 : PySem.W.nsIn K mainGlobals "_law_mk_is_integer" = some (some (.ref fx10)))
    (lx10 : K.lookup fx10 = some ⟨ocx10, odx10, .func (PySem.W.fnOf "_law_mk_is_integer" "_law_mk_is_integer" (defArgs (top 15)) (defBody (top 15)) (defScope (top 15)) .none kVx10 dcx10 pmx10 anx10 cdx10 ctx10), slx10⟩)
    (cx10 : PySem.W.codeIn K cdx10 "_law_mk_is_integer" = true)
    (kx10 : PySem.W.keepIn K (.ref fx10) = true)
    (ax11 : PySem.W.nsIn K mainGlobals "check_day" = some (some (.ref fx11)))
    (lx11 : K.lookup fx11 = some ⟨ocx11, odx11, .func (PySem.W.fnOf "check_day" "check_day" (defArgs (top 11)) (defBody (top 11)) (defScope (top 11)) .none kVx11 dcx11 pmx11 anx11 cdx11 ctx11), slx11⟩)
    (cx11 : PySem.W.codeIn K cdx11 "check_day" = true)
    (kx11 : PySem.W.keepIn K (.ref fx11) = true)
    (ax12 : PySem.W.nsIn K mainGlobals "next_day" = some (some (.ref fx12)))
    (lx12 : K.lookup fx12 = some ⟨ocx12, odx12, .func (PySem.W.fnOf "next_day" "next_day" (defArgs (top 7)) (defBody (top 7)) (defScope (top 7)) .none kVx12 dcx12 pmx12 anx12 cdx12 ctx12), slx12⟩)
    (cx12 : PySem.W.codeIn K cdx12 "next_day" = true)
    (kx12 : PySem.W.keepIn K (.ref fx12) = true)
    (ax13 : PySem.W.nsIn K mainGlobals "least_every" = some (some (.ref fx13)))
    (lx13 : K.lookup fx13 = some ⟨ocx13, odx13, .func (PySem.W.fnOf "least_every" "least_every" (defArgs (top 9)) (defBody (top 9)) (defScope (top 9)) .none kVx13 dcx13 pmx13 anx13 cdx13 ctx13), slx13⟩)
    (cx13 : PySem.W.codeIn K cdx13 "least_every" = true)
    (kx13 : PySem.W.keepIn K (.ref fx13) = true)
    (ax14 : PySem.W.nsIn K mainGlobals "lot" = some (some (.ref fx14)))
    (lx14 : K.lookup fx14 = some ⟨ocx14, odx14, .func (PySem.W.fnOf "lot" "lot" (defArgs (top 6)) (defBody (top 6)) (defScope (top 6)) .none kVx14 dcx14 pmx14 anx14 cdx14 ctx14), slx14⟩)
    (cx14 : PySem.W.codeIn K cdx14 "lot" = true)
    (kx14 : PySem.W.keepIn K (.ref fx14) = true)
    (ax15 : PySem.W.nsIn K mainGlobals "_law_right" = some (some (.ref fx15)))
    (lx15 : K.lookup fx15 = some ⟨ocx15, odx15, .func (PySem.W.fnOf "_law_right" "_law_right" (defArgs (top 23)) (defBody (top 23)) (defScope (top 23)) .none kVx15 dcx15 pmx15 anx15 cdx15 ctx15), slx15⟩)
    (cx15 : PySem.W.codeIn K cdx15 "_law_right" = true)
    (kx15 : PySem.W.keepIn K (.ref fx15) = true)
    (ax16 : PySem.W.nsIn K mainGlobals "_law_purse" = some (some (.ref fx16)))
    (lx16 : K.lookup fx16 = some ⟨ocx16, odx16, .func (PySem.W.fnOf "_law_purse" "_law_purse" (defArgs (top 13)) (defBody (top 13)) (defScope (top 13)) .none kVx16 dcx16 pmx16 anx16 cdx16 ctx16), slx16⟩)
    (cx16 : PySem.W.codeIn K cdx16 "_law_purse" = true)
    (kx16 : PySem.W.keepIn K (.ref fx16) = true)
    (ax17 : PySem.W.nsIn K mainGlobals "law" = some (some (.ref fx17)))
    (lx17 : K.lookup fx17 = some ⟨ocx17, odx17, .func (PySem.W.fnOf "law" "law" (defArgs (top 24)) (defBody (top 24)) (defScope (top 24)) .none kVx17 dcx17 pmx17 anx17 cdx17 ctx17), slx17⟩)
    (cx17 : PySem.W.codeIn K cdx17 "law" = true)
    (kx17 : PySem.W.keepIn K (.ref fx17) = true)
    (gMarketError : PySem.W.nsIn K mainGlobals "MarketError" = some (some (.ref C_MarketError)))
    (gInvalidDay : PySem.W.nsIn K mainGlobals "InvalidDay" = some (some (.ref C_InvalidDay)))
    (gInvalidLot : PySem.W.nsIn K mainGlobals "InvalidLot" = some (some (.ref C_InvalidLot)))
    (ihn : PySem.W.specialIn K (.builtin "object.__class__") "__get__" = some (some (.builtin "getset_descriptor.__get__")))
    (iht : PySem.W.takesIn K (.builtin "object.__class__") = some true)
    (XMarketError : PySem.W.subIn K (.ref C_MarketError) (.type "BaseException") = some true)
    (TMarketError : PySem.W.typeIn K (.ref C_MarketError) = some (.type "type"))
    (OMarketError : PySem.W.findIn K (.ref C_MarketError) "value" = some none)
    (AMarketError : PySem.W.findIn K (.ref C_MarketError) "__getattribute__" = some (some (.builtin "BaseException.__getattribute__")))
    (BMarketError : PySem.W.findIn K (.ref C_MarketError) "__getattr__" = some none)
    (DMarketError : PySem.W.hasDictIn K C_MarketError = true)
    (EMarketError : PySem.W.findIn K (.ref C_MarketError) "__class__" = some (some (.builtin "object.__class__")))
    (MMarketError : PySem.W.mroIn K C_MarketError (.type "object") = some true)
    (QMarketError : PySem.W.isClsIn K C_MarketError = true)
    (WMarketError : PySem.W.subIn K (.ref C_MarketError) (.ref C_MarketError) = some true)
    (LInvalidDay : K.lookup C_InvalidDay = some (excClassObj nmInvalidDay qnInvalidDay C_InvalidDay NInvalidDay bsInvalidDay bmInvalidDay true snInvalidDay suInvalidDay abInvalidDay coInvalidDay ddInvalidDay v0InvalidDay v1InvalidDay v2InvalidDay v3InvalidDay v5InvalidDay "ValueError.__new__"))
    (VInvalidDay : PySem.HandSPX.refsVE bmInvalidDay = true)
    (SInvalidDay : PySem.W.findIn K (.ref C_InvalidDay) "__setattr__" = some (some (.builtin "object.__setattr__")))
    (KInvalidDay : PySem.W.keepIn K (.ref C_InvalidDay) = true)
    (IInvalidDay : PySem.W.findIn K (.ref C_InvalidDay) "__init__" = some (some (.ref fme)))
    (UInvalidDay : PySem.W.subIn K (.ref C_InvalidDay) (.ref C_MarketError) = some true)
    (XInvalidDay : PySem.W.subIn K (.ref C_InvalidDay) (.type "BaseException") = some true)
    (TInvalidDay : PySem.W.typeIn K (.ref C_InvalidDay) = some (.type "type"))
    (OInvalidDay : PySem.W.findIn K (.ref C_InvalidDay) "value" = some none)
    (AInvalidDay : PySem.W.findIn K (.ref C_InvalidDay) "__getattribute__" = some (some (.builtin "BaseException.__getattribute__")))
    (BInvalidDay : PySem.W.findIn K (.ref C_InvalidDay) "__getattr__" = some none)
    (DInvalidDay : PySem.W.hasDictIn K C_InvalidDay = true)
    (EInvalidDay : PySem.W.findIn K (.ref C_InvalidDay) "__class__" = some (some (.builtin "object.__class__")))
    (MInvalidDay : PySem.W.mroIn K C_InvalidDay (.type "object") = some true)
    (QInvalidDay : PySem.W.isClsIn K C_InvalidDay = true)
    (WInvalidDay : PySem.W.subIn K (.ref C_InvalidDay) (.ref C_InvalidDay) = some true)
    (LInvalidLot : K.lookup C_InvalidLot = some (excClassObj nmInvalidLot qnInvalidLot C_InvalidLot NInvalidLot bsInvalidLot bmInvalidLot true snInvalidLot suInvalidLot abInvalidLot coInvalidLot ddInvalidLot v0InvalidLot v1InvalidLot v2InvalidLot v3InvalidLot v5InvalidLot "ValueError.__new__"))
    (VInvalidLot : PySem.HandSPX.refsVE bmInvalidLot = true)
    (SInvalidLot : PySem.W.findIn K (.ref C_InvalidLot) "__setattr__" = some (some (.builtin "object.__setattr__")))
    (KInvalidLot : PySem.W.keepIn K (.ref C_InvalidLot) = true)
    (IInvalidLot : PySem.W.findIn K (.ref C_InvalidLot) "__init__" = some (some (.ref fme)))
    (UInvalidLot : PySem.W.subIn K (.ref C_InvalidLot) (.ref C_MarketError) = some true)
    (XInvalidLot : PySem.W.subIn K (.ref C_InvalidLot) (.type "BaseException") = some true)
    (TInvalidLot : PySem.W.typeIn K (.ref C_InvalidLot) = some (.type "type"))
    (OInvalidLot : PySem.W.findIn K (.ref C_InvalidLot) "value" = some none)
    (AInvalidLot : PySem.W.findIn K (.ref C_InvalidLot) "__getattribute__" = some (some (.builtin "BaseException.__getattribute__")))
    (BInvalidLot : PySem.W.findIn K (.ref C_InvalidLot) "__getattr__" = some none)
    (DInvalidLot : PySem.W.hasDictIn K C_InvalidLot = true)
    (EInvalidLot : PySem.W.findIn K (.ref C_InvalidLot) "__class__" = some (some (.builtin "object.__class__")))
    (MInvalidLot : PySem.W.mroIn K C_InvalidLot (.type "object") = some true)
    (QInvalidLot : PySem.W.isClsIn K C_InvalidLot = true)
    (WInvalidLot : PySem.W.subIn K (.ref C_InvalidLot) (.ref C_InvalidLot) = some true)
    (ty : PySem.W.typeIn K (.ref fme) = some (.type "function"))
    (lme : K.lookup fme = some ⟨ocme, odme, .func (PySem.W.fnOf "__init__" "MarketError.__init__" (defArgs sErr) (defBody sErr) (defScope sErr) .none kVme dcme pmme anme cdme ctme), slme⟩)
    (cme : PySem.W.codeIn K cdme "MarketError.__init__" = true)
    (kme : PySem.W.keepIn K (.ref fme) = true)
    (z0 : PySem.W.nsIn K mainGlobals "len" = some none)
    (z1 : PySem.W.nsIn K mainGlobals "max" = some none)
    (z2 : PySem.W.nsIn K mainGlobals "min" = some none)
    (z3 : PySem.W.nsIn K mainGlobals "abs" = some none)
    (z4 : PySem.W.nsIn K mainGlobals "int" = some none)
    (z5 : PySem.W.nsIn K mainGlobals "list" = some none)
    (z6 : PySem.W.nsIn K mainGlobals "tuple" = some none)
    (z7 : PySem.W.nsIn K mainGlobals "set" = some none)
    (z8 : PySem.W.nsIn K mainGlobals "sorted" = some none)
    (z9 : PySem.W.nsIn K mainGlobals "range" = some none)
    (z10 : PySem.W.nsIn K mainGlobals "repr" = some none)
    (z11 : PySem.W.nsIn K mainGlobals "isinstance" = some none)
    (z12 : PySem.W.nsIn K mainGlobals "all" = some none)
    (z13 : PySem.W.nsIn K mainGlobals "any" = some none)
    (z14 : PySem.W.nsIn K mainGlobals "sum" = some none)
    (z15 : PySem.W.nsIn K mainGlobals "zip" = some none)
    (z16 : PySem.W.nsIn K mainGlobals "str" = some none)
    (z17 : PySem.W.nsIn K mainGlobals "enumerate" = some none)
    (xb_gcd : PySem.W.nsIn K mainGlobals "gcd" = some (some (.builtin "math.gcd")))
    (zb_bool : PySem.W.nsIn K mainGlobals "bool" = some none) :
    ∃ fd : FuncData, (∀ (s : Shared) (v : Value), BindsTo s fd ⟨[v], []⟩ [("script", v)]) ∧ ∀ base : Heap, K.In base → base.Ns mainGlobals mg → FnG l.prog w K mg base CX0 6 fa fd ["script"] (spLawE K) := by
  have e := hfa.symm.trans (PySem.W.mg_of X G ax17)
  cases e
  have B : Blt3 mg := ⟨PySem.W.mg_none_of X G z0, PySem.W.mg_none_of X G z1, PySem.W.mg_none_of X G z2, PySem.W.mg_none_of X G z3, PySem.W.mg_none_of X G z4, PySem.W.mg_none_of X G z5, PySem.W.mg_none_of X G z6, PySem.W.mg_none_of X G z7, PySem.W.mg_none_of X G z8, PySem.W.mg_none_of X G z9, PySem.W.mg_none_of X G z10, PySem.W.mg_none_of X G z11, PySem.W.mg_none_of X G z12, PySem.W.mg_none_of X G z13, PySem.W.mg_none_of X G z14, PySem.W.mg_none_of X G z15, PySem.W.mg_none_of X G z16, PySem.W.mg_none_of X G z17⟩
  let ca : CA := ⟨fun c => if c = "InvalidDay" then C_InvalidDay else if c = "InvalidLot" then C_InvalidLot else C_MarketError, l.prog, w⟩
  have ec_MarketError : ca "MarketError" = C_MarketError := rfl
  have ec_InvalidDay : ca "InvalidDay" = C_InvalidDay := rfl
  have ec_InvalidLot : ca "InvalidLot" = C_InvalidLot := rfl
  have ec_InvalidName : ca "InvalidName" = C_MarketError := rfl
  have ec_InvalidTown : ca "InvalidTown" = C_MarketError := rfl
  have ec_DoubleTown : ca "DoubleTown" = C_MarketError := rfl
  have ec_InvalidNote : ca "InvalidNote" = C_MarketError := rfl
  have ec_UnknownTown : ca "UnknownTown" = C_MarketError := rfl
  have ec_UnknownNote : ca "UnknownNote" = C_MarketError := rfl
  have ec_Quarrel : ca "Quarrel" = C_MarketError := rfl
  have ec_NothingToUndo : ca "NothingToUndo" = C_MarketError := rfl
  have ec_Unreadable : ca "Unreadable" = C_MarketError := rfl
  have Fme := fun_mk (st := sErr) lme cme kme
  have bme := Fme.binds (ps := ["self", "value"]) fun _ _ _ _ _ _ us hl => match us, hl with | [_, _], _ => rfl
  have xc_MarketError : ExcC K C_MarketError ∧ XfC K C_MarketError ∧ PySem.W.findIn K (.ref C_MarketError) "value" = some none := ⟨⟨AMarketError, BMarketError, XMarketError, DMarketError, EMarketError, ihn, iht, MMarketError⟩, ⟨AMarketError, BMarketError, XMarketError, DMarketError⟩, OMarketError⟩
  have er_InvalidDay : Er K mg fme "InvalidDay" (ca "InvalidDay") := by rw [ec_InvalidDay]; exact ⟨⟨⟨nmInvalidDay, qnInvalidDay, NInvalidDay, bsInvalidDay, bmInvalidDay, snInvalidDay, suInvalidDay, abInvalidDay, coInvalidDay, ddInvalidDay, v0InvalidDay, v1InvalidDay, v2InvalidDay, v3InvalidDay, v5InvalidDay, LInvalidDay, VInvalidDay⟩, SInvalidDay, XInvalidDay, TInvalidDay, KInvalidDay⟩, IInvalidDay, OInvalidDay, PySem.W.mg_of X G gInvalidDay⟩
  have xc_InvalidDay : ExcC K C_InvalidDay ∧ XfC K C_InvalidDay ∧ PySem.W.findIn K (.ref C_InvalidDay) "value" = some none := ⟨⟨AInvalidDay, BInvalidDay, XInvalidDay, DInvalidDay, EInvalidDay, ihn, iht, MInvalidDay⟩, ⟨AInvalidDay, BInvalidDay, XInvalidDay, DInvalidDay⟩, OInvalidDay⟩
  have er_InvalidLot : Er K mg fme "InvalidLot" (ca "InvalidLot") := by rw [ec_InvalidLot]; exact ⟨⟨⟨nmInvalidLot, qnInvalidLot, NInvalidLot, bsInvalidLot, bmInvalidLot, snInvalidLot, suInvalidLot, abInvalidLot, coInvalidLot, ddInvalidLot, v0InvalidLot, v1InvalidLot, v2InvalidLot, v3InvalidLot, v5InvalidLot, LInvalidLot, VInvalidLot⟩, SInvalidLot, XInvalidLot, TInvalidLot, KInvalidLot⟩, IInvalidLot, OInvalidLot, PySem.W.mg_of X G gInvalidLot⟩
  have xc_InvalidLot : ExcC K C_InvalidLot ∧ XfC K C_InvalidLot ∧ PySem.W.findIn K (.ref C_InvalidLot) "value" = some none := ⟨⟨AInvalidLot, BInvalidLot, XInvalidLot, DInvalidLot, EInvalidLot, ihn, iht, MInvalidLot⟩, ⟨AInvalidLot, BInvalidLot, XInvalidLot, DInvalidLot⟩, OInvalidLot⟩
  have xe : ∀ c, subT "MarketError" c = some true → ExcC K (ca c) ∧ XfC K (ca c) ∧ PySem.W.findIn K (.ref (ca c)) "value" = some none := fun c h => by
    rcases err_cases h with rfl | rfl | rfl | rfl | rfl | rfl | rfl | rfl | rfl | rfl | rfl | rfl
    · rw [ec_MarketError]; exact xc_MarketError
    · rw [ec_InvalidName]; exact xc_MarketError
    · rw [ec_InvalidTown]; exact xc_MarketError
    · rw [ec_DoubleTown]; exact xc_MarketError
    · rw [ec_InvalidNote]; exact xc_MarketError
    · rw [ec_UnknownTown]; exact xc_MarketError
    · rw [ec_InvalidDay]; exact xc_InvalidDay
    · rw [ec_InvalidLot]; exact xc_InvalidLot
    · rw [ec_UnknownNote]; exact xc_MarketError
    · rw [ec_Quarrel]; exact xc_MarketError
    · rw [ec_NothingToUndo]; exact xc_MarketError
    · rw [ec_Unreadable]; exact xc_MarketError
  have xm_MarketError : ∀ c b, subT "MarketError" c = some b → PySem.W.exmOne K (.ref (ca c)) (.ref (ca "MarketError")) = some b := fun c b h => by
    rcases err_cases h with rfl | rfl | rfl | rfl | rfl | rfl | rfl | rfl | rfl | rfl | rfl | rfl
    · rw [su_eq h su_0_0, ec_MarketError]; exact PySem.W.exm_ref XMarketError DMarketError TMarketError WMarketError
    · rw [su_eq h su_0_1, ec_InvalidName]; exact PySem.W.exm_ref XMarketError DMarketError TMarketError WMarketError
    · rw [su_eq h su_0_2, ec_InvalidTown]; exact PySem.W.exm_ref XMarketError DMarketError TMarketError WMarketError
    · rw [su_eq h su_0_3, ec_DoubleTown]; exact PySem.W.exm_ref XMarketError DMarketError TMarketError WMarketError
    · rw [su_eq h su_0_4, ec_InvalidNote]; exact PySem.W.exm_ref XMarketError DMarketError TMarketError WMarketError
    · rw [su_eq h su_0_5, ec_UnknownTown]; exact PySem.W.exm_ref XMarketError DMarketError TMarketError WMarketError
    · rw [su_eq h su_0_6, ec_InvalidDay]; exact PySem.W.exm_ref XMarketError DMarketError TMarketError UInvalidDay
    · rw [su_eq h su_0_7, ec_InvalidLot]; exact PySem.W.exm_ref XMarketError DMarketError TMarketError UInvalidLot
    · rw [su_eq h su_0_8, ec_UnknownNote]; exact PySem.W.exm_ref XMarketError DMarketError TMarketError WMarketError
    · rw [su_eq h su_0_9, ec_Quarrel]; exact PySem.W.exm_ref XMarketError DMarketError TMarketError WMarketError
    · rw [su_eq h su_0_10, ec_NothingToUndo]; exact PySem.W.exm_ref XMarketError DMarketError TMarketError WMarketError
    · rw [su_eq h su_0_11, ec_Unreadable]; exact PySem.W.exm_ref XMarketError DMarketError TMarketError WMarketError
  have Fx0 := fun_mk (st := (top 14)) lx0 cx0 kx0
  have Fx1 := fun_mk (st := (top 16)) lx1 cx1 kx1
  have Fx2 := fun_mk (st := (top 21)) lx2 cx2 kx2
  have Fx3 := fun_mk (st := (top 17)) lx3 cx3 kx3
  have Fx4 := fun_mk (st := (top 18)) lx4 cx4 kx4
  have Fx5 := fun_mk (st := (top 19)) lx5 cx5 kx5
  have Fx6 := fun_mk (st := (top 20)) lx6 cx6 kx6
  have Fx7 := fun_mk (st := (top 10)) lx7 cx7 kx7
  have Fx8 := fun_mk (st := (top 8)) lx8 cx8 kx8
  have Fx9 := fun_mk (st := (top 22)) lx9 cx9 kx9
  have Fx10 := fun_mk (st := (top 15)) lx10 cx10 kx10
  have Fx11 := fun_mk (st := (top 11)) lx11 cx11 kx11
  have Fx12 := fun_mk (st := (top 7)) lx12 cx12 kx12
  have Fx13 := fun_mk (st := (top 9)) lx13 cx13 kx13
  have Fx14 := fun_mk (st := (top 6)) lx14 cx14 kx14
  have Fx15 := fun_mk (st := (top 23)) lx15 cx15 kx15
  have Fx16 := fun_mk (st := (top 13)) lx16 cx16 kx16
  have Fx17 := fun_mk (st := (top 24)) lx17 cx17 kx17
  have bx0 := Fx0.binds (ps := ["purse", "many"]) fun _ _ _ _ _ _ us hl => match us, hl with | [_, _], _ => rfl
  have bx1 := Fx1.binds (ps := ["purse"]) fun _ _ _ _ _ _ us hl => match us, hl with | [_], _ => rfl
  have bx2 := Fx2.binds (ps := ["base"]) fun _ _ _ _ _ _ us hl => match us, hl with | [_], _ => rfl
  have bx3 := Fx3.binds (ps := ["purse", "base"]) fun _ _ _ _ _ _ us hl => match us, hl with | [_, _], _ => rfl
  have bx4 := Fx4.binds (ps := ["purse", "base"]) fun _ _ _ _ _ _ us hl => match us, hl with | [_, _], _ => rfl
  have bx5 := Fx5.binds (ps := ["lot_here", "base"]) fun _ _ _ _ _ _ us hl => match us, hl with | [_, _], _ => rfl
  have bx6 := Fx6.binds (ps := ["lot_here", "base"]) fun _ _ _ _ _ _ us hl => match us, hl with | [_, _], _ => rfl
  have bx7 := Fx7.binds (ps := ["one"]) fun _ _ _ _ _ _ us hl => match us, hl with | [_], _ => rfl
  have bx8 := Fx8.binds (ps := ["one"]) fun _ _ _ _ _ _ us hl => match us, hl with | [_], _ => rfl
  have bx9 := Fx9.binds (ps := ["marks"]) fun _ _ _ _ _ _ us hl => match us, hl with | [_], _ => rfl
  have bx10 := Fx10.binds (ps := ["thing"]) fun _ _ _ _ _ _ us hl => match us, hl with | [_], _ => rfl
  have bx11 := Fx11.binds (ps := ["day"]) fun _ _ _ _ _ _ us hl => match us, hl with | [_], _ => rfl
  have bx12 := Fx12.binds (ps := ["one", "day"]) fun _ _ _ _ _ _ us hl => match us, hl with | [_, _], _ => rfl
  have bx13 := Fx13.binds (ps := ["every", "rests"]) fun _ _ _ _ _ _ us hl => match us, hl with | [_, _], _ => rfl
  have bx14 := Fx14.binds (ps := ["every", "rests"]) fun _ _ _ _ _ _ us hl => match us, hl with | [_, _], _ => rfl
  have bx15 := Fx15.binds (ps := ["purse"]) fun _ _ _ _ _ _ us hl => match us, hl with | [_], _ => rfl
  have bx16 := Fx16.binds (ps := ["script", "place"]) fun _ _ _ _ _ _ us hl => match us, hl with | [_, _], _ => rfl
  have bx17 := Fx17.binds (ps := ["script"]) fun _ _ _ _ _ _ us hl => match us, hl with | [_], _ => rfl
  refine ⟨PySem.W.fnOf "law" "law" (defArgs sLaw) (defBody sLaw) (defScope sLaw) .none kVx17 dcx17 pmx17 anx17 cdx17 ctx17, fun s v => .of_eq rfl, fun base _ _ => ?_⟩
  have I_err : ErI l.prog w K mg base fme _ := ⟨ty, fun k => ok_err Fme, bme⟩
  have T__law_coin : DefT l.prog w K mg base ca fx0 _ ["purse", "many"] 1 F__law_coin := d__law_coin Fx0 bx0 B rfl rfl 
  have T__law_mk_base : DefT l.prog w K mg base ca fx1 _ ["purse"] 2 F__law_mk_base := d__law_mk_base Fx1 bx1 B rfl rfl T__law_coin (PySem.W.mg_of X G ax0)
  have T__law_mk_primes : DefT l.prog w K mg base ca fx2 _ ["base"] 1 F__law_mk_primes := d__law_mk_primes Fx2 bx2 B rfl rfl 
  have T__law_mk_part : DefT l.prog w K mg base ca fx3 _ ["purse", "base"] 2 F__law_mk_part := d__law_mk_part Fx3 bx3 B rfl rfl T__law_mk_primes T__law_coin (PySem.W.mg_of X G ax2) (PySem.W.mg_of X G ax0)
  have T__law_mk_leaves : DefT l.prog w K mg base ca fx4 _ ["purse", "base"] 3 F__law_mk_leaves := d__law_mk_leaves Fx4 bx4 B rfl rfl T__law_coin T__law_mk_part (PySem.W.mg_of X G ax0) (PySem.W.mg_of X G ax3)
  have T__law_mk_spread : DefT l.prog w K mg base ca fx5 _ ["lot_here", "base"] 1 F__law_mk_spread := d__law_mk_spread Fx5 bx5 B rfl rfl 
  have T__law_mk_marks : DefT l.prog w K mg base ca fx6 _ ["lot_here", "base"] 2 F__law_mk_marks := d__law_mk_marks Fx6 bx6 B rfl rfl T__law_mk_spread (PySem.W.mg_of X G ax5)
  have T_check_lot : DefT l.prog w K mg base ca fx7 _ ["one"] 3 F_check_lot := d_check_lot Fx7 bx7 B rfl rfl I_err er_InvalidLot
  have T_widest : DefT l.prog w K mg base ca fx8 _ ["one"] 4 F_widest := d_widest Fx8 bx8 B rfl rfl T_check_lot (PySem.W.mg_of X G ax7)
  have T__law_mk_longest : DefT l.prog w K mg base ca fx9 _ ["marks"] 1 F__law_mk_longest := d__law_mk_longest Fx9 bx9 B rfl rfl 
  have T__law_mk_is_integer : DefT l.prog w K mg base ca fx10 _ ["thing"] 1 F__law_mk_is_integer := d__law_mk_is_integer Fx10 bx10 B rfl rfl (PySem.W.mg_none_of X G zb_bool)
  have T_check_day : DefT l.prog w K mg base ca fx11 _ ["day"] 3 F_check_day := d_check_day Fx11 bx11 B rfl rfl I_err er_InvalidDay
  have T_next_day : DefT l.prog w K mg base ca fx12 _ ["one", "day"] 4 F_next_day := d_next_day Fx12 bx12 B rfl rfl T_check_lot T_check_day (PySem.W.mg_of X G ax7) (PySem.W.mg_of X G ax11)
  have T_least_every : DefT l.prog w K mg base ca fx13 _ ["every", "rests"] 1 F_least_every := d_least_every Fx13 bx13 B rfl rfl (PySem.W.mg_of X G xb_gcd)
  have T_lot : DefT l.prog w K mg base ca fx14 _ ["every", "rests"] 3 F_lot := d_lot Fx14 bx14 B rfl rfl T_least_every I_err er_InvalidLot (PySem.W.mg_of X G ax13)
  have T__law_right : DefT l.prog w K mg base ca fx15 _ ["purse"] 5 F__law_right := d__law_right Fx15 bx15 B rfl rfl T__law_mk_base T__law_mk_leaves T__law_mk_marks T_widest T__law_mk_longest T__law_mk_is_integer T__law_coin T_next_day T_lot (PySem.W.mg_of X G ax1) (PySem.W.mg_of X G ax4) (PySem.W.mg_of X G ax6) (PySem.W.mg_of X G ax8) (by obtain ⟨oc, od, kV, doc, pm, an, cdv, ct, osl, e, lk, hcd⟩ := Fx8.ex; cases e; exact ⟨fun s us ws X l1 l2 => match us, ws, l1, l2 with | [], [_], _, _ => .of_eq rfl, fun r1 r2 => r2⟩) (PySem.W.mg_of X G ax9) (PySem.W.mg_of X G ax10) (PySem.W.mg_of X G ax0) (PySem.W.mg_of X G ax12) (PySem.W.mg_of X G ax14)
  have A1 : DefAtE l.prog w K mg base "_law_purse" fx16 _ ["script", "place"] 1 (spPurE K) := ⟨fun k => ok_purse Fx16 B, PySem.W.mg_of X G ax16, kx16, bx16⟩
  have R1 := right_of T__law_right rfl (PySem.W.mg_of X G ax15) fun d hd => w_right hd fun _ => ⟨rfl, rfl⟩
  exact ok_law (k := 0) Fx17 A1 R1 B
end K06

open PySem PySem.W PyProof.Rows
set_option maxRecDepth 100000 in
set_option maxHeartbeats 0 in
theorem PySem.Challenge.cw_marketdays_k06_widest_waits_holds : PySem.Challenge.rw_marketdays_k06_widest_waits.Holds := by
  w_on; o_law; k_head; (case hw => w_witness2)
  k_fill
  refine Md.walk_g (l := PySem.Challenge.rw_marketdays_k06_widest_waits) (n := 63) (k := 6) (x := "script") (sp := Mk.spLawE) rfl (by decide) rfl ⟨rfl, by decide, by decide⟩ (fun w h Y => PySem.W.kIn_of Y) ?F (fun _ _ a ns hl hS => ⟨a, ns, rfl, hS, hl, fun _ => rfl⟩)
  case F =>
    intro w mg fa h KX G hmg
    refine' K06.all_mk KX G hmg ?ax0 ?lx0 ?cx0 ?kx0 ?ax1 ?lx1 ?cx1 ?kx1 ?ax2 ?lx2 ?cx2 ?kx2 ?ax3 ?lx3 ?cx3 ?kx3 ?ax4 ?lx4 ?cx4 ?kx4 ?ax5 ?lx5 ?cx5 ?kx5 ?ax6 ?lx6 ?cx6 ?kx6 ?ax7 ?lx7 ?cx7 ?kx7 ?ax8 ?lx8 ?cx8 ?kx8 ?ax9 ?lx9 ?cx9 ?kx9 ?ax10 ?lx10 ?cx10 ?kx10 ?ax11 ?lx11 ?cx11 ?kx11 ?ax12 ?lx12 ?cx12 ?kx12 ?ax13 ?lx13 ?cx13 ?kx13 ?ax14 ?lx14 ?cx14 ?kx14 ?ax15 ?lx15 ?cx15 ?kx15 ?ax16 ?lx16 ?cx16 ?kx16 ?ax17 ?lx17 ?cx17 ?kx17 ?gMarketError ?gInvalidDay ?gInvalidLot ?ihn ?iht ?XMarketError ?TMarketError ?OMarketError ?AMarketError ?BMarketError ?DMarketError ?EMarketError ?MMarketError ?QMarketError ?WMarketError ?LInvalidDay ?VInvalidDay ?SInvalidDay ?KInvalidDay ?IInvalidDay ?UInvalidDay ?XInvalidDay ?TInvalidDay ?OInvalidDay ?AInvalidDay ?BInvalidDay ?DInvalidDay ?EInvalidDay ?MInvalidDay ?QInvalidDay ?WInvalidDay ?LInvalidLot ?VInvalidLot ?SInvalidLot ?KInvalidLot ?IInvalidLot ?UInvalidLot ?XInvalidLot ?TInvalidLot ?OInvalidLot ?AInvalidLot ?BInvalidLot ?DInvalidLot ?EInvalidLot ?MInvalidLot ?QInvalidLot ?WInvalidLot ?ty ?lme ?cme ?kme ?z0 ?z1 ?z2 ?z3 ?z4 ?z5 ?z6 ?z7 ?z8 ?z9 ?z10 ?z11 ?z12 ?z13 ?z14 ?z15 ?z16 ?z17 ?xb_gcd ?zb_bool
    (case ax0 => k_is); (case lx0 => k_is); (case cx0 => k_is); (case kx0 => k_is); (case ax1 => k_is); (case lx1 => k_is)
    (case cx1 => k_is); (case kx1 => k_is); (case ax2 => k_is); (case lx2 => k_is); (case cx2 => k_is); (case kx2 => k_is)
    (case ax3 => k_is); (case lx3 => k_is); (case cx3 => k_is); (case kx3 => k_is); (case ax4 => k_is); (case lx4 => k_is)
    (case cx4 => k_is); (case kx4 => k_is); (case ax5 => k_is); (case lx5 => k_is); (case cx5 => k_is); (case kx5 => k_is)
    (case ax6 => k_is); (case lx6 => k_is); (case cx6 => k_is); (case kx6 => k_is); (case ax7 => k_is); (case lx7 => k_is)
    (case cx7 => k_is); (case kx7 => k_is); (case ax8 => k_is); (case lx8 => k_is); (case cx8 => k_is); (case kx8 => k_is)
    (case ax9 => k_is); (case lx9 => k_is); (case cx9 => k_is); (case kx9 => k_is); (case ax10 => k_is); (case lx10 => k_is)
    (case cx10 => k_is); (case kx10 => k_is); (case ax11 => k_is); (case lx11 => k_is); (case cx11 => k_is); (case kx11 => k_is)
    (case ax12 => k_is); (case lx12 => k_is); (case cx12 => k_is); (case kx12 => k_is); (case ax13 => k_is); (case lx13 => k_is)
    (case cx13 => k_is); (case kx13 => k_is); (case ax14 => k_is); (case lx14 => k_is); (case cx14 => k_is); (case kx14 => k_is)
    (case ax15 => k_is); (case lx15 => k_is); (case cx15 => k_is); (case kx15 => k_is); (case ax16 => k_is); (case lx16 => k_is)
    (case cx16 => k_is); (case kx16 => k_is); (case ax17 => k_is); (case lx17 => k_is); (case cx17 => k_is); (case kx17 => k_is)
    (case gMarketError => k_is); (case gInvalidDay => k_is); (case gInvalidLot => k_is); (case ihn => k_is); (case iht => k_is); (case XMarketError => k_is)
    (case TMarketError => k_is); (case OMarketError => k_is); (case AMarketError => k_is); (case BMarketError => k_is); (case DMarketError => k_is); (case EMarketError => k_is)
    (case MMarketError => k_is); (case QMarketError => k_is); (case WMarketError => k_is); (case LInvalidDay => k_is); (case VInvalidDay => decide +kernel); (case SInvalidDay => k_is)
    (case KInvalidDay => k_is); (case IInvalidDay => k_is); (case UInvalidDay => k_is); (case XInvalidDay => k_is); (case TInvalidDay => k_is); (case OInvalidDay => k_is)
    (case AInvalidDay => k_is); (case BInvalidDay => k_is); (case DInvalidDay => k_is); (case EInvalidDay => k_is); (case MInvalidDay => k_is); (case QInvalidDay => k_is)
    (case WInvalidDay => k_is); (case LInvalidLot => k_is); (case VInvalidLot => decide +kernel); (case SInvalidLot => k_is); (case KInvalidLot => k_is); (case IInvalidLot => k_is)
    (case UInvalidLot => k_is); (case XInvalidLot => k_is); (case TInvalidLot => k_is); (case OInvalidLot => k_is); (case AInvalidLot => k_is); (case BInvalidLot => k_is)
    (case DInvalidLot => k_is); (case EInvalidLot => k_is); (case MInvalidLot => k_is); (case QInvalidLot => k_is); (case WInvalidLot => k_is); (case ty => k_is)
    (case lme => k_is); (case cme => k_is); (case kme => k_is); (case z0 => k_is); (case z1 => k_is); (case z2 => k_is)
    (case z3 => k_is); (case z4 => k_is); (case z5 => k_is); (case z6 => k_is); (case z7 => k_is); (case z8 => k_is)
    (case z9 => k_is); (case z10 => k_is); (case z11 => k_is); (case z12 => k_is); (case z13 => k_is); (case z14 => k_is)
    (case z15 => k_is); (case z16 => k_is); (case z17 => k_is); (case xb_gcd => k_is); (case zb_bool => k_is)
