import PyProof.Rows.All
import Wide.All
import OpenK.AllK
import Wide.FinOn
import HandS.ForMost
import HandS.TupLe
import HandS.Gcd
import HandS.IsInst
import HandS.SortInts
import HandS.SortRule
import HandS.Deep
import HandS.SortKw
import KE.DataMinMax
import KE.KEqSeq
import HandS.ExcInit
import HandS.Nested
import KE.KSuper
import KE.KExcSuper
import HandS.FStr
import HandS.WordsExc
import HandS.ExcField
import HandS.ExcIs
import PyProof.Rows.StrDigits
import HandS.Lambda
import KE.DataMinKey
import KE.KLam
import HandS.EndTab
import HandS.Defaults
import KE.KNest
import HandS.SetFor
import HandS.More
import HandS.Dict
import HandS.Iter
import HandS.MapSum
import KE.KDictSum
import PyProof.ReprRoads
import KE.SortData
import KE.KeyNested
import KE.KDictKeyed
import HandS.RevRange
import HandS.Conv
import PyProof.EqAt
import HandS.TupSets
import HandS.TupLen
import HandS.DictComp
import KE.KDictCopyH
import KE.KDictList
import HandS.AnyAll
import PyProof.GenCompD
import HandS.TryOnly
import KE.KStar
import KE.KUnpackStar
import HandS.Star
import HandS.Strs
import PySem.Challenge.RW_heapgame_k61_recovery_from_a_cut
set_option Elab.async false
set_option linter.all false
set_option maxRecDepth 100000
namespace Pf
open PySem L2
/-! ### a def that may be called -/
structure Cal (P : Program) (w : World) (K : PySem.W.Frag) (mg : Str → Option Value) (base : Heap) (x : Str) (k : Nat) (f : Addr) (fd : FuncData) (ps : List Str) (sp : Sp) : Prop where
  ok : FnOk P w K mg base CX0 k f fd ps sp
  mg : mg x = some (.ref f)
  (kp : PySem.W.keepIn K (.ref f) = true)
  b : Binds K fd ps []
/-- an expression asked for its truth -/
def tTru (K : PySem.W.Frag) (ta : TE) : TT := fun σ H R => ta σ H fun v h => ∃ c, TruV K v h c ∧ R c h
theorem pt_truthN {X : Cx} {a : Expr} {ta : TE} (ha : PE X a ta) (he : ∀ whole, isTrue a X.env whole = (do let v ← whole; standAt a.pos; holding [v] (truthy v)) := by intro _; rfl) : PT X a (tTru X.K ta) := pt_truth ha he
theorem room65 {A : Around} {k : Nat} (hr : Room (k + 1) A) : A.units + 65 < cLine := by have := hr.un; omega
/-! ### the readings, one step each -/
section
variable {K : PySem.W.Frag} {σ : St} {H : Hp} {Q : VK} {D : Ends} {ta tb te : TE} {t u : TS} {c : TT}
theorem r_seq (h : t { D with nx := u D } σ H) : tSeq t u D σ H := h
theorem r_seqA {g : TG} (h : te σ H fun x H1 => g x σ H1 (u D)) : tSeq (tAsg te g) u D σ H := h
theorem r_seqD (h : te σ H fun _ H1 => u D σ H1) : tSeq (tDrop te) u D σ H := h
theorem r_seqF {wi : TI} {g : TG} {tb : TS} (h : tFor wi g tb { D with nx := u D } σ H) : tSeq (tFor wi g tb) u D σ H := h
theorem r_seqN (h : u D σ H) : tSeq tNext u D σ H := h
theorem r_seqG (h : ∀ R : St → Hp → Prop, (∀ σ H, u D σ H → R σ H) → t { D with nx := R } σ H) : tSeq t u D σ H := h (u D) fun _ _ x => x
theorem r_asg {g : TG} (h : te σ H fun x H1 => g x σ H1 D.nx) : tAsg te g D σ H := h
theorem r_drop (h : te σ H fun _ H1 => D.nx σ H1) : tDrop te D σ H := h
theorem r_ret (h : te σ H D.rt) : tRet te D σ H := h
theorem r_ifS (h : c σ H fun b H1 => if b = true then t D σ H1 else u D σ H1) : tIfS c t u D σ H := h
theorem r_next (h : D.nx σ H) : tNext D σ H := h
theorem r_cont (h : D.ct σ H) : tCont D σ H := h
theorem r_name {i : Nat} {v : V} {q : St → Hp → Prop} (h : q (σ.set i (some v)) H) : gName i v σ H q := h
theorem r_gnil {q : St → Hp → Prop} (h : q σ H) : gNil [] σ H q := ⟨rfl, h⟩
theorem r_gcons {t : TG} {u : TGs} {v : V} {vs : List V} {q : St → Hp → Prop} (h : t v σ H fun σ' H' => u vs σ' H' q) : gCons t u (v :: vs) σ H q := ⟨v, vs, rfl, h⟩
theorem r_gtup {n : Nat} {t : TGs} {a : Addr} {xs : List V} {q : St → Hp → Prop} (h1 : SqT K H a xs) (h2 : xs.length = n) (h : t xs σ H q) : gTup K n t (.ref a) σ H q := ⟨a, xs, rfl, h1, h2, h⟩
theorem r_gsub {to ti : TE} {t : TSet} {v : V} {q : St → Hp → Prop} (h : to σ H fun o H1 => ti σ H1 fun i H2 => t o i v H2 fun H3 => q σ H3) : gSub to ti t v σ H q := h
theorem r_setL0 {p : Addr} {xs : List V} {k : Int} {j : Nat} {v : V} {q : Hp → Prop} (h1 : H p = some (.lst xs)) (h2 : ixN xs.length k = some j) (h : q (upd H p (.lst (xs.set j v)))) : rSetL (.ref p) (.int k) v H q := ⟨p, xs, k, j, rfl, rfl, h1, h2, h⟩
theorem r_var {i : Nat} {v : V} (h : σ[i]? = some (some v)) (q : Q v H) : tVar i σ H Q := ⟨v, h, q⟩
theorem r_c {v : V} (q : Q v H) : tC v σ H Q := q
theorem r_op {r : R2} (h : ta σ H fun x H1 => tb σ H1 fun y H2 => r x y H2 Q) : tOp r ta tb σ H Q := h
theorem r_un {r : V → Hp → VK → Prop} (h : ta σ H fun x H1 => r x H1 Q) : tUn r ta σ H Q := h
theorem r_I0 {g : Int → Int → V} {i j : Int} (q : Q (g i j) H) : rI0 g (.int i) (.int j) H Q := ⟨i, j, rfl, rfl, q⟩
theorem r_I {C : Int → Int → Prop} {g : Int → Int → V} {i j : Int} (hc : C i j) (q : Q (g i j) H) : rI C g (.int i) (.int j) H Q := ⟨i, j, rfl, rfl, hc, q⟩
theorem r_U {g : Int → V} {i : Int} (q : Q (g i) H) : rU g (.int i) H Q := ⟨i, rfl, q⟩
theorem r_eqI {i j : Int} (q : Q (.bl (decide (i = j))) H) : rEq (.int i) (.int j) H Q := ⟨rfl, by rw [show decide (V.int i = V.int j) = decide (i = j) by simp]; exact q⟩
theorem r_neI {i j : Int} (q : Q (.bl (!decide (i = j))) H) : rNe (.int i) (.int j) H Q := ⟨rfl, by rw [show decide (V.int i = V.int j) = decide (i = j) by simp]; exact q⟩
theorem r_eqB {i j : Bool} (q : Q (.bl (decide (i = j))) H) : rEq (.bl i) (.bl j) H Q := ⟨rfl, by rw [show decide (V.bl i = V.bl j) = decide (i = j) by simp]; exact q⟩
theorem r_neB {i j : Bool} (q : Q (.bl (!decide (i = j))) H) : rNe (.bl i) (.bl j) H Q := ⟨rfl, by rw [show decide (V.bl i = V.bl j) = decide (i = j) by simp]; exact q⟩
theorem r_eq {x y : V} (hs : scal x y = true) (q : Q (.bl (decide (x = y))) H) : rEq x y H Q := ⟨hs, q⟩
theorem r_ne {x y : V} (hs : scal x y = true) (q : Q (.bl (!decide (x = y))) H) : rNe x y H Q := ⟨hs, q⟩
theorem r_test {q : Bool → Hp → Prop} (h : te σ H fun x H' => ∃ k, x = .bl k ∧ q k H') : tTest te σ H q := h
theorem r_B {q : Bool → Hp → Prop} (h : te σ H fun x H' => ∃ k, x = .bl k ∧ q k H') : tB te σ H q := h
theorem r_bl {b : Bool} {q : Bool → Prop} (h : q b) : ∃ k, V.bl b = .bl k ∧ q k := ⟨b, rfl, h⟩
theorem r_rfl {x : St} {A : Prop} (q : A) : x = x ∧ A := ⟨rfl, q⟩
theorem r_eqA {x y : St} {A : Prop} (h : x = y) (q : A) : x = y ∧ A := ⟨h, q⟩
theorem r_wipe {σ1 σ2 : St} {vs : List Nat} {A : Prop} (h : wipe σ1 vs = wipe σ2 vs) (q : A) : wipe σ1 vs = wipe σ2 vs ∧ A := ⟨h, q⟩
theorem r_bl2 {a b : Bool} {A : Bool → Bool → Prop} (h : A a b) : ∃ x y, V.bl a = .bl x ∧ V.bl b = .bl y ∧ A x y := ⟨a, b, rfl, rfl, h⟩
theorem r_yes {q : Bool → Hp → Prop} (h : q true H) : tYes σ H q := h
theorem r_and {a b : TT} {q : Bool → Hp → Prop} (h : a σ H fun c H1 => if c = true then b σ H1 q else q false H1) : L2.tAnd a b σ H q := h
theorem r_or {a b : TT} {q : Bool → Hp → Prop} (h : a σ H fun c H1 => if c = true then q true H1 else b σ H1 q) : L2.tOr a b σ H q := h
theorem r_not {a : TT} {q : Bool → Hp → Prop} (h : a σ H fun c H1 => q (!c) H1) : L2.tNot a σ H q := h
theorem r_andV {a b : TE} (h : a σ H fun x H1 => ∃ c, x = .bl c ∧ if c = true then b σ H1 Q else Q (.bl false) H1) : tAndV a b σ H Q := h
theorem r_orV {a b : TE} (h : a σ H fun x H1 => ∃ c, x = .bl c ∧ if c = true then Q (.bl true) H1 else b σ H1 Q) : tOrV a b σ H Q := h
theorem r_notV {a : TE} (h : a σ H fun x H1 => ∃ c, x = .bl c ∧ Q (.bl (!c)) H1) : tNotV a σ H Q := h
theorem r_ifE {c : TT} (h : c σ H fun b H1 => if b = true then ta σ H1 Q else tb σ H1 Q) : tIf c ta tb σ H Q := h
theorem r_nil {q : List V → Hp → Prop} (h : q [] H) : tNil σ H q := h
theorem r_cons {tr : TA} {q : List V → Hp → Prop} (h : ta σ H fun x H1 => tr σ H1 fun xs H2 => q (x :: xs) H2) : tCons ta tr σ H q := h
theorem r_tup {ts : TA} (h : ts σ H fun xs H1 => xs.length ≤ sizeLine ∧ ∀ p, H1 p = none → Q (.ref p) (upd H1 p (.tup xs))) : tTup ts σ H Q := h
theorem r_lst {ts : TA} (h : ts σ H fun xs H1 => xs.length ≤ sizeLine ∧ ∀ p, H1 p = none → Q (.ref p) (upd H1 p (.lst xs))) : tLst ts σ H Q := h
theorem r_small {xs : List V} {A : Prop} (h : A) (hs : xs.length ≤ sizeLine) : xs.length ≤ sizeLine ∧ A := ⟨hs, h⟩
theorem r_CB {r : List V → Hp → VK → Prop} {ts : TA} (h : ts σ H fun vs H1 => r vs H1 Q) : tCB r ts σ H Q := h
theorem r_call {sp : Sp} {E : XK} {ts : TA} (h : ts σ H fun vs H1 => sp vs H1 Q E) : tCall sp [] E ts σ H Q := by
  have e : (fun vs H1 => sp (vs ++ []) H1 Q E) = fun vs H1 => sp vs H1 Q E := by
    funext vs H1
    rw [List.append_nil]
  show ts σ H fun vs H1 => sp (vs ++ []) H1 Q E
  rw [e]
  exact h
theorem r_bm {T : String} {r : V → List V → Hp → VK → Prop} {ts : TA} (h : te σ H fun x H1 => tyV K T x H1 ∧ ts σ H1 fun xs H2 => r x xs H2 Q) : tBM K T r te ts σ H Q := h
theorem r_bm0 {T : String} {r : V → List V → Hp → VK → Prop} (h : te σ H fun x H1 => tyV K T x H1 ∧ r x [] H1 Q) : tBM0 K T r te σ H Q := h
theorem ty_lst {p : Addr} {xs : List V} (h : H p = some (.lst xs)) : tyV K "list" (.ref p) H := .inl ⟨rfl, _, .inl (.inl h)⟩
theorem r_app0 {p : Addr} {xs : List V} {y : V} (h : H p = some (.lst xs)) (hs : xs.length < sizeLine) (q : Q .non (upd H p (.lst (xs ++ [y])))) : rAppend (.ref p) [y] H Q := ⟨p, xs, y, rfl, rfl, h, hs, q⟩
theorem r_ixL {p : Addr} {xs : List V} {i : Int} {v : V} (h : SqL K H p xs) (ha : atI xs i = some v) (q : Q v H) : rIxL K (.ref p) (.int i) H Q := ⟨p, xs, i, v, rfl, rfl, h, ha, q⟩
theorem r_ixT {p : Addr} {xs : List V} {i : Int} {v : V} (h : SqT K H p xs) (ha : atI xs i = some v) (q : Q v H) : rIxT K (.ref p) (.int i) H Q := ⟨p, xs, i, v, rfl, rfl, h, ha, q⟩
theorem r_int {i : Int} {A : Int → Prop} {B : Prop} (q : A i) : (∃ j, [V.int i] = [V.int j] ∧ A j) ∨ B := .inl ⟨i, rfl, q⟩
theorem r_lenL {p : Addr} {xs : List V} {A : Addr → List V → Prop} (h : SqL K H p xs) (q : A p xs) : ∃ p' ys, [V.ref p] = [V.ref p'] ∧ (SqL K H p' ys ∨ SqT K H p' ys) ∧ A p' ys := ⟨p, xs, rfl, .inl h, q⟩
theorem r_lenT {p : Addr} {xs : List V} {A : Addr → List V → Prop} (h : SqT K H p xs) (q : A p xs) : ∃ p' ys, [V.ref p] = [V.ref p'] ∧ (SqL K H p' ys ∨ SqT K H p' ys) ∧ A p' ys := ⟨p, xs, rfl, .inr h, q⟩
theorem r_i2 {i j : Int} {A : Int → Int → Prop} (q : A i j) : ∃ i' j', [V.int i, V.int j] = [V.int i', V.int j'] ∧ A i' j' := ⟨i, j, rfl, q⟩
theorem r_i1 {i : Int} {A : Int → Prop} (q : A i) : ∃ i', [V.int i] = [V.int i'] ∧ A i' := ⟨i, rfl, q⟩
theorem r_ite {p A B : Prop} [Decidable p] (h1 : p → A) (h2 : ¬ p → B) : if decide p = true then A else B := by
  by_cases h : p
  · rw [if_pos (decide_eq_true h)]
    exact h1 h
  · rw [if_neg (by simp [h])]
    exact h2 h
theorem r_iteN {p A B : Prop} [Decidable p] (h1 : ¬ p → A) (h2 : p → B) : if (!decide p) = true then A else B := by
  by_cases h : p
  · rw [if_neg (by simp [h])]
    exact h2 h
  · rw [if_pos (by simp [h])]
    exact h1 h
theorem r_iteB {b : Bool} {A B : Prop} (h1 : b = true → A) (h2 : b = false → B) : if b = true then A else B := by
  cases b
  · exact h2 rfl
  · exact h1 rfl
/-! ### loops -/
theorem r_rng1 {j : Int} {A : Int → Prop} (h1 : -(2 ^ 62) ≤ j) (h2 : j < 2 ^ 62) (h : A j) : ∃ j' : Int, [V.int j] = [V.int j'] ∧ -(2 ^ 62) ≤ j' ∧ j' < 2 ^ 62 ∧ A j' := ⟨j, rfl, h1, h2, h⟩
theorem r_rng2 {i j : Int} {A : Int → Int → Prop} (h1 : -(2 ^ 62) ≤ i ∧ i < 2 ^ 62 ∧ -(2 ^ 62) ≤ j ∧ j < 2 ^ 62) (h : A i j) : ∃ i' j' : Int, [V.int i, V.int j] = [V.int i', V.int j'] ∧ (-(2 ^ 62) ≤ i' ∧ i' < 2 ^ 62 ∧ -(2 ^ 62) ≤ j' ∧ j' < 2 ^ 62) ∧ A i' j' := ⟨i, j, rfl, h1, h⟩
theorem r_sl {r : V → Option Int → Option Int → Hp → VK → Prop} {tl th : TO} (h : te σ H fun x H1 => tl σ H1 fun l H2 => th σ H2 fun u H3 => r x l u H3 Q) : tSl r te tl th σ H Q := h
theorem r_noPart {q : Option Int → Hp → Prop} (h : q none H) : tNoPart σ H q := h
theorem r_part {q : Option Int → Hp → Prop} (h : te σ H fun x H1 => ∃ i, x = .int i ∧ q (some i) H1) : tPart te σ H q := h
theorem r_int1 {i : Int} {A : Int → Prop} (h : A i) : ∃ j, V.int i = .int j ∧ A j := ⟨i, rfl, h⟩
theorem r_slT {a : Addr} {xs : List V} {lo hi : Option Int} (h : SqT K H a xs) (hn : ¬ (HT.sIx xs.length 0 lo = 0 ∧ HT.sIx xs.length xs.length hi = xs.length)) (q : ∀ p, H p = none → Q (.ref p) (upd H p (.tup (cutV xs lo hi)))) : rSlT K (.ref a) lo hi H Q := ⟨a, xs, rfl, h, hn, q⟩
theorem r_slL {a : Addr} {xs : List V} {lo hi : Option Int} (h : SqL K H a xs) (q : ∀ p, H p = none → Q (.ref p) (upd H p (.lst (cutV xs lo hi)))) : rSlL K (.ref a) lo hi H Q := ⟨a, xs, rfl, h, q⟩
theorem r_tru {K : PySem.W.Frag} {q : Bool → Hp → Prop} (h : te σ H fun x H' => ∃ k, TruV K x H' k ∧ q k H') : tTru K te σ H q := h
theorem r_truL {p : Addr} {xs : List V} {q : Bool → Prop} (h : SqL K H p xs) (a : q (!xs.isEmpty)) : ∃ k, TruV K (.ref p) H k ∧ q k := ⟨_, .inl ⟨xs, h, rfl⟩, a⟩
/-- a walk: each turn leads on or there is none left; R goes down in its second place -/
def WkH (J : It) (Fin : Hp → Prop) (Turns : V → Hp → (Hp → Prop) → Prop) (h₀ : Hp) : Prop :=
  ∃ R : Nat → Nat → Hp → Prop, (∃ c, R 0 c h₀) ∧ ∀ i c h, R i c h → (J.stop i h ∧ Fin h) ∨ (J.go i h ∧ ∃ B : Hp → Prop, (∀ h', B h' → ∃ c', c' < c ∧ R (i + 1) c' h') ∧ ∀ y h', J.yld i h y h' → Turns y h' B)
/-- the same, with slots -/
def WkS (J : It) (Fin : St → Hp → Prop) (Turns : V → St → Hp → (St → Hp → Prop) → Prop) (s₀ : St) (h₀ : Hp) : Prop :=
  ∃ R : Nat → Nat → St → Hp → Prop, (∃ c, R 0 c s₀ h₀) ∧ ∀ i c s h, R i c s h → (J.stop i h ∧ Fin s h) ∨ (J.go i h ∧ ∃ B : St → Hp → Prop, (∀ s' h', B s' h' → ∃ c', c' < c ∧ R (i + 1) c' s' h') ∧ ∀ y h', J.yld i h y h' → Turns y s h' B)
/-- a walk of n turns: P i holds ahead of the i-th one -/
theorem walkH {J : It} {n : Nat} {h₀ : Hp} {Fin : Hp → Prop} {Turns : V → Hp → (Hp → Prop) → Prop} (P : Nat → Hp → Prop) (start : P 0 h₀) (last : ∀ h, P n h → J.stop n h ∧ Fin h)
    (next : ∀ i h, i < n → P i h → J.go i h ∧ ∀ y h', J.yld i h y h' → Turns y h' (P (i + 1))) : WkH J Fin Turns h₀ := by
  refine ⟨fun i c h => i ≤ n ∧ i + c = n ∧ P i h, ⟨n, Nat.zero_le n, Nat.zero_add n, start⟩, ?_⟩
  rintro i c h ⟨le, sum, p⟩
  rcases Nat.lt_or_ge i n with lt | ge
  · obtain ⟨g, turns⟩ := next i h lt p
    exact Or.inr ⟨g, P (i + 1), fun h' p' => ⟨c - 1, by omega, lt, by omega, p'⟩, turns⟩
  · obtain rfl : i = n := by omega
    exact Or.inl (last h p)
theorem walkS {J : It} {n : Nat} {s₀ : St} {h₀ : Hp} {Fin : St → Hp → Prop} {Turns : V → St → Hp → (St → Hp → Prop) → Prop} (P : Nat → St → Hp → Prop) (start : P 0 s₀ h₀) (last : ∀ s h, P n s h → J.stop n h ∧ Fin s h)
    (next : ∀ i s h, i < n → P i s h → J.go i h ∧ ∀ y h', J.yld i h y h' → Turns y s h' (P (i + 1))) : WkS J Fin Turns s₀ h₀ := by
  refine ⟨fun i c s h => i ≤ n ∧ i + c = n ∧ P i s h, ⟨n, Nat.zero_le n, Nat.zero_add n, start⟩, ?_⟩
  rintro i c s h ⟨le, sum, p⟩
  rcases Nat.lt_or_ge i n with lt | ge
  · obtain ⟨g, turns⟩ := next i s h lt p
    exact Or.inr ⟨g, P (i + 1), fun s' h' p' => ⟨c - 1, by omega, lt, by omega, p'⟩, turns⟩
  · obtain rfl : i = n := by omega
    exact Or.inl (last s h p)
/-- over a range -/
theorem w_range {lo : Int} {n : Nat} {H0 : Hp} {Qd : Hp → Prop} {Body : V → Hp → (Hp → Prop) → Prop} (P : Nat → Hp → Prop) (start : P 0 H0) (hs : ∀ i H, i < n → P i H → Body (.int (lo + i)) H (P (i + 1))) (hd : ∀ H, P n H → Qd H) : WkH (Itr lo n) Qd Body H0 :=
  walkH P start (fun h p => And.intro (Nat.le_refl n) (hd h p)) fun i h lt p => And.intro lt fun y h' yl => by
    rcases yl with ⟨ey, eh⟩
    rw [ey, eh]
    exact hs i h lt p
/-- over a list -/
theorem w_list {K : PySem.W.Frag} {a : Addr} {xs : List V} {H0 : Hp} {Qd : Hp → Prop} {Body : V → Hp → (Hp → Prop) → Prop} (P : Nat → Hp → Prop) (start : P 0 H0) (hl : ∀ i H, i ≤ xs.length → P i H → SqL K H a xs) (hs : ∀ i x H, xs[i]? = some x → P i H → Body x H (P (i + 1))) (hd : ∀ H, P xs.length H → Qd H) : WkH (Itl K a) Qd Body H0 :=
  walkH P start (fun h p => And.intro ⟨xs, hl _ h (Nat.le_refl _) p, Nat.le_refl _⟩ (hd h p)) fun i h lt p => And.intro ⟨xs, xs[i], hl i h (Nat.le_of_lt lt) p, List.getElem?_eq_getElem lt⟩ fun y h' yl => by
    rcases yl with ⟨eh, at_⟩
    rw [eh]
    exact hs i y h (at_ xs (hl i h (Nat.le_of_lt lt) p)) p
theorem r_forS {wi : TI} {g : TG} {tb : TS} (h : wi σ H fun J h1 => WkS J D.nx (fun y s h2 B => g y s h2 (tb { D with nx := B, ct := B, bk := D.nx })) σ h1) : tFor wi g tb D σ H := h
theorem r_lc {wi : TI} {g : TG} {tt : TT} {vs : List Nat} (h : wi σ H fun J h1 => ∀ D, h1 D = none → WkH J (fun h2 => Q (.ref D) h2) (fun y h2 B => g y (wipe σ vs) h2 fun s h3 => wipe s vs = wipe σ vs ∧ tt s h3 fun b h4 => if b = true then te s h4 fun z h5 => ∃ acc, h5 D = some (.lst acc) ∧ acc.length < sizeLine ∧ B (upd h5 D (.lst (acc ++ [z]))) else B h4) (upd h1 D (.lst []))) :
    tLc wi g tt te vs σ H Q := h
theorem r_lc2 {wi : TI} {g : TG} {tt : TT} {wi1 : TI} {g1 : TG} {tt1 : TT} {vs vs1 : List Nat} (h : wi σ H fun J h1 => ∀ D, h1 D = none → WkH J (fun h2 => Q (.ref D) h2) (fun y h2 B => g y (wipe σ vs) h2 fun s h3 => wipe s vs = wipe σ vs ∧ tt s h3 fun b h4 =>
      if b = true then wi1 s h4 fun J1 h5 => WkH J1 B (fun y1 h6 B1 => g1 y1 (wipe s vs1) h6 fun s1 h7 => wipe s1 vs1 = wipe s vs1 ∧ tt1 s1 h7 fun b1 h8 => if b1 = true then te s1 h8 fun z h9 => ∃ acc, h9 D = some (.lst acc) ∧ acc.length < sizeLine ∧ B1 (upd h9 D (.lst (acc ++ [z]))) else B1 h8) h5 else B h4) (upd h1 D (.lst []))) :
    tLc2 wi g tt wi1 g1 tt1 te vs vs1 σ H Q := h
theorem r_ckw {r : List V → List V → Hp → VK → Prop} {ts tk : TA} (h : ts σ H fun vs H1 => tk σ H1 fun zs H2 => r vs zs H2 Q) : tCKw r ts tk σ H Q := h
theorem r_iR1 {tA : TA} {R : It → Hp → Prop} (h : tA σ H fun vs H1 => ∃ j : Int, vs = [V.int j] ∧ -(2 ^ 62) ≤ j ∧ j < 2 ^ 62 ∧ R (Itr 0 j.toNat) H1) : iRng1 tA σ H R := h
theorem r_iR2 {tA : TA} {R : It → Hp → Prop} (h : tA σ H fun vs H1 => ∃ i j : Int, vs = [V.int i, V.int j] ∧ (-(2 ^ 62) ≤ i ∧ i < 2 ^ 62 ∧ -(2 ^ 62) ≤ j ∧ j < 2 ^ 62) ∧ R (Itr i (j - i).toNat) H1) : iRng2 tA σ H R := h
theorem r_iL {tl : TE} {R : It → Hp → Prop} (h : tl σ H fun x H1 => ∃ a, x = V.ref a ∧ (∃ xs, SqL K H1 a xs) ∧ R (Itl K a) H1) : iList K tl σ H R := h
theorem r_iL2 {a : Addr} {xs : List V} {A : Addr → Prop} (h : SqL K H a xs) (q : A a) : ∃ a', V.ref a = V.ref a' ∧ (∃ xs, SqL K H a' xs) ∧ A a' := ⟨a, rfl, ⟨xs, h⟩, q⟩
end
theorem at_int {ns : List Int} {i : Int} (h0 : 0 ≤ i) (h1 : i < (ns.length : Int)) : atI (ns.map V.int) i = some (.int (ns.getD i.toNat 0)) := by
  obtain ⟨j, rfl⟩ : ∃ j : Nat, i = (j : Int) := ⟨i.toNat, by omega⟩
  have hj : j < ns.length := by omega
  refine atI_nat ?_
  rw [List.getElem?_map, List.getElem?_eq_getElem hj, Int.toNat_natCast, List.getD_eq_getElem?_getD, List.getElem?_eq_getElem hj]
  rfl
/-! ### heaps -/
theorem same_upd {H : Hp} {p : Addr} {o : HO} (new : H p = none) : Same H (upd H p o) := fun a u at_ => (upd_ne (ne_of_none at_ new)).trans at_
/-- all that is tracked is as it was, but what stands at b -/
def But (b : Addr) (H H' : Hp) : Prop := ∀ a o, a ≠ b → H a = some o → H' a = some o
theorem But.refl (b : Addr) (H : Hp) : But b H H := fun _ _ _ h => h
theorem But.trans {b : Addr} {H H1 H2 : Hp} (x : But b H H1) (y : But b H1 H2) : But b H H2 := fun a o n e => y a o n (x a o n e)
theorem But.of {b : Addr} {H H' : Hp} (x : Same H H') : But b H H' := fun a o _ e => x a o e
theorem But.upd {b : Addr} {H : Hp} {o : HO} : But b H (upd H b o) := fun a u n e => by rw [upd_ne n]; exact e
theorem But.same {b : Addr} {H H' : Hp} {o : HO} (x : But b H H') (h : H b = some o) (h' : H' b = some o) : Same H H' := fun a u e => by
  by_cases q : a = b
  · rw [q, h] at e
    rw [q, h']
    exact e
  · exact x a u q e
/-- from outside, what is made and then changed was never there -/
theorem But.new {b : Addr} {H0 H H' : Hp} (x : But b H H') (n : H0 b = none) (s : Same H0 H) : Same H0 H' := fun a u e => x a u (ne_of_none e n) (s a u e)
theorem But.seq {K : PySem.W.Frag} {b : Addr} {H H' : Hp} {a : Addr} {xs : List V} (e : But b H H') (n : a ≠ b) (h : SqL K H a xs) : SqL K H' a xs := by
  rcases h with (z | ⟨u, z⟩) | z
  · exact .inl (.inl (e _ _ n z))
  · exact .inl (.inr ⟨u, e _ _ n z⟩)
  · exact .inr z
theorem But.free {b : Addr} {H H' : Hp} {o : HO} (e : But b H H') (hb : H' b = some o) {l : Addr} (h : H' l = Option.none) : H l = Option.none := by
  cases q : H l with
  | none => rfl
  | some u =>
    by_cases n : l = b
    · rw [n, hb] at h
      cases h
    · rw [e l u n q] at h
      cases h
/-! ### the box of draws: [digits, the next one's place] -/
def Bx (H : Hp) (b d : Addr) : Prop := ∃ (ds : List Int) (at_ : Nat), H b = some (.lst [.ref d, .int at_]) ∧ H d = some (.lst (ds.map V.int)) ∧ d ≠ b
section
variable {H H' : Hp} {b d a p : Addr}
theorem Bx.same (h : Bx H b d) (s : Same H H') : Bx H' b d := let ⟨ds, k, e1, e2, n⟩ := h; ⟨ds, k, s _ _ e1, s _ _ e2, n⟩
theorem Bx.but (h : Bx H b d) (s : But p H H') (nb : p ≠ b) (nd : p ≠ d) : Bx H' b d := let ⟨ds, k, e1, e2, n⟩ := h; ⟨ds, k, s _ _ nb.symm e1, s _ _ nd.symm e2, n⟩
theorem Bx.ne (h : Bx H b d) (n : H a = none) : a ≠ b := let ⟨_, _, e, _⟩ := h; fun q => by rw [q, e] at n; cases n
theorem Bx.neD (h : Bx H b d) (n : H a = none) : a ≠ d := let ⟨_, _, _, e, _⟩ := h; fun q => by rw [q, e] at n; cases n
theorem Bx.neT {xs : List V} (h : Bx H b d) (n : H a = some (.tup xs)) : a ≠ b := let ⟨_, _, e, _⟩ := h; fun q => by rw [q, e] at n; cases n
theorem Bx.free (h : Bx H' b d) (e : But b H H') (n : H' a = none) : H a = none := let ⟨_, _, q, _⟩ := h; e.free q n
end
/-! ### the rules that change the heap, the new heap a letter -/
section
variable {K : PySem.W.Frag} {σ : St} {H : Hp} {Q : VK}
theorem r_setL {p : Addr} {xs : List V} {k : Int} {j : Nat} {v : V} {q : Hp → Prop} (h1 : H p = some (.lst xs)) (h2 : ixN xs.length k = some j) (h : ∀ H', H' p = some (.lst (xs.set j v)) → But p H H' → q H') : rSetL (.ref p) (.int k) v H q :=
  ⟨p, xs, k, j, rfl, rfl, h1, h2, h _ upd_same But.upd⟩
theorem r_app {p : Addr} {xs : List V} {y : V} (h : H p = some (.lst xs)) (hs : xs.length < sizeLine) (q : ∀ H', H' p = some (.lst (xs ++ [y])) → But p H H' → Q .non H') : rAppend (.ref p) [y] H Q := ⟨p, xs, y, rfl, rfl, h, hs, q _ upd_same But.upd⟩
@[elab_as_elim] theorem upd_new {p : Addr} {o : HO} {motive : Hp → Prop} (np : H p = none) (h : ∀ H', H' p = some o → Same H H' → motive H') : motive (upd H p o) := h _ upd_same (same_upd np)
end
theorem drop_get {α : Type} {xs : List α} {i : Nat} {x : α} (h : xs[i]? = some x) : xs.drop i = x :: xs.drop (i + 1) := by
  obtain ⟨hi, rfl⟩ := List.getElem?_eq_some_iff.mp h
  exact List.drop_eq_getElem_cons hi
theorem r_cat {H : Hp} {Q : VK} {l b : Addr} {xs zs : List V} (h1 : H l = some (.lst xs)) (h2 : H b = some (.lst zs)) (hs : xs.length + zs.length ≤ sizeLine) (q : ∀ p, H p = none → Q (.ref p) (upd H p (.lst (xs ++ zs)))) : rCat (.ref l) (.ref b) H Q :=
  ⟨l, b, xs, zs, rfl, rfl, h1, h2, hs, q⟩
/-! ### lists of tuples -/
section
variable {α : Type}
/-- at ts stand tuples, f of the xs -/
def TL (f : α → List V) (H : Hp) (ts : List Addr) (xs : List α) : Prop := ts.length = xs.length ∧ ∀ (i : Nat) (t : Addr), ts[i]? = some t → ∃ x, xs[i]? = some x ∧ H t = some (.tup (f x))
/-- at a stands a list of tuples, f of the xs -/
def LT (f : α → List V) (H : Hp) (a : Addr) (xs : List α) : Prop := ∃ ts : List Addr, H a = some (.lst (ts.map V.ref)) ∧ TL f H ts xs
variable {f : α → List V} {H H' : Hp} {ts : List Addr} {xs : List α} {a b : Addr}
theorem TL.nil : TL f H [] ([] : List α) := ⟨rfl, fun i t h => by simp at h⟩
theorem TL.same (h : TL f H ts xs) (s : Same H H') : TL f H' ts xs := ⟨h.1, fun i t e => let ⟨x, e1, e2⟩ := h.2 i t e; ⟨x, e1, s _ _ e2⟩⟩
theorem TL.but {o : List V} (h : TL f H ts xs) (s : But b H H') (hb : H b = some (.lst o)) : TL f H' ts xs := ⟨h.1, fun i t e => let ⟨x, e1, e2⟩ := h.2 i t e; ⟨x, e1, s _ _ (ne_of e2 hb (by intro z; cases z)) e2⟩⟩
theorem TL.snoc {t : Addr} {x : α} (h : TL f H ts xs) (ht : H t = some (.tup (f x))) : TL f H (ts ++ [t]) (xs ++ [x]) := by
  refine ⟨by rw [List.length_append, List.length_append, h.1]; rfl, fun i u e => ?_⟩
  by_cases hi : i < ts.length
  · rw [List.getElem?_append_left hi] at e
    obtain ⟨y, e1, e2⟩ := h.2 i u e
    exact ⟨y, by rw [List.getElem?_append_left (by rw [← h.1]; exact hi)]; exact e1, e2⟩
  · rw [List.getElem?_append_right (by omega)] at e
    have hi0 : i - ts.length = 0 := by
      by_cases q : i - ts.length = 0
      · exact q
      · rw [List.getElem?_eq_none (by simp; omega)] at e
        cases e
    rw [hi0] at e
    have e' : t = u := Option.some.inj e
    subst e'
    exact ⟨x, by rw [List.getElem?_append_right (by rw [← h.1]; omega), ← h.1, hi0]; rfl, ht⟩
theorem TL.get (h : TL f H ts xs) {i : Nat} {x : α} (e : xs[i]? = some x) : ∃ t, ts[i]? = some t ∧ H t = some (.tup (f x)) := by
  have hi : i < ts.length := by rw [h.1]; exact (List.getElem?_eq_some_iff.mp e).1
  obtain ⟨y, e1, e2⟩ := h.2 i _ (List.getElem?_eq_getElem hi)
  rw [e] at e1
  cases e1
  exact ⟨_, List.getElem?_eq_getElem hi, e2⟩
/-- an item of the list, read -/
theorem TL.at (h : TL f H ts xs) {i : Int} (h0 : 0 ≤ i) (h1 : i < (xs.length : Int)) : ∃ x t, xs[i.toNat]? = some x ∧ atI (ts.map V.ref) i = some (.ref t) ∧ H t = some (.tup (f x)) := by
  have hi : i.toNat < xs.length := by omega
  obtain ⟨t, e1, e2⟩ := h.get (List.getElem?_eq_getElem hi)
  refine ⟨_, t, List.getElem?_eq_getElem hi, ?_, e2⟩
  have e : i = ((i.toNat : Nat) : Int) := by omega
  rw [e]
  refine atI_nat ?_
  rw [List.getElem?_map, e1]
  rfl
theorem snoc_of {β : Type} : ∀ {l : List β}, l ≠ [] → ∃ G g, l = G ++ [g]
  | [], h => absurd rfl h
  | [x], _ => ⟨[], x, rfl⟩
  | x :: y :: r, _ => by
    obtain ⟨G, g, e⟩ := snoc_of (l := y :: r) (by simp)
    exact ⟨x :: G, g, by rw [e]; rfl⟩
theorem TL.unsnoc {ys : List α} {y : α} (h : TL f H ts (ys ++ [y])) : ∃ (ts0 : List Addr) (tl : Addr), ts = ts0 ++ [tl] ∧ TL f H ts0 ys ∧ H tl = some (.tup (f y)) := by
  have hl := h.1
  simp only [List.length_append, List.length_cons, List.length_nil] at hl
  obtain ⟨ts0, tl, rfl⟩ : ∃ ts0 tl, ts = ts0 ++ [tl] := by
    have hne : ts ≠ [] := by intro e; rw [e] at hl; simp at hl
    exact snoc_of hne
  simp only [List.length_append, List.length_cons, List.length_nil] at hl
  have hl' : ts0.length = ys.length := by omega
  refine ⟨ts0, tl, rfl, ⟨hl', fun i t e => ?_⟩, ?_⟩
  · have hi := (List.getElem?_eq_some_iff.mp e).1
    obtain ⟨x, e1, e2⟩ := h.2 i t (by rw [List.getElem?_append_left hi]; exact e)
    rw [List.getElem?_append_left (by omega)] at e1
    exact ⟨x, e1, e2⟩
  · obtain ⟨x, e1, e2⟩ := h.2 ts0.length tl (by rw [List.getElem?_append_right (Nat.le_refl _), Nat.sub_self]; rfl)
    rw [hl', List.getElem?_append_right (Nat.le_refl _), Nat.sub_self] at e1
    have e1' : y = x := Option.some.inj e1
    rw [e1']
    exact e2
theorem ixN_last (n : Nat) : ixN (n + 1) (-1) = some n := by
  unfold ixN
  rw [if_neg (by omega), if_pos (by omega)]
  congr 1
  omega
theorem set_last (ts : List Addr) (a b : Addr) : ((ts ++ [a]).map V.ref).set ts.length (V.ref b) = (ts ++ [b]).map V.ref := by
  rw [List.map_append, List.map_append, List.set_append_right _ _ (by rw [List.length_map]; exact Nat.le_refl _), List.length_map, Nat.sub_self]
  rfl
theorem TL.len (h : TL f H ts xs) : (ts.map V.ref).length = xs.length := by rw [List.length_map, h.1]
theorem LT.same (h : LT f H a xs) (s : Same H H') : LT f H' a xs := let ⟨ts, e, q⟩ := h; ⟨ts, s _ _ e, q.same s⟩
theorem LT.but {o : List V} (h : LT f H a xs) (s : But b H H') (hb : H b = some (.lst o)) (n : a ≠ b) : LT f H' a xs := let ⟨ts, e, q⟩ := h; ⟨ts, s _ _ n e, q.but s hb⟩
theorem TL.box (h : TL f H ts xs) (s : But b H H') {d : Addr} (B : Bx H b d) : TL f H' ts xs := let ⟨_, _, e, _⟩ := B; h.but s e
theorem LT.box (h : LT f H a xs) (s : But b H H') {d : Addr} (B : Bx H b d) (n : a ≠ b) : LT f H' a xs := let ⟨_, _, e, _⟩ := B; h.but s e n
end
/-- a block -/
@[reducible] def bV (b : Int × Int) : List V := [.int b.1, .int b.2]
theorem menu {ns : List Int} {r : Int} (h0 : 0 ≤ r) (h1 : r < (ns.length : Int)) : ∃ v, v ∈ ns ∧ atI (ns.map V.int) r = some (.int v) := by
  refine ⟨ns.getD r.toNat 0, ?_, at_int h0 h1⟩
  have hi : r.toNat < ns.length := by omega
  simp only [List.getD_eq_getElem?_getD]
  rw [List.getElem?_eq_getElem hi]
  exact List.getElem_mem hi
/-! ### isinstance -/
section
variable {K : PySem.W.Frag} {H : Hp} {Q : VK}
theorem r_isi {x : V} {t T : String} {b : Bool} (ty : TyOf K H x (.type t)) (e : kitB t T = some b) (q : Q (.bl b) H) : rIsi K [x, .ty T] H Q := ⟨x, _, _, _, b, rfl, .ty T, .base ty, kit_ty e, q⟩
theorem kit_bb : kitB "bool" "bool" = some true := by decide +kernel
theorem kit_ii : kitB "int" "int" = some true := by decide +kernel
theorem kit_ib : kitB "int" "bool" = some false := by decide +kernel
theorem kit_bi : kitB "bool" "int" = some true := by decide +kernel
theorem kit_nb : kitB "NoneType" "bool" = some false := by decide +kernel
theorem kit_nt : kitB "NoneType" "tuple" = some false := by decide +kernel
theorem kit_ll : kitB "list" "list" = some true := by decide +kernel
theorem kit_tt : kitB "tuple" "tuple" = some true := by decide +kernel
theorem kit_ss : kitB "str" "str" = some true := by decide +kernel
theorem kit_lt : kitB "list" "tuple" = some false := by decide +kernel
theorem kit_tl : kitB "tuple" "list" = some false := by decide +kernel
theorem r_isi_ib {i : Int} (q : Q (.bl false) H) : rIsi K [.int i, .ty "bool"] H Q := r_isi (.int i) kit_ib q
theorem r_isi_ii {i : Int} (q : Q (.bl true) H) : rIsi K [.int i, .ty "int"] H Q := r_isi (.int i) kit_ii q
theorem r_isi_bb {i : Bool} (q : Q (.bl true) H) : rIsi K [.bl i, .ty "bool"] H Q := r_isi (.bl i) kit_bb q
theorem r_isi_nb (q : Q (.bl false) H) : rIsi K [.non, .ty "bool"] H Q := r_isi .non kit_nb q
theorem r_isi_nt (q : Q (.bl false) H) : rIsi K [.non, .ty "tuple"] H Q := r_isi .non kit_nt q
theorem r_isi_ll {a : Addr} {xs : List V} (e : H a = some (.lst xs)) (q : Q (.bl true) H) : rIsi K [.ref a, .ty "list"] H Q := r_isi (.lst e) kit_ll q
theorem r_isi_tt {a : Addr} {xs : List V} (e : H a = some (.tup xs)) (q : Q (.bl true) H) : rIsi K [.ref a, .ty "tuple"] H Q := r_isi (.tup e) kit_tt q
end
theorem ite_notT {A B : Prop} (h : B) : if (!true) = true then A else B := h
theorem ite_notF {A B : Prop} (h : A) : if (!false) = true then A else B := h
/-! ### data at any depth -/
class Enc (α : Type) [DecidableEq α] where
  enc : α → PyData
  dep : Nat
  lay : ∀ x, (enc x).canLay0 = true
  dle : ∀ x, (enc x).depth ≤ dep
  eqv : ∀ x y, PyData.eqv (enc x) (enc y) = decide (x = y)
open Enc (enc)
instance encInt : Enc Int := ⟨.int, 0, fun _ => rfl, fun _ => Nat.le_refl _, fun x y => by rw [PyData.eqv]; exact Bool.beq_eq_decide_eq x y⟩
instance encBool : Enc Bool := ⟨.bool, 0, fun _ => rfl, fun _ => Nat.le_refl _, fun x y => by rw [PyData.eqv]; exact Bool.beq_eq_decide_eq x y⟩
theorem layAll {α : Type} [DecidableEq α] [Enc α] : ∀ xs : List α, PyData.canLayAll0 (xs.map enc) = true
  | [] => rfl
  | x :: xs => by rw [List.map_cons, PyData.canLayAll0, Enc.lay x, layAll xs]; rfl
theorem depAll {α : Type} [DecidableEq α] [Enc α] : ∀ xs : List α, PyData.depthAll (xs.map enc) ≤ Enc.dep α
  | [] => by rw [List.map_nil, PyData.depthAll]; exact Nat.zero_le _
  | x :: xs => by
    have h1 := depAll xs
    have h2 := Enc.dle x
    rw [List.map_cons]
    rw [PyData.depthAll]
    omega
theorem eqvAll {α : Type} [DecidableEq α] [Enc α] : ∀ xs ys : List α, PyData.eqvAll (xs.map enc) (ys.map enc) = decide (xs = ys)
  | .nil, .nil => by rw [List.map_nil, PyData.eqvAll]; exact (decide_eq_true rfl).symm
  | .nil, .cons b m => by simp [PyData.eqvAll, List.map_cons]
  | .cons a l, .nil => by simp [PyData.eqvAll, List.map_cons]
  | x :: xs, y :: ys => by
    rw [List.map_cons, List.map_cons, PyData.eqvAll, Enc.eqv, eqvAll xs ys]
    by_cases h : x = y <;> by_cases h' : xs = ys <;> simp [h, h']
instance encList {α : Type} [DecidableEq α] [Enc α] : Enc (List α) := ⟨fun xs => .list (xs.map enc), Enc.dep α + 1, fun xs => by rw [PyData.canLay0]; exact layAll xs,
  fun xs => by have := depAll xs; rw [PyData.depth]; omega, fun xs ys => by rw [PyData.eqv]; exact eqvAll xs ys⟩
instance encPair {α β : Type} [DecidableEq α] [DecidableEq β] [Enc α] [Enc β] : Enc (α × β) := ⟨fun x => .tuple [enc x.1, enc x.2], max (Enc.dep α) (Enc.dep β) + 1,
  fun x => by rw [PyData.canLay0, PyData.canLayAll0, PyData.canLayAll0, PyData.canLayAll0, Enc.lay, Enc.lay]; rfl,
  fun x => by
    have h1 := Enc.dle x.1
    have h2 := Enc.dle x.2
    rw [PyData.depth, PyData.depthAll, PyData.depthAll, PyData.depthAll]
    omega,
  fun x y => by
    rw [PyData.eqv, PyData.eqvAll, PyData.eqvAll, PyData.eqvAll, Enc.eqv, Enc.eqv]
    obtain ⟨a, b⟩ := x
    obtain ⟨c, d⟩ := y
    by_cases h : a = c <;> by_cases h' : b = d <;> simp [h, h']⟩
theorem shapedE {α : Type} [DecidableEq α] [Enc α] (hd : Enc.dep α ≤ 64) (x : α) : SeqAt.shaped (enc x) = true := by
  have h := Enc.dle x
  show ((enc x).canLay0 && decide ((enc x).depth ≤ 64)) = true
  rw [Bool.and_eq_true]
  exact ⟨Enc.lay x, decide_eq_true (by omega)⟩
theorem Same.sqT {K : PySem.W.Frag} {H H' : Hp} {a : Addr} {xs : List V} (e : Same H H') (h : SqT K H a xs) : SqT K H' a xs := by
  rcases h with (z | ⟨u, z⟩) | z
  · exact .inl (.inl (e _ _ z))
  · exact .inl (.inr ⟨u, e _ _ z⟩)
  · exact .inr z
mutual
theorem Dp.same {K : PySem.W.Frag} {H H' : Hp} (s : Same H H') : ∀ (d : PyData) (v : V), Dp K H v d → Dp K H' v d
  | .none, _, h => by cases h; exact .non
  | .bool b, _, h => by cases h; exact .bl b
  | .int i, _, h => by cases h; exact .int i
  | .str x, _, h => by cases h; exact .str x
  | .list ds, _, h => by
    cases h with
    | lst a b => exact .lst (s.seq a) (DpAll.same s ds _ b)
  | .tuple ds, _, h => by
    cases h with
    | tup a b => exact .tup (Same.sqT s a) (DpAll.same s ds _ b)
  | .dict _, _, h => by cases h
theorem DpAll.same {K : PySem.W.Frag} {H H' : Hp} (s : Same H H') : ∀ (ds : List PyData) (vs : List V), DpAll K H vs ds → DpAll K H' vs ds
  | [], _, h => by cases h; exact .nil
  | d :: ds, _, h => by
    cases h with
    | cons a b => exact .cons (Dp.same s d _ a) (DpAll.same s ds _ b)
end
/-- the value v is the datum x -/
def Is {α : Type} [DecidableEq α] [Enc α] (K : PySem.W.Frag) (H : Hp) (v : V) (x : α) : Prop := Dp K H v (enc x)
section
variable {K : PySem.W.Frag} {H H' : Hp} {Q : VK}
theorem Is.same {α : Type} [DecidableEq α] [Enc α] {v : V} {x : α} (h : Is K H v x) (s : Same H H') : Is K H' v x := Dp.same s _ _ h
theorem is_int {i : Int} : Is K H (.int i) i := .int i
theorem is_bl {i : Bool} : Is K H (.bl i) i := .bl i
theorem dpAll_ints : ∀ ns : List Int, DpAll K H (ns.map V.int) (ns.map enc)
  | [] => .nil
  | n :: ns => .cons (.int n) (dpAll_ints ns)
theorem is_ints {a : Addr} {ns : List Int} (h : SqL K H a (ns.map V.int)) : Is K H (.ref a) ns := .lst h (dpAll_ints ns)
theorem is_pair {α β : Type} [DecidableEq α] [DecidableEq β] [Enc α] [Enc β] {a : Addr} {u v : V} {x : α} {y : β} (h : SqT K H a [u, v]) (h1 : Is K H u x) (h2 : Is K H v y) : Is K H (.ref a) (x, y) := .tup h (.cons h1 (.cons h2 .nil))
theorem TL.dp : ∀ {ts : List Addr} {bs : List (Int × Int)}, TL bV H ts bs → DpAll K H (ts.map V.ref) (bs.map enc)
  | [], [], _ => .nil
  | [], _ :: _, h => by have := h.1; simp at this
  | _ :: _, [], h => by have := h.1; simp at this
  | t :: ts, b :: bs, h => by
    obtain ⟨x, e1, e2⟩ := h.2 0 t rfl
    have e1' : b = x := Option.some.inj e1
    subst e1'
    refine .cons (is_pair (SqT.of e2) is_int is_int) (TL.dp ⟨by have := h.1; simpa using this, fun i t' e => ?_⟩)
    obtain ⟨x, e3, e4⟩ := h.2 (i + 1) t' (by simpa using e)
    exact ⟨x, by simpa using e3, e4⟩
theorem LT.is {a : Addr} {bs : List (Int × Int)} (h : LT bV H a bs) : Is K H (.ref a) bs := let ⟨_, e, t⟩ := h; .lst (SqL.of e) t.dp
theorem r_neE {α : Type} [DecidableEq α] [Enc α] {u v : V} {x y : α} (h1 : Is K H u x) (h2 : Is K H v y) (hd : Enc.dep α ≤ 64) (q : Q (.bl (!decide (x = y))) H) : rNeD K u v H Q :=
  ⟨_, _, h1, h2, shapedE hd x, shapedE hd y, by rw [Enc.eqv]; exact q⟩
theorem r_neSame {u v : V} {d : PyData} (h1 : Dp K H u d) (h2 : Dp K H v d) (hs : SeqAt.shaped d = true) (q : Q (.bl false) H) : rNeD K u v H Q :=
  ⟨_, _, h1, h2, hs, hs, by rw [SeqAt.eqv_refl d (SeqAt.canLay_of_shaped hs)]; exact q⟩
theorem r_eqSame {u v : V} {d : PyData} (h1 : Dp K H u d) (h2 : Dp K H v d) (hs : SeqAt.shaped d = true) (q : Q (.bl true) H) : rEqD K u v H Q :=
  ⟨_, _, h1, h2, hs, hs, by rw [SeqAt.eqv_refl d (SeqAt.canLay_of_shaped hs)]; exact q⟩
theorem first_at {β : Type} {x : β} : ∀ {xs : List β}, x ∈ xs → ∃ j : Nat, xs[j]? = some x ∧ ∀ m : Nat, m < j → xs[m]? ≠ some x
  | y :: xs, h => by
    by_cases e : y = x
    · exact ⟨0, by rw [e]; rfl, fun m hm => by omega⟩
    · obtain h | h := List.mem_cons.mp h
      · exact absurd h.symm e
      · obtain ⟨j, h1, h2⟩ := first_at h
        refine ⟨j + 1, by simpa using h1, fun m hm => ?_⟩
        cases m with
        | zero => intro q; exact e (Option.some.inj q)
        | succ m => have := h2 m (by omega); simpa using this
theorem r_indexE {α : Type} [DecidableEq α] [Enc α] {a : Addr} {y : V} {xs : List α} {x : α} (h1 : Is K H (.ref a) xs) (h2 : Is K H y x) (hd : Enc.dep α + 1 ≤ 64) (hm : x ∈ xs) (q : ∀ j : Nat, xs[j]? = some x → Q (.int j) H) : rIndexD K (.ref a) [y] H Q := by
  obtain ⟨j, e1, e2⟩ := first_at hm
  refine ⟨a, y, enc x, xs.map enc, j, enc x, rfl, rfl, h1, h2, shapedE (α := List α) hd xs, shapedE (by omega) x, by rw [List.getElem?_map, e1]; rfl, by rw [Enc.eqv]; simp, fun m z' hm' hz => ?_, q j e1⟩
  rw [List.getElem?_map] at hz
  obtain ⟨u, hu, rfl⟩ := Option.map_eq_some_iff.mp hz
  rw [Enc.eqv]
  exact decide_eq_false fun e => e2 m hm' (by rw [hu, e])
theorem r_eqE {α : Type} [DecidableEq α] [Enc α] {u v : V} {x y : α} (h1 : Is K H u x) (h2 : Is K H v y) (hd : Enc.dep α ≤ 64) (q : Q (.bl (decide (x = y))) H) : rEqD K u v H Q :=
  ⟨_, _, h1, h2, shapedE hd x, shapedE hd y, by rw [Enc.eqv]; exact q⟩
end
/-! ### valid layouts -/
def VL (size : Int) : Int → List (Int × Int) → Prop
  | e, [] => e ≤ size
  | e, (s, l) :: r => e ≤ s ∧ 1 ≤ l ∧ VL size (s + l) r
def endOf : Int → List (Int × Int) → Int
  | e, [] => e
  | _, (s, l) :: r => endOf (s + l) r
theorem VL.snoc {size s l : Int} : ∀ {bs : List (Int × Int)} {e : Int}, VL size e bs → endOf e bs ≤ s → 1 ≤ l → s + l ≤ size → VL size e (bs ++ [(s, l)])
  | [], e, h, h1, h2, h3 => ⟨h1, h2, h3⟩
  | (a, c) :: r, e, h, h1, h2, h3 => ⟨h.1, h.2.1, VL.snoc h.2.2 h1 h2 h3⟩
theorem endOf_snoc {s l : Int} : ∀ (bs : List (Int × Int)) (e : Int), endOf e (bs ++ [(s, l)]) = s + l
  | [], _ => rfl
  | (a, c) :: r, _ => endOf_snoc r (a + c)
theorem VL.end_le {size : Int} : ∀ {bs : List (Int × Int)} {e : Int}, VL size e bs → endOf e bs ≤ size
  | [], _, h => h
  | (s, l) :: r, _, h => VL.end_le (bs := r) (e := s + l) h.2.2
theorem VL.le_size {size : Int} : ∀ {bs : List (Int × Int)} {e : Int}, VL size e bs → e ≤ size
  | [], _, h => h
  | (s, l) :: r, e, h => by
    have := VL.le_size h.2.2
    have := h.1
    have := h.2.1
    omega
theorem VL.mem {size : Int} : ∀ {bs : List (Int × Int)} {e : Int}, VL size e bs → ∀ x ∈ bs, e ≤ x.1 ∧ 1 ≤ x.2 ∧ x.1 + x.2 ≤ size
  | (s, l) :: r, e, h, x, hx => by
    obtain rfl | hx := List.mem_cons.mp hx
    · exact ⟨h.1, h.2.1, h.2.2.le_size⟩
    · have := VL.mem h.2.2 x hx
      have h1 := h.1
      have h2 := h.2.1
      omega
theorem VL.pw {size : Int} : ∀ {bs : List (Int × Int)} {e : Int}, VL size e bs → bs.Pairwise (fun a b => a.1 + a.2 ≤ b.1)
  | [], _, _ => .nil
  | (s, l) :: r, e, h => List.pairwise_cons.mpr ⟨fun x hx => (VL.mem h.2.2 x hx).1, VL.pw h.2.2⟩
/-- the cell's value: one more than the index of its block, or 0 -/
def cellOf (at_ : Int) : Int → List (Int × Int) → Int
  | _, [] => 0
  | k, (s, l) :: r => if s ≤ at_ ∧ at_ < s + l then k + 1 else cellOf at_ (k + 1) r
def Covers (bs : List (Int × Int)) (at_ : Int) : Prop := ∃ x ∈ bs, x.1 ≤ at_ ∧ at_ < x.1 + x.2
theorem cellOf_zero {at_ : Int} : ∀ {bs : List (Int × Int)} {k : Int}, 0 ≤ k → (cellOf at_ k bs = 0 ↔ ¬ Covers bs at_)
  | [], k, _ => by simp [cellOf, Covers]
  | (s, l) :: r, k, hk => by
    unfold cellOf
    by_cases c : s ≤ at_ ∧ at_ < s + l
    · rw [if_pos c]
      constructor
      · intro h; omega
      · intro h; exact absurd ⟨(s, l), List.mem_cons_self, c⟩ h
    · rw [if_neg c, cellOf_zero (bs := r) (by omega)]
      constructor
      · rintro h ⟨x, hx, hc⟩
        obtain rfl | hx := List.mem_cons.mp hx
        · exact c hc
        · exact h ⟨x, hx, hc⟩
      · rintro h ⟨x, hx, hc⟩
        exact h ⟨x, List.mem_cons_of_mem _ hx, hc⟩
theorem cellOf_take {at_ : Int} {size : Int} : ∀ {bs : List (Int × Int)} {e k : Int} {j : Nat} {x : Int × Int}, VL size e bs → bs[j]? = some x → (x.1 ≤ at_ ∧ at_ < x.1 + x.2) → cellOf at_ k bs = k + j + 1
  | (s, l) :: r, e, k, 0, x, h, ex, hc => by
    have e' : (s, l) = x := Option.some.inj ex
    subst e'
    unfold cellOf
    rw [if_pos hc]
    simp
  | (s, l) :: r, e, k, j + 1, x, h, ex, hc => by
    have ex' : r[j]? = some x := by simpa using ex
    have hm := VL.mem h.2.2 x (List.mem_of_getElem? ex')
    unfold cellOf
    rw [if_neg (by omega), cellOf_take h.2.2 ex' hc]
    omega
theorem cellOf_snoc {at_ : Int} {size : Int} : ∀ {bs : List (Int × Int)} {e c : Int} {k : Nat} {x : Int × Int}, VL size e bs → bs[k]? = some x → cellOf at_ c (bs.take (k + 1)) = if x.1 ≤ at_ ∧ at_ < x.1 + x.2 then c + k + 1 else cellOf at_ c (bs.take k)
  | (s, l) :: r, e, c, 0, x, h, ex => by
    have e' : (s, l) = x := Option.some.inj ex
    subst e'
    show cellOf at_ c [(s, l)] = _
    unfold cellOf
    simp only [List.take_zero, cellOf]
    simp
  | (s, l) :: r, e, c, k + 1, x, h, ex => by
    have ex' : r[k]? = some x := by simpa using ex
    have hm := VL.mem h.2.2 x (List.mem_of_getElem? ex')
    have ih := cellOf_snoc (at_ := at_) (c := c + 1) h.2.2 ex'
    rw [List.take_succ_cons, List.take_succ_cons, cellOf, cellOf, ih]
    by_cases q : s ≤ at_ ∧ at_ < s + l
    · rw [if_pos q, if_pos q, if_neg (by omega)]
    · rw [if_neg q, if_neg q]
      by_cases q2 : x.1 ≤ at_ ∧ at_ < x.1 + x.2
      · rw [if_pos q2, if_pos q2]; omega
      · rw [if_neg q2, if_neg q2]
def CellsOf (size : Int) (bs : List (Int × Int)) (cs : List Int) : Prop := (cs.length : Int) = size ∧ ∀ i, i < cs.length → cs[i]? = some (cellOf i 0 bs)
/-! ### maximal rows of zeros -/
def runsTo (c : Nat → Int) : Nat → List (Int × Int)
  | 0 => []
  | i + 1 => if c i = 0 then (if 0 < i ∧ c (i - 1) = 0 then (runsTo c i).dropLast ++ [(((runsTo c i).getLastD (0, 0)).1, ((runsTo c i).getLastD (0, 0)).2 + 1)] else runsTo c i ++ [((i : Int), 1)]) else runsTo c i
theorem runsTo_ne {c : Nat → Int} : ∀ {i : Nat}, 0 < i → c (i - 1) = 0 → runsTo c i ≠ []
  | i + 1, _, h => by
    rw [Nat.add_sub_cancel] at h
    rw [runsTo, if_pos h]
    split <;> simp
theorem runsTo_len {c : Nat → Int} : ∀ i : Nat, (runsTo c i).length ≤ i
  | 0 => Nat.le_refl _
  | i + 1 => by
    have ih := runsTo_len (c := c) i
    rw [runsTo]
    split
    · split
      · rename_i h
        have := runsTo_ne h.1 h.2
        have : 0 < (runsTo c i).length := List.length_pos_iff.mpr this
        simp
        omega
      · simp
        omega
    · omega
def gapsF (size : Int) : Int → List (Int × Int) → List (Int × Int)
  | e, [] => if size > e then [(e, size - e)] else []
  | e, (s, l) :: r => if s > e then (e, s - e) :: gapsF size (s + l) r else gapsF size (s + l) r
theorem runs_free {c : Nat → Int} {e : Nat} {G : List (Int × Int)} (h0 : runsTo c e = G) (hp : e = 0 ∨ c (e - 1) ≠ 0) : ∀ m : Nat, (∀ i, e ≤ i → i < e + m → c i = 0) → runsTo c (e + m) = if 0 < m then G ++ [((e : Int), (m : Int))] else G
  | 0, _ => by simpa using h0
  | m + 1, h => by
    have ih := runs_free h0 hp m (fun i h1 h2 => h i h1 (by omega))
    have hc : c (e + m) = 0 := h _ (by omega) (by omega)
    show runsTo c ((e + m) + 1) = _
    rw [runsTo, if_pos hc, ih]
    by_cases hm : 0 < m
    · have h1 : c (e + m - 1) = 0 := h _ (by omega) (by omega)
      rw [if_pos ⟨by omega, h1⟩, if_pos hm, if_pos (Nat.succ_pos _)]
      simp
    · have hm0 : m = 0 := by omega
      subst hm0
      rw [if_neg hm, if_pos (Nat.succ_pos _), if_neg (by
        rintro ⟨h1, h2⟩
        rcases hp with h3 | h3
        · omega
        · exact h3 h2)]
      simp
theorem runs_used {c : Nat → Int} {s : Nat} : ∀ m : Nat, (∀ i, s ≤ i → i < s + m → c i ≠ 0) → runsTo c (s + m) = runsTo c s
  | 0, _ => rfl
  | m + 1, h => by
    show runsTo c ((s + m) + 1) = _
    rw [runsTo, if_neg (h _ (by omega) (by omega))]
    exact runs_used m (fun i h1 h2 => h i h1 (by omega))
theorem runs_gaps {c : Nat → Int} {n : Nat} : ∀ {bs : List (Int × Int)} {e : Nat} {G : List (Int × Int)}, VL n e bs → (∀ i : Nat, e ≤ i → i < n → (c i = 0 ↔ ¬ Covers bs i)) → runsTo c e = G → (e = 0 ∨ c (e - 1) ≠ 0) → runsTo c n = G ++ gapsF n e bs
  | [], e, G, h, hc, h0, hp => by
    have h' : e ≤ n := by have : (e : Int) ≤ n := h; omega
    obtain ⟨m, rfl⟩ : ∃ m, n = e + m := ⟨n - e, by omega⟩
    rw [runs_free h0 hp m (fun i h1 h2 => (hc i h1 h2).mpr (by simp [Covers])), gapsF]
    by_cases hm : 0 < m
    · rw [if_pos hm, if_pos (by omega)]
      congr 3
      omega
    · rw [if_neg hm, if_neg (by omega)]
      simp
  | (s, l) :: r, e, G, h, hc, h0, hp => by
    obtain ⟨h1, h2, h3⟩ := h
    have h4 := h3.le_size
    obtain ⟨s', rfl⟩ : ∃ s' : Nat, s = s' := ⟨s.toNat, by omega⟩
    obtain ⟨l', rfl⟩ : ∃ l' : Nat, l = l' := ⟨l.toNat, by omega⟩
    obtain ⟨m, rfl⟩ : ∃ m, s' = e + m := ⟨s' - e, by omega⟩
    have nc : ∀ i : Nat, i < e + m → ¬ Covers ((((e + m : Nat) : Int), (l' : Int)) :: r) i := by
      rintro i hi ⟨x, hx, hcx⟩
      obtain rfl | hx := List.mem_cons.mp hx
      · simp only at hcx; omega
      · have := VL.mem h3 x hx
        omega
    have a1 := runs_free h0 hp m (fun i q1 q2 => (hc i q1 (by omega)).mpr (nc i q2))
    have a2 := runs_used (c := c) (s := e + m) l' (fun i q1 q2 q3 => (hc i (by omega) (by omega)).mp q3 ⟨_, List.mem_cons_self, by simp only; omega⟩)
    rw [a1] at a2
    have a3 := runs_gaps (c := c) (n := n) (bs := r) (e := e + m + l') (by rw [Int.natCast_add]; exact h3) (fun i q1 q2 => by
      rw [hc i (by omega) q2]
      constructor
      · rintro q3 ⟨x, hx, hcx⟩
        exact q3 ⟨x, List.mem_cons_of_mem _ hx, hcx⟩
      · rintro q3 ⟨x, hx, hcx⟩
        obtain rfl | hx := List.mem_cons.mp hx
        · simp only at hcx; omega
        · exact q3 ⟨x, hx, hcx⟩) a2 (.inr (fun q => (hc (e + m + l' - 1) (by omega) (by omega)).mp q ⟨_, List.mem_cons_self, by simp only; omega⟩))
    rw [a3, gapsF, Int.natCast_add (e + m) l']
    by_cases hm : 0 < m
    · rw [if_pos hm, if_pos (by omega)]
      simp
      omega
    · rw [if_neg hm, if_neg (by omega)]
/-! ### max(xs, default=d) -/
def rMaxD (K : PySem.W.Frag) : List V → List V → Hp → VK → Prop := fun vs zs H Q => ∃ (a : Addr) (ns : List Int) (d : Int), vs = [V.ref a] ∧ zs = [V.int d] ∧ SqL K H a (ns.map V.int) ∧
  Q (.int (match ns with | [] => d | n :: r => r.foldl max n)) H
theorem alike_ints (ns : List Int) : PySem.W.AlikeAll (ns.map PyData.int) := by
  refine ⟨fun x hx y hy => ?_, fun x hx => ?_⟩
  · obtain ⟨i, _, rfl⟩ := List.mem_map.mp hx
    obtain ⟨j, _, rfl⟩ := List.mem_map.mp hy
    rfl
  · obtain ⟨i, _, rfl⟩ := List.mem_map.mp hx
    intro h
    cases h
theorem cr_maxD {X : Cx} {k : Nat} (hc : X.calm = true) (hr : Room k X.A) : CallRK X (.builtin "max") [Str.ofString "default"] (rMaxD X.K) := by
  rintro pins s σ H vs zs us ws Q I r rz ⟨a, ns, d, rfl, rfl, hs, q⟩
  obtain rfl := Vals.ref1 r
  obtain ⟨w1, rfl, td, rfl⟩ := vals1 rz
  rcases I.list hs with ⟨its, rv, hl, -⟩
  obtain ⟨as, hra⟩ := Dp.readsAll I (ns.map PyData.int) _ its (dpAll_ints ns) rv
  have hu := hr.units
  refine PySem.W.max_list_default (I.ok.hd hc) hl.isList hra (alike_ints ns) (by rw [PySem.W.ke_depthAll]; omega) (fun e h' tk hk => ?_) (fun y ys i v h' tk bs e hv hrd hk => ?_)
  · cases ns with
    | nil => exact ⟨.int d, H, I.kept hk, ⟨_, rfl⟩, q⟩
    | cons n r => cases e
  · cases ns with
    | nil => cases e
    | cons n r =>
      rw [List.map_cons] at e
      injection e with e1 e2
      subst e1 e2
      rw [PySem.W.maxD_ints] at hrd
      cases hrd with
      | int i t => exact ⟨.int _, H, I.kept hk, ⟨_, rfl⟩, q⟩
/-! ### slices -/
theorem cut_take {xs : List V} {i : Nat} (h : i ≤ xs.length) : cutV xs none (some (i : Int)) = xs.take i := by
  unfold cutV
  rw [HT.sIx_none, HT.sIx_nat, List.drop_zero, Nat.sub_zero, Nat.min_eq_left h]
theorem cut_drop {xs : List V} {i : Nat} (h : i ≤ xs.length) : cutV xs (some (i : Int)) none = xs.drop i := by
  unfold cutV
  rw [HT.sIx_none, HT.sIx_nat, Nat.min_eq_left h, List.take_of_length_le]
  rw [List.length_drop]
  exact Nat.le_refl _
theorem TL.take {α : Type} {f : α → List V} {H : Hp} {ts : List Addr} {xs : List α} (h : TL f H ts xs) (n : Nat) : TL f H (ts.take n) (xs.take n) := by
  refine ⟨by rw [List.length_take, List.length_take, h.1], fun i t e => ?_⟩
  rw [List.getElem?_take] at e
  split at e
  · rename_i hi
    obtain ⟨x, e1, e2⟩ := h.2 i t e
    exact ⟨x, by rw [List.getElem?_take, if_pos hi]; exact e1, e2⟩
  · cases e
theorem TL.drop {α : Type} {f : α → List V} {H : Hp} {ts : List Addr} {xs : List α} (h : TL f H ts xs) (n : Nat) : TL f H (ts.drop n) (xs.drop n) := by
  refine ⟨by rw [List.length_drop, List.length_drop, h.1], fun i t e => ?_⟩
  rw [List.getElem?_drop] at e ⊢
  exact h.2 _ t e
theorem TL.append {α : Type} {f : α → List V} {H : Hp} {ts us : List Addr} {xs ys : List α} (h : TL f H ts xs) (h' : TL f H us ys) : TL f H (ts ++ us) (xs ++ ys) := by
  refine ⟨by rw [List.length_append, List.length_append, h.1, h'.1], fun i t e => ?_⟩
  by_cases hi : i < ts.length
  · rw [List.getElem?_append_left hi] at e
    obtain ⟨x, e1, e2⟩ := h.2 i t e
    exact ⟨x, by rw [List.getElem?_append_left (by rw [← h.1]; exact hi)]; exact e1, e2⟩
  · rw [List.getElem?_append_right (by omega)] at e
    obtain ⟨x, e1, e2⟩ := h'.2 _ t e
    exact ⟨x, by rw [List.getElem?_append_right (by rw [← h.1]; omega), ← h.1]; exact e1, e2⟩
/-! ### lists of ints that rise -/
theorem inc_ext : ∀ {l m : List Int}, l.Pairwise (· < ·) → m.Pairwise (· < ·) → (∀ x, x ∈ l ↔ x ∈ m) → l = m
  | [], [], _, _, _ => rfl
  | [], y :: m, _, _, h => absurd ((h y).mpr List.mem_cons_self) (by simp)
  | x :: l, [], _, _, h => absurd ((h x).mp List.mem_cons_self) (by simp)
  | .cons x l, .cons y m, hl, hm, h => by
    obtain ⟨l1, l2⟩ := List.pairwise_cons.mp hl
    obtain ⟨m1, m2⟩ := List.pairwise_cons.mp hm
    have e : x = y := by
      have a1 := (h x).mp List.mem_cons_self
      have a2 := (h y).mpr List.mem_cons_self
      obtain a1 | a1 := List.mem_cons.mp a1
      · exact a1
      · obtain a2 | a2 := List.mem_cons.mp a2
        · exact a2.symm
        · have := m1 x a1
          have := l1 y a2
          omega
    subst e
    rw [inc_ext l2 m2 fun z => ?_]
    constructor
    · intro hz
      rcases List.mem_cons.mp ((h z).mp (List.mem_cons_of_mem _ hz)) with e | q
      · have := l1 z hz
        omega
      · exact q
    · intro hz
      rcases List.mem_cons.mp ((h z).mpr (List.mem_cons_of_mem _ hz)) with e | q
      · have := m1 z hz
        omega
      · exact q
/-- the same in the order of pairs -/
def LexLe (a b : Int × Int) : Prop := a.1 < b.1 ∨ (a.1 = b.1 ∧ a.2 ≤ b.2)
theorem lex_uniq {l m : List (Int × Int)} (hl : l.Pairwise LexLe) (hm : m.Pairwise LexLe) (h : l.Perm m) : l = m := by
  refine List.Perm.eq_of_pairwise (le := LexLe) (fun a b _ _ h1 h2 => ?_) hl hm h
  unfold LexLe at h1 h2
  obtain ⟨a1, a2⟩ := a
  obtain ⟨b1, b2⟩ := b
  simp only at h1 h2
  rw [Prod.mk.injEq]
  omega
theorem VL.lex {size e : Int} {bs : List (Int × Int)} (h : VL size e bs) : bs.Pairwise LexLe := by
  have hm := h.mem
  refine (List.Pairwise.and_mem.mp h.pw).imp fun {a b} q => ?_
  have := hm a q.1
  unfold LexLe
  omega
end Pf

set_option maxHeartbeats 3000000
namespace Pf
open L2 PySem PySem.Spec PyProof.Rows
/-! own exceptions whose __init__ calls super().__init__ over ValueError's -/
/-- what is written of the class at C, its method's cell of the class at cc -/
structure OwnX (K : PySem.W.Frag) (C cc : Addr) : Prop where
  T : OexC K C
  cell : ∃ cl cld csl, K.lookup cc = some ⟨cl, cld, .cell (some (.ref C)), csl⟩
  sub : PySem.W.mroIn K C (.ref C) = some true
  sup : PySem.W.ks_superIn K C C "__init__" = some (some (.builtin "ValueError.__init__"))
  ve : PySem.W.subIn K (.ref C) (.type "ValueError") = some true
  no : PySem.W.nsIn K PySem.cStatics "thirdparty.any" = some none
section
variable {X : Cx} {pins : List (Addr × Obj)} {σ : L2.St} {H : Hp} {s : Shared} {a C : Addr}
/-- the bound __init__ of ValueError, called -/
theorem wrapper_ok {A : Around} {u : Addr} {us : List Value} {Q : Value → Shared → Prop} {E : Value → Shared → Prop} (T : OexC X.K C) (I : Inv X pins σ H s) (hu : s.heap.get? u = some (PySem.W.kxs_mw "ValueError.__init__" a)) (e : H a = some (exo a C none)) (hz : us.length ≤ sizeLine)
    (h : ∀ s', Inv X pins σ H s' → Q .none s') : wpAny (model X.prog X.w) A (call (.ref u) us) Q E s := by
  rcases T.cls with ⟨_, _, _, _, bm, _, _, _, _, _, _, _, _, _, _, hC, -⟩
  obtain ⟨t0, ho⟩ := exo_at I.hok e
  have hC' := I.kIn _ _ hC
  rcases s with ⟨hp, gs, dr, tk, os⟩
  refine wpAny_call ?_
  refine codeAny_of_tree ?_
  show wpAny _ A.in1 (callAny (.ref u) ⟨us, []⟩) _ _ _
  simp only [callAny]
  refine wpAny_bind ?_
  refine wpAny_load hu ?_
  simp only [PySem.W.kxs_mw, show (Value.type "method-wrapper" == Value.type "method" || Value.type "method-wrapper" == Value.type "builtin_function_or_method" || Value.type "method-wrapper" == Value.type "method-wrapper") = true by decide, if_true]
  refine PySem.W.KFB.if_so (hc := by decide) ?_
  refine wpAny_bind (PySem.W.check_bound_init F.excBase_ValueError.toExcCallFacts hC' ho rfl ?_)
  refine wpAny_bind (wpAny_pure (wpAny_pure (And.intro (plainId_quiet F.excBase_ValueError.init.plain _) (codeAny_builtin F.excBase_ValueError.initEntry ?_))))
  refine PySem.W.exc_init_tree (cls := .ref C) (t0 := t0) (dv := none) (c2 := .none) (c3 := .none) (b4 := .bool false) ho hz fun h' k hx _ => ?_
  have J := I.write (t' := tk) (x := a) (e := a) (o := exo a C none) (by rw [e]; exact True.intro) (.inl rfl) k ⟨_, hx⟩ (exo_ok hx)
  rw [show upd H a (exo a C none) = H from funext fun b => if hb : b = a then (by rw [hb, upd_same, e]) else upd_ne hb] at J
  exact h _ J
end
section
variable {CX : CXT} {P : Program} {w : World} {K : PySem.W.Frag} {mg : Str → Option Value} {base : Heap} {k : Nat} {f C cc cda : Addr} {name qual self : Str} {params : Arguments} {body rest : List Stmt} {scope : Scope} {dV kV doc pm ct oc ccl : Value} {an od cdd : Option Addr}
  {osl ccs : Array (Option Value)} {vs0 : Array Value} {N ps ps' : List Str} {sp : Sp} {p0 p1 ap pos epos : Pos} {e : Expr} {ar : Arg} {file : Str} {tf : Tok} {pl : Env → Sem Bool}
/-- the words of the method as a function with the captured cell -/
abbrev nfX (name qual : Str) (params : Arguments) (body : List Stmt) (scope : Scope) (cc cda : Addr) : NdefX.NF := ⟨name, qual, params, body, scope, [("__class__", cc)], cda⟩
theorem fn_sup (O : OwnX K C cc) (lk : K.lookup f = some ⟨oc, od, .func (PySem.W.ksFn name qual params body scope dV kV doc pm an (.ref cda) ct cc), osl⟩) (hcd : PySem.W.codeIn K (.ref cda) qual = true)
    (hrec : K.lookup cda = some ⟨ccl, cdd, .fields vs0, ccs⟩) (hvs : vs0[2]? = some (.str file tf)) (hfile : ((P.main.file : Str) == file) = true) (htop : (P.main.scope.names.lookup ("super" : Str)).isSome = false) (hmg : mg "super" = none)
    (hbd : body = .Expr (.Call (.Attribute (.Call (.Name "super" p0) [] [] p1) "__init__" ap) [e] [] pos) epos :: rest)
    (S : NdefX.NScope N ps ["__class__"] scope) (hps : ps = self :: ps') (hks : scope.names.lookup ("super" : Str) = some NameKind.globalImplicit) (hp : (params.posonlyargs ++ params.args).head? = some ar) (har : ar.arg = self)
    (hhe : ∀ env : Env, eval (.Call (.Attribute (.Call (.Name "super" p0) [] [] p1) "__init__" ap) [e] [] pos) env = (do
      let ov ← attributeBase (.Call (.Name "super" p0) [] [] p1) "__init__" env (eval (.Call (.Name "super" p0) [] [] p1) env)
      standAt ap.atName
      let (f, first) ← holding [ov] (getMethod ov "__init__" (pl env))
      callWith pos f first (backTo pos (starEach [e] env)) []))
    (hst : ∀ env : Env, starEach [e] env = [(false, eval e env)])
    (hsw : ∀ (env : Env) (l : Nat), swapsWith (.Call (.Attribute (.Call (.Name "super" p0) [] [] p1) "__init__" ap) [e] [] pos) none l env = pure false)
    (hin : ∀ (s : Shared) , interactive (PySem.W.ksEnv qual scope s.heap.objs.size f (.ref cda) cc) = false)
    (len : ∀ us h Q E, sp us h Q E → us.length = ps.length)
    (hbody : ∀ (A : Around) (outer : List Env) (s : Shared) (H : Hp) (vs : List V) (Q : VK) (E : XK), Room k (A.deeper (NdefX.envF (nfX name qual params body scope cc cda) f s.heap.objs.size)) → sp vs H Q E →
      ∃ (a : Addr) (ws : List V) (ta : TA) (t : TS), vs = .ref a :: ws ∧ H a = some (exo a C none) ∧ PA (NdefX.ncx CX P w K mg base N (nfX name qual params body scope cc cda) f A outer s H E) [e] ta ∧ PSs (NdefX.ncx CX P w K mg base N (nfX name qual params body scope cc cda) f A outer s H E) rest t ∧
        ta (NdefX.startF N vs [none]) H fun us H1 => H1 a = some (exo a C none) ∧ us.length ≤ 1000 ∧ t { nx := fun _ H' => Q .non H', rt := Q } (NdefX.startF N vs [none]) H1) :
    FnOk P w K mg base CX (k + 1) f (PySem.W.ksFn name qual params body scope dV kV doc pm an (.ref cda) ct cc) ps sp := by
  refine FnOk.mk len ?_
  intro A outer s H args us vs Q E hr e0 hb r hsp
  have hl := len _ _ _ _ hsp
  have stay : ∀ b o, base.get? b = some o → s.heap.get? b = some o := fun b o z => And.left (e0.bs b o z)
  have KX := e0.mod.kin.keeps stay
  have lim := e0.mod.nolimit.keeps stay
  obtain ⟨cl, cld, csl, hcell⟩ := O.cell
  have hH : H cc = none := (e0.bs _ _ (e0.mod.kin _ _ hcell)).2
  have C1 : NdefX.CellsAt (nfX name qual params body scope cc cda).cl ["__class__"] [none] s.heap H := by
    have key : ∀ y c, [(("__class__" : Str), cc)].lookup y = some c → y = "__class__" ∧ c = cc := fun y c q => by
      have m := PySem.mem_of_lookup q
      rcases List.mem_cons.mp m with z | z
      · cases z
        exact ⟨rfl, rfl⟩
      · cases z
    refine ⟨rfl, fun y c q => ?_, fun x y c h1 h2 => ?_, fun i y hi => ?_⟩
    · obtain ⟨_, rfl⟩ := key y c q
      exact ⟨hH, _, ⟨_, KX _ _ hcell, rfl⟩⟩
    · exact (key _ _ h1).1.trans (key _ _ h2).1.symm
    · match i, hi with
      | 0, hi =>
        cases hi
        refine ⟨cc, rfl, fun v hv => ?_⟩
        cases hv
  refine ks_codeAny_call_defAt (fd := PySem.W.ksFn name qual params body scope dV kV doc pm an (.ref cda) ct cc) (body := body) (binds := ps.zip us) hr.depth (KX _ _ lk) rfl lim (PySem.W.codeRec_of KX hcd) rfl hb S.nocell
    (fun y hy => S.par y.1 (List.of_mem_zip (show (y.1, y.2) ∈ ps.zip us from hy)).1) (fun h₁ hns kp => ?_) S.co S.gen S.kind
  obtain ⟨a, ws, ta, t, rfl, ha, hta, ht, hq⟩ := hbody A outer s H vs Q E (hr.deeper _) hsp
  have I : Inv (NdefX.ncx CX P w K mg base N (nfX name qual params body scope cc cda) f A outer s H E) [] (NdefX.startF N (.ref a :: ws) [none]) H { s with heap := h₁, toks := s.toks + (ps.zip us).length } :=
    NdefX.inv_startN S hr.hd e0 hl r C1 hns kp
  have fin : ∀ {σ' : L2.St} {H' : Hp} {s' : Shared} {v : V} {u : Value}, Inv (NdefX.ncx CX P w K mg base N (nfX name qual params body scope cc cda) f A outer s H E) [] σ' H' s' → L2.RelV v u → Q v H' → CE outer P w H s Q u s' :=
    fun {σ' H' s' v u} J rv q => ⟨v, H', J.os, J.bare, J.base, J.hok, rv, q⟩
  subst hbd
  subst hps
  cases r with
  | @cons _ u0 _ ur ra rr =>
  obtain rfl := (show u0 = Value.ref a from ra)
  have hself : scope.names.lookup self = some NameKind.local := S.par self List.mem_cons_self
  have henv : (NdefX.ncx CX P w K mg base N (nfX name qual params (.Expr (.Call (.Attribute (.Call (.Name "super" p0) [] [] p1) "__init__" ap) [e] [] pos) epos :: rest) scope cc cda) f A outer s H E).env = PySem.W.ksEnv qual scope s.heap.objs.size f (.ref cda) cc := rfl
  refine ks_wpAt_execs_cons (ks_wpAt_Expr_any (ks_wpAt_MethodCall (pl := pl (PySem.W.ksEnv qual scope s.heap.objs.size f (.ref cda) cc)) ?_ (hhe _)) (hin s) (hsw _ _))
  obtain ⟨cdD, hcls⟩ : ∃ cdD, PySem.W.clsIn K C = some cdD := by
    obtain ⟨nm, q, N, bs, bm, sn, sub, ab, col, dd, k0, k1, k2, k3, k5, hC, hbm⟩ := O.T.cls
    exact ⟨_, by unfold PySem.W.clsIn; rw [hC] <;> rfl⟩
  obtain ⟨oD, hD0, hD2⟩ : ∃ oD, K.lookup C = some oD ∧ oD.data = .cls cdD := by
    unfold PySem.W.clsIn at hcls
    split at hcls
    · rename_i c d cd' sl ho
      cases hcls
      exact ⟨_, ho, rfl⟩
    · cases hcls
  have KI := I.kIn
  have hD1 := KI _ _ hD0
  refine PySem.ks_wpAt_super_base (env := PySem.W.ksEnv qual scope s.heap.objs.size f (.ref cda) cc) (f := f) (cc := cda) hks (S.frk _ List.mem_cons_self) rfl rfl (KI _ _ lk) rfl hp rfl (KI _ _ hrec) rfl hvs hfile htop ?_
  rcases I.mod.blt with ⟨mb, h1, h2⟩
  refine PySem.W.ks_loadName_global S.kind hks (Calls.loadGlobal_builtin (env := PySem.W.ksEnv qual scope s.heap.objs.size f (.ref cda) cc) (I.mod.glob.keeps I.bk) hmg (h1.keeps I.bk) ((h2 "super" (by decide)).trans (by decide +kernel : bootBuiltins "super" = some (.type "super"))) ⟨rfl, ?_⟩)
  refine wpAny_loadName_free S.kind (S.frk _ List.mem_cons_self) rfl ⟨_, KI _ _ hcell, rfl⟩ ?_
  refine wpAny_loadName_local (v := .ref a) S.kind (by rw [har]; exact hself) hns ?_ ?_
  · have ndP : (self :: ps').Nodup := by
      have q := S.nd.sublist (List.take_sublist ((self :: ps').length + [("__class__" : Str)].length) N)
      rw [S.pre] at q
      exact And.left (List.nodup_append.mp q)
    rw [har]
    exact NdefX.zip_look (i := 0) ndP rfl rfl
  refine ks_wpAny_isType_cls hD1 hD2 (And.intro rfl ?_)
  obtain ⟨t0, hoa⟩ := exo_at I.hok ha
  refine ks_wpAny_call_super hD1 hD2 hoa rfl (fun c => by intro z; cases z) (PySem.W.looks_mroIn KI O.sub) (fun h' hso kk => ?_)
  have I2 := I.kept (t' := s.toks + ((self :: ps').zip (Value.ref a :: ur)).length) kk
  have KI2 := I2.kIn
  have hoa2 := kk _ _ hoa
  have hsup := O.sup
  unfold PySem.W.ks_superIn at hsup
  rw [hcls] at hsup
  have hty : PySem.W.InstAt h' a _ C none := ⟨hoa2, rfl, rfl, trivial⟩
  have hne : a ≠ C := PySem.W.ks_ne KI2 hty hcls
  refine PySem.W.kxs_getMethod PySem.W.kxs_ValueError hso (PySem.W.looks_opaque KI2 O.no) (l₀ := cdD.mro) (fun A Q E s k q => wpAny_bind ((PySem.W.looks_clsIn KI2 hcls) A _ E s k (wpAny_pure q))) rfl KI2 hsup (hty.type.andThen (PySem.W.looks_subIn KI2 O.ve)) hne (by decide) ?_
  have hmw : (h'.push (PySem.W.kxs_mw "ValueError.__init__" a)).get? h'.objs.size = some (PySem.W.kxs_mw "ValueError.__init__" a) := Heap.get?_push_size _ rfl
  have nH : H h'.objs.size = none := I2.hok.fresh (Nat.le_refl _)
  have I3 := I2.kept (h' := h'.push (PySem.W.kxs_mw "ValueError.__init__" a)) (t' := s.toks + ((self :: ps').zip (Value.ref a :: ur)).length + 1) (fun b u z => Heap.get?_push_of_some _ z)
  have I4 : Inv (NdefX.ncx CX P w K mg base N (nfX name qual params (.Expr (.Call (.Attribute (.Call (.Name "super" p0) [] [] p1) "__init__" ap) [e] [] pos) epos :: rest) scope cc cda) f A outer s H E) [(h'.objs.size, PySem.W.kxs_mw "ValueError.__init__" a)] (NdefX.startF N (.ref a :: ws) [none]) H
      { heap := h'.push (PySem.W.kxs_mw "ValueError.__init__" a), gens := s.gens, drawn := s.drawn, toks := s.toks + ((self :: ps').zip (Value.ref a :: ur)).length + 1, os := s.os } := I3.pins_of fun p hp => by
    rcases List.mem_cons.mp hp with z | z
    · subst z
      refine ⟨hmw, nH, ?_, fun z => ?_, fun v z => by cases z⟩
      · exact Nat.ne_of_gt (Nat.lt_of_lt_of_le I2.lt (Nat.le_refl _))
      · exact I2.nofs (Nat.le_refl _) z
    · cases z
  show wpAny _ _ (callWith pos (.ref h'.objs.size) [] (backTo pos (starEach [e] _)) []) _ _ _
  refine PySem.W.kxs_callWith (i := "ValueError.__init__") (x := a) (by rw [hst]; rfl) ?_
  rw [hst]
  refine PySem.Calls.evalArgs_plain ?_
  show wpAny _ _ (spliced (backTo pos [(false, eval e (PySem.W.ksEnv qual scope s.heap.objs.size f (.ref cda) cc))])) _ _ _
  rw [← hst (PySem.W.ksEnv qual scope s.heap.objs.size f (.ref cda) cc)]
  refine thn (hta.run pos _ _ _ H _ I4 hq) fun us2 s2 ⟨vs2, H2, I5, r2, ha2, hl2, hq2⟩ => ?_
  have hp2 := (I5.pin _ (List.mem_append_right _ List.mem_cons_self)).1
  refine ⟨hp2, ?_⟩
  show wpAny _ _ (call (.ref h'.objs.size) us2) _ _ _
  refine wrapper_ok O.T I5 hp2 ha2 (by rw [← Paired.length r2, sizeLine_eq]; omega) fun s3 I6 => ?_
  have I7 := I6.pins_of (pins' := []) (fun p hp => absurd (show p ∈ ([] : List (Addr × Obj)) from hp) (by simp))
  refine wpAt_of_wpAny (wpAny_mono (ht.run [] _ _ H2 _ I7 hq2) (fun fl s' hs => ?_) fun e s' hs => hs)
  cases fl with
  | ret u =>
    rcases hs with ⟨v, slots, h2, J, rv, q⟩
    exact fin J rv q
  | next =>
    obtain ⟨σ', H', J, q⟩ := hs
    exact fin (u := Value.none) (v := V.non) J rfl q
  | brk =>
    obtain ⟨_, _, _, q⟩ := hs
    exact False.elim q
  | cont =>
    obtain ⟨_, _, _, q⟩ := hs
    exact False.elim q
end

/-! ### enumerate over a text -/
/-- the turns of enumerate over the text x: each gives a new pair -/
def ItES (x : Str) : It where
  go := fun n _ => n < x.cps.size
  yld := fun n h v h' => ∃ p c, v = .ref p ∧ h p = none ∧ h' = upd h p (.tup [.int (n : Nat), .str ⟨#[c]⟩]) ∧ x.cps[n]? = some c
  stop := fun n _ => x.cps.size ≤ n
/-- the signs, drawn one by one -/
theorem drawsStr {prog : Program} {w : World} {A : Around} (free : A.handled = none) (q : Addr) (x : Str) (t : Tok) :
    Draws prog w A q [q] x.cps.size (fun n v => ∃ c u, x.cps[n]? = some c ∧ v = .str ⟨#[c]⟩ u) fun n h => h.IsStrIter q (strIterType x) x t n := by
  by_cases ascii : x.cps.all (· < 128) = true
  · rw [show strIterType x = "str_ascii_iterator" from if_pos ascii]
    exact Draws.strAscii free q x t
  · rw [show strIterType x = "str_iterator" from if_neg ascii]
    exact Draws.strWide free q x t
/-- behind the last sign -/
theorem drawsEnd {prog : Program} {w : World} {A : Around} (free : A.handled = none) (q : Addr) (x : Str) (t : Tok) (n : Nat) (none_ : x.cps[n]? = none) :
    Draws prog w A q [q] n (fun _ _ => True) fun m h => m = n ∧ h.IsStrIter q (strIterType x) x t m where
  live := by
    rintro m h ⟨-, o, at_, -⟩
    exact ⟨o, at_⟩
  frame := by
    rintro m h h' ⟨rfl, o, at_, rest⟩ same
    exact ⟨rfl, o, same q List.mem_cons_self o at_, rest⟩
  item := fun m s Q E lt st _ => absurd st.1 (Nat.ne_of_lt lt)
  done := by
    rintro s Q E ⟨-, st⟩ out
    by_cases ascii : x.cps.all (· < 128) = true
    · rw [show strIterType x = "str_ascii_iterator" from if_pos ascii] at st
      exact wpAny_nextOf_ascii_end free st none_ out
    · rw [show strIterType x = "str_iterator" from if_neg ascii] at st
      exact wpAny_nextOf_wide_end free st none_ out
/-- the enumerate object at e over the walk at q, ahead of its n-th turn -/
structure EnS (x : Str) (t : Tok) (e q : Addr) (n : Nat) (h : Heap) : Prop where
  en : ∃ last, IsEnum h e q ((n : Nat) : Int) last
  walk : h.IsStrIter q (strIterType x) x t n
  two : e ≠ q
section
variable {x : Str} {t : Tok} {e q : Addr} {n : Nat} {h h' : Heap}
theorem EnS.at_ (p : EnS x t e q n h) : ∀ b ∈ [e, q], ∃ o, h.get? b = some o ∧ ∀ v, o.data ≠ .cell v := by
  intro b mem
  rcases List.mem_cons.mp mem with rfl | mem2
  · obtain ⟨last, z⟩ := p.en
    exact ⟨_, z, fun v => by intro y; cases y⟩
  · obtain rfl := List.mem_singleton.mp mem2
    obtain ⟨o, z, -, dat⟩ := p.walk
    exact ⟨o, z, fun v y => by rw [dat] at y; cases y⟩
theorem EnS.stay (p : EnS x t e q n h) (same : ∀ b ∈ [e, q], ∀ o, h.get? b = some o → h'.get? b = some o) : EnS x t e q n h' := by
  obtain ⟨last, z⟩ := p.en
  obtain ⟨o, y, rest⟩ := p.walk
  exact ⟨⟨last, same e List.mem_cons_self _ z⟩, ⟨o, same q (List.mem_cons_of_mem _ List.mem_cons_self) _ y, rest⟩, p.two⟩
theorem EnS.lt (p : EnS x t e q n h) : ∀ b ∈ [e, q], b < h.objs.size := fun b mem => let ⟨_, z, _⟩ := p.at_ b mem; Heap.lt_size z
end
theorem turn_enumS {P : Program} {w : World} {K : PySem.W.Frag} {elts : List Expr} {kk : Nat} {tpos : Pos} (x : Str) (t : Tok) (e q : Addr) : Turn P w K (.Tuple elts kk tpos) (ItES x) [e, q] e (EnS x t e q) where
  mem := List.mem_cons_self
  obj := fun _ _ p => p.at_
  keep := fun _ _ _ p same => p.stay same
  self := fun A n s Q E p out => by
    obtain ⟨last, z⟩ := p.en
    exact wpAny_pyIter_enum z out
  item := by
    intro X eP ew eK calm n pins s σ H E inv own p lt
    subst eP ew eK
    obtain ⟨last, z⟩ := p.en
    have fresh : H s.heap.objs.size = none := inv.hok.fresh (Nat.le_refl _)
    have apart : ∀ b ∈ [e, q], b ≠ s.heap.objs.size := fun b mem => Nat.ne_of_lt (p.lt b mem)
    have memE : e ∈ [e, q] := List.mem_cons_self
    have memQ : q ∈ [e, q] := List.mem_cons_of_mem _ List.mem_cons_self
    refine wpAny_pyNext_enum_itemD (drawsStr (A := X.A.in1) (inv.ok.hd calm) q x t) z p.walk lt p.two (fun y => p.two (List.mem_singleton.mp y)) ?_
    rintro _ g tk ⟨c, u, sign, rfl⟩ given walked pair - rest
    refine ⟨_, rfl, wpAny_letOwnedTupleGo_enum (s := { s with heap := g, toks := tk + 1 }) given fun g2 again but => ?_⟩
    have pair2 := (but.2 _ (apart e memE).symm).trans pair
    have laid : ObjOk X.prog X.w (upd H s.heap.objs.size (.tup [.int (n : Nat), .str ⟨#[c]⟩])) g2 s.heap.objs.size (.tup [.int (n : Nat), .str ⟨#[c]⟩]) :=
      ⟨by show 2 ≤ sizeLine; rw [sizeLine_eq]; omega, _, Paired.cons ⟨tk, rfl⟩ (Paired.cons ⟨u, rfl⟩ Paired.nil), ⟨_, pair2, rfl, _, rfl⟩⟩
    have inv2 := Inv.turnedNew (t' := tk + 1) (h' := g2) inv (fun b o out at_ => by
      have be : b ≠ e := fun y => out (y ▸ memE)
      have bq : b ≠ q := fun y => out (y ▸ memQ)
      exact (but.2 b be).trans (rest b o be bq at_)) own (Nat.le_refl _) laid
    refine ⟨.ref s.heap.objs.size, _, inv2, rfl, ⟨_, c, rfl, fresh, rfl, sign⟩, ⟨⟨_, by simpa using again⟩, ?_, p.two⟩, fun b mem => ?_⟩
    · obtain ⟨o, at_, more⟩ := walked
      exact ⟨o, (but.2 q p.two.symm).trans at_, more⟩
    · exact (upd_ne (apart b mem)).trans (own b mem).1
  done := by
    intro X eP ew eK calm n pins s σ H E inv own p ge
    subst eP ew eK
    obtain ⟨last, z⟩ := p.en
    obtain ⟨a0, a1, a2, a3, a4, a5⟩ := own q (List.mem_cons_of_mem _ List.mem_cons_self)
    exact wpAny_pyNext_enum_endD (drawsEnd (A := X.A.in1) (inv.ok.hd calm) q x t n (Array.getElem?_eq_none ge)) z ⟨rfl, p.walk⟩ fun g but => And.intro rfl (inv.turned (t' := s.toks) (fun b o ne at_ => but b o ne at_) a0 a1 a3 a4 a5)
def iEnumS (ta : TA) : TI := fun σ H R => ta σ H fun vs h => ∃ x, vs = [.str x] ∧ R (ItES x) h
/-- for i, c in enumerate(text) -/
theorem pi_enumS {X : Cx} {e : Expr} {ta : TA} {p pos tpos : Pos} {elts : List Expr} {kk : Nat} (hg : Gl X "enumerate") (hm : X.mg "enumerate" = none) (arg : PA X [e] ta) (one : starEach [e] X.env = [(false, eval e X.env)] := by rfl) :
    PI X (.Tuple elts kk tpos) (.Call (.Name "enumerate" p) [e] [] pos) (iEnumS ta) where
  run := by
    intro pins s σ H R inv wish
    refine Call_ (ld_blt inv hg hm boot_enumerate (PyProof.Rows.callWith_type1 (thn (arg.run pos pins s σ H _ inv wish) ?_) one rfl))
    rintro us s1 ⟨_, h1, inv1, vals, x, rfl, ends⟩
    rcases vals with _ | ⟨⟨t, rfl⟩, nil_⟩
    cases nil_
    refine call_enumerate_str fun g made walk _ same => wpAny_pyIter_enum made ?_
    have big : ∀ b ∈ [s1.heap.objs.size + 1, s1.heap.objs.size], s1.heap.objs.size ≤ b := fun b mem => by
      rcases List.mem_cons.mp mem with rfl | mem2
      · omega
      · rw [List.mem_singleton.mp mem2]; exact Nat.le_refl _
    exact ⟨_, [s1.heap.objs.size + 1, s1.heap.objs.size], _, _, h1, rfl, inv1.kept (t' := s1.toks) same, turn_enumS x t _ _, ⟨⟨_, made⟩, walk, Nat.succ_ne_self _⟩, fun b mem => inv1.fpOk (big b mem) (inv1.hok.fresh (big b mem)), ends⟩
/-! ### texts as lists of signs -/
/-- the text of signs -/
abbrev S (signs : List Nat) : Str := ⟨signs.toArray⟩
theorem S_len (l : List Nat) : (S l).length = l.length := by
  show l.toArray.size = _
  simp
theorem S_append (l m : List Nat) : S l ++ S m = S (l ++ m) := by
  show (⟨l.toArray ++ m.toArray⟩ : Str) = ⟨(l ++ m).toArray⟩
  simp
theorem S_inj {l m : List Nat} : S l = S m ↔ l = m := ⟨fun h => by
  have := congrArg (fun z : Str => z.cps.toList) h
  simpa using this, fun h => by rw [h]⟩
theorem S_mul (c : Nat) (n : Int) : Txt.mul (S [c]) n = S (List.replicate n.toNat c) := by
  unfold Txt.mul
  by_cases h : n < 1
  · rw [if_pos h]
    have : n.toNat = 0 := by omega
    rw [this]; rfl
  · rw [if_neg h]
    by_cases h1 : n = 1
    · subst h1; rfl
    · have e : (n == 1 || (S [c]).length == 0) = false := by simp [h1, S_len]
      rw [if_neg (by rw [e]; decide)]
      have key : ∀ (k : Nat) (a : Array Nat), (List.replicate k (S [c]).cps).foldl (· ++ ·) a = a ++ (List.replicate k c).toArray := by
        intro k
        induction k with
        | zero => intro a; simp
        | succ k ih =>
          intro a
          rw [List.replicate_succ, List.foldl_cons, ih, List.replicate_succ]
          apply Array.ext'
          simp
      rw [key]
      simp
/-- one sign, many times -/
def rMulS : V → V → Hp → VK → Prop := fun x y H Q => ∃ (c : Nat) (n : Int), x = .str (S [c]) ∧ y = .int n ∧ -(2 ^ 31) ≤ n ∧ n ≤ 2 ^ 20 ∧ Q (.str (S (List.replicate n.toNat c))) H
theorem op_mulS {X : Cx} : OpR X (binaryOp .Mult) rMulS := by
  intro pins s σ H x y v u Q I rx ry wish
  obtain ⟨c, n, rfl, rfl, h0, h1, q⟩ := wish
  obtain ⟨t, rfl⟩ := rx
  obtain ⟨t', rfl⟩ := ry
  refine SB.mul ⟨by simp; omega, fun z _ => ?_, fun _ _ => ?_⟩ fun t2 k => ⟨.str (S (List.replicate n.toNat c)), H, I.tok _, ⟨_, by rw [S_mul]⟩, q⟩
  · rw [S_len]
    have hn : 1 ≤ n := by omega
    have : (1 : Int) ≤ (2 ^ 63 - 1) / n := by
      rw [Int.le_ediv_iff_mul_le (by omega)]
      omega
    exact Int.not_lt.mpr this
  · rw [S_len]
    show decide ([c].length * n.toNat > sizeLine) = false
    rw [sizeLine_eq]
    simp only [List.length_singleton, Nat.one_mul, decide_eq_false_iff_not]
    omega
/-! ### the caught exception -/
theorem is_exact {a C : Addr} {oe : Obj} (hc : oe.cls = .ref C) : Answers (fun s => s.heap.get? a = some oe) (.ref a) (.ref C) true := by
  intro dep tk prog w A R s ⟨p, hq⟩
  rcases s with ⟨h0, gs, dr, tt, os⟩
  unfold PySem.Builtin.«isinstance.nested»
  have L : PySem.W.Looks (model prog w) h0 (typeOf (.ref a)) (.ref C) := hc ▸ (PySem.W.Looks.ld p).andThen .now
  refine wpAny_bind (L.at ?_)
  rw [if_pos (by simp)]
  exact wpAny_bind (wpAny_rule (wpAny_pure (hq tt)))
/-- isinstance(e, C), e the caught exception, whose class is C -/
def rIsX (C a : Addr) (cls : Value) : List V → Hp → VK → Prop := fun xs H Q => xs = [.ref a, .ref C] ∧ cls = .ref C ∧ Q (.bl true) H
theorem call_isX {X : Cx} {a C : Addr} {oe : Obj} {cls : Value} {d : Option Addr} {pn : List (Addr × Obj)} (hz : Zc cls d oe) : CallR (X.suite a ((a, oe) :: pn)) (.builtin "isinstance") (rIsX C a cls) := by
  rintro pins s σ H xs us Q I r ⟨rfl, rfl, q⟩
  cases r with
  | cons rx rr =>
    cases rr with
    | cons rt rr =>
      cases rr
      cases rx
      cases rt
      have hget := And.left (I.pin (a, oe) (List.mem_append_left _ List.mem_cons_self))
      exact call_isinstance (S := fun _ R s => s.heap.get? a = some oe ∧ ∀ tk, R (.ok (.ret (.bool true))) { s with toks := tk })
        (fun prog w A R s hs => isinstance_outer (is_exact hz.1 0 _ prog w A R s hs) (by intro z; cases z)) ⟨hget, fun tk => ⟨.bl true, H, I.kept (t' := tk) fun _ _ z => z, rfl, q⟩⟩
/-! ### an own exception that may be made -/
structure XCal (P : Program) (w : World) (K : PySem.W.Frag) (mg : Str → Option Value) (base : Heap) (x : Str) (C : Addr) (k : Nat) (f : Addr) (fd : FuncData) (ps : List Str) (sp : Sp) : Prop where
  ok : FnOk P w K mg base CX0 k f fd ps sp
  T : OexC K C
  iC : PySem.W.findIn K (.ref C) "__init__" = some (some (.ref f))
  tI : PySem.W.typeIn K (.ref f) = some (.type "function")
  b : Binds K fd ps []
  m : mg x = some (.ref C)
/-- X(y), the field f holding y -/
def sp_exc1 (C : Addr) (f : Str) : Sp := fun vs H Q _ => ∃ (a : Addr) (i : Nat), vs = [.ref a, .int i] ∧ i ≤ 1000 ∧ H a = some (exo a C none) ∧ ∀ dx, H dx = none → dx ≠ a → Q .non (upd (upd H dx (exd dx [(f, .int i)])) a (exo a C (some dx)))
theorem exc1_out {C : Addr} {f : Str} {H : Hp} {W : XK} {i : Nat} (hi : i ≤ 1000) (h : ∀ (d : Addr) (H' : Hp), Same H H' → H d = none → H' d = some (.xd [(f, .int i)]) → W (.ref C) (some d) H') :
    ([V.int i].length ≤ 1000 ∧ ∀ a, H a = none → sp_exc1 C f (.ref a :: ([V.int i] ++ [])) (upd H a (exo a C none))
      (fun v H2 => v = .non ∧ ∃ (d : Addr) (fs : List (Str × V)), H2 a = some (exo a C (some d)) ∧ H2 d = some (exd d fs) ∧ H d = none ∧ W (.ref C) (some d) (upd (del H2 a) d (.xd fs))) (fun _ _ _ => False)) := by
  refine ⟨by simp, fun a na => ⟨a, i, rfl, hi, upd_same, fun dx nd nda => ⟨rfl, dx, [(f, .int i)], upd_same, by rw [upd_ne nda, upd_same], by rwa [upd_ne nda] at nd, ?_⟩⟩⟩
  rw [upd_ne nda] at nd
  refine h dx _ (fun b o e => ?_) nd upd_same
  have hb : b ≠ dx := ne_of_none e nd
  have ha : b ≠ a := ne_of_none e na
  rw [upd_ne hb, del_ne ha, upd_ne ha, upd_ne hb, upd_ne ha]
  exact e
/-! ### walks -/
section
variable {D : Ends} {σ : L2.St} {H : Hp} {g : TG} {tb : TS}
theorem for_enumL {K : PySem.W.Frag} {a : Addr} {xs : List V} {D : Ends} {σ : L2.St} {H : Hp} {g : TG} {tb : TS} (P : Nat → L2.St → Hp → Prop) (start : P 0 σ H) (hl : ∀ i s h, i ≤ xs.length → P i s h → SqL K h a xs)
    (hs : ∀ i x s h p, xs[i]? = some x → P i s h → h p = none → g (.ref p) s (upd h p (.tup [.int (i : Nat), x])) (tb { D with nx := P (i + 1), ct := P (i + 1), bk := D.nx })) (hd : ∀ s h, P xs.length s h → D.nx s h) :
    WkS (Ite K a) D.nx (fun y s h B => g y s h (tb { D with nx := B, ct := B, bk := D.nx })) σ H :=
  walkS P start (fun s h p => And.intro ⟨xs, hl _ s h (Nat.le_refl _) p, Nat.le_refl _⟩ (hd s h p)) fun i s h lt p => And.intro ⟨xs, xs[i], hl i s h (Nat.le_of_lt lt) p, List.getElem?_eq_getElem lt⟩ (by
    rintro _ _ ⟨b, x, rfl, free, rfl, at_⟩
    exact hs i x s h b (at_ xs (hl i s h (Nat.le_of_lt lt) p)) p free)
theorem for_enumS {x : Str} {D : Ends} {σ : L2.St} {H : Hp} {g : TG} {tb : TS} (P : Nat → L2.St → Hp → Prop) (start : P 0 σ H)
    (hs : ∀ i c s h p, x.cps[i]? = some c → P i s h → h p = none → g (.ref p) s (upd h p (.tup [.int (i : Nat), .str ⟨#[c]⟩])) (tb { D with nx := P (i + 1), ct := P (i + 1), bk := D.nx })) (hd : ∀ s h, P x.cps.size s h → D.nx s h) :
    WkS (ItES x) D.nx (fun y s h B => g y s h (tb { D with nx := B, ct := B, bk := D.nx })) σ H :=
  walkS P start (fun s h p => And.intro (Nat.le_refl _) (hd s h p)) fun i s h lt p => And.intro lt (by
    rintro _ _ ⟨b, c, rfl, free, rfl, at_⟩
    exact hs i c s h b at_ p free)
theorem r_iES {tA : TA} {R : It → Hp → Prop} (h : tA σ H fun vs H1 => ∃ x, vs = [.str x] ∧ R (ItES x) H1) : iEnumS tA σ H R := h
theorem r_iES1 {x : Str} {A : Str → Prop} (q : A x) : ∃ y, [V.str x] = [.str y] ∧ A y := ⟨x, rfl, q⟩
theorem r_iEL {K : PySem.W.Frag} {tA : TA} {R : It → Hp → Prop} (h : tA σ H fun vs H1 => ∃ a xs, vs = [.ref a] ∧ SqL K H1 a xs ∧ R (Ite K a) H1) : iEnum K tA σ H R := h
theorem r_iEL1 {K : PySem.W.Frag} {a : Addr} {xs : List V} {A : Addr → Prop} (h : SqL K H a xs) (q : A a) : ∃ b ys, [V.ref a] = [.ref b] ∧ SqL K H b ys ∧ A b := ⟨a, xs, rfl, h, q⟩
end
/-! ### readings of texts -/
section
variable {H : Hp} {Q : VK}
theorem r_addS {a b : Str} {A : Str → Str → Prop} (h : A a b) : ∃ i j, V.str a = .str i ∧ V.str b = .str j ∧ A i j := ⟨a, b, rfl, rfl, h⟩
theorem r_ixS {z : Str} {i : Int} {c : Nat} (ha : atI z.cps.toList i = some c) (hz : z.length ≤ sizeLine) (q : Q (.str ⟨#[c]⟩) H) : rIxS (.str z) (.int i) H Q := ⟨z, i, c, rfl, rfl, hz, ha, q⟩
theorem r_lenS {a : Str} {A : Str → Prop} (h : A a) : ∃ z, [V.str a] = [.str z] ∧ A z := ⟨a, rfl, h⟩
theorem r_eqS {a b : Str} (q : Q (.bl (decide (a = b))) H) : rEq (.str a) (.str b) H Q := ⟨rfl, by rw [show decide (V.str a = V.str b) = decide (a = b) by simp]; exact q⟩
theorem r_neS {a b : Str} (q : Q (.bl (!decide (a = b))) H) : rNe (.str a) (.str b) H Q := ⟨rfl, by rw [show decide (V.str a = V.str b) = decide (a = b) by simp]; exact q⟩
theorem r_slS {z : Str} {lo hi : Option Int} (hz : z.length ≤ sizeLine) (q : Q (.str (cutS z lo hi)) H) : rSlS (.str z) lo hi H Q := ⟨z, rfl, hz, q⟩
theorem r_mulS {c : Nat} {n : Int} (h0 : -(2 ^ 31) ≤ n) (h1 : n ≤ 2 ^ 20) (q : Q (.str (S (List.replicate n.toNat c))) H) : rMulS (.str (S [c])) (.int n) H Q := ⟨c, n, rfl, rfl, h0, h1, q⟩
end
theorem at_nat {α : Type} {xs : List α} {i : Nat} {x : α} (h : xs[i]? = some x) : atI xs (i : Int) = some x := by
  have hl : i < xs.length := by
    by_cases q : i < xs.length
    · exact q
    · rw [List.getElem?_eq_none (by omega)] at h; cases h
  unfold atI ixN
  rw [if_pos (show (0 : Int) ≤ i by omega), if_pos (by omega)]
  simpa using h
theorem cutS_take {t : List Nat} {i : Nat} (h : i ≤ t.length) : cutS (S t) none (some (i : Int)) = S (t.take i) := by
  unfold cutS
  rw [HT.sIx_nat, HT.sIx_none, S_len, Nat.min_eq_left h]
  simp
theorem cutS_drop {t : List Nat} {i : Nat} : cutS (S t) (some (i : Int)) none = S (t.drop i) := by
  unfold cutS
  rw [HT.sIx_nat, HT.sIx_none, S_len]
  by_cases h : i ≤ t.length
  · rw [Nat.min_eq_left h]
    rw [List.take_of_length_le (i := t.length - i) (by simp)]
  · rw [Nat.min_eq_right (by omega), List.drop_of_length_le (i := i) (by omega)]
    simp
theorem pe_gstr {X : Cx} {x y : Str} {pos : Pos} (hg : Gl X x) (hm : ∃ t, X.mg x = some (.str y t)) (hd : (x == ("__debug__" : Str)) = false := by decide) : PE X (.Name x pos) (tC (.str y)) :=
  let ⟨t, h⟩ := hm
  pe_glob hg h ⟨t, rfl⟩ hd
/-- a def that may raise -/
structure CalX (P : Program) (w : World) (K : PySem.W.Frag) (mg : Str → Option Value) (base : Heap) (x : Str) (k : Nat) (f : Addr) (fd : FuncData) (ps : List Str) (sp : Sp) : Prop where
  ok : FnOk P w K mg base (L2.CX P w) k f fd ps sp
  mg : mg x = some (.ref f)
  (kp : PySem.W.keepIn K (.ref f) = true)
  b : Binds K fd ps []
/-- the class at C, caught by the name of the class at B; its field f -/
structure ExF (K : PySem.W.Frag) (mg : Str → Option Value) (C B : Addr) (b f : Str) : Prop where
  m : mg b = some (.ref B)
  by_ : PySem.W.exmOne K (.ref C) (.ref B) = some true
  xf : XfC K C
  no : PySem.W.findIn K (.ref C) f = some none
section
variable {σ : L2.St} {H : Hp} {Q : Str → Hp → Prop} {ts : List TE} {n : Nat}
theorem str_len_app (a b : Str) : (a ++ b).length = a.length + b.length := by
  simp only [Str.length, HAppend.hAppend, Append.append]
  exact Array.size_append
theorem js_start (h : ∀ acc : Str, acc.length ≤ 0 → tJs ts acc σ H Q) : tJs ts Str.empty σ H Q := h Str.empty (Nat.le_refl _)
theorem js_nil (h : ∀ out, Q out H) : ∀ acc : Str, acc.length ≤ n → tJs [] acc σ H Q := fun acc _ => h acc
theorem js_str {y : Str} (hy : y.length ≤ 1000) (hn : n ≤ 10000) (h : ∀ acc : Str, acc.length ≤ n + 1000 → tJs ts acc σ H Q) : ∀ acc : Str, acc.length ≤ n → tJs (tC (.str y) :: ts) acc σ H Q := fun acc ha =>
  ⟨y, rfl, by rw [str_len_app, sizeLine_eq]; omega, h _ (by rw [str_len_app]; omega)⟩
theorem js_fmt {i k : Nat} (hv : σ[k]? = some (some (.int (i : Int)))) (hi : i ≤ 1000) (hn : n ≤ 10000) (h : ∀ acc : Str, acc.length ≤ n + 1010 → tJs ts acc σ H Q) : ∀ acc : Str, acc.length ≤ n → tJs (tFmt (tVar k) :: ts) acc σ H Q := fun acc ha => by
  have hl : ((Str.ofString (toString (i : Int))).length : Int) ≤ 1002 := by
    have := PyProof.Rows.len_str_of_int (i : Int)
    rw [Int.natAbs_natCast] at this
    omega
  refine ⟨.int i, hv, .inr ⟨i, rfl, ?_, ⟨_, rfl, ?_, h _ ?_⟩⟩⟩
  · rw [Int.natAbs_natCast]
    exact Nat.lt_of_le_of_lt (Nat.log2_le_self i) (by omega)
  · rw [str_len_app, sizeLine_eq]; omega
  · rw [str_len_app]; omega
end
theorem r_mk1 {C : Addr} {f : Str} {σ : L2.St} {H : Hp} {W : XK} {i k : Nat} (hv : σ[k]? = some (some (.int (i : Int)))) (hi : i ≤ 1000) (h : ∀ (d : Addr) (H' : Hp), Same H H' → H d = none → H' d = some (.xd [(f, .int (i : Int))]) → W (.ref C) (some d) H') :
    tMkO C (sp_exc1 C f) [] (tCons (tVar k) tNil) σ H W := ⟨.int i, hv, exc1_out hi h⟩
end Pf

set_option maxHeartbeats 3000000
namespace Pf
open L2 PySem PySem.Spec PyProof.Rows LamX
/-! min and max by the j-th entry of pairs: key=lambda x: x[j] -/
/-- the lambda's words: its one parameter, its body -/
structure ByItem (x : Str) (j : Nat) (params : Arguments) (body : Expr) (scope : Scope) : Prop where
  kind : scope.kind = .function
  co : scope.isCoroutine = false
  gen : scope.isGenerator = false
  none_ : ∀ y ∈ scope.names, y.2 ≠ .cell ∧ y.2 ≠ .free
  loc : scope.names.lookup x = some .local
  bind : ∀ (nm q : Str) (pm cdv ctv u : Value), bindArgs (PySem.W.kla_fn nm q params body scope [] pm cdv ctv) ⟨[u], []⟩ = pure [(x, u)]
  body : ∃ (p1 p2 p3 : Pos) (kd : Nat), body = .Subscript (.Name x p1) (.Constant (.int j) kd p2) p3
  dbg : (x == ("__debug__" : Str)) = false
section
variable {prog : Program} {w : World} {A : Around} {E : Value → Shared → Prop} {s : Shared} {x nm q : Str} {j : Nat} {params : Arguments} {body : Expr} {scope : Scope} {f c' t : Addr} {pm ctv : Value} {its : Array Value} {v : Value} {Q : Value → Shared → Prop}
theorem key_call (B : ByItem x j params body scope) (room : A.depth < recursionLimit) (at_ : s.heap.get? f = some (PySem.W.kla_obj nm q params body scope [] pm c' ctv)) (code : s.heap.CodeRec (.ref c') q) (lim : s.heap.NoLimit)
    (tup : IsTup s.heap t its) (item : its[j]? = some v) (small : j < 1000) (h : ∀ h' tk, (∀ b o, s.heap.get? b = some o → h'.get? b = some o) → s.toks ≤ tk → Q v { s with heap := h', toks := tk }) :
    wpAny (model prog w) A (call (.ref f) [.ref t]) Q E s := by
  obtain ⟨p1, p2, p3, kd, rfl⟩ := B.body
  refine wpAny_call ?_
  refine PySem.W.kla_callFunE room at_ rfl B.co B.gen rfl code ?_
  rw [B.bind]
  refine wpAny_pure ?_
  refine wpAny_newFunctionEnv (fun y hy => (B.none_ y hy).1) (fun y hy => by rw [List.mem_singleton.mp hy]; exact B.loc) (fun h1 ns but => ⟨lim.fresh _ but, ?_⟩) B.kind
  have same : ∀ b o, s.heap.get? b = some o → h1.get? b = some o := fun b o z => but.extBut b o (Nat.ne_of_lt (Heap.lt_size z)) (Heap.get?_push_of_some _ z)
  refine PySem.W.kla_codeExpr ?_
  refine wpAny_Subscript_Constant_late ?_
  refine wpAny_Name (wpAny_loadName_local (v := .ref t) B.kind B.loc ns ?_ ?_) B.dbg
  · simp [List.lookup]
  refine wpAny_Constant_int ?_
  refine ⟨"tuple", _, slot_tuple_getitem.lookup, ?_, ?_⟩
  · exact (tup.keeps same).typeIs
  · have lt : j < its.size := by
      by_cases z : j < its.size
      · exact z
      · rw [Array.getElem?_eq_none (by omega)] at item; cases item
    refine getItem_tuple (tup.keeps same) (by omega) (by omega) (j := j) ?_ item ?_
    · simp [seqIndex?]; omega
    · exact h _ _ same (by dsimp only [List.length]; omega)
end
section
variable {X : Cx} {pins : List (Addr × Obj)} {σ : L2.St} {H : Hp} {s : Shared} {x nm q : Str} {j k : Nat} {params : Arguments} {body : Expr} {scope : Scope} {f c' l : Addr} {pm ctv : Value} {ts : List Addr} {key : Nat → Int} {Q : Value → Shared → Prop} {E : Value → Shared → Prop}
/-- a walk over the list at l, made -/
abbrev walkObj (l : Addr) : Obj := { cls := .type "list_iterator", data := .fields #[.ref l, .int 0 0] }
/-- what stays while min or max runs: all but the walk's and its own list -/
def KeyStay (s₂ : Shared) (a b : Addr) (s' : Shared) : Prop := (∀ d o, d ≠ a → d ≠ b → s₂.heap.get? d = some o → s'.heap.get? d = some o) ∧ s'.gens = s₂.gens ∧ s'.drawn = s₂.drawn ∧ s'.os = s₂.os
theorem min_key (calm : X.calm = true) (room : Room (k + 1) X.A) (I : Inv X pins σ H s) (B : ByItem x j params body scope) (at_ : s.heap.get? f = some (PySem.W.kla_obj nm q params body scope [] pm c' ctv)) (code : s.heap.CodeRec (.ref c') q)
    (list : SqL X.K H l (ts.map V.ref)) (ne : ts ≠ []) (small : j < 1000) (entries : ∀ i t, ts[i]? = some t → ∃ xs, SqT X.K H t xs ∧ xs[j]? = some (V.int (key i)))
    (h : ∀ t s', ts[argBest (fun a b => decide (key a < key b)) (ts.length - 1)]? = some t → Inv X pins σ H s' → Q (.ref t) s') : wpAny (model X.prog X.w) X.A (call (.builtin "min") [.ref l] [(Str.ofString "key", .ref f)]) Q E s := by
  rcases I.list list with ⟨its, vals, plain, -⟩
  have refs : its = ts.map Value.ref := by
    clear plain list entries ne h
    induction ts generalizing its with
    | nil => cases vals; rfl
    | cons a r ih =>
      rcases vals with _ | ⟨e, more⟩
      rw [List.map_cons, ← ih _ more]
      rw [show _ = Value.ref a from e]
  subst refs
  have len0 : 0 < ts.length := List.length_pos_iff.mpr ne
  have lt_l : l < s.heap.objs.size := by obtain ⟨o, z, _⟩ := plain.isList; exact Heap.lt_size z
  have up : ∀ b o, s.heap.get? b = some o → (s.heap.push (walkObj l)).get? b = some o := fun b o z => Heap.get?_push_of_some _ z
  have older : ∀ {g : Heap}, (∀ d o, d ≠ s.heap.objs.size → d ≠ (s.heap.push (walkObj l)).objs.size → (s.heap.push (walkObj l)).get? d = some o → g.get? d = some o) → ∀ b o, s.heap.get? b = some o → g.get? b = some o := fun stay b o z =>
    stay b o (Nat.ne_of_lt (Heap.lt_size z)) (Nat.ne_of_lt (by rw [Heap.size_push]; exact Nat.lt_succ_of_lt (Heap.lt_size z))) (up b o z)
  have pick : ∀ {i : Nat} {v : Value}, (ts.map Value.ref).toArray[i]? = some v → ∃ t, ts[i]? = some t ∧ v = .ref t := fun {i v} z => by
    rw [List.getElem?_toArray, List.getElem?_map] at z
    obtain ⟨t, e, rfl⟩ := Option.map_eq_some_iff.mp z
    exact ⟨t, e, rfl⟩
  refine call_min_walkK ?_
  refine wpAny_pyIter_list plain.isList ?_
  refine ⟨s.heap.objs.size, [s.heap.objs.size, l], [s.heap.objs.size], fun a b => b = a, (ts.map Value.ref).toArray.size, _, _, KeyStay { s with heap := s.heap.push (walkObj l) } s.heap.objs.size (s.heap.push (walkObj l)).objs.size, fun i v _ => ∃ tk, v = .int (key i) tk, fun a b => decide (key a < key b), rfl,
    (Walks.list (prog := X.prog) (w := X.w) (A := X.A.in1) (I.ok.hd calm) s.heap.objs.size l (Nat.ne_of_lt lt_l) (ts.map Value.ref).toArray).toS, ⟨⟨_, Heap.get?_push_size _ rfl, rfl, rfl⟩, plain.isList.at fun o z => up _ _ z⟩, ?_, by simpa using len0, ?_, ⟨fun _ _ _ _ z => z, rfl, rfl, rfl⟩, ?_⟩
  · intro b mem
    rw [Heap.size_push]
    rcases List.mem_cons.mp mem with rfl | mem2
    · exact Nat.lt_succ_self _
    · rw [List.mem_singleton.mp mem2]; exact Nat.lt_succ_of_lt lt_l
  · refine ⟨?_, ?_, ?_, ?_⟩
    · rintro s1 s2 ⟨k1, k2, k3, k4⟩ m
      refine ⟨fun d o n1 n2 z => m.heap d o (fun mem => ?_) (k1 d o n1 n2 z), m.gens.trans k2, m.drawn.trans k3, m.os.trans k4⟩
      rcases List.mem_cons.mp mem with z | mem2
      · exact n2 z
      · exact n1 (List.mem_singleton.mp mem2)
    · exact fun i v s1 s2 p m => p
    · intro i v s1 o Q2 E2 lt at_i stay walk own out
      have old := older stay.1
      obtain ⟨t, tt, rfl⟩ := pick at_i
      obtain ⟨xs, sq, item⟩ := entries i t tt
      rcases I.tuple sq with ⟨its2, vals2, tup, -⟩
      obtain ⟨u, at_u, tk, rfl⟩ := vals2.get item
      refine key_call B (show X.A.in1.depth < recursionLimit from room.depth) (old _ _ at_) ?_ (I.nolimit.keeps old) (tup.keeps old) (j := j) (by simpa using at_u) small fun g tk2 same _ => ?_
      · rcases code with ⟨c2, oc, vs, tq, e1, e2, e3, e4⟩
        exact ⟨c2, oc, vs, tq, e1, old _ _ e2, e3, e4⟩
      · exact out _ _ ⟨fun d o n1 n2 z => same _ _ (stay.1 d o n1 n2 z), stay.2⟩ ⟨walk.1.at fun o z => same _ _ z, walk.2.at fun o z => same _ _ z⟩ (same _ _ own) ⟨tk, rfl⟩ fun _ _ p => p
    · rintro i i2 _ _ s1 Q2 E2 stay ⟨t1, rfl⟩ ⟨t2, rfl⟩ out
      exact richCompare_gives (op := .Lt) (typeIs_int s1 _ t1) (typeIs_int s1 _ t2) F.slot_int_lt F.entry_int_lt (F.args_int_lt_2 _ _) (gives_int_lt _ _ t1 t2) (fun z => by cases z) out
  · rintro v ⟨hp, gs, dr, tk, os⟩ at_i ⟨k1, k2, k3, k4⟩
    obtain ⟨t, tt, rfl⟩ := pick at_i
    dsimp only at k2 k3 k4
    subst k2 k3 k4
    exact h t _ (by simpa using tt) (I.kept (t' := tk) (older k1))
theorem max_key (calm : X.calm = true) (room : Room (k + 1) X.A) (I : Inv X pins σ H s) (B : ByItem x j params body scope) (at_ : s.heap.get? f = some (PySem.W.kla_obj nm q params body scope [] pm c' ctv)) (code : s.heap.CodeRec (.ref c') q)
    (list : SqL X.K H l (ts.map V.ref)) (ne : ts ≠ []) (small : j < 1000) (entries : ∀ i t, ts[i]? = some t → ∃ xs, SqT X.K H t xs ∧ xs[j]? = some (V.int (key i)))
    (h : ∀ t s', ts[argBest (fun a b => decide (key a > key b)) (ts.length - 1)]? = some t → Inv X pins σ H s' → Q (.ref t) s') : wpAny (model X.prog X.w) X.A (call (.builtin "max") [.ref l] [(Str.ofString "key", .ref f)]) Q E s := by
  rcases I.list list with ⟨its, vals, plain, -⟩
  have refs : its = ts.map Value.ref := by
    clear plain list entries ne h
    induction ts generalizing its with
    | nil => cases vals; rfl
    | cons a r ih =>
      rcases vals with _ | ⟨e, more⟩
      rw [List.map_cons, ← ih _ more]
      rw [show _ = Value.ref a from e]
  subst refs
  have len0 : 0 < ts.length := List.length_pos_iff.mpr ne
  have lt_l : l < s.heap.objs.size := by obtain ⟨o, z, _⟩ := plain.isList; exact Heap.lt_size z
  have up : ∀ b o, s.heap.get? b = some o → (s.heap.push (walkObj l)).get? b = some o := fun b o z => Heap.get?_push_of_some _ z
  have older : ∀ {g : Heap}, (∀ d o, d ≠ s.heap.objs.size → d ≠ (s.heap.push (walkObj l)).objs.size → (s.heap.push (walkObj l)).get? d = some o → g.get? d = some o) → ∀ b o, s.heap.get? b = some o → g.get? b = some o := fun stay b o z =>
    stay b o (Nat.ne_of_lt (Heap.lt_size z)) (Nat.ne_of_lt (by rw [Heap.size_push]; exact Nat.lt_succ_of_lt (Heap.lt_size z))) (up b o z)
  have pick : ∀ {i : Nat} {v : Value}, (ts.map Value.ref).toArray[i]? = some v → ∃ t, ts[i]? = some t ∧ v = .ref t := fun {i v} z => by
    rw [List.getElem?_toArray, List.getElem?_map] at z
    obtain ⟨t, e, rfl⟩ := Option.map_eq_some_iff.mp z
    exact ⟨t, e, rfl⟩
  refine call_max_walkK ?_
  refine wpAny_pyIter_list plain.isList ?_
  refine ⟨s.heap.objs.size, [s.heap.objs.size, l], [s.heap.objs.size], fun a b => b = a, (ts.map Value.ref).toArray.size, _, _, KeyStay { s with heap := s.heap.push (walkObj l) } s.heap.objs.size (s.heap.push (walkObj l)).objs.size, fun i v _ => ∃ tk, v = .int (key i) tk, fun a b => decide (key a > key b), rfl,
    (Walks.list (prog := X.prog) (w := X.w) (A := X.A.in1) (I.ok.hd calm) s.heap.objs.size l (Nat.ne_of_lt lt_l) (ts.map Value.ref).toArray).toS, ⟨⟨_, Heap.get?_push_size _ rfl, rfl, rfl⟩, plain.isList.at fun o z => up _ _ z⟩, ?_, by simpa using len0, ?_, ⟨fun _ _ _ _ z => z, rfl, rfl, rfl⟩, ?_⟩
  · intro b mem
    rw [Heap.size_push]
    rcases List.mem_cons.mp mem with rfl | mem2
    · exact Nat.lt_succ_self _
    · rw [List.mem_singleton.mp mem2]; exact Nat.lt_succ_of_lt lt_l
  · refine ⟨?_, ?_, ?_, ?_⟩
    · rintro s1 s2 ⟨k1, k2, k3, k4⟩ m
      refine ⟨fun d o n1 n2 z => m.heap d o (fun mem => ?_) (k1 d o n1 n2 z), m.gens.trans k2, m.drawn.trans k3, m.os.trans k4⟩
      rcases List.mem_cons.mp mem with z | mem2
      · exact n2 z
      · exact n1 (List.mem_singleton.mp mem2)
    · exact fun i v s1 s2 p m => p
    · intro i v s1 o Q2 E2 lt at_i stay walk own out
      have old := older stay.1
      obtain ⟨t, tt, rfl⟩ := pick at_i
      obtain ⟨xs, sq, item⟩ := entries i t tt
      rcases I.tuple sq with ⟨its2, vals2, tup, -⟩
      obtain ⟨u, at_u, tk, rfl⟩ := vals2.get item
      refine key_call B (show X.A.in1.depth < recursionLimit from room.depth) (old _ _ at_) ?_ (I.nolimit.keeps old) (tup.keeps old) (j := j) (by simpa using at_u) small fun g tk2 same _ => ?_
      · rcases code with ⟨c2, oc, vs, tq, e1, e2, e3, e4⟩
        exact ⟨c2, oc, vs, tq, e1, old _ _ e2, e3, e4⟩
      · exact out _ _ ⟨fun d o n1 n2 z => same _ _ (stay.1 d o n1 n2 z), stay.2⟩ ⟨walk.1.at fun o z => same _ _ z, walk.2.at fun o z => same _ _ z⟩ (same _ _ own) ⟨tk, rfl⟩ fun _ _ p => p
    · rintro i i2 _ _ s1 Q2 E2 stay ⟨t1, rfl⟩ ⟨t2, rfl⟩ out
      exact richCompare_gives (op := .Gt) (typeIs_int s1 _ t1) (typeIs_int s1 _ t2) F.slot_int_gt F.entry_int_gt (F.args_int_gt_2 _ _) (gives_int_gt _ _ t1 t2) (fun z => by cases z) out
  · rintro v ⟨hp, gs, dr, tk, os⟩ at_i ⟨k1, k2, k3, k4⟩
    obtain ⟨t, tt, rfl⟩ := pick at_i
    dsimp only at k2 k3 k4
    subst k2 k3 k4
    exact h t _ (by simpa using tt) (I.kept (t' := tk) (older k1))
theorem clo_none {cells : List (Str × Addr)} : ∀ {names : List (Str × NameKind)} {acc : List (Str × Addr)}, (∀ y ∈ names, y.2 ≠ .cell ∧ y.2 ≠ .free) → cloFrom cells names acc = acc := by
  intro names
  induction names with
  | nil => intro acc _; rfl
  | cons y r ih =>
    intro acc no
    obtain ⟨n, k⟩ := y
    have hk := (no _ List.mem_cons_self).2
    cases k <;> first | exact ih (fun z hz => no z (List.mem_cons_of_mem _ hz)) | exact absurd rfl hk
/-- min(e, key=lambda x: x[j]): the table of the running code object grows, the answer is the first least -/
def tMinKey (K : PySem.W.Frag) (T : List (Addr × Str)) (j : Nat) (ta : TA) : TE := fun σ H Q => ta σ H fun vs H1 => ∃ (l : Addr) (ts : List Addr) (key : Nat → Int), vs = [.ref l] ∧ Tabs T H1 ∧ SqL K H1 l (ts.map V.ref) ∧ ts ≠ [] ∧ (∀ i t, ts[i]? = some t → ∃ xs, SqT K H1 t xs ∧ xs[j]? = some (V.int (key i))) ∧
  ∀ H2, ExtN H1 H2 → Tabs T H2 → ∀ t, ts[argBest (fun a b => decide (key a < key b)) (ts.length - 1)]? = some t → Q (.ref t) H2
/-- max(e, key=lambda x: x[j]): the table of the running code object grows, the answer is the first greatest -/
def tMaxKey (K : PySem.W.Frag) (T : List (Addr × Str)) (j : Nat) (ta : TA) : TE := fun σ H Q => ta σ H fun vs H1 => ∃ (l : Addr) (ts : List Addr) (key : Nat → Int), vs = [.ref l] ∧ Tabs T H1 ∧ SqL K H1 l (ts.map V.ref) ∧ ts ≠ [] ∧ (∀ i t, ts[i]? = some t → ∃ xs, SqT K H1 t xs ∧ xs[j]? = some (V.int (key i))) ∧
  ∀ H2, ExtN H1 H2 → Tabs T H2 → ∀ t, ts[argBest (fun a b => decide (key a > key b)) (ts.length - 1)]? = some t → Q (.ref t) H2
theorem ext_L {K : PySem.W.Frag} {H H' : Hp} {a : Addr} {xs : List V} (e : ExtN H H') (z : SqL K H a xs) : SqL K H' a xs := by
  rcases z with (y | ⟨u, y⟩) | y
  · exact .inl (.inl (e _ _ y (by intro ps w; cases w)))
  · exact .inl (.inr ⟨u, e _ _ y (by intro ps w; cases w)⟩)
  · exact .inr y
theorem ext_T {K : PySem.W.Frag} {H H' : Hp} {a : Addr} {xs : List V} (e : ExtN H H') (z : SqT K H a xs) : SqT K H' a xs := by
  rcases z with (y | ⟨u, y⟩) | y
  · exact .inl (.inl (e _ _ y (by intro ps w; cases w)))
  · exact .inl (.inr ⟨u, e _ _ y (by intro ps w; cases w)⟩)
  · exact .inr y
theorem pe_minKey {e : Expr} {ta : TA} {T : List (Addr × Str)} {c P : Addr} {lpos kpos cpos p : Pos} (calm : X.calm = true) (room : Room (k + 1) X.A) (hg : Gl X "min") (hm : X.mg "min" = none) (ha : PA X [e] ta) (B : ByItem x j params body scope) (small : j < 1000)
    (TB : TabB X.base X.mg c P) (hcode : X.env.code = .ref c) (mem : (P, X.env.qual ++ "<lambda>") ∈ T) (one : ∀ p ∈ T, p.1 = P → p.2 = X.env.qual ++ "<lambda>") (def0 : defaultsOf params X.env = ([], []))
    (hst : backTo cpos (starEach [e] X.env) = (false, eval e X.env) :: backTo cpos (starEach [] X.env) := by rfl) (hpl : (backTo cpos (starEach [e] X.env)).any (·.1) = false := by rfl) :
    PE X (.Call (.Name "min" p) [e] [⟨some "key", .Lambda params body scope lpos, kpos⟩] cpos) (tMinKey X.K T j ta) := by
  refine ⟨fun pins s σ H Q I wish => ?_⟩
  refine wpAny_Call_Name_kw (ld_blt I hg hm (show bootBuiltins "min" = some (.builtin "min") by decide +kernel) ?_ (by decide) (by decide))
  refine PyProof.Rows.callWith_kw (thn (ha.run cpos pins s σ H _ I wish) ?_) hst hpl rfl rfl
  rintro us s1 ⟨_, H1, I1, vals, l, ts, key, rfl, tabs, list, ne, entries, ends⟩
  rcases vals with _ | ⟨el, nil_⟩
  cases nil_
  obtain rfl := (show _ = Value.ref l from el)
  show wpAny _ _ (evalAll [do let v ← eval (.Lambda params body scope lpos) X.env; standAt cpos; pure v]) _ _ _
  refine wpAny_evalAll_cons (wpAny_bind ?_)
  refine lam_make2 I1 TB hcode mem one tabs def0 (fun y hy free => absurd free (B.none_ y hy).2) fun f c' pm ctv H2 s2 I2 ext tabs2 at_ _ _ codeO => ?_
  refine wpAny_bind (wpAny_standAt (wpAny_pure (wpAny_evalAll_nil ?_)))
  rw [clo_none B.none_] at at_
  show wpAny _ _ (call (.builtin "min") [.ref l] [(Str.ofString "key", .ref f)]) _ _ _
  refine min_key calm room (I2.tok _) B at_ (NdefX.codeO_at I2.hok codeO) (ext_L ext list) ne small (fun i t z => let ⟨xs, sq, it⟩ := entries i t z; ⟨xs, ext_T ext sq, it⟩) fun t s3 best I3 => ?_
  exact ⟨.ref t, H2, I3, rfl, ends H2 ext tabs2 t best⟩
theorem pe_maxKey {e : Expr} {ta : TA} {T : List (Addr × Str)} {c P : Addr} {lpos kpos cpos p : Pos} (calm : X.calm = true) (room : Room (k + 1) X.A) (hg : Gl X "max") (hm : X.mg "max" = none) (ha : PA X [e] ta) (B : ByItem x j params body scope) (small : j < 1000)
    (TB : TabB X.base X.mg c P) (hcode : X.env.code = .ref c) (mem : (P, X.env.qual ++ "<lambda>") ∈ T) (one : ∀ p ∈ T, p.1 = P → p.2 = X.env.qual ++ "<lambda>") (def0 : defaultsOf params X.env = ([], []))
    (hst : backTo cpos (starEach [e] X.env) = (false, eval e X.env) :: backTo cpos (starEach [] X.env) := by rfl) (hpl : (backTo cpos (starEach [e] X.env)).any (·.1) = false := by rfl) :
    PE X (.Call (.Name "max" p) [e] [⟨some "key", .Lambda params body scope lpos, kpos⟩] cpos) (tMaxKey X.K T j ta) := by
  refine ⟨fun pins s σ H Q I wish => ?_⟩
  refine wpAny_Call_Name_kw (ld_blt I hg hm (show bootBuiltins "max" = some (.builtin "max") by decide +kernel) ?_ (by decide) (by decide))
  refine PyProof.Rows.callWith_kw (thn (ha.run cpos pins s σ H _ I wish) ?_) hst hpl rfl rfl
  rintro us s1 ⟨_, H1, I1, vals, l, ts, key, rfl, tabs, list, ne, entries, ends⟩
  rcases vals with _ | ⟨el, nil_⟩
  cases nil_
  obtain rfl := (show _ = Value.ref l from el)
  show wpAny _ _ (evalAll [do let v ← eval (.Lambda params body scope lpos) X.env; standAt cpos; pure v]) _ _ _
  refine wpAny_evalAll_cons (wpAny_bind ?_)
  refine lam_make2 I1 TB hcode mem one tabs def0 (fun y hy free => absurd free (B.none_ y hy).2) fun f c' pm ctv H2 s2 I2 ext tabs2 at_ _ _ codeO => ?_
  refine wpAny_bind (wpAny_standAt (wpAny_pure (wpAny_evalAll_nil ?_)))
  rw [clo_none B.none_] at at_
  show wpAny _ _ (call (.builtin "max") [.ref l] [(Str.ofString "key", .ref f)]) _ _ _
  refine max_key calm room (I2.tok _) B at_ (NdefX.codeO_at I2.hok codeO) (ext_L ext list) ne small (fun i t z => let ⟨xs, sq, it⟩ := entries i t z; ⟨xs, ext_T ext sq, it⟩) fun t s3 best I3 => ?_
  exact ⟨.ref t, H2, I3, rfl, ends H2 ext tabs2 t best⟩
end
/-! ### the end of a law, the table of one def's code objects told -/
theorem walkT {l : PySem.W.OpenLaw} {q : Program} {loose : List Str} {XP : (Str → Option Value) → Heap → Prop} {YP : World → Heap → Prop} {d d2 : DefRec} {K : Params → PySem.W.Frag} {n k : Nat} {x y : Str} {sp : PySem.W.Frag → Addr → Sp}
    (hn : l.most = some n) (hn2 : n ≤ sizeLine) (hdf : d.params.defaults = []) (room : Room k callerA) (hY : ∀ (w : World) (h : Heap), YP w h → (K w.params).In h) (rec_ : (recsOf q).find? (fun e => e.name == y) = some d2)
    (start : ∀ (K : PySem.W.Frag) (P : Addr) (H : Hp) (a : Addr) (ns : List Int), ns.length ≤ n → H P = some (.tbl #[]) → SqL K H a (ns.map V.int) → sp K P [.ref a] H (fun v _ => v = .bl true) fun _ _ _ => False)
    (F : ∀ (w : World) (mg : Str → Option Value) (fa : Addr) (h : Heap), (K w.params).In h → h.Ns mainGlobals mg → mg d.name = some (.ref fa) →
      ∃ (fd : FuncData) (c P : Addr), PySem.W.tabIn (K w.params) y = some (c, P) ∧ (K w.params).lookup P = none ∧ (∀ (s : Shared) (u : Value), BindsTo s fd ⟨[u], []⟩ [(x, u)]) ∧
        ∀ base : Heap, (K w.params).In base → base.Ns mainGlobals mg → TabB base mg c P → FnOk l.prog w (K w.params) mg base L2.CX0 k fa fd [x] (sp (K w.params) P)) :
    PySem.W.WalkO q loose XP YP l.row.toRowW d [] (fun f vs => PySem.call f vs) := by
  refine Att.attach_callB hn hdf fun w s₀ s₁ mg mb fa o pm cd doc a vs ns G Y ho hd hcd hmg hobj hints hlen hbits hg => ?_
  have inK := hY w _ Y
  obtain ⟨fd, c, P, tab, out, bind, ok⟩ := F w mg fa _ inK G.T.g hmg
  obtain ⟨code, empty⟩ := PySem.W.tab_of G.T inK rec_ tab
  refine law_callTs (cs := [(c, P)]) inK G.T.g G.T.b G.T.builtins G.T.nolimit hg (fun p mem => ?_) (fun p mem => ?_) (fun p mem => ?_) G.T.bmain hobj hints (Nat.le_trans hlen hn2) room (fun base b1 b2 b3 => ok base b1 b2 (b3 (c, P) List.mem_cons_self)) bind
    (fun H hH hS => start _ P H a ns hlen (hH (c, P) List.mem_cons_self) hS) fun H e s' z => z
  · rw [List.mem_singleton.mp mem]; exact empty
  · rw [List.mem_singleton.mp mem]; exact out
  · rw [List.mem_singleton.mp mem]; exact code
end Pf

namespace Pf
open PySem L2
/-! ### programs as functions: what a def's model says, its run over the heap does -/
/-- addresses of objects that may still change -/
abbrev Ms := List Addr
/-- what stands frozen (outside ms) in H stands frozen (outside ms') in H' -/
def Mv (ms : Ms) (H : Hp) (ms' : Ms) (H' : Hp) : Prop := ∀ a o, a ∉ ms → H a = some o → a ∉ ms' ∧ H' a = some o
/-- all but what stands at B is as it was, and what was there is there -/
def Bu (B : Ms) (H H' : Hp) : Prop := (∀ a o, a ∉ B → H a = some o → H' a = some o) ∧ ∀ a, H a ≠ none → H' a ≠ none
/-- these addresses are taken -/
def Al (ms : Ms) (H : Hp) : Prop := ∀ a ∈ ms, H a ≠ none
section
variable {B ms ms' ms'' : Ms} {H H' H'' : Hp} {p m : Addr} {o : HO}
theorem Bu.refl (B : Ms) (H : Hp) : Bu B H H := ⟨fun _ _ _ e => e, fun _ e => e⟩
theorem Bu.trans (x : Bu B H H') (y : Bu B H' H'') : Bu B H H'' := ⟨fun a o n e => y.1 a o n (x.1 a o n e), fun a e => y.2 a (x.2 a e)⟩
theorem Bu.same (s : Same H H') : Bu B H H' := ⟨fun a o _ e => s a o e, fun a e => by
  cases h : H a with
  | none => exact absurd h e
  | some o => rw [s a o h]; exact fun z => by cases z⟩
theorem Bu.to_same (x : Bu [] H H') : Same H H' := fun a o e => x.1 a o (by simp) e
theorem Mv.refl : Mv ms H ms H := fun _ _ n e => ⟨n, e⟩
theorem Mv.trans (x : Mv ms H ms' H') (y : Mv ms' H' ms'' H'') : Mv ms H ms'' H'' := fun a o n e => let ⟨n1, e1⟩ := x a o n e; y a o n1 e1
theorem Mv.same (s : Same H H') : Mv ms H ms H' := fun a o n e => ⟨n, s a o e⟩
theorem Mv.bu (hB : ∀ a ∈ B, a ∈ ms) (x : Bu B H H') : Mv ms H ms H' := fun a o n e => ⟨n, x.1 a o (fun z => n (hB a z)) e⟩
theorem Mv.but (hm : m ∈ ms) (s : But m H H') : Mv ms H ms H' := fun a o n e => ⟨n, s a o (fun z => n (z ▸ hm)) e⟩
theorem Mv.new (np : H p = none) (s : Same H H') : Mv ms H (p :: ms) H' := fun a o n e => ⟨fun z => by
  obtain z | z := List.mem_cons.mp z
  · rw [z, np] at e; cases e
  · exact n z, s a o e⟩
theorem Mv.less (h : ∀ a ∈ ms', a ∈ ms) : Mv ms H ms' H := fun a o n e => ⟨fun z => n (h a z), e⟩
theorem Al.bu (h : Al ms H) (x : Bu B H H') : Al ms H' := fun a m => x.2 a (h a m)
theorem Al.same (h : Al ms H) (s : Same H H') : Al ms H' := h.bu (B := []) (Bu.same s)
theorem Al.not (h : Al ms H) (np : H p = none) : p ∉ ms := fun m => h p m np
theorem Al.but (h : Al ms H) (s : But m H H') (e : H' m = some o) : Al ms H' := fun a ha => by
  by_cases q : a = m
  · rw [q, e]; exact fun z => by cases z
  · cases h' : H a with
    | none => exact absurd h' (h a ha)
    | some o' => rw [s a o' q h']; exact fun z => by cases z
theorem Al.cons (h : Al ms H) (e : H p = some o) : Al (p :: ms) H := fun a ha => by
  obtain z | z := List.mem_cons.mp ha
  · rw [z, e]; exact fun z => by cases z
  · exact h a z
theorem Al.less (h : Al ms H) (l : ∀ a ∈ ms', a ∈ ms) : Al ms' H := fun a ha => h a (l a ha)
/-- a list of one's own, changed: seen from the entry nothing has changed -/
theorem Bu.own (x : Bu B H H') (n : H p = none) (s : But p H' H'') (e : H'' p = some o) : Bu B H H'' := ⟨fun a o na ea => s a o (fun z => by rw [z, n] at ea; cases ea) (x.1 a o na ea), fun a ea => by
  by_cases q : a = p
  · rw [q] at ea; exact absurd n ea
  · have := x.2 a ea
    cases h' : H' a with
    | none => exact absurd h' this
    | some o' => rw [s a o' q h']; exact fun z => by cases z⟩
theorem Bu.none (x : Bu B H H') (n : H' p = Option.none) : H p = Option.none := by
  cases h : H p with
  | none => rfl
  | some o => exact absurd n (x.2 p (by rw [h]; exact fun z => by cases z))
end
theorem notc {a m : Addr} {B : Ms} (n : a ∉ m :: B) : a ≠ m ∧ a ∉ B := ⟨fun z => n (z ▸ List.mem_cons_self), fun z => n (List.mem_cons_of_mem _ z)⟩
theorem nin {a m : Addr} {B : Ms} (h : a ≠ m) (n : a ∉ B) : a ∉ m :: B := fun z => by
  obtain z | z := List.mem_cons.mp z
  · exact h z
  · exact n z
theorem nab {a D : Addr} {B : Ms} (h : a ∈ B) (n : D ∉ B) : a ≠ D := fun z => n (z ▸ h)
/-- how a value stands for a datum -/
class Rp (α : Type) where
  rp : Ms → Hp → V → α → Prop
  mv : ∀ {ms ms' : Ms} {H H' : Hp} {v : V} {x : α}, rp ms H v x → Mv ms H ms' H' → rp ms' H' v x
open Rp (rp)
/-- item by item -/
def RL {α : Type} (r : V → α → Prop) : List V → List α → Prop
  | [], [] => True
  | v :: vs, x :: xs => r v x ∧ RL r vs xs
  | _, _ => False
theorem RL.imp {α : Type} {r r' : V → α → Prop} (h : ∀ v x, r v x → r' v x) : ∀ {vs : List V} {xs : List α}, RL r vs xs → RL r' vs xs
  | [], [], _ => trivial
  | _ :: _, _ :: _, ⟨a, b⟩ => ⟨h _ _ a, RL.imp h b⟩
theorem RL.len {α : Type} {r : V → α → Prop} : ∀ {vs : List V} {xs : List α}, RL r vs xs → vs.length = xs.length
  | [], [], _ => rfl
  | _ :: _, _ :: _, ⟨_, b⟩ => by rw [List.length_cons, List.length_cons, RL.len b]
theorem RL.get {α : Type} {r : V → α → Prop} : ∀ {vs : List V} {xs : List α} {i : Nat} {v : V}, RL r vs xs → vs[i]? = some v → ∃ x, xs[i]? = some x ∧ r v x
  | [], _us, _, _, _, e => by simp at e
  | _ :: _, _ :: _, 0, _, ⟨a, _⟩, e => ⟨_, rfl, by cases e; exact a⟩
  | _ :: _, _ :: _, i + 1, _, ⟨_, b⟩, e => by
    obtain ⟨x, e1, e2⟩ := RL.get b (i := i) (by simpa using e)
    exact ⟨x, by simpa using e1, e2⟩
theorem RL.get' {α : Type} {r : V → α → Prop} : ∀ {vs : List V} {xs : List α} {i : Nat} {x : α}, RL r vs xs → xs[i]? = some x → ∃ v, vs[i]? = some v ∧ r v x
  | _us, [], _, _, _, e => by simp at e
  | _ :: _, _ :: _, 0, _, ⟨a, _⟩, e => ⟨_, rfl, by cases e; exact a⟩
  | _ :: _, _ :: _, i + 1, _, ⟨_, b⟩, e => by
    obtain ⟨x, e1, e2⟩ := RL.get' b (i := i) (by simpa using e)
    exact ⟨x, by simpa using e1, e2⟩
theorem RL.app {α : Type} {r : V → α → Prop} : ∀ {vs : List V} {xs : List α} {us : List V} {ys : List α}, RL r vs xs → RL r us ys → RL r (vs ++ us) (xs ++ ys)
  | [], [], _, _, _, h => h
  | _ :: _, _ :: _, _, _, ⟨a, b⟩, h => ⟨a, RL.app b h⟩
theorem RL.snoc {α : Type} {r : V → α → Prop} {vs : List V} {xs : List α} {v : V} {x : α} (h : RL r vs xs) (e : r v x) : RL r (vs ++ [v]) (xs ++ [x]) := h.app ⟨e, trivial⟩
theorem RL.set {α : Type} {r : V → α → Prop} : ∀ {vs : List V} {xs : List α} {i : Nat} {v : V} {x : α}, RL r vs xs → r v x → RL r (vs.set i v) (xs.set i x)
  | [], [], _, _, _, _, _ => trivial
  | _ :: _, _ :: _, 0, _, _, ⟨_, b⟩, e => ⟨e, b⟩
  | _ :: _, _ :: _, i + 1, _, _, ⟨a, b⟩, e => ⟨a, RL.set b e⟩
theorem RL.erase {α : Type} {r : V → α → Prop} : ∀ {vs : List V} {xs : List α} {i : Nat}, RL r vs xs → RL r (vs.eraseIdx i) (xs.eraseIdx i)
  | [], [], _, _ => trivial
  | _ :: _, _ :: _, 0, ⟨_, b⟩ => b
  | _ :: _, _ :: _, i + 1, ⟨a, b⟩ => ⟨a, RL.erase b⟩
theorem RL.take {α : Type} {r : V → α → Prop} : ∀ {vs : List V} {xs : List α} {i : Nat}, RL r vs xs → RL r (vs.take i) (xs.take i)
  | _, _, 0, _ => by rw [List.take_zero, List.take_zero]; trivial
  | [], [], _ + 1, _ => trivial
  | _ :: _, _ :: _, i + 1, ⟨a, b⟩ => ⟨a, RL.take b⟩
theorem RL.drop {α : Type} {r : V → α → Prop} : ∀ {vs : List V} {xs : List α} {i : Nat}, RL r vs xs → RL r (vs.drop i) (xs.drop i)
  | _, _, 0, h => h
  | [], [], _ + 1, _ => trivial
  | v :: vs, x :: xs, i + 1, h => by
    show RL r (vs.drop i) (xs.drop i)
    exact RL.drop h.2
theorem RL.ints {r : V → Int → Prop} (h : ∀ v x, r v x → v = .int x) : ∀ {vs : List V} {xs : List Int}, RL r vs xs → vs = xs.map V.int
  | [], [], _ => rfl
  | _ :: _, _ :: _, ⟨a, b⟩ => by rw [h _ _ a, RL.ints h b]; rfl
theorem RL.bools {r : V → Bool → Prop} (h : ∀ v x, r v x → v = .bl x) : ∀ {vs : List V} {xs : List Bool}, RL r vs xs → vs = xs.map V.bl
  | [], [], _ => rfl
  | _ :: _, _ :: _, ⟨a, b⟩ => by rw [h _ _ a, RL.bools h b]; rfl
theorem RL.of_map {β : Type} {r : V → β → Prop} {f : β → V} (h : ∀ x, r (f x) x) : ∀ xs : List β, RL r (xs.map f) xs
  | [] => trivial
  | x :: xs => ⟨h x, RL.of_map h xs⟩
instance : Rp Int := ⟨fun _ _ v x => v = .int x, fun h _ => h⟩
instance : Rp Bool := ⟨fun _ _ v x => v = .bl x, fun h _ => h⟩
instance : Rp Str := ⟨fun _ _ v x => v = .str x, fun h _ => h⟩
instance : Rp Unit := ⟨fun _ _ v _ => v = .non, fun h _ => h⟩
instance {α : Type} [Rp α] : Rp (Option α) := ⟨fun ms H v x => match x with | none => v = .non | some y => rp ms H v y, fun {ms ms' H H' v x} h M => by
  cases x with
  | none => exact h
  | some y => exact Rp.mv h M⟩
/-- a list stands at a -/
def Ls {α : Type} [Rp α] (ms : Ms) (H : Hp) (a : Addr) (xs : List α) : Prop := ∃ vs, H a = some (.lst vs) ∧ RL (rp ms H) vs xs ∧ vs.length ≤ sizeLine
theorem Ls.step {α : Type} [Rp α] {ms ms' : Ms} {H H' : Hp} {a : Addr} {xs : List α} (h : Ls ms H a xs) (M : Mv ms H ms' H') (e : ∀ o, H a = some o → H' a = some o) : Ls ms' H' a xs :=
  let ⟨vs, e1, r, l⟩ := h; ⟨vs, e _ e1, r.imp fun _ _ z => Rp.mv z M, l⟩
theorem Ls.same {α : Type} [Rp α] {ms : Ms} {H H' : Hp} {a : Addr} {xs : List α} (h : Ls ms H a xs) (s : Same H H') : Ls ms H' a xs := h.step (Mv.same s) fun o e => s a o e
theorem Ls.but {α : Type} [Rp α] {ms : Ms} {H H' : Hp} {a m : Addr} {xs : List α} (h : Ls ms H a xs) (hm : m ∈ ms) (n : a ≠ m) (s : But m H H') : Ls ms H' a xs := h.step (Mv.but hm s) fun o e => s a o n e
theorem Ls.bu {α : Type} [Rp α] {B ms : Ms} {H H' : Hp} {a : Addr} {xs : List α} (h : Ls ms H a xs) (hB : ∀ a ∈ B, a ∈ ms) (n : a ∉ B) (s : Bu B H H') : Ls ms H' a xs := h.step (Mv.bu hB s) fun o e => s.1 a o n e
theorem Ls.new {α : Type} [Rp α] {ms : Ms} {H H' : Hp} {a p : Addr} {xs : List α} (h : Ls ms H a xs) (np : H p = none) (s : Same H H') : Ls (p :: ms) H' a xs := h.step (Mv.new np s) fun o e => s a o e
theorem Ls.less {α : Type} [Rp α] {ms ms' : Ms} {H : Hp} {a : Addr} {xs : List α} (h : Ls ms H a xs) (l : ∀ a ∈ ms', a ∈ ms) : Ls ms' H a xs := h.step (Mv.less l) fun o e => e
theorem Ls.len {α : Type} [Rp α] {ms : Ms} {H : Hp} {a : Addr} {xs : List α} (h : Ls ms H a xs) : xs.length ≤ sizeLine := by obtain ⟨vs, _, r, l⟩ := h; rw [← r.len]; exact l
theorem Ls.alive {α : Type} [Rp α] {ms : Ms} {H : Hp} {a : Addr} {xs : List α} (h : Ls ms H a xs) : H a ≠ none := by obtain ⟨vs, e, _⟩ := h; rw [e]; exact fun z => by cases z
theorem Ls.ne {α : Type} [Rp α] {ms : Ms} {H : Hp} {a p : Addr} {xs : List α} (h : Ls ms H a xs) (np : H p = none) : a ≠ p := fun z => h.alive (z ▸ np)
instance instRpList {α : Type} [Rp α] : Rp (List α) := ⟨fun ms H v xs => ∃ a, v = .ref a ∧ a ∉ ms ∧ Ls ms H a xs, fun {ms ms' H H' v x} h M => by
  obtain ⟨a, rfl, n, vs, e, r, l⟩ := h
  obtain ⟨n', e'⟩ := M a _ n e
  exact ⟨a, rfl, n', vs, e', r.imp fun _ _ z => Rp.mv z M, l⟩⟩
instance instRpProd {α β : Type} [Rp α] [Rp β] : Rp (α × β) := ⟨fun ms H v x => ∃ a u w, v = .ref a ∧ a ∉ ms ∧ H a = some (.tup [u, w]) ∧ rp ms H u x.1 ∧ rp ms H w x.2, fun {ms ms' H H' v x} h M => by
  obtain ⟨a, u, w, rfl, n, e, r1, r2⟩ := h
  obtain ⟨n', e'⟩ := M a _ n e
  exact ⟨a, u, w, rfl, n', e', Rp.mv r1 M, Rp.mv r2 M⟩⟩
/-- a tuple of three -/
structure T3 (α β γ : Type) : Type where
  a : α
  b : β
  c : γ
deriving DecidableEq
instance instRpT3 {α β γ : Type} [Rp α] [Rp β] [Rp γ] : Rp (T3 α β γ) := ⟨fun ms H v x => ∃ a u w y, v = .ref a ∧ a ∉ ms ∧ H a = some (.tup [u, w, y]) ∧ rp ms H u x.a ∧ rp ms H w x.b ∧ rp ms H y x.c, fun {ms ms' H H' v x} h M => by
  obtain ⟨a, u, w, y, rfl, n, e, r1, r2, r3⟩ := h
  obtain ⟨n', e'⟩ := M a _ n e
  exact ⟨a, u, w, y, rfl, n', e', Rp.mv r1 M, Rp.mv r2 M, Rp.mv r3 M⟩⟩
/-- a list of two unlike items -/
structure L2P (α β : Type) : Type where
  a : α
  b : β
deriving DecidableEq
instance instRpL2P {α β : Type} [Rp α] [Rp β] : Rp (L2P α β) := ⟨fun ms H v x => ∃ a u w, v = .ref a ∧ a ∉ ms ∧ H a = some (.lst [u, w]) ∧ rp ms H u x.a ∧ rp ms H w x.b, fun {ms ms' H H' v x} h M => by
  obtain ⟨a, u, w, rfl, n, e, r1, r2⟩ := h
  obtain ⟨n', e'⟩ := M a _ n e
  exact ⟨a, u, w, rfl, n', e', Rp.mv r1 M, Rp.mv r2 M⟩⟩
/-- the arguments of a def -/
class RpA (ι : Type) where
  ra : Ms → Hp → List V → ι → Prop
  mv : ∀ {ms ms' : Ms} {H H' : Hp} {vs : List V} {x : ι}, ra ms H vs x → Mv ms H ms' H' → ra ms' H' vs x
open RpA (ra)
instance instRpANil : RpA Unit := ⟨fun _ _ vs _ => vs = [], fun h _ => h⟩
instance instRpACons {α ι : Type} [Rp α] [RpA ι] : RpA (α × ι) := ⟨fun ms H vs x => ∃ v us, vs = v :: us ∧ rp ms H v x.1 ∧ ra ms H us x.2, fun {ms ms' H H' v x} h M => by
  obtain ⟨v, us, rfl, r1, r2⟩ := h
  exact ⟨v, us, rfl, Rp.mv r1 M, RpA.mv r2 M⟩⟩
/-! ### the model's words -/
def bnd {α β : Type} (x : α) (k : α → Option β) : Option β := k x
theorem bnd_inv {α β : Type} {x : α} {k : α → Option β} {r : β} (h : bnd x k = some r) : ∃ y, y = x ∧ k y = some r := ⟨_, rfl, h⟩
theorem bind_inv {α β : Type} {x : Option α} {k : α → Option β} {r : β} (h : x.bind k = some r) : ∃ y, x = some y ∧ k y = some r := by
  cases x with
  | none => cases h
  | some y => exact ⟨y, rfl, h⟩
/-- a turn: on, or out with an answer -/
inductive Fl (ρ s : Type) where
  | ret (r : ρ)
  | go (x : s)
def fold {α s : Type} (f : α → s → Option s) : List α → s → Option s
  | [], x => some x
  | a :: as, x => (f a x).bind fun y => fold f as y
def loop {α s ρ : Type} (f : α → s → Option (Fl ρ s)) : List α → s → Option (Fl ρ s)
  | [], x => some (.go x)
  | a :: as, x => (f a x).bind fun y => match y with | .ret r => some (.ret r) | .go z => loop f as z
/-- a comprehension: what is kept, in order -/
def coll {α β s : Type} (f : α → s → Option (Option β × s)) : List α → s → Option (List β × s)
  | [], x => some ([], x)
  | a :: as, x => (f a x).bind fun y => (coll f as y.2).bind fun z => some (y.1.toList ++ z.1, z.2)
/-- a comprehension that draws nothing -/
def colP {α β : Type} (f : α → Option (Option β)) : List α → Option (List β)
  | [] => some []
  | a :: as => (f a).bind fun y => (colP f as).bind fun z => some (y.toList ++ z)
def appF {α : Type} (xs : List α) (x : α) : Option (List α) := if xs.length < sizeLine then some (xs ++ [x]) else none
def catF {α : Type} (xs ys : List α) : Option (List α) := if xs.length + ys.length ≤ sizeLine then some (xs ++ ys) else none
def rngL (lo : Int) (n : Nat) : List Int := (List.range n).map fun i : Nat => lo + (i : Int)
def rng2 (lo hi : Int) : Option (List Int) := if -(2 ^ 62) ≤ lo ∧ lo < 2 ^ 62 ∧ -(2 ^ 62) ≤ hi ∧ hi < 2 ^ 62 ∧ (hi - lo).toNat ≤ sizeLine then some (rngL lo (hi - lo).toNat) else none
def rng1 (hi : Int) : Option (List Int) := if -(2 ^ 62) ≤ hi ∧ hi < 2 ^ 62 ∧ hi.toNat ≤ sizeLine then some (rngL 0 hi.toNat) else none
def enumL {α : Type} (xs : List α) : List (Int × α) := xs.mapIdx fun i x => ((i : Int), x)
def setF {α : Type} (xs : List α) (i : Int) (x : α) : Option (List α) := (ixN xs.length i).bind fun j => some (xs.set j x)
/-! ### the judgement: an expression gives x; B may change, from p to q -/
structure Wd (B ms : Ms) (H : Hp) : Prop where
  hB : ∀ a ∈ B, a ∈ ms
  al : Al ms H
theorem Wd.bu {B ms : Ms} {H H' : Hp} (W : Wd B ms H) (x : Bu B H H') : Wd B ms H' := ⟨W.hB, W.al.bu x⟩
theorem Wd.mv {B ms : Ms} {H H' : Hp} (W : Wd B ms H) (x : Bu B H H') : Mv ms H ms H' := Mv.bu W.hB x
abbrev Hq := Ms → Hp → Prop
def Ex {α : Type} [Rp α] (B ms : Ms) (te : TE) (σ : St) (H0 : Hp) (p : Hq) (x : α) (q : Hq) : Prop :=
  ∀ H, Bu B H0 H → p ms H → ∀ Q : VK, (∀ v H', Bu B H H' → q ms H' → rp ms H' v x → Q v H') → te σ H Q
/-- a list that is made -/
def En {α : Type} [Rp α] (B ms : Ms) (te : TE) (σ : St) (H0 : Hp) (p : Hq) (xs : List α) (q : Hq) : Prop :=
  ∀ H, Bu B H0 H → p ms H → ∀ Q : VK, (∀ a H', Bu B H H' → q (a :: ms) H' → H a = none → a ∉ ms → Ls (a :: ms) H' a xs → Q (.ref a) H') → te σ H Q
/-- a list to be read, frozen or not -/
def El {α : Type} [Rp α] (B ms : Ms) (te : TE) (σ : St) (H0 : Hp) (p : Hq) (xs : List α) (q : Hq) : Prop :=
  ∀ H, Bu B H0 H → p ms H → ∀ Q : VK, (∀ a H', Bu B H H' → q ms H' → a ∉ B → Ls ms H' a xs → Q (.ref a) H') → te σ H Q
def Et (B ms : Ms) (tt : TT) (σ : St) (H0 : Hp) (p : Hq) (c : Bool) (q : Hq) : Prop :=
  ∀ H, Bu B H0 H → p ms H → ∀ R : Bool → Hp → Prop, (∀ H', Bu B H H' → q ms H' → R c H') → tt σ H R
def Ea {ι : Type} [RpA ι] (B ms : Ms) (ta : TA) (σ : St) (H0 : Hp) (p : Hq) (x : ι) (q : Hq) : Prop :=
  ∀ H, Bu B H0 H → p ms H → ∀ Q : List V → Hp → Prop, (∀ vs H', Bu B H H' → q ms H' → ra ms H' vs x → Q vs H') → ta σ H Q
/-- stays when what is frozen, and what stands at B, stays -/
def Sb (B : Ms) (q : Hq) : Prop := ∀ ms ms' H H', q ms H → Mv ms H ms' H' → (∀ a ∈ B, ∀ o, H a = some o → H' a = some o) → q ms' H'
theorem Sb.same {B ms : Ms} {q : Hq} {H H' : Hp} (h : Sb B q) (s : Same H H') (z : q ms H) : q ms H' := h _ _ _ _ z (Mv.same s) fun a _ o e => s a o e
def Tr : Hq := fun _ _ => True
theorem sb_tr {B : Ms} : Sb B Tr := fun _ _ _ _ _ _ _ => trivial
section
variable {α β γ : Type} [Rp α] [Rp β] [Rp γ] {K : PySem.W.Frag} {B ms : Ms} {σ : St} {H0 : Hp} {p q r : Hq} {ta tb tc te : TE} {x : α} {y : β} {z : γ}
theorem Ex.use {H : Hp} {Q : VK} (h : Ex B ms te σ H p x q) (hp : p ms H) (k : ∀ v H', Bu B H H' → q ms H' → rp ms H' v x → Q v H') : te σ H Q := h H (Bu.refl B H) hp Q k
theorem Et.use {tt : TT} {c : Bool} {H : Hp} {R : Bool → Hp → Prop} (h : Et B ms tt σ H p c q) (hp : p ms H) (k : ∀ H', Bu B H H' → q ms H' → R c H') : tt σ H R := h H (Bu.refl B H) hp R k
theorem El.use {xs : List α} {H : Hp} {Q : VK} (h : El B ms te σ H p xs q) (hp : p ms H) (k : ∀ a H', Bu B H H' → q ms H' → a ∉ B → Ls ms H' a xs → Q (.ref a) H') : te σ H Q := h H (Bu.refl B H) hp Q k
theorem Ex.later {H : Hp} (h : Ex B ms te σ H0 p x q) (b : Bu B H0 H) : Ex B ms te σ H p x q := fun H1 b1 hp Q k => h H1 (b.trans b1) hp Q k
theorem ex_var (W : Wd B ms H0) {i : Nat} {v : V} (hs : σ[i]? = some (some v)) (h : rp ms H0 v x) : Ex B ms (tVar i) σ H0 p x p := fun H b hp Q k => ⟨v, hs, k v H (Bu.refl B H) hp (Rp.mv h (W.mv b))⟩
theorem ex_int (n : Int) : Ex B ms (tC (.int n)) σ H0 p n p := fun H b hp Q k => k _ H (Bu.refl B H) hp rfl
theorem ex_bl (n : Bool) : Ex B ms (tC (.bl n)) σ H0 p n p := fun H b hp Q k => k _ H (Bu.refl B H) hp rfl
theorem ex_str (n : Str) : Ex B ms (tC (.str n)) σ H0 p n p := fun H b hp Q k => k _ H (Bu.refl B H) hp rfl
theorem ex_non : Ex B ms (tC .non) σ H0 p (none : Option α) p := fun H b hp Q k => k _ H (Bu.refl B H) hp rfl
theorem ex_some (h : Ex B ms te σ H0 p x q) : Ex B ms te σ H0 p (some x) q := h
/-- the same judged of the same datum, said otherwise -/
theorem ex_eq {x' : α} (e : x = x') (h : Ex B ms te σ H0 p x q) : Ex B ms te σ H0 p x' q := e ▸ h
theorem ex_opI0 {g : Int → Int → V} {i j : Int} (hg : ∀ ms H, rp ms H (g i j) z) (ha : Ex B ms ta σ H0 p i q) (hb : Ex B ms tb σ H0 q j r) : Ex B ms (tOp (rI0 g) ta tb) σ H0 p z r :=
  fun H b hp Q k => ha H b hp _ fun v H1 b1 q1 e1 => hb H1 (b.trans b1) q1 _ fun u H2 b2 q2 e2 => ⟨i, j, e1, e2, k _ H2 (b1.trans b2) q2 (hg _ _)⟩
theorem ex_opI {C : Int → Int → Prop} {g : Int → Int → V} {i j : Int} (hc : C i j) (hg : ∀ ms H, rp ms H (g i j) z) (ha : Ex B ms ta σ H0 p i q) (hb : Ex B ms tb σ H0 q j r) : Ex B ms (tOp (rI C g) ta tb) σ H0 p z r :=
  fun H b hp Q k => ha H b hp _ fun v H1 b1 q1 e1 => hb H1 (b.trans b1) q1 _ fun u H2 b2 q2 e2 => ⟨i, j, e1, e2, hc, k _ H2 (b1.trans b2) q2 (hg _ _)⟩
theorem ex_opU {g : Int → V} {i : Int} (hg : ∀ ms H, rp ms H (g i) z) (ha : Ex B ms ta σ H0 p i q) : Ex B ms (tUn (rU g) ta) σ H0 p z q :=
  fun H b hp Q k => ha H b hp _ fun v H1 b1 q1 e1 => ⟨i, e1, k _ H1 b1 q1 (hg _ _)⟩
theorem ex_eqI {i j : Int} (ha : Ex B ms ta σ H0 p i q) (hb : Ex B ms tb σ H0 q j r) : Ex B ms (tOp rEq ta tb) σ H0 p (decide (i = j)) r :=
  fun H b hp Q k => ha H b hp _ fun v H1 b1 q1 e1 => hb H1 (b.trans b1) q1 _ fun u H2 b2 q2 e2 => by
    have e1' : v = .int i := e1
    have e2' : u = .int j := e2
    subst e1' e2'
    exact r_eqI (k _ H2 (b1.trans b2) q2 rfl)
theorem ex_neI {i j : Int} (ha : Ex B ms ta σ H0 p i q) (hb : Ex B ms tb σ H0 q j r) : Ex B ms (tOp rNe ta tb) σ H0 p (!decide (i = j)) r :=
  fun H b hp Q k => ha H b hp _ fun v H1 b1 q1 e1 => hb H1 (b.trans b1) q1 _ fun u H2 b2 q2 e2 => by
    have e1' : v = .int i := e1
    have e2' : u = .int j := e2
    subst e1' e2'
    exact r_neI (k _ H2 (b1.trans b2) q2 rfl)
theorem ex_eqB {i j : Bool} (ha : Ex B ms ta σ H0 p i q) (hb : Ex B ms tb σ H0 q j r) : Ex B ms (tOp rEq ta tb) σ H0 p (decide (i = j)) r :=
  fun H b hp Q k => ha H b hp _ fun v H1 b1 q1 e1 => hb H1 (b.trans b1) q1 _ fun u H2 b2 q2 e2 => by
    have e1' : v = .bl i := e1
    have e2' : u = .bl j := e2
    subst e1' e2'
    exact r_eqB (k _ H2 (b1.trans b2) q2 rfl)
theorem ex_neB {i j : Bool} (ha : Ex B ms ta σ H0 p i q) (hb : Ex B ms tb σ H0 q j r) : Ex B ms (tOp rNe ta tb) σ H0 p (!decide (i = j)) r :=
  fun H b hp Q k => ha H b hp _ fun v H1 b1 q1 e1 => hb H1 (b.trans b1) q1 _ fun u H2 b2 q2 e2 => by
    have e1' : v = .bl i := e1
    have e2' : u = .bl j := e2
    subst e1' e2'
    exact r_neB (k _ H2 (b1.trans b2) q2 rfl)
theorem ex_eqS {i j : Str} (ha : Ex B ms ta σ H0 p i q) (hb : Ex B ms tb σ H0 q j r) : Ex B ms (tOp rEq ta tb) σ H0 p (decide (i = j)) r :=
  fun H b hp Q k => ha H b hp _ fun v H1 b1 q1 e1 => hb H1 (b.trans b1) q1 _ fun u H2 b2 q2 e2 => by
    have e1' : v = .str i := e1
    have e2' : u = .str j := e2
    subst e1' e2'
    refine ⟨rfl, ?_⟩
    rw [show decide (V.str i = V.str j) = decide (i = j) by simp]
    exact k _ H2 (b1.trans b2) q2 rfl
/-! truth -/
theorem et_val {c : Bool} (h : Ex B ms te σ H0 p c q) : Et B ms (tB te) σ H0 p c q := fun H b hp R k => h H b hp _ fun v H1 b1 q1 e1 => ⟨c, e1, k H1 b1 q1⟩
theorem et_test {c : Bool} (h : Ex B ms te σ H0 p c q) : Et B ms (tTest te) σ H0 p c q := fun H b hp R k => h H b hp _ fun v H1 b1 q1 e1 => ⟨c, e1, k H1 b1 q1⟩
theorem et_truL {xs : List α} (h : El B ms te σ H0 p xs q) : Et B ms (tTru K te) σ H0 p (!xs.isEmpty) q := fun H b hp R k => h H b hp _ fun a H1 b1 q1 na ⟨vs, e, rl, _⟩ => by
  have e2 : vs.isEmpty = xs.isEmpty := by
    have := rl.len
    cases vs <;> cases xs <;> simp_all
  refine r_truL (SqL.of e) ?_
  rw [e2]
  exact k H1 b1 q1
theorem et_not {tt : TT} {c : Bool} (h : Et B ms tt σ H0 p c q) : Et B ms (L2.tNot tt) σ H0 p (!c) q := fun H b hp R k => h H b hp _ fun H1 b1 q1 => k H1 b1 q1
theorem et_and {t1 t2 : TT} {c d : Bool} (h1 : Et B ms t1 σ H0 p c q) (h2 : c = true → Et B ms t2 σ H0 q d r) (h3 : c = false → d = false ∧ ∀ H, q ms H → r ms H) : Et B ms (L2.tAnd t1 t2) σ H0 p d r := fun H b hp R k => h1 H b hp _ fun H1 b1 q1 => by
  cases c with
  | true =>
    exact h2 rfl H1 (b.trans b1) q1 _ fun H2 b2 q2 => k H2 (b1.trans b2) q2
  | false =>
    obtain ⟨rfl, h⟩ := h3 rfl
    exact k H1 b1 (h _ q1)
theorem et_or {t1 t2 : TT} {c d : Bool} (h1 : Et B ms t1 σ H0 p c q) (h2 : c = false → Et B ms t2 σ H0 q d r) (h3 : c = true → d = true ∧ ∀ H, q ms H → r ms H) : Et B ms (L2.tOr t1 t2) σ H0 p d r := fun H b hp R k => h1 H b hp _ fun H1 b1 q1 => by
  cases c with
  | false =>
    exact h2 rfl H1 (b.trans b1) q1 _ fun H2 b2 q2 => k H2 (b1.trans b2) q2
  | true =>
    obtain ⟨rfl, h⟩ := h3 rfl
    exact k H1 b1 (h _ q1)
theorem ex_and {c d : Bool} (h1 : Ex B ms ta σ H0 p c q) (h2 : c = true → Ex B ms tb σ H0 q d r) (h3 : c = false → d = false ∧ ∀ H, q ms H → r ms H) : Ex B ms (tAndV ta tb) σ H0 p d r := fun H b hp R k => h1 H b hp _ fun v H1 b1 q1 ev => by
  refine ⟨c, ev, ?_⟩
  cases c with
  | true =>
    exact h2 rfl H1 (b.trans b1) q1 _ fun v H2 b2 q2 e2 => k v H2 (b1.trans b2) q2 e2
  | false =>
    obtain ⟨rfl, h⟩ := h3 rfl
    exact k _ H1 b1 (h _ q1) rfl
theorem ex_or {c d : Bool} (h1 : Ex B ms ta σ H0 p c q) (h2 : c = false → Ex B ms tb σ H0 q d r) (h3 : c = true → d = true ∧ ∀ H, q ms H → r ms H) : Ex B ms (tOrV ta tb) σ H0 p d r := fun H b hp R k => h1 H b hp _ fun v H1 b1 q1 ev => by
  refine ⟨c, ev, ?_⟩
  cases c with
  | false =>
    exact h2 rfl H1 (b.trans b1) q1 _ fun v H2 b2 q2 e2 => k v H2 (b1.trans b2) q2 e2
  | true =>
    obtain ⟨rfl, h⟩ := h3 rfl
    exact k _ H1 b1 (h _ q1) rfl
theorem ex_not {c : Bool} (h : Ex B ms te σ H0 p c q) : Ex B ms (tNotV te) σ H0 p (!c) q := fun H b hp Q k => h H b hp _ fun v H1 b1 q1 e1 => ⟨c, e1, k _ H1 b1 q1 rfl⟩
theorem ex_if {tt : TT} {c : Bool} (h1 : Et B ms tt σ H0 p c q) (h2 : c = true → Ex B ms ta σ H0 q x r) (h3 : c = false → Ex B ms tb σ H0 q x r) : Ex B ms (L2.tIf tt ta tb) σ H0 p x r := fun H b hp Q k => h1 H b hp _ fun H1 b1 q1 => by
  cases c with
  | true => exact h2 rfl H1 (b.trans b1) q1 _ fun v H2 b2 q2 e2 => k v H2 (b1.trans b2) q2 e2
  | false => exact h3 rfl H1 (b.trans b1) q1 _ fun v H2 b2 q2 e2 => k v H2 (b1.trans b2) q2 e2
theorem et_and' {t1 t2 : TT} {c d : Bool} (h1 : Et B ms t1 σ H0 p c q) (h2 : c = true → Et B ms t2 σ H0 q d q) : Et B ms (L2.tAnd t1 t2) σ H0 p (c && d) q := et_and h1 (fun e => by rw [show (c && d) = d by rw [e]; rfl]; exact h2 e) fun e => ⟨by rw [e]; rfl, fun _ z => z⟩
theorem et_or' {t1 t2 : TT} {c d : Bool} (h1 : Et B ms t1 σ H0 p c q) (h2 : c = false → Et B ms t2 σ H0 q d q) : Et B ms (L2.tOr t1 t2) σ H0 p (c || d) q := et_or h1 (fun e => by rw [show (c || d) = d by rw [e]; rfl]; exact h2 e) fun e => ⟨by rw [e]; rfl, fun _ z => z⟩
theorem ex_and' {c d : Bool} (h1 : Ex B ms ta σ H0 p c q) (h2 : c = true → Ex B ms tb σ H0 q d q) : Ex B ms (tAndV ta tb) σ H0 p (c && d) q := ex_and h1 (fun e => by rw [show (c && d) = d by rw [e]; rfl]; exact h2 e) fun e => ⟨by rw [e]; rfl, fun _ z => z⟩
theorem ex_or' {c d : Bool} (h1 : Ex B ms ta σ H0 p c q) (h2 : c = false → Ex B ms tb σ H0 q d q) : Ex B ms (tOrV ta tb) σ H0 p (c || d) q := ex_or h1 (fun e => by rw [show (c || d) = d by rw [e]; rfl]; exact h2 e) fun e => ⟨by rw [e]; rfl, fun _ z => z⟩
/-! a < b < c -/
theorem ex_chain {g h : Int → Int → Bool} {i j l : Int} {d : Bool} (ha : Ex B ms ta σ H0 p i q) (hb : Ex B ms tb σ H0 q j r) (hc : Ex B ms tc σ H0 r l r) (e : d = (g i j && h j l)) : Ex B ms (tChain (rI0 fun i j => .bl (g i j)) (rI0 fun i j => .bl (h i j)) ta tb tc) σ H0 p d r :=
  fun H b hp Q k => ha H b hp _ fun v H1 b1 q1 e1 => hb H1 (b.trans b1) q1 _ fun u H2 b2 q2 e2 => ⟨i, j, e1, e2, g i j, rfl, by
    cases hg : g i j with
    | true =>
      rw [if_pos rfl]
      refine hc H2 ((b.trans b1).trans b2) q2 _ fun w H3 b3 q3 e3 => ⟨j, l, e2, e3, ?_⟩
      rw [e, hg] at k
      exact k _ H3 ((b1.trans b2).trans b3) q3 rfl
    | false =>
      rw [if_neg (by decide)]
      rw [e, hg] at k
      exact k _ H2 (b1.trans b2) q2 rfl⟩
/-- the same, where the third part may fail -/
theorem ex_chainP {g h : Int → Int → Bool} {i j : Int} {d : Bool} (ha : Ex B ms ta σ H0 p i q) (hb : Ex B ms tb σ H0 q j r) (hc : g i j = true → ∃ l : Int, Ex B ms tc σ H0 r l r ∧ h j l = d) (e : g i j = false → d = false) : Ex B ms (tChain (rI0 fun i j => .bl (g i j)) (rI0 fun i j => .bl (h i j)) ta tb tc) σ H0 p d r :=
  fun H b hp Q k => ha H b hp _ fun v H1 b1 q1 e1 => hb H1 (b.trans b1) q1 _ fun u H2 b2 q2 e2 => ⟨i, j, e1, e2, g i j, rfl, by
    cases hg : g i j with
    | true =>
      rw [if_pos rfl]
      obtain ⟨l, hc, ed⟩ := hc hg
      refine hc H2 ((b.trans b1).trans b2) q2 _ fun w H3 b3 q3 e3 => ⟨j, l, e2, e3, ?_⟩
      rw [← ed] at k
      exact k _ H3 ((b1.trans b2).trans b3) q3 rfl
    | false =>
      rw [if_neg (by decide)]
      rw [e hg] at k
      exact k _ H2 (b1.trans b2) q2 rfl⟩
end
section
variable {α β γ : Type} [Rp α] [Rp β] [Rp γ] {K : PySem.W.Frag} {B ms : Ms} {σ : St} {H0 : Hp} {p q r : Hq} {ta tb tc te : TE} {x : α} {y : β} {z : γ}
/-! lists to read -/
theorem el_of {xs : List α} (hB : ∀ a ∈ B, a ∈ ms) (h : Ex B ms te σ H0 p xs q) : El B ms te σ H0 p xs q := fun H b hp Q k => h H b hp _ fun v H1 b1 q1 ⟨a, e, n, l⟩ => by
  subst e
  exact k a H1 b1 q1 (fun z => n (hB a z)) l
theorem el_var {i : Nat} {a : Addr} {xs : List α} (W : Wd B ms H0) (hs : σ[i]? = some (some (.ref a))) (n : a ∉ B) (h : Ls ms H0 a xs) : El B ms (tVar i) σ H0 p xs p := fun H b hp Q k => ⟨_, hs, k a H (Bu.refl B H) hp n (h.bu W.hB n b)⟩
theorem ex_len {xs : List α} (h : El B ms te σ H0 p xs q) : Ex B ms (tCB (fun xs H Q => ∃ p ys, xs = [.ref p] ∧ (SqL K H p ys ∨ SqT K H p ys) ∧ Q (.int ys.length) H) (tCons te tNil)) σ H0 p (xs.length : Int) q := fun H b hp Q k => h H b hp _ fun a H1 b1 q1 na ⟨vs, e, rl, _⟩ =>
  ⟨a, vs, rfl, .inl (SqL.of e), k _ H1 b1 q1 (by rw [rl.len]; rfl)⟩
theorem ex_ixL {xs : List α} {i : Int} (h1 : El B ms ta σ H0 p xs q) (h2 : Ex B ms tb σ H0 q i r) (W : Wd B ms H0) (e : atI xs i = some x) : Ex B ms (tOp (rIxL K) ta tb) σ H0 p x r := fun H b hp Q k => h1 H b hp _ fun a H1 b1 q1 na l1 => h2 H1 (b.trans b1) q1 _ fun u H2 b2 q2 e2 => by
  obtain ⟨vs, ev, rl, _⟩ := l1.bu W.hB na b2
  obtain ⟨j, ej, ex⟩ := Option.bind_eq_some_iff.mp e
  obtain ⟨v, hv, rv⟩ := rl.get' ex
  have e2' : u = .int i := e2
  subst e2'
  refine ⟨a, vs, i, v, rfl, rfl, SqL.of ev, ?_, k v H2 (b1.trans b2) q2 rv⟩
  unfold atI
  rw [rl.len, ej]
  exact hv
theorem ex_fst {u : α × β} (h1 : Ex B ms ta σ H0 p u q) : Ex B ms (tOp (rIxT K) ta (tC (.int 0))) σ H0 p u.1 q := fun H b hp Q k => h1 H b hp _ fun v H1 b1 q1 ⟨a, w1, w2, e, n, eh, r1, r2⟩ => by
  subst e
  exact ⟨a, _, 0, w1, rfl, rfl, SqT.of eh, rfl, k _ H1 b1 q1 r1⟩
theorem ex_snd {u : α × β} (h1 : Ex B ms ta σ H0 p u q) : Ex B ms (tOp (rIxT K) ta (tC (.int 1))) σ H0 p u.2 q := fun H b hp Q k => h1 H b hp _ fun v H1 b1 q1 ⟨a, w1, w2, e, n, eh, r1, r2⟩ => by
  subst e
  exact ⟨a, _, 1, w2, rfl, rfl, SqT.of eh, rfl, k _ H1 b1 q1 r2⟩
theorem ex_t1 {u : T3 α β γ} (h1 : Ex B ms ta σ H0 p u q) : Ex B ms (tOp (rIxT K) ta (tC (.int 0))) σ H0 p u.a q := fun H b hp Q k => h1 H b hp _ fun v H1 b1 q1 ⟨a, w1, w2, w3, e, n, eh, r1, r2, r3⟩ => by
  subst e
  exact ⟨a, _, 0, w1, rfl, rfl, SqT.of eh, rfl, k _ H1 b1 q1 r1⟩
theorem ex_t2 {u : T3 α β γ} (h1 : Ex B ms ta σ H0 p u q) : Ex B ms (tOp (rIxT K) ta (tC (.int 1))) σ H0 p u.b q := fun H b hp Q k => h1 H b hp _ fun v H1 b1 q1 ⟨a, w1, w2, w3, e, n, eh, r1, r2, r3⟩ => by
  subst e
  exact ⟨a, _, 1, w2, rfl, rfl, SqT.of eh, rfl, k _ H1 b1 q1 r2⟩
theorem ex_t3 {u : T3 α β γ} (h1 : Ex B ms ta σ H0 p u q) : Ex B ms (tOp (rIxT K) ta (tC (.int 2))) σ H0 p u.c q := fun H b hp Q k => h1 H b hp _ fun v H1 b1 q1 ⟨a, w1, w2, w3, e, n, eh, r1, r2, r3⟩ => by
  subst e
  exact ⟨a, _, 2, w3, rfl, rfl, SqT.of eh, rfl, k _ H1 b1 q1 r3⟩
theorem Sb.less {H : Hp} {a : Addr} {q : Hq} (h : Sb B q) (z : q (a :: ms) H) : q ms H := h _ _ _ _ z (Mv.less fun _ m => List.mem_cons_of_mem _ m) fun _ _ _ e => e
theorem Sb.new {H H' : Hp} {a : Addr} {q : Hq} (h : Sb B q) (na : H a = none) (s : Same H H') (z : q ms H) : q (a :: ms) H' := h _ _ _ _ z (Mv.new na s) fun _ _ _ e => s _ _ e
theorem En.ex {xs : List α} (hq : Sb B q) (h : En B ms te σ H0 p xs q) : Ex B ms te σ H0 p xs q := fun H b hp Q k => h H b hp _ fun a H1 b1 q1 na nm l => k _ H1 b1 (hq.less q1) ⟨a, rfl, nm, l.less fun _ m => List.mem_cons_of_mem _ m⟩
theorem ls_new {H : Hp} {t : Addr} {vs : List V} {xs : List α} (nt : H t = none) (rl : RL (rp ms H) vs xs) (l : vs.length ≤ sizeLine) : Ls (t :: ms) (upd H t (.lst vs)) t xs := ⟨vs, upd_same, rl.imp fun _ _ z => Rp.mv z (Mv.new nt (same_upd nt)), l⟩
/-! arguments -/
theorem ea_nil : Ea B ms tNil σ H0 p () p := fun H b hp Q k => k [] H (Bu.refl B H) hp rfl
theorem ea_cons {ι : Type} [RpA ι] {ts : TA} {i : ι} (W : Wd B ms H0) (h1 : Ex B ms te σ H0 p x q) (h2 : Ea B ms ts σ H0 q i r) : Ea B ms (tCons te ts) σ H0 p (x, i) r := fun H b hp Q k => h1 H b hp _ fun v H1 b1 q1 e1 => h2 H1 (b.trans b1) q1 _ fun vs H2 b2 q2 e2 =>
  k (v :: vs) H2 (b1.trans b2) q2 ⟨v, vs, rfl, Rp.mv e1 (Mv.bu W.hB b2), e2⟩
theorem ex_tup2 {ts : TA} {u : α × β} (W : Wd B ms H0) (hq : Sb B q) (h : Ea B ms ts σ H0 p (u.1, u.2, ()) q) : Ex B ms (tTup ts) σ H0 p u q := fun H b hp Q k => h H b hp _ fun vs H1 b1 q1 e1 => by
  obtain ⟨v1, _, rfl, r1, v2, _, rfl, r2, e⟩ := e1
  have e' : _ = [] := e
  subst e'
  refine ⟨by rw [sizeLine_eq]; simp, fun t nt => ?_⟩
  have s := same_upd (o := .tup [v1, v2]) nt
  exact k _ _ (b1.trans (Bu.same s)) (hq.same s q1) ⟨t, v1, v2, rfl, ((W.al.bu b).bu b1).not nt, upd_same, Rp.mv r1 (Mv.same s), Rp.mv r2 (Mv.same s)⟩
theorem ex_tup3 {ts : TA} {u : T3 α β γ} (W : Wd B ms H0) (hq : Sb B q) (h : Ea B ms ts σ H0 p (u.a, u.b, u.c, ()) q) : Ex B ms (tTup ts) σ H0 p u q := fun H b hp Q k => h H b hp _ fun vs H1 b1 q1 e1 => by
  obtain ⟨v1, _, rfl, r1, v2, _, rfl, r2, v3, _, rfl, r3, e⟩ := e1
  have e' : _ = [] := e
  subst e'
  refine ⟨by rw [sizeLine_eq]; simp, fun t nt => ?_⟩
  have s := same_upd (o := .tup [v1, v2, v3]) nt
  exact k _ _ (b1.trans (Bu.same s)) (hq.same s q1) ⟨t, v1, v2, v3, rfl, ((W.al.bu b).bu b1).not nt, upd_same, Rp.mv r1 (Mv.same s), Rp.mv r2 (Mv.same s), Rp.mv r3 (Mv.same s)⟩
theorem ex_l1 {u : L2P α β} (h1 : Ex B ms ta σ H0 p u q) : Ex B ms (tOp (rIxL K) ta (tC (.int 0))) σ H0 p u.a q := fun H b hp Q k => h1 H b hp _ fun v H1 b1 q1 ⟨a, w1, w2, e, n, eh, r1, r2⟩ => by
  subst e
  exact ⟨a, _, 0, w1, rfl, rfl, SqL.of eh, rfl, k _ H1 b1 q1 r1⟩
theorem ex_l2 {u : L2P α β} (h1 : Ex B ms ta σ H0 p u q) : Ex B ms (tOp (rIxL K) ta (tC (.int 1))) σ H0 p u.b q := fun H b hp Q k => h1 H b hp _ fun v H1 b1 q1 ⟨a, w1, w2, e, n, eh, r1, r2⟩ => by
  subst e
  exact ⟨a, _, 1, w2, rfl, rfl, SqL.of eh, rfl, k _ H1 b1 q1 r2⟩
theorem ex_two {ts : TA} {u : L2P α β} (W : Wd B ms H0) (hq : Sb B q) (h : Ea B ms ts σ H0 p (u.a, u.b, ()) q) : Ex B ms (tLst ts) σ H0 p u q := fun H b hp Q k => h H b hp _ fun vs H1 b1 q1 e1 => by
  obtain ⟨v1, _, rfl, r1, v2, _, rfl, r2, e⟩ := e1
  have e' : _ = [] := e
  subst e'
  refine ⟨by rw [sizeLine_eq]; simp, fun t nt => ?_⟩
  have s := same_upd (o := .lst [v1, v2]) nt
  exact k _ _ (b1.trans (Bu.same s)) (hq.same s q1) ⟨t, v1, v2, rfl, ((W.al.bu b).bu b1).not nt, upd_same, Rp.mv r1 (Mv.same s), Rp.mv r2 (Mv.same s)⟩
/-- items of a list display -/
def Es (B ms : Ms) (ta : TA) (σ : St) (H0 : Hp) (p : Hq) (xs : List α) (q : Hq) : Prop :=
  ∀ H, Bu B H0 H → p ms H → ∀ Q : List V → Hp → Prop, (∀ vs H', Bu B H H' → q ms H' → RL (rp ms H') vs xs → Q vs H') → ta σ H Q
theorem es_nil : Es B ms tNil σ H0 p ([] : List α) p := fun H b hp Q k => k [] H (Bu.refl B H) hp trivial
theorem es_cons {xs : List α} {ts : TA} (W : Wd B ms H0) (h1 : Ex B ms te σ H0 p x q) (h2 : Es B ms ts σ H0 q xs r) : Es B ms (tCons te ts) σ H0 p (x :: xs) r := fun H b hp Q k => h1 H b hp _ fun v H1 b1 q1 e1 => h2 H1 (b.trans b1) q1 _ fun vs H2 b2 q2 e2 =>
  k (v :: vs) H2 (b1.trans b2) q2 ⟨Rp.mv e1 (Mv.bu W.hB b2), e2⟩
/-- a fresh list -/
theorem rp_new {H : Hp} {t : Addr} {vs : List V} {xs : List α} (al : Al ms H) (nt : H t = none) (rl : RL (rp ms H) vs xs) (l : vs.length ≤ sizeLine) : rp ms (upd H t (.lst vs)) (.ref t) xs :=
  ⟨t, rfl, al.not nt, vs, upd_same, rl.imp fun _ _ z => Rp.mv z (Mv.same (same_upd nt)), l⟩
theorem en_lst {ts : TA} {xs : List α} (W : Wd B ms H0) (hq : Sb B q) (hl : xs.length ≤ 1000) (h : Es B ms ts σ H0 p xs q) : En B ms (tLst ts) σ H0 p xs q := fun H b hp Q k => h H b hp _ fun vs H1 b1 q1 rl => by
  have hl' : vs.length ≤ sizeLine := by rw [rl.len, sizeLine_eq]; omega
  refine ⟨hl', fun t nt => ?_⟩
  have s := same_upd (o := .lst vs) nt
  exact k _ _ (b1.trans (Bu.same s)) (hq.new nt s q1) (b1.none nt) (((W.al.bu b).bu b1).not nt) (ls_new nt rl hl')
theorem en_listof {xs : List α} (W : Wd B ms H0) (hq : Sb B q) (h : El B ms te σ H0 p xs q) : En B ms (tCB (fun xs H Q => ∃ p ys, xs = [.ref p] ∧ (SqL K H p ys ∨ SqT K H p ys) ∧ ∀ l, H l = none → Q (.ref l) (upd H l (.lst ys))) (tCons te tNil)) σ H0 p xs q := fun H b hp Q k => h H b hp _ fun a H1 b1 q1 na ⟨vs, e, rl, l⟩ => by
  refine ⟨a, vs, rfl, .inl (SqL.of e), fun t nt => ?_⟩
  have s := same_upd (o := .lst vs) nt
  exact k _ _ (b1.trans (Bu.same s)) (hq.new nt s q1) (b1.none nt) (((W.al.bu b).bu b1).not nt) (ls_new nt rl l)
theorem en_cat {xs ys zs : List α} (W : Wd B ms H0) (hr : Sb B r) (h1 : El B ms ta σ H0 p xs q) (h2 : El B ms tb σ H0 q ys r) (e : catF xs ys = some zs) : En B ms (tOp rCat ta tb) σ H0 p zs r := fun H b hp Q k => h1 H b hp _ fun a H1 b1 q1 na l1 => h2 H1 (b.trans b1) q1 _ fun a2 H2 b2 q2 na2 l2 => by
  obtain ⟨vs, ev, rl, _⟩ := l1.bu W.hB na b2
  obtain ⟨us, eu, rl2, _⟩ := l2
  unfold catF at e
  split at e
  · rename_i hl
    cases e
    have hl' : vs.length + us.length ≤ sizeLine := by rw [rl.len, rl2.len]; exact hl
    refine ⟨a, a2, vs, us, rfl, rfl, ev, eu, hl', fun t nt => ?_⟩
    have s := same_upd (o := .lst (vs ++ us)) nt
    exact k _ _ ((b1.trans b2).trans (Bu.same s)) (hr.new nt s q2) ((b1.trans b2).none nt) ((((W.al.bu b).bu b1).bu b2).not nt) (ls_new nt (rl.app rl2) (by rw [List.length_append]; exact hl'))
  · cases e
/-! slices -/
def cutF {α : Type} (xs : List α) (lo hi : Option Int) : List α := (xs.drop (HT.sIx xs.length 0 lo)).take (HT.sIx xs.length xs.length hi - HT.sIx xs.length 0 lo)
def Eo (B ms : Ms) (th : TO) (σ : St) (H0 : Hp) (p : Hq) (i : Option Int) (q : Hq) : Prop :=
  ∀ H, Bu B H0 H → p ms H → ∀ Q : Option Int → Hp → Prop, (∀ H', Bu B H H' → q ms H' → Q i H') → th σ H Q
theorem eo_none : Eo B ms tNoPart σ H0 p none p := fun H b hp Q k => k H (Bu.refl B H) hp
theorem eo_some {i : Int} (h : Ex B ms te σ H0 p i q) : Eo B ms (tPart te) σ H0 p (some i) q := fun H b hp Q k => h H b hp _ fun v H1 b1 q1 e => ⟨i, e, k H1 b1 q1⟩
theorem en_slice {xs : List α} {lo hi : Option Int} {tl th : TO} {s : Hq} (W : Wd B ms H0) (hs : Sb B s) (h1 : El B ms te σ H0 p xs q) (h2 : Eo B ms tl σ H0 q lo r) (h3 : Eo B ms th σ H0 r hi s) : En B ms (tSl (rSlL K) te tl th) σ H0 p (cutF xs lo hi) s := fun H b hp Q k => h1 H b hp _ fun a H1 b1 q1 na l1 =>
  h2 H1 (b.trans b1) q1 _ fun H2 b2 q2 => h3 H2 ((b.trans b1).trans b2) q2 _ fun H3 b3 q3 => by
  obtain ⟨vs, ev, rl, l⟩ := (l1.bu W.hB na b2).bu W.hB na b3
  refine ⟨a, vs, rfl, SqL.of ev, fun t nt => ?_⟩
  have s := same_upd (o := .lst (cutV vs lo hi)) nt
  refine k _ _ (((b1.trans b2).trans b3).trans (Bu.same s)) (hs.new nt s q3) (((b1.trans b2).trans b3).none nt) (((((W.al.bu b).bu b1).bu b2).bu b3).not nt) (ls_new nt ?_ (Nat.le_trans (cutV_length vs lo hi) l))
  unfold cutV cutF
  rw [rl.len]
  exact rl.drop.take
/-! sums, any, all, max, min -/
theorem ex_sum {xs : List Int} (h : El B ms te σ H0 p xs q) : Ex B ms (tCB (rSum K) (tCons te tNil)) σ H0 p xs.sum q := fun H b hp Q k => h H b hp _ fun a H1 b1 q1 na ⟨vs, e, rl, l⟩ => by
  rw [rl.ints fun _ _ h => h] at e
  exact ⟨a, xs, rfl, SqL.of e, k _ H1 b1 q1 rfl⟩
theorem ex_any {xs : List Bool} (h : El B ms te σ H0 p xs q) : Ex B ms (tCB (rAny K) (tCons te tNil)) σ H0 p (xs.any id) q := fun H b hp Q k => h H b hp _ fun a H1 b1 q1 na ⟨vs, e, rl, l⟩ => by
  rw [rl.bools fun _ _ h => h] at e
  exact ⟨a, xs, rfl, SqL.of e, k _ H1 b1 q1 rfl⟩
theorem ex_all {xs : List Bool} (h : El B ms te σ H0 p xs q) : Ex B ms (tCB (rAll K) (tCons te tNil)) σ H0 p (xs.all id) q := fun H b hp Q k => h H b hp _ fun a H1 b1 q1 na ⟨vs, e, rl, l⟩ => by
  rw [rl.bools fun _ _ h => h] at e
  exact ⟨a, xs, rfl, SqL.of e, k _ H1 b1 q1 rfl⟩
theorem ex_max2 {ts : TA} {i j : Int} (h : Ea B ms ts σ H0 p (i, j, ()) q) : Ex B ms (tCB (fun xs H Q => ∃ i j, xs = [.int i, .int j] ∧ Q (.int (if j > i then j else i)) H) ts) σ H0 p (max i j) q := fun H b hp Q k => h H b hp _ fun vs H1 b1 q1 e1 => by
  obtain ⟨v1, _, rfl, r1, v2, _, rfl, r2, e⟩ := e1
  refine ⟨i, j, ?_, k _ H1 b1 q1 ?_⟩
  · have e' : _ = [] := e
    have r1' : v1 = .int i := r1
    have r2' : v2 = .int j := r2
    rw [e', r1', r2']
  · show V.int _ = V.int _
    congr 1
    split <;> omega
theorem ex_min2 {ts : TA} {i j : Int} (h : Ea B ms ts σ H0 p (i, j, ()) q) : Ex B ms (tCB (fun xs H Q => ∃ i j, xs = [.int i, .int j] ∧ Q (.int (if j < i then j else i)) H) ts) σ H0 p (min i j) q := fun H b hp Q k => h H b hp _ fun vs H1 b1 q1 e1 => by
  obtain ⟨v1, _, rfl, r1, v2, _, rfl, r2, e⟩ := e1
  refine ⟨i, j, ?_, k _ H1 b1 q1 ?_⟩
  · have e' : _ = [] := e
    have r1' : v1 = .int i := r1
    have r2' : v2 = .int j := r2
    rw [e', r1', r2']
  · show V.int _ = V.int _
    congr 1
    split <;> omega
/-! equality of data -/
class RpD (α : Type) [DecidableEq α] [Enc α] [Rp α] : Prop where
  dp : ∀ {K : PySem.W.Frag} {ms : Ms} {H : Hp} {v : V} {x : α}, rp ms H v x → Is K H v x
theorem dpAll_of [DecidableEq α] [Enc α] [RpD α] {K : PySem.W.Frag} {ms : Ms} {H : Hp} : ∀ {vs : List V} {xs : List α}, RL (rp ms H) vs xs → DpAll K H vs (xs.map Enc.enc)
  | [], [], _ => .nil
  | _ :: _, _ :: _, ⟨a, b⟩ => .cons (RpD.dp a) (dpAll_of b)
instance : RpD Int := ⟨fun h => by have h' : _ = V.int _ := h; subst h'; exact is_int⟩
instance : RpD Bool := ⟨fun h => by have h' : _ = V.bl _ := h; subst h'; exact is_bl⟩
theorem Ls.is [DecidableEq α] [Enc α] [RpD α] {K : PySem.W.Frag} {ms : Ms} {H : Hp} {a : Addr} {xs : List α} (h : Ls ms H a xs) : Is K H (.ref a) xs := let ⟨_, e, rl, _⟩ := h; .lst (SqL.of e) (dpAll_of rl)
instance [DecidableEq α] [Enc α] [RpD α] : RpD (List α) := ⟨fun ⟨a, e, _, l⟩ => by subst e; exact l.is⟩
instance [DecidableEq α] [Enc α] [RpD α] [DecidableEq β] [Enc β] [RpD β] : RpD (α × β) := ⟨fun ⟨a, u, w, e, _, eh, r1, r2⟩ => by subst e; exact is_pair (SqT.of eh) (RpD.dp r1) (RpD.dp r2)⟩
instance encT3 [DecidableEq α] [DecidableEq β] [DecidableEq γ] [Enc α] [Enc β] [Enc γ] : Enc (T3 α β γ) := ⟨fun x => .tuple [Enc.enc x.a, Enc.enc x.b, Enc.enc x.c], max (Enc.dep α) (max (Enc.dep β) (Enc.dep γ)) + 1,
  fun x => by rw [PyData.canLay0, PyData.canLayAll0, PyData.canLayAll0, PyData.canLayAll0, PyData.canLayAll0, Enc.lay, Enc.lay, Enc.lay]; rfl,
  fun x => by
    have h1 := Enc.dle x.a
    have h2 := Enc.dle x.b
    have h3 := Enc.dle x.c
    rw [PyData.depth, PyData.depthAll, PyData.depthAll, PyData.depthAll, PyData.depthAll]
    omega,
  fun x y => by
    rw [PyData.eqv, PyData.eqvAll, PyData.eqvAll, PyData.eqvAll, PyData.eqvAll, Enc.eqv, Enc.eqv, Enc.eqv]
    obtain ⟨a, b, c⟩ := x
    obtain ⟨a', b', c'⟩ := y
    by_cases h : a = a' <;> by_cases h' : b = b' <;> by_cases h2 : c = c' <;> simp [h, h', h2]⟩
instance [DecidableEq α] [Enc α] [RpD α] [DecidableEq β] [Enc β] [RpD β] [DecidableEq γ] [Enc γ] [RpD γ] : RpD (T3 α β γ) := ⟨fun ⟨a, u, w, y, e, _, eh, r1, r2, r3⟩ => by subst e; exact .tup (SqT.of eh) (.cons (RpD.dp r1) (.cons (RpD.dp r2) (.cons (RpD.dp r3) .nil)))⟩
theorem eqv_non_none {d : PyData} (h : d ≠ .none) : PyData.eqv .none d = false := by
  cases d <;> first | exact absurd rfl h | rfl
theorem eqv_none_non {d : PyData} (h : d ≠ .none) : PyData.eqv d .none = false := by
  cases d <;> first | exact absurd rfl h | rfl
def encO [DecidableEq α] [Enc α] : Option α → PyData
  | none => .none
  | some y => Enc.enc y
theorem dp_optE {K : PySem.W.Frag} [DecidableEq α] [Enc α] [RpD α] {H : Hp} {v : V} {x : Option α} (h : rp ms H v x) : Dp K H v (encO x) := by
  cases x with
  | none => have h' : v = .non := h; subst h'; exact .non
  | some y => exact RpD.dp (α := α) (x := y) h
class EncN (α : Type) [DecidableEq α] [Enc α] : Prop where
  nn : ∀ x : α, Enc.enc x ≠ .none
instance : EncN Int := ⟨fun _ z => by cases z⟩
instance [DecidableEq α] [Enc α] : EncN (List α) := ⟨fun _ z => by cases z⟩
instance [DecidableEq α] [Enc α] [DecidableEq β] [Enc β] : EncN (α × β) := ⟨fun _ z => by cases z⟩
instance : EncN Bool := ⟨fun _ z => by cases z⟩
instance [DecidableEq α] [Enc α] [DecidableEq β] [Enc β] [DecidableEq γ] [Enc γ] : EncN (T3 α β γ) := ⟨fun _ z => by cases z⟩
instance encOpt [DecidableEq α] [Enc α] [EncN α] : Enc (Option α) := ⟨encO, Enc.dep α,
  fun x => by cases x with | none => rfl | some y => exact Enc.lay y,
  fun x => by cases x with | none => exact Nat.zero_le _ | some y => exact Enc.dle y,
  fun x y => by
    cases x <;> cases y <;> simp only [encO]
    · rfl
    · simp [eqv_non_none (EncN.nn _)]
    · simp [eqv_none_non (EncN.nn _)]
    · rw [Enc.eqv]; simp⟩
instance [DecidableEq α] [Enc α] [RpD α] [EncN α] : RpD (Option α) := ⟨fun h => dp_optE h⟩
theorem ex_eqL [DecidableEq α] [Enc α] [RpD α] {xs ys : List α} (W : Wd B ms H0) (hd : Enc.dep (List α) ≤ 64) (h1 : El B ms ta σ H0 p xs q) (h2 : El B ms tb σ H0 q ys r) : Ex B ms (tOp (rEqD K) ta tb) σ H0 p (decide (xs = ys)) r := fun H b hp Q k => h1 H b hp _ fun a H1 b1 q1 na l1 => h2 H1 (b.trans b1) q1 _ fun a2 H2 b2 q2 na2 l2 =>
  r_eqE (l1.bu W.hB na b2).is l2.is hd (k _ H2 (b1.trans b2) q2 rfl)
theorem ex_neL [DecidableEq α] [Enc α] [RpD α] {xs ys : List α} (W : Wd B ms H0) (hd : Enc.dep (List α) ≤ 64) (h1 : El B ms ta σ H0 p xs q) (h2 : El B ms tb σ H0 q ys r) : Ex B ms (tOp (rNeD K) ta tb) σ H0 p (!decide (xs = ys)) r := fun H b hp Q k => h1 H b hp _ fun a H1 b1 q1 na l1 => h2 H1 (b.trans b1) q1 _ fun a2 H2 b2 q2 na2 l2 =>
  r_neE (l1.bu W.hB na b2).is l2.is hd (k _ H2 (b1.trans b2) q2 rfl)
theorem ex_eqE [DecidableEq α] [Enc α] [RpD α] {y : α} (W : Wd B ms H0) (hd : Enc.dep α ≤ 64) (h1 : Ex B ms ta σ H0 p x q) (h2 : Ex B ms tb σ H0 q y r) : Ex B ms (tOp (rEqD K) ta tb) σ H0 p (decide (x = y)) r := fun H b hp Q k => h1 H b hp _ fun v H1 b1 q1 l1 => h2 H1 (b.trans b1) q1 _ fun u H2 b2 q2 l2 =>
  r_eqE (RpD.dp (Rp.mv l1 (Mv.bu W.hB b2))) (RpD.dp l2) hd (k _ H2 (b1.trans b2) q2 rfl)
theorem ex_neE [DecidableEq α] [Enc α] [RpD α] {y : α} (W : Wd B ms H0) (hd : Enc.dep α ≤ 64) (h1 : Ex B ms ta σ H0 p x q) (h2 : Ex B ms tb σ H0 q y r) : Ex B ms (tOp (rNeD K) ta tb) σ H0 p (!decide (x = y)) r := fun H b hp Q k => h1 H b hp _ fun v H1 b1 q1 l1 => h2 H1 (b.trans b1) q1 _ fun u H2 b2 q2 l2 =>
  r_neE (RpD.dp (Rp.mv l1 (Mv.bu W.hB b2))) (RpD.dp l2) hd (k _ H2 (b1.trans b2) q2 rfl)
/-! None or not -/
class RpO (α : Type) [Rp α] : Prop where
  nn : ∀ {ms : Ms} {H : Hp} {v : V} {x : α}, rp ms H v x → v ≠ .non
instance : RpO Int := ⟨fun h => by have h' : _ = V.int _ := h; subst h'; exact fun z => by cases z⟩
instance : RpO (List α) := ⟨fun ⟨a, e, _⟩ => by subst e; exact fun z => by cases z⟩
instance : RpO (α × β) := ⟨fun ⟨a, _, _, e, _⟩ => by subst e; exact fun z => by cases z⟩
instance : RpO (T3 α β γ) := ⟨fun ⟨a, _, _, _, e, _⟩ => by subst e; exact fun z => by cases z⟩
theorem non_of [RpO α] {H : Hp} {v : V} {x : Option α} (h : rp ms H v x) : decide (v = .non) = x.isNone := by
  cases x with
  | none => have h' : v = .non := h; rw [h']; rfl
  | some y => exact decide_eq_false (RpO.nn (α := α) (x := y) h)
theorem ex_isN [RpO α] {x : Option α} (h1 : Ex B ms ta σ H0 p x q) : Ex B ms (tOp (fun x y H Q => y = .non ∧ Q (.bl (decide (x = .non))) H) ta (tC .non)) σ H0 p x.isNone q := fun H b hp Q k => h1 H b hp _ fun v H1 b1 q1 l1 => ⟨rfl, by rw [non_of l1]; exact k _ H1 b1 q1 rfl⟩
theorem ex_notN [RpO α] {x : Option α} (h1 : Ex B ms ta σ H0 p x q) : Ex B ms (tOp (fun x y H Q => y = .non ∧ Q (.bl (!decide (x = .non))) H) ta (tC .non)) σ H0 p (!x.isNone) q := fun H b hp Q k => h1 H b hp _ fun v H1 b1 q1 l1 => ⟨rfl, by rw [non_of l1]; exact k _ H1 b1 q1 rfl⟩
/-! int(i), isinstance of what is known -/
theorem ex_intI {ts : TA} {i : Int} {A : List V → Hp → VK → Prop} (h : Ea B ms ts σ H0 p (i, ()) q) : Ex B ms (tCB (fun xs H Q => (∃ i, xs = [.int i] ∧ Q (.int i) H) ∨ A xs H Q) ts) σ H0 p i q := fun H b hp Q k => h H b hp _ fun vs H1 b1 q1 e1 => by
  obtain ⟨v1, _, rfl, r1, e⟩ := e1
  have e' : _ = [] := e
  have r1' : v1 = .int i := r1
  subst e' r1'
  exact .inl ⟨i, rfl, k _ H1 b1 q1 rfl⟩
theorem ex_isiL {xs : List α} (h : El B ms te σ H0 p xs q) : Ex B ms (tCB (rIsi K) (tCons te (tCons (tC (.ty "list")) tNil))) σ H0 p true q := fun H b hp Q k => h H b hp _ fun a H1 b1 q1 na ⟨vs, e, rl, l⟩ => r_isi_ll e (k _ H1 b1 q1 rfl)
theorem ex_isiT {x : α × β} (h : Ex B ms te σ H0 p x q) : Ex B ms (tCB (rIsi K) (tCons te (tCons (tC (.ty "tuple")) tNil))) σ H0 p true q := fun H b hp Q k => h H b hp _ fun v H1 b1 q1 ⟨a, u, w, e, _, eh, _⟩ => by subst e; exact r_isi_tt eh (k _ H1 b1 q1 rfl)
theorem ex_isiT3 {x : T3 α β γ} (h : Ex B ms te σ H0 p x q) : Ex B ms (tCB (rIsi K) (tCons te (tCons (tC (.ty "tuple")) tNil))) σ H0 p true q := fun H b hp Q k => h H b hp _ fun v H1 b1 q1 ⟨a, u, w, y, e, _, eh, _⟩ => by subst e; exact r_isi_tt eh (k _ H1 b1 q1 rfl)
theorem kit_nl : kitB "NoneType" "list" = some false := by decide +kernel
theorem r_isi_nl {H : Hp} {Q : VK} (q : Q (.bl false) H) : rIsi K [.non, .ty "list"] H Q := r_isi .non kit_nl q
theorem ex_isiOL {x : Option (List α)} (h : Ex B ms te σ H0 p x q) : Ex B ms (tCB (rIsi K) (tCons te (tCons (tC (.ty "list")) tNil))) σ H0 p x.isSome q := fun H b hp Q k => h H b hp _ fun v H1 b1 q1 e => by
  cases x with
  | none => have e' : v = .non := e; subst e'; exact r_isi_nl (k _ H1 b1 q1 rfl)
  | some xs =>
    obtain ⟨a, e1, n, vs, ev, _⟩ := (show rp ms H1 v xs from e)
    subst e1
    exact r_isi_ll ev (k _ H1 b1 q1 rfl)
theorem ex_isiOT2 {x : Option (α × β)} (h : Ex B ms te σ H0 p x q) : Ex B ms (tCB (rIsi K) (tCons te (tCons (tC (.ty "tuple")) tNil))) σ H0 p x.isSome q := fun H b hp Q k => h H b hp _ fun v H1 b1 q1 e => by
  cases x with
  | none => have e' : v = .non := e; subst e'; exact r_isi_nt (k _ H1 b1 q1 rfl)
  | some xs =>
    obtain ⟨a, u, w, e1, _, eh, _⟩ := (show rp ms H1 v xs from e)
    subst e1
    exact r_isi_tt eh (k _ H1 b1 q1 rfl)
theorem ex_isiOT3 {x : Option (T3 α β γ)} (h : Ex B ms te σ H0 p x q) : Ex B ms (tCB (rIsi K) (tCons te (tCons (tC (.ty "tuple")) tNil))) σ H0 p x.isSome q := fun H b hp Q k => h H b hp _ fun v H1 b1 q1 e => by
  cases x with
  | none => have e' : v = .non := e; subst e'; exact r_isi_nt (k _ H1 b1 q1 rfl)
  | some xs =>
    obtain ⟨a, u, w, y, e1, _, eh, _⟩ := (show rp ms H1 v xs from e)
    subst e1
    exact r_isi_tt eh (k _ H1 b1 q1 rfl)
theorem ex_isib {i : Int} (h : Ex B ms te σ H0 p i q) : Ex B ms (tCB (rIsi K) (tCons te (tCons (tC (.ty "bool")) tNil))) σ H0 p false q := fun H b hp Q k => h H b hp _ fun v H1 b1 q1 e => by
  have e' : v = .int i := e
  subst e'
  exact r_isi_ib (k _ H1 b1 q1 rfl)
theorem ex_isii {i : Int} (h : Ex B ms te σ H0 p i q) : Ex B ms (tCB (rIsi K) (tCons te (tCons (tC (.ty "int")) tNil))) σ H0 p true q := fun H b hp Q k => h H b hp _ fun v H1 b1 q1 e => by
  have e' : v = .int i := e
  subst e'
  exact r_isi_ii (k _ H1 b1 q1 rfl)
theorem ex_isibb {i : Bool} (h : Ex B ms te σ H0 p i q) : Ex B ms (tCB (rIsi K) (tCons te (tCons (tC (.ty "bool")) tNil))) σ H0 p true q := fun H b hp Q k => h H b hp _ fun v H1 b1 q1 e => by
  have e' : v = .bl i := e
  subst e'
  exact r_isi_bb (k _ H1 b1 q1 rfl)
theorem ex_lenT {u : α × β} (h : Ex B ms te σ H0 p u q) : Ex B ms (tCB (fun xs H Q => ∃ p ys, xs = [.ref p] ∧ (SqL K H p ys ∨ SqT K H p ys) ∧ Q (.int ys.length) H) (tCons te tNil)) σ H0 p (2 : Int) q := fun H b hp Q k => h H b hp _ fun v H1 b1 q1 ⟨a, w1, w2, e, _, eh, _⟩ => by
  subst e
  exact ⟨a, _, rfl, .inr (SqT.of eh), k _ H1 b1 q1 rfl⟩
theorem ex_lenT3 {u : T3 α β γ} (h : Ex B ms te σ H0 p u q) : Ex B ms (tCB (fun xs H Q => ∃ p ys, xs = [.ref p] ∧ (SqL K H p ys ∨ SqT K H p ys) ∧ Q (.int ys.length) H) (tCons te tNil)) σ H0 p (3 : Int) q := fun H b hp Q k => h H b hp _ fun v H1 b1 q1 ⟨a, w1, w2, w3, e, _, eh, _⟩ => by
  subst e
  exact ⟨a, _, rfl, .inr (SqT.of eh), k _ H1 b1 q1 rfl⟩
/-! in, of whole numbers -/
theorem inV_ints (i : Int) : ∀ xs : List Int, inV (.int i) (xs.map V.int) = decide (i ∈ xs)
  | [] => rfl
  | x :: xs => by
    have ih := inV_ints i xs
    unfold inV at ih ⊢
    rw [List.map_cons, List.any_cons, ih, show eqV (.int x) (.int i) = decide (x = i) by simp [eqV]; rfl]
    by_cases h : x = i
    · subst h; simp
    · have h' : i ≠ x := fun z => h z.symm
      simp [h, h']
theorem ex_in {i : Int} {xs : List Int} (W : Wd B ms H0) (h1 : Ex B ms ta σ H0 p i q) (h2 : El B ms tb σ H0 q xs r) : Ex B ms (tOp (rIn K false) ta tb) σ H0 p (decide (i ∈ xs)) r := fun H b hp Q k => h1 H b hp _ fun v H1 b1 q1 e1 => h2 H1 (b.trans b1) q1 _ fun a H2 b2 q2 na ⟨vs, e, rl, l⟩ => by
  rw [rl.ints fun _ _ h => h] at e
  have e1' : v = .int i := e1
  subst e1'
  refine ⟨a, _, rfl, .inl (SqL.of e), rfl, by simp [flatV], ?_⟩
  rw [inV_ints]
  exact k _ H2 (b1.trans b2) q2 rfl
theorem ex_notIn {i : Int} {xs : List Int} (W : Wd B ms H0) (h1 : Ex B ms ta σ H0 p i q) (h2 : El B ms tb σ H0 q xs r) : Ex B ms (tOp (rIn K true) ta tb) σ H0 p (!decide (i ∈ xs)) r := fun H b hp Q k => h1 H b hp _ fun v H1 b1 q1 e1 => h2 H1 (b.trans b1) q1 _ fun a H2 b2 q2 na ⟨vs, e, rl, l⟩ => by
  rw [rl.ints fun _ _ h => h] at e
  have e1' : v = .int i := e1
  subst e1'
  refine ⟨a, _, rfl, .inl (SqL.of e), rfl, by simp [flatV], ?_⟩
  rw [inV_ints]
  exact k _ H2 (b1.trans b2) q2 rfl
/-! calls -/
/-- a def that changes nothing that is there -/
def spP {ι ρ : Type} [RpA ι] [Rp ρ] (F : ι → Option ρ) : Sp := fun vs H Q _ => ∃ (ms : Ms) (i : ι) (r : ρ), Al ms H ∧ ra ms H vs i ∧ F i = some r ∧ ∀ v H', Same H H' → rp ms H' v r → Q v H'
/-- a def that draws from the box -/
def Bxs (b : Addr) (bx : List Int × Nat) : Hq := fun ms H => ∃ d, H b = some (.lst [.ref d, .int (bx.2 : Nat)]) ∧ d ≠ b ∧ d ∉ ms ∧ H d = some (.lst (bx.1.map V.int))
theorem sb_bxs {b : Addr} {bx : List Int × Nat} : Sb [b] (Bxs b bx) := fun ms ms' H H' ⟨d, e1, n, n2, e2⟩ M h => let ⟨n3, e3⟩ := M d _ n2 e2; ⟨d, h b (by simp) _ e1, n, n3, e3⟩
def spB {ι ρ : Type} [RpA ι] [Rp ρ] (F : List Int × Nat → ι → Option (ρ × (List Int × Nat))) : Sp := fun vs H Q _ => ∃ (ms : Ms) (b : Addr) (us : List V) (bx bx' : List Int × Nat) (i : ι) (r : ρ), vs = .ref b :: us ∧ b ∈ ms ∧ Al ms H ∧ Bxs b bx ms H ∧ ra ms H us i ∧ F bx i = some (r, bx') ∧
  ∀ v H', Bu [b] H H' → Bxs b bx' ms H' → rp ms H' v r → Q v H'
theorem ex_call {ι : Type} [RpA ι] {F : ι → Option α} {ts : TA} {E : XK} {i : ι} (W : Wd B ms H0) (hq : Sb B q) (h : Ea B ms ts σ H0 p i q) (e : F i = some x) : Ex B ms (tCall (spP F) [] E ts) σ H0 p x q := fun H b hp Q k => r_call (h H b hp _ fun vs H1 b1 q1 e1 =>
  ⟨ms, i, x, (W.al.bu b).bu b1, e1, e, fun v H' s rv => k v H' (b1.trans (Bu.same s)) (hq.same s q1) rv⟩)
/-- a call that is given lists that may still change, and answers no list -/
theorem ex_callB {ι : Type} [RpA ι] {F : List Int × Nat → ι → Option (α × (List Int × Nat))} {ts : TA} {E : XK} {i : ι} {b : Addr} {bx bx' : List Int × Nat} {v : Nat} (W : Wd [b] ms H0) (hs : σ[v]? = some (some (.ref b))) (h : Ea [b] ms ts σ H0 (Bxs b bx) i (Bxs b bx)) (e : F bx i = some (x, bx')) :
    Ex [b] ms (tCall (spB F) [] E (tCons (tVar v) ts)) σ H0 (Bxs b bx) x (Bxs b bx') := fun H bu hp Q k => r_call (show (tCons (tVar v) ts) σ H _ from ⟨_, hs, h H bu hp _ fun vs H1 b1 q1 e1 =>
  ⟨ms, b, vs, bx, bx', i, x, rfl, W.hB b (by simp), (W.al.bu bu).bu b1, q1, e1, e, fun v H' s q' rv => k v H' (b1.trans s) q' rv⟩⟩)
/-! what is walked -/
structure NSt (N : Hq) : Prop where
  mv : ∀ {ms ms' : Ms} {H H' : Hp}, N ms H → Mv ms H ms' H' → N ms' H'
def ItOk (J : It) (N : Hq) (xs : List α) : Prop := ∀ (i : Nat) (ms : Ms) (H : Hp), N ms H → Al ms H → (xs.length ≤ i → J.stop i H) ∧ ∀ x, xs[i]? = some x → J.go i H ∧ ∀ v H', J.yld i H v H' → Same H H' ∧ rp ms H' v x
def Ei (B ms : Ms) (wi : TI) (σ : St) (H0 : Hp) (p : Hq) (xs : List α) (q : Hq) : Prop :=
  ∀ H, Bu B H0 H → p ms H → ∀ R : It → Hp → Prop, (∀ J N H', Bu B H H' → q ms H' → NSt N → N ms H' → ItOk J N xs → R J H') → wi σ H R
def Fz {α : Type} [Rp α] (a : Addr) (xs : List α) : Hq := fun ms H => rp ms H (.ref a) xs
theorem nst_fz {a : Addr} {xs : List α} : NSt (Fz a xs) := ⟨fun h M => Rp.mv h M⟩
theorem Fz.get {H : Hp} {a : Addr} {xs : List α} (h : Fz a xs ms H) : Ls ms H a xs := by obtain ⟨a', e, n, l⟩ := h; cases e; exact l
theorem itok_list {a : Addr} {xs : List α} : ItOk (Itl K a) (Fz a xs) xs := fun i ms H hf al => by
  obtain ⟨vs, e, rl, l⟩ := hf.get
  refine ⟨fun h => ⟨vs, SqL.of e, by rw [rl.len]; exact h⟩, fun x ex => ?_⟩
  obtain ⟨v, ev, rv⟩ := rl.get' ex
  refine ⟨⟨vs, v, SqL.of e, ev⟩, fun u H' ⟨eH, h⟩ => ?_⟩
  subst eH
  have := h vs (SqL.of e)
  rw [ev] at this
  cases this
  exact ⟨fun _ _ z => z, rv⟩
theorem itok_rng {lo : Int} {n : Nat} : ItOk (Itr lo n) Tr (rngL lo n) := fun i ms H _ al => ⟨fun h => by
  have h' : n ≤ i := by simpa [rngL] using h
  exact h', fun x ex => by
  unfold rngL at ex
  rw [List.getElem?_map] at ex
  obtain ⟨j, ej, rfl⟩ := Option.map_eq_some_iff.mp ex
  obtain ⟨hj, e⟩ := List.getElem?_eq_some_iff.mp ej
  rw [List.getElem_range] at e
  rw [List.length_range] at hj
  subst e
  refine ⟨hj, fun u H' ⟨eH, h⟩ => ?_⟩
  subst eH
  exact ⟨fun _ _ z => z, h⟩⟩
theorem itok_zip {a b : Addr} {xs : List α} {ys : List β} : ItOk (Itz K a b) (fun ms H => Fz a xs ms H ∧ Fz b ys ms H) (xs.zip ys) := fun i ms H ⟨h1, h2⟩ al => by
  obtain ⟨vs, e, rl, l⟩ := h1.get
  obtain ⟨us, e2, rl2, l2⟩ := h2.get
  refine ⟨fun h => ?_, fun x ex => ?_⟩
  · refine ⟨vs, us, SqL.of e, SqL.of e2, ?_⟩
    rw [List.length_zip] at h
    have := rl.len
    have := rl2.len
    omega
  obtain ⟨x1, x2⟩ := x
  rw [List.getElem?_zip_eq_some] at ex
  obtain ⟨v, ev, rv⟩ := rl.get' ex.1
  obtain ⟨u, eu, ru⟩ := rl2.get' ex.2
  refine ⟨⟨vs, us, v, u, SqL.of e, SqL.of e2, ev, eu⟩, fun w H' ⟨T, v', u', ew, nT, eH, h1, h2⟩ => ?_⟩
  subst ew eH
  have h1' := h1 vs (SqL.of e)
  have h2' := h2 us (SqL.of e2)
  rw [ev] at h1'
  rw [eu] at h2'
  cases h1'
  cases h2'
  have s := same_upd (o := .tup [v, u]) nT
  exact ⟨s, T, v, u, rfl, al.not nT, upd_same, Rp.mv rv (Mv.same s), Rp.mv ru (Mv.same s)⟩
theorem itok_enum {a : Addr} {xs : List α} : ItOk (Ite K a) (Fz a xs) (enumL xs) := fun i ms H hf al => by
  obtain ⟨vs, e, rl, l⟩ := hf.get
  refine ⟨fun h => ⟨vs, SqL.of e, by unfold enumL at h; rw [List.length_mapIdx] at h; rw [rl.len]; exact h⟩, fun x ex => ?_⟩
  unfold enumL at ex
  rw [List.getElem?_mapIdx] at ex
  obtain ⟨y, ey, rfl⟩ := Option.map_eq_some_iff.mp ex
  obtain ⟨v, ev, rv⟩ := rl.get' ey
  refine ⟨⟨vs, v, SqL.of e, ev⟩, fun w H' ⟨T, v', ew, nT, eH, h⟩ => ?_⟩
  subst ew eH
  have h' := h vs (SqL.of e)
  rw [ev] at h'
  cases h'
  have s := same_upd (o := .tup [.int (i : Nat), v]) nT
  exact ⟨s, T, _, v, rfl, al.not nT, upd_same, rfl, Rp.mv rv (Mv.same s)⟩
theorem itok_tup2 {a : Addr} {x : α × α} : ItOk (Itt K a) (fun ms H => rp ms H (.ref a) x) [x.1, x.2] := fun i ms H hf al => by
  obtain ⟨a', u, w, e, n, eh, r1, r2⟩ := hf
  cases e
  refine ⟨fun h => ⟨[u, w], SqT.of eh, h⟩, fun y ey => ?_⟩
  have go : ∀ v, [u, w][i]? = some v → rp ms H v y → (Itt K a).go i H ∧ ∀ v H', (Itt K a).yld i H v H' → Same H H' ∧ rp ms H' v y := fun v ev rv => by
    refine ⟨⟨[u, w], v, SqT.of eh, ev⟩, fun z H' ⟨eH, h⟩ => ?_⟩
    subst eH
    have := h _ (SqT.of eh)
    rw [ev] at this
    cases this
    exact ⟨fun _ _ z => z, rv⟩
  match i, ey with
  | 0, ey => cases ey; exact go u rfl r1
  | 1, ey => cases ey; exact go w rfl r2
theorem ei_list {xs : List α} (h : Ex B ms te σ H0 p xs q) : Ei B ms (iList K te) σ H0 p xs q := fun H b hp R k => h H b hp _ fun v H1 b1 q1 ⟨a, e, n, l⟩ => by
  subst e
  obtain ⟨vs, ev, rl, l2⟩ := id l
  exact ⟨a, rfl, ⟨vs, SqL.of ev⟩, k _ (Fz a xs) H1 b1 q1 nst_fz ⟨a, rfl, n, l⟩ itok_list⟩
theorem nst_tr : NSt Tr := ⟨fun _ _ => trivial⟩
theorem ei_rng2 {ts : TA} {i j : Int} {xs : List Int} (h : Ea B ms ts σ H0 p (i, j, ()) q) (e : rng2 i j = some xs) : Ei B ms (iRng2 ts) σ H0 p xs q := fun H b hp R k => h H b hp _ fun vs H1 b1 q1 e1 => by
  obtain ⟨v1, _, rfl, r1, v2, _, rfl, r2, e0⟩ := e1
  have e0' : _ = [] := e0
  have r1' : v1 = .int i := r1
  have r2' : v2 = .int j := r2
  subst e0' r1' r2'
  unfold rng2 at e
  split at e
  · rename_i hl
    cases e
    exact ⟨i, j, rfl, ⟨hl.1, hl.2.1, hl.2.2.1, hl.2.2.2.1⟩, k _ Tr H1 b1 q1 nst_tr trivial itok_rng⟩
  · cases e
theorem ei_rng1 {ts : TA} {j : Int} {xs : List Int} (h : Ea B ms ts σ H0 p (j, ()) q) (e : rng1 j = some xs) : Ei B ms (iRng1 ts) σ H0 p xs q := fun H b hp R k => h H b hp _ fun vs H1 b1 q1 e1 => by
  obtain ⟨v1, _, rfl, r1, e0⟩ := e1
  have e0' : _ = [] := e0
  have r1' : v1 = .int j := r1
  subst e0' r1'
  unfold rng1 at e
  split at e
  · rename_i hl
    cases e
    exact ⟨j, rfl, hl.1, hl.2.1, k _ Tr H1 b1 q1 nst_tr trivial itok_rng⟩
  · cases e
theorem ei_zip {ts : TA} {xs : List α} {ys : List β} (h : Ea B ms ts σ H0 p (xs, ys, ()) q) : Ei B ms (iZip K ts) σ H0 p (xs.zip ys) q := fun H b hp R k => h H b hp _ fun vs H1 b1 q1 e1 => by
  obtain ⟨v1, _, rfl, r1, v2, _, rfl, r2, e0⟩ := e1
  have e0' : _ = [] := e0
  subst e0'
  obtain ⟨a1, rfl, n1, l1⟩ := id r1
  obtain ⟨a2, rfl, n2, l2⟩ := id r2
  obtain ⟨vs, ev, _⟩ := l1
  obtain ⟨us, eu, _⟩ := l2
  exact ⟨a1, a2, vs, us, rfl, SqL.of ev, SqL.of eu, k _ _ H1 b1 q1 ⟨fun h M => ⟨nst_fz.mv h.1 M, nst_fz.mv h.2 M⟩⟩ ⟨r1, r2⟩ itok_zip⟩
theorem ei_enum {ts : TA} {xs : List α} (h : Ea B ms ts σ H0 p (xs, ()) q) : Ei B ms (iEnum K ts) σ H0 p (enumL xs) q := fun H b hp R k => h H b hp _ fun vs H1 b1 q1 e1 => by
  obtain ⟨v1, _, rfl, r1, e0⟩ := e1
  have e0' : _ = [] := e0
  subst e0'
  obtain ⟨a1, rfl, n1, l1⟩ := id r1
  obtain ⟨vs, ev, _⟩ := l1
  exact ⟨a1, vs, rfl, SqL.of ev, k _ _ H1 b1 q1 nst_fz r1 itok_enum⟩
/-- stays when what is frozen, and what stands at S, stays -/
def NSS (S : Ms) (N : Hq) : Prop := ∀ {ms ms' : Ms} {H H' : Hp}, N ms H → Mv ms H ms' H' → (∀ a ∈ S, ∀ o, H a = some o → H' a = some o) → N ms' H'
theorem NSt.ss {N : Hq} (h : NSt N) : NSS [] N := fun n M _ => h.mv n M
/-- what a comprehension walks: it may be a list that may change elsewhere -/
def Ej (B ms : Ms) (wi : TI) (σ : St) (H0 : Hp) (p : Hq) (xs : List α) (q : Hq) : Prop :=
  ∀ H, Bu B H0 H → p ms H → ∀ R : It → Hp → Prop, (∀ J N S H', Bu B H H' → q ms H' → NSS S N → (∀ a ∈ S, a ∉ B ∧ H' a ≠ none) → N ms H' → ItOk J N xs → R J H') → wi σ H R
theorem Ei.ej {wi : TI} {xs : List α} (h : Ei B ms wi σ H0 p xs q) : Ej B ms wi σ H0 p xs q := fun H b hp R k => h H b hp R fun J N H' b1 q1 st n1 ok => k J N [] H' b1 q1 st.ss (fun a z => by cases z) n1 ok
theorem itok_listM {a : Addr} {xs : List α} : ItOk (Itl K a) (fun ms H => Ls ms H a xs) xs := fun i ms H hf al => by
  obtain ⟨vs, e, rl, l⟩ := hf
  refine ⟨fun h => ⟨vs, SqL.of e, by rw [rl.len]; exact h⟩, fun x ex => ?_⟩
  obtain ⟨v, ev, rv⟩ := rl.get' ex
  refine ⟨⟨vs, v, SqL.of e, ev⟩, fun u H' ⟨eH, h⟩ => ?_⟩
  rw [eH]
  have := h vs (SqL.of e)
  rw [ev] at this
  obtain rfl := Option.some.inj this
  exact ⟨fun _ _ z => z, rv⟩
theorem ej_listM {i : Nat} {a : Addr} {xs : List α} (W : Wd B ms H0) (hs : σ[i]? = some (some (.ref a))) (n : a ∉ B) (l : Ls ms H0 a xs) : Ej B ms (iList K (tVar i)) σ H0 p xs p := fun H b hp R k => by
  have l1 := l.bu W.hB n b
  obtain ⟨vs, ev, rl, l2⟩ := id l1
  refine ⟨_, hs, a, rfl, ⟨vs, SqL.of ev⟩, k _ (fun ms H => Ls ms H a xs) [a] H (Bu.refl B H) hp (fun n M s => n.step M (s a (by simp))) (fun c hc => ?_) l1 itok_listM⟩
  rw [List.mem_singleton.mp hc]
  exact ⟨n, l1.alive⟩
/-- what is known at H0 of things that are read, still so at H with ms' -/
structure Lt (B ms : Ms) (H0 : Hp) (ms' : Ms) (H : Hp) : Prop where
  W : Wd B ms' H
  M : Mv ms H0 ms' H
  S : ∀ a o, a ∉ B → H0 a = some o → H a = some o
theorem Ls.lt {H : Hp} {ms' : Ms} {a : Addr} {xs : List α} (h : Ls ms H0 a xs) (n : a ∉ B) (L : Lt B ms H0 ms' H) : Ls ms' H a xs := h.step L.M fun o e => L.S a o n e
/-- how a turn of a comprehension binds: from v, the slots σ2 -/
def Bnd (g : TG) (v : V) (σ : St) (H : Hp) (σ2 : St) : Prop := ∀ R : St → Hp → Prop, R σ2 H → g v σ H R
theorem bnd_name {i : Nat} {v : V} {H : Hp} : Bnd (gName i) v σ H (σ.set i (some v)) := fun R h => h
theorem coll_len {α β s : Type} {f : α → s → Option (Option β × s)} : ∀ {xs : List α} {x y : s} {ys : List β}, coll f xs x = some (ys, y) → ys.length ≤ xs.length
  | [], _, _, _, h => by cases h; exact Nat.le_refl _
  | a :: as, x, y, ys, h => by
    obtain ⟨u, hu, h⟩ := bind_inv h
    obtain ⟨z, hz, h⟩ := bind_inv h
    cases h
    have := coll_len hz
    rw [List.length_append, List.length_cons]
    have : u.1.toList.length ≤ 1 := by cases u.1 <;> simp
    omega
theorem en_lcS {s : Type} {wi : TI} {g : TG} {tt : TT} {vs : List Nat} {xs : List α} {ys : List β} {x0 x1 : s} {P : s → Hq} {f : α → s → Option (Option β × s)} (W : Wd B ms H0) (hP : ∀ x, Sb B (P x)) (hl : xs.length ≤ sizeLine) (hi : Ej B ms wi σ H0 p xs (P x0)) (hc : coll f xs x0 = some (ys, x1))
    (hb : ∀ (ms' : Ms) (H : Hp) (y : α) (v : V) (r : Option β) (x x' : s), Lt B ms H0 ms' H → P x ms' H → rp ms' H v y → f y x = some (r, x') → ∃ σ2, Bnd g v (wipe σ vs) H σ2 ∧ wipe σ2 vs = wipe σ vs ∧ ∃ c q', Et B ms' tt σ2 H (P x) c q' ∧ (c = false → r = none ∧ ∀ H, q' ms' H → P x' ms' H) ∧ (c = true → ∃ u, r = some u ∧ Ex B ms' te σ2 H q' u (P x'))) :
    En B ms (tLc wi g tt te vs) σ H0 p ys (P x1) := fun H b hp Q k => by
  refine r_lc (hi H b hp _ fun J N S H1 b1 q1 st hS n1 ok D nD => ?_)
  have W1 := (W.bu b).bu b1
  have nDm : D ∉ ms := W1.al.not nD
  have nDB : D ∉ B := fun z => nDm (W.hB D z)
  have s1 := same_upd (o := .lst []) nD
  have hSD : ∀ a ∈ S, a ≠ D := fun a ha z => (hS a ha).2 (z ▸ nD)
  refine ⟨fun i m H => m = xs.length - i ∧ i ≤ xs.length ∧ ∃ acc ys1 ys2 x, H D = some (.lst acc) ∧ RL (rp (D :: ms) H) acc ys1 ∧ acc.length ≤ i ∧ Bu B H1 H ∧ P x (D :: ms) H ∧ N (D :: ms) H ∧ coll f (xs.drop i) x = some (ys2, x1) ∧ ys1 ++ ys2 = ys ∧ Mv ms H1 (D :: ms) H,
    ⟨xs.length, by simp, Nat.zero_le _, [], [], ys, x0, upd_same, trivial, Nat.le_refl _, Bu.same s1, hP _ _ _ _ _ q1 (Mv.new nD s1) (fun a ha o e => s1 a o e), st n1 (Mv.new nD s1) (fun a ha o e => s1 a o e), hc, rfl, Mv.new nD s1⟩, ?_⟩
  rintro i m H2 ⟨rfl, hi, acc, ys1, ys2, x, hD, rl, hacc, b2, q2, n2, hd, eys, M2⟩
  have al2 : Al (D :: ms) H2 := (W1.al.bu b2).cons hD
  obtain ⟨ok1, ok2⟩ := ok i _ H2 n2 al2
  by_cases hlt : i < xs.length
  · right
    have ex := List.getElem?_eq_getElem hlt
    generalize xs[i] = y at ex
    obtain ⟨go, yld⟩ := ok2 y ex
    rw [drop_get ex] at hd
    obtain ⟨⟨r, x'⟩, hf, hd⟩ := bind_inv hd
    obtain ⟨⟨ys3, x3⟩, hd3, hd⟩ := bind_inv hd
    obtain ⟨e1, e2⟩ := Prod.mk.inj (Option.some.inj hd)
    subst e1
    rw [show x3 = x1 from e2] at hd3
    refine ⟨go, fun H' => xs.length - (i + 1) = xs.length - (i + 1) ∧ i + 1 ≤ xs.length ∧ ∃ acc ys1 ys2 x, H' D = some (.lst acc) ∧ RL (rp (D :: ms) H') acc ys1 ∧ acc.length ≤ i + 1 ∧ Bu B H1 H' ∧ P x (D :: ms) H' ∧ N (D :: ms) H' ∧ coll f (xs.drop (i + 1)) x = some (ys2, x1) ∧ ys1 ++ ys2 = ys ∧ Mv ms H1 (D :: ms) H', fun H' h => ⟨_, by omega, h⟩, fun v H3 hy => ?_⟩
    obtain ⟨s3, rv⟩ := yld v H3 hy
    have hB' : ∀ a ∈ B, a ∈ D :: ms := fun a ha => List.mem_cons_of_mem _ (W.hB a ha)
    have W3 : Wd B (D :: ms) H3 := ⟨hB', al2.same s3⟩
    have M3 : Mv ms H1 (D :: ms) H3 := M2.trans (Mv.same s3)
    have bb : Bu B H0 H3 := ((b.trans b1).trans b2).trans (Bu.same s3)
    have L3 : Lt B ms H0 (D :: ms) H3 := ⟨W3, (Mv.bu W.hB (b.trans b1)).trans M3, bb.1⟩
    have q3 := (hP x).same s3 q2
    obtain ⟨σ2, bd, ew, c, q', ht, hf0, hf1⟩ := hb _ H3 y v r x x' L3 q3 rv hf
    refine bd _ ⟨ew, ?_⟩
    refine ht.use q3 fun H4 b4 q4 => ?_
    have hD4 : H4 D = some (.lst acc) := b4.1 _ _ nDB (s3 _ _ hD)
    have M24 : Mv (D :: ms) H2 (D :: ms) H4 := (Mv.same s3).trans (Mv.bu hB' b4)
    cases c with
    | false =>
      obtain ⟨rfl, hq⟩ := hf0 rfl
      rw [if_neg (by decide)]
      refine ⟨rfl, hlt, acc, ys1, ys3, x', hD4, rl.imp fun _ _ z => Rp.mv z M24, by omega, (b2.trans (Bu.same s3)).trans b4, hq _ q4, st n2 M24 (fun a ha o e => b4.1 _ _ (hS a ha).1 (s3 _ _ e)), hd3, by simpa using eys, M2.trans M24⟩
    | true =>
      obtain ⟨y2, rfl, he⟩ := hf1 rfl
      rw [if_pos rfl]
      refine he H4 b4 q4 _ fun u H5 b5 q5 r5 => ?_
      have hD5 : H5 D = some (.lst acc) := b5.1 _ _ nDB hD4
      have M25 : Mv (D :: ms) H2 (D :: ms) H5 := M24.trans (Mv.bu hB' b5)
      have M56 : Mv (D :: ms) H5 (D :: ms) (upd H5 D (.lst (acc ++ [u]))) := Mv.but (m := D) (by simp) But.upd
      refine ⟨acc, hD5, by omega, rfl, hlt, acc ++ [u], ys1 ++ [y2], ys3, x', upd_same, RL.snoc (rl.imp fun _ _ z => Rp.mv z (M25.trans M56)) (Rp.mv r5 M56), by simp; omega,
        Bu.own (((b2.trans (Bu.same s3)).trans b4).trans b5) nD But.upd upd_same, hP _ _ _ _ _ q5 M56 (fun a ha o e => by rw [upd_ne (nab ha nDB)]; exact e), st n2 (M25.trans M56) (fun a ha o e => by rw [upd_ne (hSD a ha)]; exact b5.1 _ _ (hS a ha).1 (b4.1 _ _ (hS a ha).1 (s3 _ _ e))), hd3, by rw [← eys]; simp, M2.trans (M25.trans M56)⟩
  · left
    have e : i = xs.length := by omega
    subst e
    rw [List.drop_length] at hd
    cases hd
    refine ⟨ok1 (Nat.le_refl _), ?_⟩
    rw [List.append_nil] at eys
    subst eys
    exact k D H2 (b1.trans b2) q2 (b1.none nD) nDm ⟨acc, hD, rl, by omega⟩
theorem coll_of {α β : Type} {f : α → Option (Option β)} : ∀ {xs : List α} {ys : List β}, colP f xs = some ys → coll (fun a (_ : Unit) => (f a).map fun y => (y, ())) xs () = some (ys, ())
  | [], _, h => by cases h; rfl
  | a :: as, ys, h => by
    obtain ⟨u, hu, h⟩ := bind_inv h
    obtain ⟨z, hz, h⟩ := bind_inv h
    cases h
    show ((f a).map fun y => (y, ())).bind _ = _
    rw [hu]
    show ((coll _ as ()).bind _) = _
    rw [coll_of hz]
    rfl
theorem en_lc {wi : TI} {g : TG} {tt : TT} {vs : List Nat} {xs : List α} {ys : List β} {f : α → Option (Option β)} (W : Wd B ms H0) (hq : Sb B q) (hl : xs.length ≤ sizeLine) (hi : Ej B ms wi σ H0 p xs q) (hc : colP f xs = some ys)
    (hb : ∀ (ms' : Ms) (H : Hp) (y : α) (v : V) (r : Option β), Lt B ms H0 ms' H → q ms' H → rp ms' H v y → f y = some r → ∃ σ2, Bnd g v (wipe σ vs) H σ2 ∧ wipe σ2 vs = wipe σ vs ∧ ∃ c, Et B ms' tt σ2 H q c q ∧ (c = false → r = none) ∧ (c = true → ∃ u, r = some u ∧ Ex B ms' te σ2 H q u q)) :
    En B ms (tLc wi g tt te vs) σ H0 p ys q :=
  en_lcS (P := fun _ => q) W (fun _ => hq) hl hi (coll_of hc) fun ms' H y v r x x' L hp rv hf => by
    obtain ⟨r', hr, e⟩ := Option.map_eq_some_iff.mp hf
    obtain rfl : r' = r := congrArg Prod.fst e
    obtain ⟨σ2, b1, b2, c, h1, h2, h3⟩ := hb ms' H y v _ L hp rv hr
    exact ⟨σ2, b1, b2, c, q, h1, fun e => ⟨h2 e, fun _ z => z⟩, h3⟩
/-! two clauses -/
def col2 {α γ β : Type} (g : α → Option (List γ)) (f : α → γ → Option (Option β)) : List α → Option (List β)
  | [] => some []
  | a :: as => (g a).bind fun cs => (colP (f a) cs).bind fun ys => (col2 g f as).bind fun z => some (ys ++ z)
theorem colP_len {α β : Type} {f : α → Option (Option β)} {xs : List α} {ys : List β} (h : colP f xs = some ys) : ys.length ≤ xs.length := coll_len (coll_of h)
theorem en_lc2 {wi wi1 : TI} {g g1 : TG} {vs vs1 : List Nat} {xs : List α} {ys : List β} {gg : α → Option (List γ)} {f : α → γ → Option (Option β)} (W : Wd B ms H0) (hq : Sb B q) (hi : Ei B ms wi σ H0 p xs q) (hc : col2 gg f xs = some ys) (hl : ys.length ≤ sizeLine)
    (hb : ∀ (ms' : Ms) (H : Hp) (y : α) (v : V) (cs : List γ), Lt B ms H0 ms' H → q ms' H → rp ms' H v y → gg y = some cs → ∃ σ2, Bnd g v (wipe σ vs) H σ2 ∧ wipe σ2 vs = wipe σ vs ∧ Ei B ms' wi1 σ2 H q cs q ∧
      ∀ (ms' : Ms) (H : Hp) (c : γ) (u : V) (r : Option β), Lt B ms H0 ms' H → q ms' H → rp ms' H v y → rp ms' H u c → f y c = some r → ∃ σ3, Bnd g1 u (wipe σ2 vs1) H σ3 ∧ wipe σ3 vs1 = wipe σ2 vs1 ∧ ∃ z, r = some z ∧ Ex B ms' te σ3 H q z q) :
    En B ms (tLc2 wi g tYes wi1 g1 tYes te vs vs1) σ H0 p ys q := fun H b hp Q k => by
  refine r_lc2 (hi H b hp _ fun J N H1 b1 q1 st n1 ok D nD => ?_)
  have W1 := (W.bu b).bu b1
  have nDm : D ∉ ms := W1.al.not nD
  have nDB : D ∉ B := fun z => nDm (W.hB D z)
  have s1 := same_upd (o := .lst []) nD
  refine ⟨fun i m H => m = xs.length - i ∧ i ≤ xs.length ∧ ∃ acc ys1 ys2, H D = some (.lst acc) ∧ RL (rp (D :: ms) H) acc ys1 ∧ Bu B H1 H ∧ q (D :: ms) H ∧ N (D :: ms) H ∧ col2 gg f (xs.drop i) = some ys2 ∧ ys1 ++ ys2 = ys ∧ Mv ms H1 (D :: ms) H,
    ⟨xs.length, by simp, Nat.zero_le _, [], [], ys, upd_same, trivial, Bu.same s1, hq _ _ _ _ q1 (Mv.new nD s1) (fun a ha o e => s1 a o e), st.mv n1 (Mv.new nD s1), hc, rfl, Mv.new nD s1⟩, ?_⟩
  rintro i m H2 ⟨rfl, hi, acc, ys1, ys2, hD, rl, b2, q2, n2, hd, eys, M2⟩
  have al2 : Al (D :: ms) H2 := (W1.al.bu b2).cons hD
  obtain ⟨ok1, ok2⟩ := ok i _ H2 n2 al2
  have hB' : ∀ a ∈ B, a ∈ D :: ms := fun a ha => List.mem_cons_of_mem _ (W.hB a ha)
  by_cases hlt : i < xs.length
  · right
    have ex := List.getElem?_eq_getElem hlt
    generalize xs[i] = y at ex
    obtain ⟨go, yld⟩ := ok2 y ex
    rw [drop_get ex] at hd
    obtain ⟨cs, hg, hd⟩ := bind_inv hd
    obtain ⟨zs, hf, hd⟩ := bind_inv hd
    obtain ⟨ys3, hd3, hd⟩ := bind_inv hd
    cases hd
    refine ⟨go, fun H' => xs.length - (i + 1) = xs.length - (i + 1) ∧ i + 1 ≤ xs.length ∧ ∃ acc ys1 ys2, H' D = some (.lst acc) ∧ RL (rp (D :: ms) H') acc ys1 ∧ Bu B H1 H' ∧ q (D :: ms) H' ∧ N (D :: ms) H' ∧ col2 gg f (xs.drop (i + 1)) = some ys2 ∧ ys1 ++ ys2 = ys ∧ Mv ms H1 (D :: ms) H', fun H' h => ⟨_, by omega, h⟩, fun v H3 hy => ?_⟩
    obtain ⟨s3, rv⟩ := yld v H3 hy
    have W3 : Wd B (D :: ms) H3 := ⟨hB', al2.same s3⟩
    have M3 : Mv ms H1 (D :: ms) H3 := M2.trans (Mv.same s3)
    have bb : Bu B H0 H3 := ((b.trans b1).trans b2).trans (Bu.same s3)
    have L3 : Lt B ms H0 (D :: ms) H3 := ⟨W3, (Mv.bu W.hB (b.trans b1)).trans M3, bb.1⟩
    have q3 := hq.same s3 q2
    obtain ⟨σ2, bd, ew, hi1, hb1⟩ := hb _ H3 y v cs L3 q3 rv hg
    refine bd _ ⟨ew, ?_⟩
    refine r_yes ?_
    refine iteT ?_
    refine hi1 H3 (Bu.refl B H3) q3 _ fun J1 N1 H4 b4 q4 st1 n4 ok1' => ?_
    have hD4 : H4 D = some (.lst acc) := b4.1 _ _ nDB (s3 _ _ hD)
    have M24 : Mv (D :: ms) H2 (D :: ms) H4 := (Mv.same s3).trans (Mv.bu hB' b4)
    refine ⟨fun j m H => m = cs.length - j ∧ j ≤ cs.length ∧ ∃ acc yz1 yz2, H D = some (.lst acc) ∧ RL (rp (D :: ms) H) acc (ys1 ++ yz1) ∧ Bu B H1 H ∧ q (D :: ms) H ∧ N1 (D :: ms) H ∧ colP (f y) (cs.drop j) = some yz2 ∧ yz1 ++ yz2 = zs ∧ Mv (D :: ms) H4 (D :: ms) H,
      ⟨cs.length, by simp, Nat.zero_le _, acc, [], zs, hD4, by rw [List.append_nil]; exact rl.imp fun _ _ z => Rp.mv z M24, (b2.trans (Bu.same s3)).trans b4, q4, n4, hf, rfl, Mv.refl⟩, ?_⟩
    rintro j m H5 ⟨rfl, hj, acc5, yz1, yz2, hD5, rl5, b5, q5, n5, hd5, eyz, M5⟩
    have al5 : Al (D :: ms) H5 := (W1.al.bu b5).cons hD5
    obtain ⟨ok3, ok4⟩ := ok1' j _ H5 n5 al5
    by_cases hlt5 : j < cs.length
    · right
      have ex5 := List.getElem?_eq_getElem hlt5
      generalize cs[j] = c at ex5
      obtain ⟨go5, yld5⟩ := ok4 c ex5
      rw [drop_get ex5] at hd5
      obtain ⟨r, hf5, hd5⟩ := bind_inv hd5
      obtain ⟨ws, hd6, hd5⟩ := bind_inv hd5
      cases hd5
      refine ⟨go5, fun H' => cs.length - (j + 1) = cs.length - (j + 1) ∧ j + 1 ≤ cs.length ∧ ∃ acc yz1 yz2, H' D = some (.lst acc) ∧ RL (rp (D :: ms) H') acc (ys1 ++ yz1) ∧ Bu B H1 H' ∧ q (D :: ms) H' ∧ N1 (D :: ms) H' ∧ colP (f y) (cs.drop (j + 1)) = some yz2 ∧ yz1 ++ yz2 = zs ∧ Mv (D :: ms) H4 (D :: ms) H', fun H' h => ⟨_, by omega, h⟩, fun u H6 hy6 => ?_⟩
      obtain ⟨s6, ru⟩ := yld5 u H6 hy6
      have W6 : Wd B (D :: ms) H6 := ⟨hB', al5.same s6⟩
      have M46 : Mv (D :: ms) H4 (D :: ms) H6 := M5.trans (Mv.same s6)
      have M36 : Mv (D :: ms) H3 (D :: ms) H6 := (Mv.bu hB' b4).trans M46
      have b16 : Bu B H1 H6 := b5.trans (Bu.same s6)
      have L6 : Lt B ms H0 (D :: ms) H6 := ⟨W6, ((Mv.bu W.hB (b.trans b1)).trans M3).trans M36, ((b.trans b1).trans b16).1⟩
      have q6 := hq.same s6 q5
      obtain ⟨σ3, bd6, ew6, z, rfl, he⟩ := hb1 _ H6 c u r L6 q6 (Rp.mv rv M36) ru hf5
      refine bd6 _ ⟨ew6, ?_⟩
      refine r_yes ?_
      refine iteT ?_
      refine he H6 (Bu.refl B H6) q6 _ fun u2 H7 b7 q7 r7 => ?_
      have hD7 : H7 D = some (.lst acc5) := b7.1 _ _ nDB (s6 _ _ hD5)
      have M57 : Mv (D :: ms) H5 (D :: ms) H7 := (Mv.same s6).trans (Mv.bu hB' b7)
      have M78 : Mv (D :: ms) H7 (D :: ms) (upd H7 D (.lst (acc5 ++ [u2]))) := Mv.but (m := D) (by simp) But.upd
      have ll : acc5.length < sizeLine := by
        have h1 := rl5.len
        have h2 : ys.length = ys1.length + (yz1.length + (1 + ws.length)) + ys3.length := by
          rw [← eys, ← eyz]
          simp
          omega
        rw [List.length_append] at h1
        omega
      refine ⟨acc5, hD7, ll, rfl, hlt5, acc5 ++ [u2], yz1 ++ [z], ws, upd_same, by rw [← List.append_assoc]; exact RL.snoc (rl5.imp fun _ _ z => Rp.mv z (M57.trans M78)) (Rp.mv r7 M78),
        Bu.own (b16.trans b7) nD But.upd upd_same, hq _ _ _ _ q7 M78 (fun a ha o e => by rw [upd_ne (nab ha nDB)]; exact e), st1.mv n5 (M57.trans M78), hd6, by rw [← eyz]; simp, M5.trans (M57.trans M78)⟩
    · left
      have e : j = cs.length := by omega
      subst e
      rw [List.drop_length] at hd5
      cases hd5
      rw [List.append_nil] at eyz
      subst eyz
      refine ⟨ok3 (Nat.le_refl _), rfl, hlt, acc5, ys1 ++ yz1, ys3, hD5, rl5, b5, q5, st.mv n2 (M24.trans M5), hd3, by rw [← eys, List.append_assoc], M2.trans (M24.trans M5)⟩
  · left
    have e : i = xs.length := by omega
    subst e
    rw [List.drop_length] at hd
    cases hd
    rw [List.append_nil] at eys
    subst eys
    exact ⟨ok1 (Nat.le_refl _), k D H2 (b1.trans b2) q2 (b1.none nD) nDm ⟨acc, hD, rl, by rw [rl.len]; exact hl⟩⟩
/-! sorted -/
def kQ (H : Hp) : V → Int × Int
  | .ref t => match H t with
    | some (.tup [.int i, .int j]) => (i, j)
    | _ => (0, 0)
  | _ => (0, 0)
theorem kQ_of {H : Hp} {v : V} {x : Int × Int} (h : rp ms H v x) : kQ H v = x ∧ ∃ t, v = .ref t ∧ H t = some (.tup [.int (kQ H v).1, .int (kQ H v).2]) := by
  obtain ⟨a, u, w, rfl, n, e, r1, r2⟩ := h
  have r1' : u = .int x.1 := r1
  have r2' : w = .int x.2 := r2
  subst r1' r2'
  have ek : kQ H (.ref a) = x := by unfold kQ; dsimp only; rw [e]
  exact ⟨ek, a, rfl, by rw [ek]; exact e⟩
theorem kQ_map {H : Hp} : ∀ {vs : List V} {xs : List (Int × Int)}, RL (rp ms H) vs xs → vs.map (kQ H) = xs
  | [], [], _ => rfl
  | _ :: _, _ :: _, ⟨a, b⟩ => by rw [List.map_cons, (kQ_of a).1, kQ_map b]
theorem kQ_mem {H : Hp} : ∀ {vs : List V} {xs : List (Int × Int)}, RL (rp ms H) vs xs → ∀ v ∈ vs, rp ms H v (kQ H v)
  | [], [], _, v, h => by simp at h
  | v :: _, x :: _, ⟨a, b⟩, u, h => by
    obtain rfl | h := List.mem_cons.mp h
    · rw [(kQ_of a).1]; exact a
    · exact kQ_mem b u h
theorem rl_map {β : Type} {r : V → β → Prop} {f : V → β} : ∀ {vs : List V}, (∀ v ∈ vs, r v (f v)) → RL r vs (vs.map f)
  | [], _ => trivial
  | v :: vs, h => ⟨h v List.mem_cons_self, rl_map fun u hu => h u (List.mem_cons_of_mem _ hu)⟩
def lexB (a b : Int × Int) : Bool := decide (a.1 < b.1 ∨ (a.1 = b.1 ∧ a.2 ≤ b.2))
def sortP (xs : List (Int × Int)) : List (Int × Int) := xs.mergeSort lexB
def sortI (xs : List Int) : List Int := xs.mergeSort fun a b => decide (a ≤ b)
theorem sortP_perm (xs : List (Int × Int)) : (sortP xs).Perm xs := List.mergeSort_perm xs lexB
theorem sortI_perm (xs : List Int) : (sortI xs).Perm xs := List.mergeSort_perm xs _
theorem sortP_srt (xs : List (Int × Int)) : (sortP xs).Pairwise LexLe := by
  have := List.pairwise_mergeSort (le := lexB) (fun a b c => by unfold lexB; simp only [decide_eq_true_eq]; omega) (fun a b => by unfold lexB; simp only [Bool.or_eq_true, decide_eq_true_eq]; omega) xs
  refine this.imp fun {a b} h => ?_
  unfold lexB at h
  unfold LexLe
  simpa using h
theorem sortI_srt (xs : List Int) : (sortI xs).Pairwise (· ≤ ·) := by
  have := List.pairwise_mergeSort (le := fun a b : Int => decide (a ≤ b)) (fun a b c => by simp only [decide_eq_true_eq]; omega) (fun a b => by simp only [Bool.or_eq_true, decide_eq_true_eq]; omega) xs
  exact this.imp fun {a b} h => by simpa using h
theorem sortP_eq {xs ys : List (Int × Int)} (h : ys.Perm xs) (s : ys.Pairwise LexLe) : ys = sortP xs := lex_uniq s (sortP_srt xs) (h.trans (sortP_perm xs).symm)
theorem sortI_eq {xs ys : List Int} (h : ys.Perm xs) (s : ys.Pairwise (· ≤ ·)) : ys = sortI xs := List.Perm.eq_of_pairwise (fun a b _ _ h1 h2 => by omega) s (sortI_srt xs) (h.trans (sortI_perm xs).symm)
theorem en_sortP {xs : List (Int × Int)} (W : Wd B ms H0) (hq : Sb B q) (h : El B ms te σ H0 p xs q) : En B ms (tCB (rSortedPO K) (tCons te tNil)) σ H0 p (sortP xs) q := fun H b hp Q k => h H b hp _ fun a H1 b1 q1 na ⟨vs, e, rl, l⟩ => by
  have hk := kQ_mem rl
  refine ⟨a, vs, kQ H1, rfl, SqL.of e, fun x hx => (kQ_of (hk x hx)).2, fun ys t srt stb nt => ?_⟩
  have s := same_upd (o := .lst ys) nt
  have e2 : ys.map (kQ H1) = sortP xs := by
    refine sortP_eq ?_ ?_
    · have := stb.perm.map (kQ H1)
      rw [kQ_map rl] at this
      exact this
    · rw [List.pairwise_map]
      refine srt.imp fun {x y} h => ?_
      have := SrtO.lexB_no.mp h
      unfold LexLe
      omega
  refine k _ _ (b1.trans (Bu.same s)) (hq.new nt s q1) (b1.none nt) (((W.al.bu b).bu b1).not nt) (ls_new nt ?_ (by rw [stb.perm.length_eq]; exact l))
  rw [← e2]
  exact rl_map fun y hy => hk y (stb.perm.mem_iff.mp hy)
theorem en_sortI {xs : List Int} (W : Wd B ms H0) (hq : Sb B q) (h : El B ms te σ H0 p xs q) : En B ms (tCB (rSortedI K) (tCons te tNil)) σ H0 p (sortI xs) q := fun H b hp Q k => h H b hp _ fun a H1 b1 q1 na ⟨vs, e, rl, l⟩ => by
  have ev := rl.ints fun _ _ h => h
  rw [ev] at e
  refine ⟨a, xs, rfl, SqL.of e, fun ys t pm so nt => ?_⟩
  have s := same_upd (o := .lst (ys.map V.int)) nt
  rw [← sortI_eq pm so] at k
  refine k _ _ (b1.trans (Bu.same s)) (hq.new nt s q1) (b1.none nt) (((W.al.bu b).bu b1).not nt) (ls_new nt (RL.of_map (f := V.int) (fun _ => rfl) _) ?_)
  rw [List.length_map, pm.length_eq, ← rl.len]
  exact l
/-! ### statements -/
theorem mv_newB {H H' : Hp} {a : Addr} (W : Wd B ms H) (b : Bu B H H') (na : H a = none) : Mv ms H (a :: ms) H' := fun c o n e => ⟨fun z => by
  obtain z | z := List.mem_cons.mp z
  · rw [z, na] at e; cases e
  · exact n z, b.1 c o (fun z => n (W.hB c z)) e⟩
theorem Wd.new {H H' : Hp} {a : Addr} (W : Wd B ms H) (b : Bu B H H') (ha : H' a ≠ none) : Wd B (a :: ms) H' := ⟨fun c hc => List.mem_cons_of_mem _ (W.hB c hc), fun c hc => by
  obtain z | z := List.mem_cons.mp hc
  · rw [z]; exact ha
  · exact W.al.bu b c z⟩
/-- x = a new list that will change -/
theorem En.mk {H : Hp} {xs : List α} {Q : VK} (W : Wd B ms H) (h : En B ms te σ H p xs q) (hp : p ms H) (k : ∀ a H', Bu B H H' → H a = none → q (a :: ms) H' → Wd B (a :: ms) H' → Mv ms H (a :: ms) H' → Ls (a :: ms) H' a xs → Q (.ref a) H') : te σ H Q :=
  h H (Bu.refl B H) hp _ fun a H1 b1 q1 na nm l => k a H1 b1 na q1 (W.new b1 l.alive) (mv_newB W b1 na) l
theorem Ex.go {H : Hp} {Q : VK} (W : Wd B ms H) (h : Ex B ms te σ H p x q) (hp : p ms H) (k : ∀ v H', Bu B H H' → q ms H' → Wd B ms H' → Mv ms H ms H' → rp ms H' v x → Q v H') : te σ H Q := h.use hp fun v H1 b1 q1 r1 => k v H1 b1 q1 (W.bu b1) (W.mv b1) r1
theorem Et.go {tt : TT} {c : Bool} {H : Hp} {R : Bool → Hp → Prop} (W : Wd B ms H) (h : Et B ms tt σ H p c q) (hp : p ms H) (k : ∀ H', Bu B H H' → q ms H' → Wd B ms H' → Mv ms H ms H' → R c H') : tt σ H R := h.use hp fun H1 b1 q1 => k H1 b1 q1 (W.bu b1) (W.mv b1)
/-- xs.append(e) -/
theorem s_app {H : Hp} {Q : VK} {i : Nat} {m : Addr} {xs ys : List α} {ts : TA} {T : String} (hT : T = "list") (W : Wd B ms H) (hs : σ[i]? = some (some (.ref m))) (l : Ls ms H m xs) (hm : m ∈ ms) (nB : m ∉ B) (hq : Sb B q) (h : Ea B ms ts σ H p (x, ()) q) (hp : p ms H) (e : appF xs x = some ys)
    (k : ∀ H', Bu (m :: B) H H' → q ms H' → Wd B ms H' → Mv ms H ms H' → Ls ms H' m ys → Q .non H') : tBM K T rAppend (tVar i) ts σ H Q := by
  subst hT
  obtain ⟨vs, ev, rl, ll⟩ := l
  refine r_bm ⟨_, hs, ty_lst ev, h H (Bu.refl B H) hp _ fun us H1 b1 q1 e1 => ?_⟩
  obtain ⟨v1, _, rfl, r1, e0⟩ := e1
  have e0' : _ = [] := e0
  subst e0'
  unfold appF at e
  split at e
  · rename_i hl
    cases e
    have ev1 := b1.1 _ _ nB ev
    have hl' : vs.length < sizeLine := by rw [rl.len]; exact hl
    refine r_app ev1 hl' fun H2 h2 u2 => ?_
    have W1 := W.bu b1
    have M : Mv ms H ms H2 := (W.mv b1).trans (Mv.but hm u2)
    refine k H2 ⟨fun a o n e => ?_, fun a e => (W1.al.but u2 h2 |> fun _ => ?_)⟩ ?_ ⟨W.hB, W1.al.but u2 h2⟩ M ⟨vs ++ [v1], h2, RL.snoc (rl.imp fun _ _ z => Rp.mv z M) (Rp.mv r1 (Mv.but hm u2)), by rw [List.length_append]; simp; omega⟩
    · have n' := notc n
      exact u2 _ _ n'.1 (b1.1 _ _ n'.2 e)
    · by_cases qm : a = m
      · rw [qm, h2]; exact fun z => by cases z
      · have := b1.2 a e
        cases h' : H1 a with
        | none => exact absurd h' this
        | some o' => rw [u2 a o' qm h']; exact fun z => by cases z
    · exact hq _ _ _ _ q1 (Mv.but hm u2) fun a ha o e => u2 _ _ (nab ha nB) e
  · cases e
/-- xs[i] = e -/
theorem s_setix {H : Hp} {i : Nat} {m : Addr} {xs ys : List α} {j : Int} {R : St → Hp → Prop} (W : Wd B ms H) (hs : σ[i]? = some (some (.ref m))) (l : Ls ms H m xs) (hm : m ∈ ms) (nB : m ∉ B) (hr : Sb B r) (h1 : Ex B ms te σ H p x q) (h2 : Ex B ms tb σ H q j r) (hp : p ms H) (e : setF xs j x = some ys)
    (k : ∀ H', Bu (m :: B) H H' → r ms H' → Wd B ms H' → Mv ms H ms H' → Ls ms H' m ys → R σ H') : te σ H (fun v H1 => gSub (tVar i) tb rSetL v σ H1 R) := by
  refine h1.use hp fun v H1 b1 q1 r1 => ?_
  refine r_gsub ⟨_, hs, h2 H1 b1 q1 _ fun u H2 b2 q2 r2 => ?_⟩
  obtain ⟨vs, ev, rl, ll⟩ := l
  have e2 : u = .int j := r2
  subst e2
  obtain ⟨n, en, ee⟩ := Option.bind_eq_some_iff.mp e
  cases ee
  have b12 := b1.trans b2
  have ev2 := b12.1 _ _ nB ev
  refine r_setL ev2 (j := n) (by rw [rl.len]; exact en) fun H3 h3 u3 => ?_
  have W2 := W.bu b12
  have M : Mv ms H ms H3 := (W.mv b12).trans (Mv.but hm u3)
  refine k H3 ⟨fun a o n e => ?_, fun a e => ?_⟩ ?_ ⟨W.hB, W2.al.but u3 h3⟩ M ⟨vs.set n v, h3, RL.set (rl.imp fun _ _ z => Rp.mv z M) (Rp.mv (Rp.mv r1 (Mv.bu W.hB b2)) (Mv.but hm u3)), by rw [List.length_set]; exact ll⟩
  · have n' := notc n
    exact u3 _ _ n'.1 (b12.1 _ _ n'.2 e)
  · by_cases qm : a = m
    · rw [qm, h3]; exact fun z => by cases z
    · have := b12.2 a e
      cases h' : H2 a with
      | none => exact absurd h' this
      | some o' => rw [u3 a o' qm h']; exact fun z => by cases z
  · exact hr _ _ _ _ q2 (Mv.but hm u3) fun a ha o e => u3 _ _ (nab ha nB) e
theorem Bu.own2 {H H' H'' : Hp} {m : Addr} (x : Bu B H H') (n : H m = Option.none) (y : Bu (m :: B) H' H'') : Bu B H H'' := ⟨fun a o na e => y.1 a o (fun z => by
  obtain z | z := List.mem_cons.mp z
  · rw [z, n] at e; cases e
  · exact na z) (x.1 a o na e), fun a e => y.2 a (x.2 a e)⟩
theorem Bu.own3 {H H' H'' : Hp} {m n : Addr} (x : Bu B H H') (hm : H m = Option.none) (hn : H n = Option.none) (y : Bu (m :: n :: B) H' H'') : Bu B H H'' := ⟨fun a o na e => y.1 a o (fun z => by
  obtain z | z := List.mem_cons.mp z
  · rw [z, hm] at e; cases e
  obtain z | z := List.mem_cons.mp z
  · rw [z, hn] at e; cases e
  · exact na z) (x.1 a o na e), fun a e => y.2 a (x.2 a e)⟩
theorem Sb.bu {H H' : Hp} (hq : Sb B q) (W : Wd B ms H) (s : Same H H') (z : q ms H) : q ms H' := hq.same s z
/-! loops -/
theorem r_for {wi : TI} {g : TG} {tb : TS} {D : Ends} {H : Hp} {xs : List α} (W : Wd B ms H) (hi : Ei B ms wi σ H p xs q) (hp : p ms H) (k : ∀ J N H1, Bu B H H1 → q ms H1 → Wd B ms H1 → Mv ms H ms H1 → NSt N → N ms H1 → ItOk J N xs → WkS J D.nx (fun y s h2 B => g y s h2 (tb { D with nx := B, ct := B, bk := D.nx })) σ H1) : tFor wi g tb D σ H :=
  r_forS (hi H (Bu.refl B H) hp _ fun J N H1 b1 q1 st n1 ok => k J N H1 b1 q1 (W.bu b1) (W.mv b1) st n1 ok)
theorem wk_fold {s : Type} {g : TG} {tb : TS} {D : Ends} {H : Hp} {xs : List α} {J : It} {N : Hq} {f : α → s → Option s} {x0 out : s} (ok : ItOk J N xs) (hm : fold f xs x0 = some out) (I : s → St → Hp → Prop) (h0 : I x0 σ H) (hN : ∀ x σ H, I x σ H → N ms H ∧ Al ms H)
    (hs : ∀ a v x x' σ H H1, I x σ H → Same H H1 → rp ms H1 v a → f a x = some x' → g v σ H1 fun σ2 H2 => tb { D with nx := I x', ct := I x', bk := D.nx } σ2 H2) (hd : ∀ σ H, I out σ H → D.nx σ H) :
    WkS J D.nx (fun y s h2 B => g y s h2 (tb { D with nx := B, ct := B, bk := D.nx })) σ H := by
  refine ⟨fun i m σ H => m = xs.length - i ∧ i ≤ xs.length ∧ ∃ x, I x σ H ∧ fold f (xs.drop i) x = some out, ⟨xs.length, by simp, Nat.zero_le _, x0, h0, hm⟩, ?_⟩
  rintro i m σ H ⟨rfl, hi, x, hI, hf⟩
  obtain ⟨n1, al⟩ := hN _ _ _ hI
  obtain ⟨ok1, ok2⟩ := ok i ms H n1 al
  by_cases hlt : i < xs.length
  · right
    have ex := List.getElem?_eq_getElem hlt
    generalize xs[i] = y at ex
    obtain ⟨go, yld⟩ := ok2 y ex
    rw [drop_get ex] at hf
    obtain ⟨x', h1, hf⟩ := bind_inv hf
    refine ⟨go, I x', fun σ' H' h => ⟨_, by omega, rfl, hlt, x', h, hf⟩, fun v H1 hy => ?_⟩
    obtain ⟨s1, rv⟩ := yld v H1 hy
    exact hs y v x x' σ H H1 hI s1 rv h1
  · left
    have e : i = xs.length := by omega
    subst e
    rw [List.drop_length] at hf
    cases hf
    exact ⟨ok1 (Nat.le_refl _), hd σ H hI⟩
theorem wk_loop {s ρ : Type} {g : TG} {tb : TS} {D : Ends} {H : Hp} {xs : List α} {J : It} {N : Hq} {f : α → s → Option (Fl ρ s)} {x0 : s} {out : Fl ρ s} (ok : ItOk J N xs) (hm : loop f xs x0 = some out) (I : s → St → Hp → Prop) (h0 : I x0 σ H) (hN : ∀ x σ H, I x σ H → N ms H ∧ Al ms H)
    (hs : ∀ a v x fl σ H H1, I x σ H → Same H H1 → rp ms H1 v a → f a x = some fl → (∀ r, fl = .ret r → out = .ret r) → g v σ H1 fun σ2 H2 => tb { D with nx := fun σ' H' => ∃ x', fl = .go x' ∧ I x' σ' H', ct := fun σ' H' => ∃ x', fl = .go x' ∧ I x' σ' H', bk := D.nx } σ2 H2)
    (hd : ∀ x σ H, out = .go x → I x σ H → D.nx σ H) :
    WkS J D.nx (fun y s h2 B => g y s h2 (tb { D with nx := B, ct := B, bk := D.nx })) σ H := by
  refine ⟨fun i m σ H => m = xs.length - i ∧ i ≤ xs.length ∧ ∃ x, I x σ H ∧ loop f (xs.drop i) x = some out, ⟨xs.length, by simp, Nat.zero_le _, x0, h0, hm⟩, ?_⟩
  rintro i m σ H ⟨rfl, hi, x, hI, hf⟩
  obtain ⟨n1, al⟩ := hN _ _ _ hI
  obtain ⟨ok1, ok2⟩ := ok i ms H n1 al
  by_cases hlt : i < xs.length
  · right
    have ex := List.getElem?_eq_getElem hlt
    generalize xs[i] = y at ex
    obtain ⟨go, yld⟩ := ok2 y ex
    rw [drop_get ex] at hf
    obtain ⟨fl, h1, hf⟩ := bind_inv hf
    refine ⟨go, fun σ' H' => ∃ x', fl = .go x' ∧ I x' σ' H', fun σ' H' ⟨x', e, h⟩ => ?_, fun v H1 hy => ?_⟩
    · subst e
      exact ⟨_, by omega, rfl, hlt, x', h, hf⟩
    · obtain ⟨s1, rv⟩ := yld v H1 hy
      refine hs y v x fl σ H H1 hI s1 rv h1 fun r e => ?_
      subst e
      cases hf
      rfl
  · left
    have e : i = xs.length := by omega
    subst e
    rw [List.drop_length] at hf
    cases hf
    exact ⟨ok1 (Nat.le_refl _), hd _ σ H rfl hI⟩
def whl {s ρ : Type} (c : s → Option Bool) (f : s → Option (Fl ρ s)) : Nat → s → Option (Fl ρ s)
  | 0, _ => none
  | n + 1, x => (c x).bind fun b => if b = true then (f x).bind fun y => match y with | .ret r => some (.ret r) | .go z => whl c f n z else some (.go x)
theorem wk_while {s ρ : Type} {tc : TT} {tb : TS} {D : Ends} {H : Hp} {c : s → Option Bool} {f : s → Option (Fl ρ s)} {m : Nat} {x0 : s} {out : Fl ρ s} (hm : whl c f m x0 = some out) (I : s → St → Hp → Prop) (h0 : I x0 σ H)
    (ht : ∀ x t σ H, I x σ H → c x = some t → ∀ R : Bool → Hp → Prop, (∀ H', I x σ H' → R t H') → tc σ H R)
    (hs : ∀ x fl σ H, I x σ H → f x = some fl → (∀ r, fl = .ret r → out = .ret r) → tb { D with nx := fun σ' H' => ∃ x', fl = .go x' ∧ I x' σ' H', ct := fun σ' H' => ∃ x', fl = .go x' ∧ I x' σ' H', bk := D.nx } σ H)
    (hd : ∀ x σ H, out = .go x → I x σ H → D.nx σ H) : tWhile tc tb D σ H := by
  refine ⟨fun n σ H => ∃ x, I x σ H ∧ whl c f n x = some out, ⟨m, x0, h0, hm⟩, ?_⟩
  rintro n σ H ⟨x, hI, hw⟩
  cases n with
  | zero => cases hw
  | succ n =>
    obtain ⟨t, hc, hw⟩ := bind_inv hw
    refine ht x t σ H hI hc _ fun H' hI' => ?_
    cases t with
    | false =>
      rw [if_neg (by decide)] at hw ⊢
      exact hd x σ H' (Option.some.inj hw).symm hI'
    | true =>
      rw [if_pos rfl] at hw ⊢
      obtain ⟨fl, hf, hw⟩ := bind_inv hw
      refine ⟨_, ?_, hs x fl σ H' hI' hf fun r e => ?_⟩
      · rintro σ' H2 ⟨x', rfl, hI2⟩
        exact ⟨n, Nat.lt_succ_self n, x', hI2, hw⟩
      · subst e
        exact (Option.some.inj hw).symm
def popF {α : Type} (xs : List α) (i : Int) : Option (α × List α) := if -(2 ^ 63) ≤ i ∧ i < 2 ^ 63 then (ixN xs.length i).bind fun j => (xs[j]?).map fun y => (y, xs.eraseIdx j) else none
def remF (xs : List Int) (x : Int) : Option (List Int) := if x ∈ xs then some (xs.erase x) else none
def insF {α : Type} (xs : List α) (i : Int) (x : α) : Option (List α) := if xs.length < sizeLine ∧ 0 ≤ i ∧ i < 2 ^ 63 then some (xs.take i.toNat ++ [x] ++ xs.drop i.toNat) else none
/-- a list that may change is given another content -/
theorem chg {H H1 : Hp} {m : Addr} {ys : List α} {vs us : List V} (W : Wd B ms H) (hm : m ∈ ms) (nB : m ∉ B) (hq : Sb B q) (b1 : Bu B H H1) (q1 : q ms H1) (ev : H m = some (.lst vs)) (rl : RL (rp ms H1) us ys) (hl : us.length ≤ sizeLine) :
    let H2 := upd H1 m (.lst us)
    Bu (m :: B) H H2 ∧ q ms H2 ∧ Wd B ms H2 ∧ Mv ms H ms H2 ∧ Mv ms H1 ms H2 ∧ Ls ms H2 m ys := by
  intro H2
  have u2 : But m H1 H2 := But.upd
  have h2 : H2 m = some (.lst us) := upd_same
  have W1 := W.bu b1
  have M1 : Mv ms H1 ms H2 := Mv.but hm u2
  refine ⟨⟨fun a o n e => ?_, fun a e => ?_⟩, ?_, ⟨W.hB, W1.al.but u2 h2⟩, (W.mv b1).trans M1, M1, us, h2, rl.imp fun _ _ z => Rp.mv z M1, hl⟩
  · have n' := notc n
    exact u2 _ _ n'.1 (b1.1 _ _ n'.2 e)
  · by_cases qm : a = m
    · rw [qm, h2]; exact fun z => by cases z
    · have := b1.2 a e
      cases h' : H1 a with
      | none => exact absurd h' this
      | some o' => rw [u2 a o' qm h']; exact fun z => by cases z
  · exact hq _ _ _ _ q1 M1 fun a ha o e => u2 _ _ (nab ha nB) e
/-- xs.insert(i, e) -/
theorem s_ins {H : Hp} {Q : VK} {i : Nat} {m : Addr} {xs ys : List α} {j : Int} {ts : TA} {T : String} (hT : T = "list") (W : Wd B ms H) (hs : σ[i]? = some (some (.ref m))) (l : Ls ms H m xs) (hm : m ∈ ms) (nB : m ∉ B) (hq : Sb B q) (h : Ea B ms ts σ H p (j, x, ()) q) (hp : p ms H) (e : insF xs j x = some ys)
    (k : ∀ H', Bu (m :: B) H H' → q ms H' → Wd B ms H' → Mv ms H ms H' → Ls ms H' m ys → Q .non H') : tBM K T (fun x vs H Q => ∃ (l : Addr) (xs : List V) (i : Int) (y : V), x = .ref l ∧ vs = [.int i, y] ∧ H l = some (.lst xs) ∧ xs.length < sizeLine ∧ 0 ≤ i ∧ i < 2 ^ 63 ∧ Q .non (upd H l (.lst (xs.take i.toNat ++ [y] ++ xs.drop i.toNat)))) (tVar i) ts σ H Q := by
  subst hT
  obtain ⟨vs, ev, rl, ll⟩ := l
  refine r_bm ⟨_, hs, ty_lst ev, h H (Bu.refl B H) hp _ fun us H1 b1 q1 e1 => ?_⟩
  obtain ⟨v0, _, rfl, r0, v1, _, rfl, r1, e0⟩ := e1
  have e0' : _ = [] := e0
  have r0' : v0 = .int j := r0
  subst e0' r0'
  unfold insF at e
  split at e
  · rename_i hl
    cases e
    have ev1 := b1.1 _ _ nB ev
    have rl1 : RL (rp ms H1) vs xs := rl.imp fun _ _ z => Rp.mv z (W.mv b1)
    obtain ⟨c1, c2, c3, c4, c5, c6⟩ := chg W hm nB hq b1 q1 ev (us := vs.take j.toNat ++ [v1] ++ vs.drop j.toNat) (ys := xs.take j.toNat ++ [x] ++ xs.drop j.toNat) ((rl1.take.snoc r1).app rl1.drop)
      (by have := rl.len; rw [List.length_append, List.length_append, List.length_take, List.length_drop, List.length_singleton]; omega)
    exact ⟨m, vs, j, v1, rfl, rfl, ev1, by rw [rl.len]; exact hl.1, hl.2.1, hl.2.2, k _ c1 c2 c3 c4 c6⟩
  · cases e
/-- e = xs.pop(i) -/
theorem s_pop {H : Hp} {Q : VK} {i : Nat} {m : Addr} {xs ys : List α} {j : Int} {ts : TA} {T : String} (hT : T = "list") (W : Wd B ms H) (hs : σ[i]? = some (some (.ref m))) (l : Ls ms H m xs) (hm : m ∈ ms) (nB : m ∉ B) (hq : Sb B q) (h : Ea B ms ts σ H p (j, ()) q) (hp : p ms H) (e : popF xs j = some (x, ys))
    (k : ∀ v H', Bu (m :: B) H H' → q ms H' → Wd B ms H' → Mv ms H ms H' → Ls ms H' m ys → rp ms H' v x → Q v H') : tBM K T rPopAt (tVar i) ts σ H Q := by
  subst hT
  obtain ⟨vs, ev, rl, ll⟩ := l
  refine r_bm ⟨_, hs, ty_lst ev, h H (Bu.refl B H) hp _ fun us H1 b1 q1 e1 => ?_⟩
  obtain ⟨v1, _, rfl, r1, e0⟩ := e1
  have e0' : _ = [] := e0
  have r1' : v1 = .int j := r1
  subst e0' r1'
  unfold popF at e
  split at e
  · rename_i hl
    obtain ⟨n, en, e⟩ := bind_inv e
    obtain ⟨y, ey, e⟩ := Option.map_eq_some_iff.mp e
    obtain ⟨e2, e3⟩ := Prod.mk.inj e
    subst e2 e3
    have ev1 := b1.1 _ _ nB ev
    have rl1 : RL (rp ms H1) vs xs := rl.imp fun _ _ z => Rp.mv z (W.mv b1)
    obtain ⟨v, hv, rv⟩ := rl1.get' ey
    obtain ⟨c1, c2, c3, c4, c5, c6⟩ := chg W hm nB hq b1 q1 ev (us := vs.eraseIdx n) (ys := xs.eraseIdx n) rl1.erase (Nat.le_trans (List.length_eraseIdx_le vs n) ll)
    exact ⟨m, vs, j, n, v, rfl, rfl, ev1, hl.1, hl.2, by rw [rl.len]; exact (ixN_seq en).1, hv, k _ _ c1 c2 c3 c4 c6 (Rp.mv rv c5)⟩
  · cases e
theorem first_rem : ∀ {xs : List Int} {x : Int}, x ∈ xs → ∃ j, xs[j]? = some x ∧ (∀ m : Nat, m < j → xs[m]? ≠ some x) ∧ xs.erase x = xs.eraseIdx j
  | [], _, h => by cases h
  | y :: ys, x, h => by
    by_cases e : y = x
    · subst e
      exact ⟨0, rfl, fun m hm => absurd hm (Nat.not_lt_zero m), by simp⟩
    · have h' : x ∈ ys := by
        cases h with
        | head => exact absurd rfl e
        | tail _ h => exact h
      obtain ⟨j, h1, h2, h3⟩ := first_rem h'
      refine ⟨j + 1, by simpa using h1, fun m hm => ?_, ?_⟩
      · cases m with
        | zero => simpa using e
        | succ m => simpa using h2 m (by omega)
      · rw [List.erase_cons_tail (by simpa using e), h3]
        rfl
/-- xs.remove(e) -/
theorem s_rem {H : Hp} {Q : VK} {i : Nat} {m : Addr} {xs ys : List Int} {j : Int} {ts : TA} {T : String} (hT : T = "list") (W : Wd B ms H) (hs : σ[i]? = some (some (.ref m))) (l : Ls ms H m xs) (hm : m ∈ ms) (nB : m ∉ B) (hq : Sb B q) (h : Ea B ms ts σ H p (j, ()) q) (hp : p ms H) (e : remF xs j = some ys)
    (k : ∀ H', Bu (m :: B) H H' → q ms H' → Wd B ms H' → Mv ms H ms H' → Ls ms H' m ys → Q .non H') : tBM K T rRemI (tVar i) ts σ H Q := by
  subst hT
  obtain ⟨vs, ev, rl, ll⟩ := l
  refine r_bm ⟨_, hs, ty_lst ev, h H (Bu.refl B H) hp _ fun us H1 b1 q1 e1 => ?_⟩
  obtain ⟨v1, _, rfl, r1, e0⟩ := e1
  have e0' : _ = [] := e0
  have r1' : v1 = .int j := r1
  subst e0' r1'
  unfold remF at e
  split at e
  · rename_i hl
    cases e
    have ev1 := b1.1 _ _ nB ev
    have ei := rl.ints fun _ _ h => h
    subst ei
    obtain ⟨n, h1, h2, h3⟩ := first_rem hl
    obtain ⟨c1, c2, c3, c4, c5, c6⟩ := chg W hm nB hq b1 q1 ev (us := (xs.eraseIdx n).map V.int) (ys := xs.eraseIdx n) (RL.of_map (f := V.int) (fun _ => rfl) _) (by rw [List.length_map]; exact Nat.le_trans (List.length_eraseIdx_le xs n) (by rw [List.length_map] at ll; exact ll))
    rw [h3] at k
    exact ⟨m, xs, j, n, rfl, rfl, ev1, h1, h2, k _ c1 c2 c3 c4 c6⟩
  · cases e
/-- xs.append(ys.pop(e)) -/
theorem s_apppop {H : Hp} {Q : VK} {i i2 : Nat} {m m2 : Addr} {xs ys us ws : List α} {j : Int} {ts : TA} {T T2 : String} (hT : T = "list") (hT2 : T2 = "list") (W : Wd B ms H) (hs : σ[i]? = some (some (.ref m))) (hs2 : σ[i2]? = some (some (.ref m2))) (l : Ls ms H m xs) (l2 : Ls ms H m2 us) (hm : m ∈ ms) (hm2 : m2 ∈ ms) (ne : m2 ≠ m) (nB : m ∉ B) (nB2 : m2 ∉ B) (hq : Sb B q) (h : Ea B ms ts σ H p (j, ()) q) (hp : p ms H) (e : popF xs j = some (x, ys)) (e2 : appF us x = some ws)
    (k : ∀ H', Bu (m2 :: m :: B) H H' → q ms H' → Wd B ms H' → Mv ms H ms H' → Ls ms H' m ys → Ls ms H' m2 ws → Q .non H') : tBM K T2 rAppend (tVar i2) (tCons (tBM K T rPopAt (tVar i) ts) tNil) σ H Q := by
  subst hT2
  obtain ⟨vs2, ev2, rl2, ll2⟩ := id l2
  refine r_bm ⟨_, hs2, ty_lst ev2, s_pop hT W hs l hm nB hq h hp e fun v H1 b1 q1 W1 M1 l1 rv => ?_⟩
  have n2 : m2 ∉ m :: B := nin ne nB2
  have ev3 := b1.1 _ _ n2 ev2
  have l3 := l2.step M1 fun o e => b1.1 _ _ n2 e
  obtain ⟨vs3, ev4, rl3, ll3⟩ := l3
  have e4 : vs3 = vs2 := by
    rw [ev3] at ev4
    cases ev4
    rfl
  subst e4
  unfold appF at e2
  split at e2
  · rename_i hl
    cases e2
    have hl' : vs3.length < sizeLine := by rw [rl3.len]; exact hl
    refine r_app ev3 hl' fun H2 h2 u2 => ?_
    have M2 : Mv ms H1 ms H2 := Mv.but hm2 u2
    refine k H2 ⟨fun a o n e => ?_, fun a e => ?_⟩ ?_ ⟨W.hB, W1.al.but u2 h2⟩ (M1.trans M2) (l1.step M2 fun o e => u2 _ _ (fun z => ne z.symm) e) ⟨vs3 ++ [v], h2, RL.snoc (rl3.imp fun _ _ z => Rp.mv z M2) (Rp.mv rv M2), by rw [List.length_append]; simp; omega⟩
    · have n' := notc n
      exact u2 _ _ n'.1 (b1.1 _ _ n'.2 e)
    · by_cases qm : a = m2
      · rw [qm, h2]; exact fun z => by cases z
      · have := b1.2 a e
        cases h' : H1 a with
        | none => exact absurd h' this
        | some o' => rw [u2 a o' qm h']; exact fun z => by cases z
    · exact hq _ _ _ _ q1 M2 fun a ha o e => u2 _ _ (nab ha nB2) e
  · cases e2
theorem rp_nar {H : Hp} {v : V} {x : Option α} {y : α} (e : x = some y) (h : rp ms H v x) : rp ms H v y := by rw [e] at h; exact h
theorem rp_unnar {H : Hp} {v : V} {x : Option α} {y : α} (e : x = some y) (h : rp ms H v y) : rp ms H v x := by rw [e]; exact h
/-! ### what the generated texts name -/
theorem ex_vi {i : Nat} {n : Int} (hs : σ[i]? = some (some (.int n))) : Ex B ms (tVar i) σ H0 p n p := fun H b hp Q k => ⟨_, hs, k _ H (Bu.refl B H) hp rfl⟩
theorem ex_vb {i : Nat} {n : Bool} (hs : σ[i]? = some (some (.bl n))) : Ex B ms (tVar i) σ H0 p n p := fun H b hp Q k => ⟨_, hs, k _ H (Bu.refl B H) hp rfl⟩
theorem ex_vs {i : Nat} {n : Str} (hs : σ[i]? = some (some (.str n))) : Ex B ms (tVar i) σ H0 p n p := fun H b hp Q k => ⟨_, hs, k _ H (Bu.refl B H) hp rfl⟩
def modF (a m : Int) : Option Int := if 0 < m then some (a % m) else none
def mulF (a m : Int) : Option Int := if -(2 ^ 64) < a ∧ a < 2 ^ 64 then some (a * m) else none
theorem modF_ok {a m t : Int} (h : modF a m = some t) : 0 < m ∧ a % m = t := by
  unfold modF at h
  split at h
  · cases h; exact ⟨by assumption, rfl⟩
  · cases h
theorem mulF_ok {a m t : Int} (h : mulF a m = some t) : CMul a m ∧ a * m = t := by
  unfold mulF at h
  split at h
  · cases h; exact ⟨.inl (by assumption), rfl⟩
  · cases h
theorem et_yes : Et B ms tYes σ H0 p true p := fun H b hp R k => k H (Bu.refl B H) hp
theorem et_chain {te : TE} {c : Bool} (h : Ex B ms te σ H0 p c q) : Et B ms (tTest te) σ H0 p c q := et_test h
theorem ite_by {c : Bool} {A C : Prop} (h1 : c = true → A) (h2 : ¬ c = true → C) : if c = true then A else C := by
  cases c
  · exact h2 (by decide)
  · exact h1 rfl
theorem not_less {a : Addr} {ms ms' : Ms} (n : a ∉ ms) (l : ∀ c, c ∈ ms' → c ∈ ms) : a ∉ ms' := fun z => n (l a z)
theorem bnd_tup2 {H : Hp} {a : Addr} {u w : V} {t1 t2 : TG} {σ1 σ2 : St} (eh : H a = some (.tup [u, w])) (h1 : Bnd t1 u σ H σ1) (h2 : Bnd t2 w σ1 H σ2) : Bnd (gTup K 2 (gCons t1 (gCons t2 gNil))) (.ref a) σ H σ2 := fun R hR =>
  r_gtup (SqT.of eh) rfl (r_gcons (h1 _ (r_gcons (h2 _ (r_gnil hR)))))
theorem bnd_tup3 {H : Hp} {a : Addr} {u w y : V} {t1 t2 t3 : TG} {σ1 σ2 σ3 : St} (eh : H a = some (.tup [u, w, y])) (h1 : Bnd t1 u σ H σ1) (h2 : Bnd t2 w σ1 H σ2) (h3 : Bnd t3 y σ2 H σ3) : Bnd (gTup K 3 (gCons t1 (gCons t2 (gCons t3 gNil)))) (.ref a) σ H σ3 := fun R hR =>
  r_gtup (SqT.of eh) rfl (r_gcons (h1 _ (r_gcons (h2 _ (r_gcons (h3 _ (r_gnil hR)))))))
theorem rng1_len {j : Int} {xs : List Int} (e : rng1 j = some xs) : xs.length ≤ sizeLine := by
  unfold rng1 at e
  split at e
  · rename_i h
    cases e
    simpa [rngL] using h.2.2
  · cases e
theorem rng2_len {i j : Int} {xs : List Int} (e : rng2 i j = some xs) : xs.length ≤ sizeLine := by
  unfold rng2 at e
  split at e
  · rename_i h
    cases e
    simpa [rngL] using h.2.2.2.2
  · cases e
def colL {α β : Type} (f : α → Option (Option β)) (xs : List α) : Option (List β) := if xs.length ≤ sizeLine then colP f xs else none
def colS {α β s : Type} (f : α → s → Option (Option β × s)) (xs : List α) (x : s) : Option (List β × s) := if xs.length ≤ sizeLine then coll f xs x else none
def col2L {α γ β : Type} (g : α → Option (List γ)) (f : α → γ → Option (Option β)) (xs : List α) : Option (List β) := (col2 g f xs).bind fun ys => if ys.length ≤ sizeLine then some ys else none
theorem en_lcL {wi : TI} {g : TG} {tt : TT} {vs : List Nat} {xs : List α} {ys : List β} {f : α → Option (Option β)} (W : Wd B ms H0) (hq : Sb B q) (hi : Ej B ms wi σ H0 p xs q) (hc : colL f xs = some ys)
    (hb : ∀ (ms' : Ms) (H : Hp) (y : α) (v : V) (r : Option β), Lt B ms H0 ms' H → q ms' H → rp ms' H v y → f y = some r → ∃ σ2, Bnd g v (wipe σ vs) H σ2 ∧ wipe σ2 vs = wipe σ vs ∧ ∃ c, Et B ms' tt σ2 H q c q ∧ (c = false → r = none) ∧ (c = true → ∃ u, r = some u ∧ Ex B ms' te σ2 H q u q)) :
    En B ms (tLc wi g tt te vs) σ H0 p ys q := by
  unfold colL at hc
  split at hc
  · exact en_lc W hq (by assumption) hi hc hb
  · cases hc
theorem en_lcSL {s : Type} {wi : TI} {g : TG} {tt : TT} {vs : List Nat} {xs : List α} {ys : List β} {x0 x1 : s} {P : s → Hq} {f : α → s → Option (Option β × s)} (W : Wd B ms H0) (hP : ∀ x, Sb B (P x)) (hi : Ej B ms wi σ H0 p xs (P x0)) (hc : colS f xs x0 = some (ys, x1))
    (hb : ∀ (ms' : Ms) (H : Hp) (y : α) (v : V) (r : Option β) (x x' : s), Lt B ms H0 ms' H → P x ms' H → rp ms' H v y → f y x = some (r, x') → ∃ σ2, Bnd g v (wipe σ vs) H σ2 ∧ wipe σ2 vs = wipe σ vs ∧ ∃ c q', Et B ms' tt σ2 H (P x) c q' ∧ (c = false → r = none ∧ ∀ H, q' ms' H → P x' ms' H) ∧ (c = true → ∃ u, r = some u ∧ Ex B ms' te σ2 H q' u (P x'))) :
    En B ms (tLc wi g tt te vs) σ H0 p ys (P x1) := by
  unfold colS at hc
  split at hc
  · exact en_lcS W hP (by assumption) hi hc hb
  · cases hc
theorem en_lc2L {wi wi1 : TI} {g g1 : TG} {vs vs1 : List Nat} {xs : List α} {ys : List β} {gg : α → Option (List γ)} {f : α → γ → Option (Option β)} (W : Wd B ms H0) (hq : Sb B q) (hi : Ei B ms wi σ H0 p xs q) (hc : col2L gg f xs = some ys)
    (hb : ∀ (ms' : Ms) (H : Hp) (y : α) (v : V) (cs : List γ), Lt B ms H0 ms' H → q ms' H → rp ms' H v y → gg y = some cs → ∃ σ2, Bnd g v (wipe σ vs) H σ2 ∧ wipe σ2 vs = wipe σ vs ∧ Ei B ms' wi1 σ2 H q cs q ∧
      ∀ (ms' : Ms) (H : Hp) (c : γ) (u : V) (r : Option β), Lt B ms H0 ms' H → q ms' H → rp ms' H v y → rp ms' H u c → f y c = some r → ∃ σ3, Bnd g1 u (wipe σ2 vs1) H σ3 ∧ wipe σ3 vs1 = wipe σ2 vs1 ∧ ∃ z, r = some z ∧ Ex B ms' te σ3 H q z q) :
    En B ms (tLc2 wi g tYes wi1 g1 tYes te vs vs1) σ H0 p ys q := by
  obtain ⟨zs, h1, h2⟩ := bind_inv hc
  split at h2
  · cases h2
    exact en_lc2 W hq hi h1 (by assumption) hb
  · cases h2
/-- an answer that is no object -/
class RpS (α : Type) [Rp α] : Prop where
  ind : ∀ {ms ms' : Ms} {H H' : Hp} {v : V} {x : α}, rp ms H v x → rp ms' H' v x
instance : RpS Int := ⟨fun h => h⟩
instance : RpS Bool := ⟨fun h => h⟩
instance : RpS Str := ⟨fun h => h⟩
instance [RpS α] : RpS (Option α) := ⟨fun {ms ms' H H' v x} h => by
  cases x with
  | none => exact h
  | some y => exact RpS.ind (α := α) (x := y) h⟩
theorem not_dr {a : Addr} (n : a ∉ B) : ∀ c ∈ B, c ∉ [a] := fun c hc z => n (List.mem_singleton.mp z ▸ hc)
theorem drop_nin {a : Addr} {dr : Ms} (h : a ∈ dr) : a ∉ ms.filter fun c => decide (c ∉ dr) := fun z => by
  have := (List.mem_filter.mp z).2
  exact of_decide_eq_true this h
theorem ex_callT [RpS α] {ι : Type} [RpA ι] {F : ι → Option α} {ts : TA} {E : XK} {i : ι} (dr : Ms) (W : Wd B ms H0) (nd : ∀ c ∈ B, c ∉ dr) (hq : Sb B q)
    (h : ∀ H1, Lt B ms H0 (ms.filter fun c => decide (c ∉ dr)) H1 → Wd [] (ms.filter fun c => decide (c ∉ dr)) H1 → Ea [] (ms.filter fun c => decide (c ∉ dr)) ts σ H1 Tr i Tr) (e : F i = some x) : Ex B ms (tCall (spP F) [] E ts) σ H0 q x q := fun H b hp Q k => by
  have hsub : ∀ a ∈ ms.filter (fun c => decide (c ∉ dr)), a ∈ ms := fun a ha => (List.mem_filter.mp ha).1
  have W1 : Wd B (ms.filter fun c => decide (c ∉ dr)) H := ⟨fun a ha => List.mem_filter.mpr ⟨W.hB a ha, by simpa using nd a ha⟩, (W.al.bu b).less hsub⟩
  have W2 : Wd [] (ms.filter fun c => decide (c ∉ dr)) H := ⟨fun a z => by (cases z), W1.al⟩
  have L : Lt B ms H0 (ms.filter fun c => decide (c ∉ dr)) H := ⟨W1, (Mv.bu W.hB b).trans (Mv.less hsub), b.1⟩
  exact r_call (h H L W2 H (Bu.refl [] H) trivial _ fun vs H1 b1 q1 e1 =>
    ⟨_, i, x, W1.al.bu b1, e1, e, fun v H' s rv => k v H' ((Bu.same b1.to_same).trans (Bu.same s)) (hq.same (fun a o z => s a o (b1.to_same a o z)) hp) (RpS.ind rv)⟩)
theorem ex_isB {i j : Bool} (ha : Ex B ms ta σ H0 p i q) (hb : Ex B ms tb σ H0 q j r) : Ex B ms (tOp (fun x y H Q => ∃ a b, x = .bl a ∧ y = .bl b ∧ Q (.bl (decide (a = b))) H) ta tb) σ H0 p (decide (i = j)) r :=
  fun H b hp Q k => ha H b hp _ fun v H1 b1 q1 e1 => hb H1 (b.trans b1) q1 _ fun u H2 b2 q2 e2 => ⟨i, j, e1, e2, k _ H2 (b1.trans b2) q2 rfl⟩
theorem ex_isnB {i j : Bool} (ha : Ex B ms ta σ H0 p i q) (hb : Ex B ms tb σ H0 q j r) : Ex B ms (tOp (fun x y H Q => ∃ a b, x = .bl a ∧ y = .bl b ∧ Q (.bl (!decide (a = b))) H) ta tb) σ H0 p (!decide (i = j)) r :=
  fun H b hp Q k => ha H b hp _ fun v H1 b1 q1 e1 => hb H1 (b.trans b1) q1 _ fun u H2 b2 q2 e2 => ⟨i, j, e1, e2, k _ H2 (b1.trans b2) q2 rfl⟩
/-! None or a datum, compared -/
theorem shap_opt [DecidableEq α] [Enc α] (hd : Enc.dep α ≤ 64) (x : Option α) : SeqAt.shaped (encO x) = true := by
  cases x with
  | none => show SeqAt.shaped PyData.none = true; decide
  | some y => exact shapedE hd y
theorem eqv_opt [DecidableEq α] [Enc α] [EncN α] (x y : Option α) : PyData.eqv (encO x) (encO y) = decide (x = y) := by
  cases x <;> cases y <;> simp only [encO]
  · rfl
  · simp [eqv_non_none (EncN.nn _)]
  · simp [eqv_none_non (EncN.nn _)]
  · rw [Enc.eqv]; simp
theorem ex_eqO [DecidableEq α] [Enc α] [RpD α] [EncN α] {x y : Option α} (W : Wd B ms H0) (hd : Enc.dep α ≤ 64) (h1 : Ex B ms ta σ H0 p x q) (h2 : Ex B ms tb σ H0 q y r) : Ex B ms (tOp (rEqD K) ta tb) σ H0 p (decide (x = y)) r := fun H b hp Q k => h1 H b hp _ fun v H1 b1 q1 l1 => h2 H1 (b.trans b1) q1 _ fun u H2 b2 q2 l2 =>
  ⟨_, _, dp_optE (Rp.mv l1 (Mv.bu W.hB b2)), dp_optE l2, shap_opt hd x, shap_opt hd y, by rw [eqv_opt]; exact k _ H2 (b1.trans b2) q2 rfl⟩
theorem ex_neO [DecidableEq α] [Enc α] [RpD α] [EncN α] {x y : Option α} (W : Wd B ms H0) (hd : Enc.dep α ≤ 64) (h1 : Ex B ms ta σ H0 p x q) (h2 : Ex B ms tb σ H0 q y r) : Ex B ms (tOp (rNeD K) ta tb) σ H0 p (!decide (x = y)) r := fun H b hp Q k => h1 H b hp _ fun v H1 b1 q1 l1 => h2 H1 (b.trans b1) q1 _ fun u H2 b2 q2 l2 =>
  ⟨_, _, dp_optE (Rp.mv l1 (Mv.bu W.hB b2)), dp_optE l2, shap_opt hd x, shap_opt hd y, by rw [eqv_opt]; exact k _ H2 (b1.trans b2) q2 rfl⟩
/-! x += e -/
theorem s_aug {f : Int → Int → Int} {D : Ends} {i : Nat} {a c : Int} {H : Hp} (W : Wd B ms H) (hs : σ[i]? = some (some (.int a))) (h : Ex B ms te σ H p c q) (hp : p ms H) (k : ∀ H', Bu B H H' → q ms H' → Wd B ms H' → Mv ms H ms H' → D.nx (σ.set i (some (.int (f a c)))) H') : tAug i te (ipI f) D σ H :=
  ⟨_, hs, h.use hp fun v H1 b1 q1 e1 => ⟨a, c, rfl, e1, k H1 b1 q1 (W.bu b1) (W.mv b1)⟩⟩
theorem r_nextU {t : TS} {D : Ends} {H : Hp} (h : t D σ H) : t D σ H := h
theorem r_seqU {t u : TS} {D : Ends} {H : Hp} (h : t { D with nx := u D } σ H) : tSeq t u D σ H := h
theorem r_seqF' {wi : TI} {g : TG} {tb u : TS} {D : Ends} {H : Hp} (h : tFor wi g tb { D with nx := u D } σ H) : tSeq (tFor wi g tb) u D σ H := h
theorem r_forL {t : TS} {D : Ends} {H : Hp} (h : t D σ H) : t D σ H := h
theorem r_ret' {D : Ends} {H : Hp} (h : te σ H D.rt) : tRet te D σ H := h
/-! the draws -/
def drawF (bx : List Int × Nat) (m : Int) : Option (Int × (List Int × Nat)) := if 0 < m then some ((if bx.2 < bx.1.length then bx.1.getD bx.2 0 % m else 0), (bx.1, bx.2 + 1)) else none
abbrev law_drawM := drawF
theorem drawF_ok {bx : List Int × Nat} {m : Int} (h : 0 < m) : ∃ r n, drawF bx m = some (r, (bx.1, n)) ∧ 0 ≤ r ∧ r < m := by
  unfold drawF
  rw [if_pos h]
  refine ⟨_, _, rfl, ?_⟩
  split
  · exact ⟨Int.emod_nonneg _ (by omega), Int.emod_lt_of_pos _ h⟩
  · omega
end
end Pf

namespace Pf
open PySem L2
/-! facts of the models' words -/
theorem appF_ok {α : Type} {xs : List α} {x : α} (h : xs.length ≤ 1000000) : appF xs x = some (xs ++ [x]) := by
  unfold appF
  rw [if_pos (by rw [sizeLine_eq]; omega)]
theorem catF_ok {α : Type} {xs ys : List α} (h : xs.length + ys.length ≤ 1000000) : catF xs ys = some (xs ++ ys) := by
  unfold catF
  rw [if_pos (by rw [sizeLine_eq]; omega)]
theorem rng1_ok {j : Int} (h1 : j ≤ 1000000) (h0 : -1000000 ≤ j := by omega) : rng1 j = some (rngL 0 j.toNat) := by
  unfold rng1
  rw [if_pos ⟨by omega, by omega, by rw [sizeLine_eq]; omega⟩]
theorem rng2_ok {i j : Int} (h0 : -1000000 ≤ i) (h1 : i ≤ 1000000) (h2 : -1000000 ≤ j) (h3 : j ≤ 1000000) : rng2 i j = some (rngL i (j - i).toNat) := by
  unfold rng2
  rw [if_pos ⟨by omega, by omega, by omega, by omega, by rw [sizeLine_eq]; omega⟩]
theorem rngL_len (lo : Int) (n : Nat) : (rngL lo n).length = n := by simp [rngL]
theorem rngL_get {lo : Int} {n i : Nat} (h : i < n) : (rngL lo n)[i]? = some (lo + i) := by
  unfold rngL
  rw [List.getElem?_map, List.getElem?_range h]
  rfl
theorem rngL_mem {lo x : Int} {n : Nat} : x ∈ rngL lo n ↔ lo ≤ x ∧ x < lo + n := by
  unfold rngL
  rw [List.mem_map]
  constructor
  · rintro ⟨i, hi, rfl⟩
    have := List.mem_range.mp hi
    omega
  · rintro ⟨h1, h2⟩
    exact ⟨(x - lo).toNat, List.mem_range.mpr (by omega), by omega⟩
theorem rngL_succ (lo : Int) (n : Nat) : rngL lo (n + 1) = rngL lo n ++ [lo + n] := by
  unfold rngL
  rw [List.range_succ, List.map_append]
  rfl
theorem rngL_cons (lo : Int) (n : Nat) : rngL lo (n + 1) = lo :: rngL (lo + 1) n := by
  unfold rngL
  rw [List.range_succ_eq_map]
  rw [List.map_cons, List.map_map]
  congr 1
  · omega
  · refine List.map_congr_left fun i _ => ?_
    simp only [Function.comp]
    omega
theorem at_ok {α : Type} {xs : List α} {i : Nat} {x : α} (h : xs[i]? = some x) : atI xs (i : Int) = some x := atI_nat h
theorem at_mem {α : Type} {xs : List α} {i : Int} (h0 : 0 ≤ i) (h1 : i < (xs.length : Int)) : ∃ v, v ∈ xs ∧ atI xs i = some v := by
  have hi : i.toNat < xs.length := by omega
  refine ⟨xs[i.toNat], List.getElem_mem hi, ?_⟩
  have e := at_ok (List.getElem?_eq_getElem hi)
  rw [show ((i.toNat : Nat) : Int) = i by omega] at e
  exact e
theorem modF_pos {a m : Int} (h : 0 < m) : modF a m = some (a % m) := by unfold modF; rw [if_pos h]
theorem fold_ex {α s : Type} {f : α → s → Option s} {xs : List α} {x0 : s} (I : Nat → s → Prop) (h0 : I 0 x0) (step : ∀ i a x, xs[i]? = some a → I i x → ∃ x', f a x = some x' ∧ I (i + 1) x') : ∃ out, fold f xs x0 = some out ∧ I xs.length out := by
  have go : ∀ (n i : Nat) (x : s), n = xs.length - i → i ≤ xs.length → I i x → ∃ out, fold f (xs.drop i) x = some out ∧ I xs.length out := by
    intro n
    induction n with
    | zero =>
      intro i x hn hi h
      have e : i = xs.length := by omega
      subst e
      rw [List.drop_length]
      exact ⟨x, rfl, h⟩
    | succ n ih =>
      intro i x hn hi h
      have below : i < xs.length := by omega
      have ex := List.getElem?_eq_getElem below
      rw [drop_get ex]
      obtain ⟨x', h1, h2⟩ := step i _ x ex h
      obtain ⟨out, h3, h4⟩ := ih (i + 1) x' (by omega) (by omega) h2
      refine ⟨out, ?_, h4⟩
      show (f _ x).bind _ = _
      rw [h1]
      exact h3
  exact go _ 0 x0 rfl (Nat.zero_le _) h0
theorem loop_ex {α s ρ : Type} {f : α → s → Option (Fl ρ s)} {xs : List α} {x0 : s} (I : Nat → s → Prop) (R : ρ → Prop) (h0 : I 0 x0) (step : ∀ i a x, xs[i]? = some a → I i x → (∃ r, f a x = some (.ret r) ∧ R r) ∨ ∃ x', f a x = some (.go x') ∧ I (i + 1) x') : (∃ r, loop f xs x0 = some (.ret r) ∧ R r) ∨ ∃ out, loop f xs x0 = some (.go out) ∧ I xs.length out := by
  have go : ∀ (n i : Nat) (x : s), n = xs.length - i → i ≤ xs.length → I i x → (∃ r, loop f (xs.drop i) x = some (.ret r) ∧ R r) ∨ ∃ out, loop f (xs.drop i) x = some (.go out) ∧ I xs.length out := by
    intro n
    induction n with
    | zero =>
      intro i x hn hi h
      have e : i = xs.length := by omega
      subst e
      rw [List.drop_length]
      exact .inr ⟨x, rfl, h⟩
    | succ n ih =>
      intro i x hn hi h
      have below : i < xs.length := by omega
      have ex := List.getElem?_eq_getElem below
      rw [drop_get ex]
      rcases step i _ x ex h with ⟨r, h1, h2⟩ | ⟨x', h1, h2⟩
      · refine .inl ⟨r, ?_, h2⟩
        show (f _ x).bind _ = _
        rw [h1]
        rfl
      · have e : loop f (xs[i] :: xs.drop (i + 1)) x = loop f (xs.drop (i + 1)) x' := by
          show (f _ x).bind _ = _
          rw [h1]
          rfl
        rw [e]
        exact ih (i + 1) x' (by omega) (by omega) h2
  exact go _ 0 x0 rfl (Nat.zero_le _) h0
/-- a loop whose turns never go out -/
theorem loop_go {α s ρ : Type} {f : α → s → Option (Fl ρ s)} {xs : List α} {x0 : s} (I : Nat → s → Prop) (h0 : I 0 x0) (step : ∀ i a x, xs[i]? = some a → I i x → ∃ x', f a x = some (.go x') ∧ I (i + 1) x') : ∃ out, loop f xs x0 = some (.go out) ∧ I xs.length out := by
  rcases loop_ex I (fun _ => False) h0 (fun i a x e h => .inr (step i a x e h)) with ⟨r, _, h⟩ | h
  · cases h
  · exact h
theorem colP_map {α β : Type} {f : α → Option (Option β)} {g : α → β} : ∀ {xs : List α}, (∀ x ∈ xs, f x = some (some (g x))) → colP f xs = some (xs.map g)
  | [], _ => rfl
  | x :: xs, h => by
    show (f x).bind _ = _
    rw [h x List.mem_cons_self]
    show (colP f xs).bind _ = _
    rw [colP_map fun y hy => h y (List.mem_cons_of_mem _ hy)]
    rfl
theorem colP_filter {α β : Type} {f : α → Option (Option β)} {g : α → Option β} : ∀ {xs : List α}, (∀ x ∈ xs, f x = some (g x)) → colP f xs = some (xs.filterMap g)
  | [], _ => rfl
  | x :: xs, h => by
    show (f x).bind _ = _
    rw [h x List.mem_cons_self]
    show (colP f xs).bind _ = _
    rw [colP_filter fun y hy => h y (List.mem_cons_of_mem _ hy), List.filterMap_cons]
    cases g x <;> rfl
theorem colL_map {α β : Type} {f : α → Option (Option β)} {g : α → β} {xs : List α} (hl : xs.length ≤ 1000000) (h : ∀ x ∈ xs, f x = some (some (g x))) : colL f xs = some (xs.map g) := by
  unfold colL
  rw [if_pos (by rw [sizeLine_eq]; omega), colP_map h]
theorem colL_filter {α β : Type} {f : α → Option (Option β)} {g : α → Option β} {xs : List α} (hl : xs.length ≤ 1000000) (h : ∀ x ∈ xs, f x = some (g x)) : colL f xs = some (xs.filterMap g) := by
  unfold colL
  rw [if_pos (by rw [sizeLine_eq]; omega), colP_filter h]
theorem colL_id {α : Type} {xs : List α} (hl : xs.length ≤ 1000000) : colL (fun x : α => some (some x)) xs = some xs := by
  have := colL_map (f := fun x : α => some (some x)) (g := id) hl (fun x _ => rfl)
  rw [List.map_id] at this
  exact this
theorem col2_flat {α γ β : Type} {g : α → Option (List γ)} {f : α → γ → Option (Option β)} {G : α → List γ} {F : α → γ → β} : ∀ {xs : List α}, (∀ x ∈ xs, g x = some (G x)) → (∀ x ∈ xs, ∀ c ∈ G x, f x c = some (some (F x c))) → col2 g f xs = some (xs.flatMap fun x => (G x).map (F x))
  | [], _, _ => rfl
  | x :: xs, h1, h2 => by
    show (g x).bind _ = _
    rw [h1 x List.mem_cons_self]
    show (colP (f x) (G x)).bind _ = _
    rw [colP_map fun c hc => h2 x List.mem_cons_self c hc]
    show (col2 g f xs).bind _ = _
    rw [col2_flat (fun y hy => h1 y (List.mem_cons_of_mem _ hy)) fun y hy => h2 y (List.mem_cons_of_mem _ hy), List.flatMap_cons]
    rfl
theorem col2L_flat {α γ β : Type} {g : α → Option (List γ)} {f : α → γ → Option (Option β)} {G : α → List γ} {F : α → γ → β} {xs : List α} (hl : (xs.flatMap fun x => (G x).map (F x)).length ≤ 1000000) (h1 : ∀ x ∈ xs, g x = some (G x)) (h2 : ∀ x ∈ xs, ∀ c ∈ G x, f x c = some (some (F x c))) : col2L g f xs = some (xs.flatMap fun x => (G x).map (F x)) := by
  unfold col2L
  rw [col2_flat h1 h2]
  show (if _ then _ else _) = _
  rw [if_pos (by rw [sizeLine_eq]; omega)]
theorem setF_ok {α : Type} {xs : List α} {i : Nat} {x : α} (h : i < xs.length) : setF xs (i : Int) x = some (xs.set i x) := by
  unfold setF ixN
  rw [if_pos (by omega)]
  rw [if_pos (by omega)]
  rfl
theorem at_last {α : Type} (xs : List α) (x : α) : atI (xs ++ [x]) (-1) = some x := by
  unfold atI
  rw [List.length_append, List.length_singleton, ixN_last]
  show (xs ++ [x])[xs.length]? = some x
  rw [List.getElem?_append_right (Nat.le_refl _), Nat.sub_self]
  rfl
theorem setF_last {α : Type} (xs : List α) (x y : α) : setF (xs ++ [x]) (-1) y = some (xs ++ [y]) := by
  unfold setF
  rw [List.length_append, List.length_singleton, ixN_last]
  show some ((xs ++ [x]).set xs.length y) = _
  rw [List.set_append_right _ _ (Nat.le_refl _), Nat.sub_self]
  rfl
theorem fold_foldl {α s : Type} {f : α → s → Option s} {g : s → α → s} (N : s → Nat) (m : Nat) (h : ∀ a x, N x < m → f a x = some (g x a) ∧ N (g x a) ≤ N x + 1) : ∀ (ys : List α) (x : s), N x + ys.length ≤ m → fold f ys x = some (ys.foldl g x)
  | [], x, _ => rfl
  | y :: ys, x, l => by
    rw [List.length_cons] at l
    obtain ⟨h1, h2⟩ := h y x (by omega)
    show (f y x).bind _ = _
    rw [h1, Option.bind_some, fold_foldl N m h ys _ (by omega)]
    rfl
theorem rngL_nodup (lo : Int) (n : Nat) : (rngL lo n).Nodup := by
  unfold rngL
  rw [List.Nodup, List.pairwise_map]
  exact List.nodup_range.imp fun h e => h (by omega)
theorem pop_perm {α : Type} {xs : List α} {i : Int} (h0 : 0 ≤ i) (h1 : i < (xs.length : Int)) (hl : xs.length ≤ 1000) : ∃ x ys, popF xs i = some (x, ys) ∧ xs.Perm (x :: ys) := by
  have hi : i.toNat < xs.length := by omega
  refine ⟨xs[i.toNat], xs.eraseIdx i.toNat, ?_, ?_⟩
  · unfold popF
    rw [if_pos (by omega)]
    unfold ixN
    rw [if_pos h0, if_pos h1, Option.bind_some, List.getElem?_eq_getElem hi]
    rfl
  · have e := drop_get (List.getElem?_eq_getElem hi)
    have e2 : xs = xs.take i.toNat ++ xs[i.toNat] :: xs.drop (i.toNat + 1) := by rw [← e, List.take_append_drop]
    rw [List.eraseIdx_eq_take_drop_succ]
    refine (List.Perm.of_eq e2).trans ?_
    exact List.perm_middle
theorem rem_perm {xs : List Int} {x : Int} (h : x ∈ xs) : ∃ ys, remF xs x = some ys ∧ xs.Perm (x :: ys) := ⟨_, if_pos h, List.perm_cons_erase h⟩
theorem filterMap_all {α β : Type} {f : α → Option β} {g : α → β} : ∀ {xs : List α}, (∀ x ∈ xs, f x = some (g x)) → xs.filterMap f = xs.map g
  | [], _ => rfl
  | x :: xs, h => by
    rw [List.filterMap_cons, h x List.mem_cons_self, List.map_cons, filterMap_all fun y hy => h y (List.mem_cons_of_mem _ hy)]
theorem cut_to {α : Type} (xs : List α) {i : Nat} (h : i ≤ xs.length) : cutF xs none (some (i : Int)) = xs.take i := by
  unfold cutF
  rw [HT.sIx_none, HT.sIx_nat, Nat.min_eq_left h, List.drop_zero, Nat.sub_zero]
theorem cut_from {α : Type} (xs : List α) {i : Nat} (h : i ≤ xs.length) : cutF xs (some (i : Int)) none = xs.drop i := by
  unfold cutF
  rw [HT.sIx_none, HT.sIx_nat, Nat.min_eq_left h]
  exact List.take_of_length_le (by rw [List.length_drop]; omega)
theorem colL_keep {α : Type} {f : α → Option (Option α)} {p : α → Bool} {xs : List α} (hl : xs.length ≤ 1000000) (h : ∀ x ∈ xs, f x = some (if p x = true then some x else none)) : colL f xs = some (xs.filter p) := by
  rw [colL_filter hl h]
  congr 1
  clear h hl
  induction xs with
  | nil => rfl
  | cons x xs ih =>
    rw [List.filterMap_cons, List.filter_cons]
    by_cases c : p x = true
    · rw [if_pos c, if_pos c, ih]
    · rw [if_neg c, if_neg c, ih]
theorem whl_ex {s ρ : Type} {c : s → Option Bool} {f : s → Option (Fl ρ s)} (N : s → Nat) (I : s → Prop) (R : ρ → Prop) (h : ∀ x, I x → ∃ b, c x = some b ∧ (b = true → (∃ r, f x = some (.ret r) ∧ R r) ∨ ∃ x', f x = some (.go x') ∧ I x' ∧ N x' < N x)) : ∀ (m : Nat) (x : s), I x → N x < m → (∃ r, whl c f m x = some (.ret r) ∧ R r) ∨ ∃ out, whl c f m x = some (.go out) ∧ I out ∧ c out = some false
  | 0, x, _, hm => absurd hm (Nat.not_lt_zero _)
  | m + 1, x, hI, hm => by
    obtain ⟨b, hb, hk⟩ := h x hI
    show (∃ r, (c x).bind _ = _ ∧ _) ∨ ∃ out, (c x).bind _ = _ ∧ _
    rw [hb, Option.bind_some]
    cases b with
    | false =>
      rw [if_neg (by decide)]
      exact .inr ⟨x, rfl, hI, hb⟩
    | true =>
      rw [if_pos rfl]
      rcases hk rfl with ⟨r, h1, h2⟩ | ⟨x', h1, h2, h3⟩
      · rw [h1]
        exact .inl ⟨r, rfl, h2⟩
      · rw [h1]
        exact whl_ex N I R h m x' h2 (by omega)
/-! a model's answer, step by step -/
theorem bind_of {α β : Type} {x : Option α} {k : α → Option β} {a : α} {r : Option β} (e : x = some a) (h : k a = r) : x.bind k = r := by rw [e]; exact h
theorem bnd_of {α β : Type} {x : α} {k : α → Option β} {r : Option β} (h : k x = r) : bnd x k = r := h
theorem if_of {α : Type} {c : Prop} {_ : Decidable c} {a b r : α} (hc : c) (h : a = r) : (if c then a else b) = r := by rw [if_pos hc]; exact h
theorem else_of {α : Type} {c : Prop} {_ : Decidable c} {a b r : α} (hc : ¬ c) (h : b = r) : (if c then a else b) = r := by rw [if_neg hc]; exact h
theorem bind_ex {α β : Type} {x : Option α} {k : α → Option β} {P : α → Prop} {r : Option β} (e : ∃ a, x = some a ∧ P a) (h : ∀ a, P a → k a = r) : x.bind k = r := by
  obtain ⟨a, e, p⟩ := e
  rw [e]
  exact h a p
theorem bind_exL {ρ s β : Type} {x : Option (Fl ρ s)} {k : Fl ρ s → Option β} {P : s → Prop} {r : Option β} (e : ∃ a, x = some (.go a) ∧ P a) (h : ∀ a, P a → k (.go a) = r) : x.bind k = r := by
  obtain ⟨a, e, p⟩ := e
  rw [e]
  exact h a p
theorem exb {α β γ : Type} {x : Option α} {k : α → Option β} {a : α} {G : γ → Option β} {P : γ → Prop} (e : x = some a) (h : ∃ y, k a = G y ∧ P y) : ∃ y, x.bind k = G y ∧ P y := by rw [e]; exact h
theorem exb_bnd {α β γ : Type} {x : α} {k : α → Option β} {G : γ → Option β} {P : γ → Prop} (h : ∃ y, k x = G y ∧ P y) : ∃ y, bnd x k = G y ∧ P y := h
theorem exb_if {β γ : Type} {c : Prop} {_ : Decidable c} {u v : Option β} {G : γ → Option β} {P : γ → Prop} (hc : c) (h : ∃ y, u = G y ∧ P y) : ∃ y, (if c then u else v) = G y ∧ P y := by rw [if_pos hc]; exact h
theorem exb_else {β γ : Type} {c : Prop} {_ : Decidable c} {u v : Option β} {G : γ → Option β} {P : γ → Prop} (hc : ¬ c) (h : ∃ y, v = G y ∧ P y) : ∃ y, (if c then u else v) = G y ∧ P y := by rw [if_neg hc]; exact h
theorem exb_ex {α β γ : Type} {x : Option α} {k : α → Option β} {Q : α → Prop} {G : γ → Option β} {P : γ → Prop} (e : ∃ a, x = some a ∧ Q a) (h : ∀ a, Q a → ∃ y, k a = G y ∧ P y) : ∃ y, x.bind k = G y ∧ P y := by
  obtain ⟨a, e, q⟩ := e
  rw [e]
  exact h a q
theorem exb_exL {ρ s β γ : Type} {x : Option (Fl ρ s)} {k : Fl ρ s → Option β} {Q : s → Prop} {G : γ → Option β} {P : γ → Prop} (e : ∃ a, x = some (.go a) ∧ Q a) (h : ∀ a, Q a → ∃ y, k (.go a) = G y ∧ P y) : ∃ y, x.bind k = G y ∧ P y := by
  obtain ⟨a, e, q⟩ := e
  rw [e]
  exact h a q
theorem loop_ret {α s ρ : Type} {f : α → s → Option (Fl ρ s)} {a : α} {as : List α} {x : s} {r : ρ} (h : f a x = some (.ret r)) : loop f (a :: as) x = some (.ret r) := by unfold loop; rw [h]; rfl
theorem loop_next {α s ρ : Type} {f : α → s → Option (Fl ρ s)} {a : α} {as : List α} {x y : s} {R : Option (Fl ρ s)} (h : f a x = some (.go y)) (k : loop f as y = R) : loop f (a :: as) x = R := by unfold loop; rw [h]; exact k
/-! layouts -/
def lenS (bs : List (Int × Int)) : Int := (bs.map (·.2)).sum
theorem VL.live {size : Int} : ∀ {bs : List (Int × Int)} {e : Int}, VL size e bs → e + lenS bs ≤ size ∧ 0 ≤ lenS bs
  | [], e, h => by have h' : e ≤ size := h; simp [lenS]; omega
  | (s, l) :: r, e, h => by
    have ih := VL.live h.2.2
    have h1 := h.1
    have h2 := h.2.1
    unfold lenS at *
    simp only [List.sum_cons, List.map_cons]
    omega
theorem VL.le {size : Int} {bs : List (Int × Int)} {e e' : Int} (h : VL size e bs) (l : e' ≤ e) : VL size e' bs := by
  cases bs with
  | nil => have h' : e ≤ size := h; show e' ≤ size; omega
  | cons b r =>
    obtain ⟨s, l2⟩ := b
    exact ⟨by have := h.1; omega, h.2⟩
end Pf

namespace Pf
open PySem L2
theorem List.reverseRecOn' {α : Type} {P : List α → Prop} (xs : List α) (nil : P []) (snoc : ∀ ys y, P ys → P (ys ++ [y])) : P xs := by
  have go : ∀ n (xs : List α), xs.length = n → P xs := by
    intro n
    induction n with
    | zero => intro xs h; rw [List.length_eq_zero_iff.mp h]; exact nil
    | succ n ih =>
      intro xs h
      cases e : xs.getLast? with
      | none => rw [List.getLast?_eq_none_iff.mp e] at h; cases h
      | some y =>
        obtain ⟨ys, rfl⟩ := List.getLast?_eq_some_iff.mp e
        refine snoc ys y (ih ys ?_)
        rw [List.length_append] at h
        simpa using h
  exact go _ xs rfl
/-! ### blocks, told by their indices -/
def Sep (x y : Int × Int) : Prop := x.1 + x.2 ≤ y.1 ∨ y.1 + y.2 ≤ x.1
def Dis (bs : List (Int × Int)) : Prop := ∀ (i j : Nat) (x y : Int × Int), i ≠ j → bs[i]? = some x → bs[j]? = some y → Sep x y
def Ins (size : Int) (bs : List (Int × Int)) : Prop := ∀ (i : Nat) (x : Int × Int), bs[i]? = some x → 0 ≤ x.1 ∧ 1 ≤ x.2 ∧ x.1 + x.2 ≤ size
theorem Sep.symm {x y : Int × Int} (h : Sep x y) : Sep y x := h.elim .inr .inl
theorem VL.dis {size e : Int} {bs : List (Int × Int)} (h : VL size e bs) : Dis bs := by
  intro i j x y ne hx hy
  have pw := List.pairwise_iff_getElem.mp h.pw
  obtain ⟨hi, ei⟩ := List.getElem?_eq_some_iff.mp hx
  obtain ⟨hj, ej⟩ := List.getElem?_eq_some_iff.mp hy
  rcases Nat.lt_or_gt_of_ne ne with c | c
  · have := pw i j hi hj c
    rw [ei, ej] at this
    exact .inl this
  · have := pw j i hj hi c
    rw [ei, ej] at this
    exact .inr this
theorem VL.ins {size : Int} {bs : List (Int × Int)} (h : VL size 0 bs) : Ins size bs := fun i x hx => h.mem x (List.mem_of_getElem? hx)
/-- the blocks at their new starts -/
def plF (bs : List (Int × Int)) (st : List Int) : List (Int × Int) := (bs.zip st).map fun p => (p.2, p.1.2)
theorem plF_get {bs : List (Int × Int)} {st : List Int} {i : Nat} {x : Int × Int} {s : Int} (h1 : bs[i]? = some x) (h2 : st[i]? = some s) : (plF bs st)[i]? = some (s, x.2) := by
  unfold plF
  rw [List.getElem?_map, (List.getElem?_zip_eq_some (z := (x, s))).mpr ⟨h1, h2⟩]
  rfl
theorem plF_inv {bs : List (Int × Int)} {st : List Int} {i : Nat} {y : Int × Int} (h : (plF bs st)[i]? = some y) : ∃ x s, bs[i]? = some x ∧ st[i]? = some s ∧ y = (s, x.2) := by
  unfold plF at h
  rw [List.getElem?_map] at h
  obtain ⟨⟨x, s⟩, hz, e⟩ := Option.map_eq_some_iff.mp h
  obtain ⟨h1, h2⟩ := List.getElem?_zip_eq_some.mp hz
  exact ⟨x, s, h1, h2, e.symm⟩
theorem plF_len {bs : List (Int × Int)} {st : List Int} (h : st.length = bs.length) : (plF bs st).length = bs.length := by
  unfold plF
  rw [List.length_map, List.length_zip, h, Nat.min_self]
theorem plF_same (bs : List (Int × Int)) : plF bs (bs.map (·.1)) = bs := by
  refine List.ext_getElem? fun i => ?_
  cases h : bs[i]? with
  | none =>
    have := List.getElem?_eq_none_iff.mp h
    exact List.getElem?_eq_none_iff.mpr (by rw [plF_len (by rw [List.length_map])]; exact this)
  | some x => exact plF_get h (by rw [List.getElem?_map, h]; rfl)
theorem get_of_lt {α : Type} {xs : List α} {i : Nat} (h : i < xs.length) : ∃ x, xs[i]? = some x := ⟨_, List.getElem?_eq_getElem h⟩
theorem lt_of_get {α : Type} {xs : List α} {i : Nat} {x : α} (h : xs[i]? = some x) : i < xs.length := (List.getElem?_eq_some_iff.mp h).1
theorem set_get_ne {α : Type} {xs : List α} {i j : Nat} {x : α} (h : i ≠ j) : (xs.set i x)[j]? = xs[j]? := List.getElem?_set_ne h
theorem set_get {α : Type} {xs : List α} {i : Nat} {x : α} (h : i < xs.length) : (xs.set i x)[i]? = some x := List.getElem?_set_self h
theorem nodup_le {α : Type} [DecidableEq α] : ∀ {xs ys : List α}, xs.Nodup → (∀ x ∈ xs, x ∈ ys) → xs.length ≤ ys.length
  | [], _, _, _ => Nat.zero_le _
  | x :: xs, ys, h, s => by
    have h' := List.nodup_cons.mp h
    have hx := s x List.mem_cons_self
    have := nodup_le (ys := ys.erase x) h'.2 fun y hy => (List.mem_erase_of_ne (fun e => h'.1 (by rw [← e]; exact hy))).mpr (s y (List.mem_cons_of_mem _ hy))
    rw [List.length_erase_of_mem hx] at this
    have := List.length_pos_of_mem hx
    rw [List.length_cons]
    omega
theorem perm_sum {xs ys : List Int} (h : xs.Perm ys) : xs.sum = ys.sum := by
  induction h with
  | nil => rfl
  | cons x _ ih => rw [List.sum_cons, List.sum_cons, ih]
  | swap x y l => simp only [List.sum_cons]; omega
  | trans _ _ a b => exact a.trans b
theorem nodup_get {α : Type} {xs : List α} (h : xs.Nodup) {i j : Nat} {x : α} (hi : xs[i]? = some x) (hj : xs[j]? = some x) : i = j := by
  have pw := List.pairwise_iff_getElem.mp h
  obtain ⟨li, ei⟩ := List.getElem?_eq_some_iff.mp hi
  obtain ⟨lj, ej⟩ := List.getElem?_eq_some_iff.mp hj
  obtain c | c | c := Nat.lt_trichotomy i j
  · exact absurd (ei.trans ej.symm) (pw i j li lj c)
  · exact c
  · exact absurd (ej.trans ei.symm) (pw j i lj li c)
/-! ### single moves -/
def meetB (x y : Int × Int) : Bool := decide (max x.1 y.1 < min (x.1 + x.2) (y.1 + y.2))
theorem meetB_sep {x y : Int × Int} (hx : 1 ≤ x.2) (hy : 1 ≤ y.2) : meetB x y = false ↔ Sep x y := by
  unfold meetB Sep
  rw [decide_eq_false_iff_not]
  omega
def othF (bs : List (Int × Int)) (i : Nat) : List (Int × Int) := bs.take i ++ bs.drop (i + 1)
def canB (bs : List (Int × Int)) (i : Nat) (g : Int × Int) : Bool := !((othF bs i).map (meetB g)).any id
def CanP (bs : List (Int × Int)) (i : Nat) (g : Int × Int) : Prop := ∀ (j : Nat) (y : Int × Int), j ≠ i → bs[j]? = some y → Sep g y
theorem oth_mem {bs : List (Int × Int)} {i : Nat} {y : Int × Int} (hi : i ≤ bs.length) : y ∈ othF bs i ↔ ∃ j : Nat, j ≠ i ∧ bs[j]? = some y := by
  unfold othF
  rw [List.mem_append]
  constructor
  · rintro (h | h)
    · obtain ⟨j, hj⟩ := List.mem_iff_getElem?.mp h
      have := lt_of_get hj
      rw [List.length_take] at this
      rw [List.getElem?_take_of_lt (by omega)] at hj
      exact ⟨j, by omega, hj⟩
    · obtain ⟨j, hj⟩ := List.mem_iff_getElem?.mp h
      rw [List.getElem?_drop] at hj
      exact ⟨_, by omega, hj⟩
  · rintro ⟨j, ne, hj⟩
    rcases Nat.lt_or_gt_of_ne ne with c | c
    · exact .inl (List.mem_iff_getElem?.mpr ⟨j, by rw [List.getElem?_take_of_lt c]; exact hj⟩)
    · exact .inr (List.mem_iff_getElem?.mpr ⟨j - (i + 1), by rw [List.getElem?_drop, show i + 1 + (j - (i + 1)) = j by omega]; exact hj⟩)
theorem canB_iff {bs : List (Int × Int)} {i : Nat} {g : Int × Int} {size : Int} (hi : i ≤ bs.length) (hg : 1 ≤ g.2) (hb : Ins size bs) : canB bs i g = true ↔ CanP bs i g := by
  unfold canB
  rw [Bool.not_eq_true', List.any_map, List.any_eq_false]
  constructor
  · intro h j y ne hj
    have := h y ((oth_mem hi).mpr ⟨j, ne, hj⟩)
    have h2 : meetB g y = false := by simpa using this
    exact (meetB_sep hg (hb j y hj).2.1).mp h2
  · intro h y hy
    obtain ⟨j, ne, hj⟩ := (oth_mem hi).mp hy
    have := (meetB_sep hg (hb j y hj).2.1).mpr (h j y ne hj)
    simpa using this
/-- where the blocks lie behind some moves -/
def gAt (gs : List (Int × Int)) (k : Int) : Int × Int := gs.getD k.toNat (0, 0)
def stF (gs : List (Int × Int)) (bs : List (Int × Int)) (os : List Int) : List (Int × Int) := os.foldl (fun now k => now.set k.toNat (gAt gs k)) bs
theorem gAt_of {gs : List (Int × Int)} {i : Nat} {g : Int × Int} (h : gs[i]? = some g) : gAt gs (i : Int) = g := by
  unfold gAt
  rw [Int.toNat_natCast, List.getD_eq_getElem?_getD, h]
  rfl
theorem stF_snoc (gs bs : List (Int × Int)) (os : List Int) (k : Int) : stF gs bs (os ++ [k]) = (stF gs bs os).set k.toNat (gAt gs k) := by
  unfold stF
  rw [List.foldl_append]
  rfl
theorem stF_len (gs bs : List (Int × Int)) : ∀ os : List Int, (stF gs bs os).length = bs.length := by
  intro os
  induction os using List.reverseRecOn' with
  | nil => rfl
  | snoc os k ih => rw [stF_snoc, List.length_set, ih]
theorem stF_get {gs bs : List (Int × Int)} (hl : gs.length = bs.length) : ∀ (os : List Int), (∀ k ∈ os, 0 ≤ k ∧ k < (bs.length : Int)) → ∀ i : Nat, (stF gs bs os)[i]? = if (i : Int) ∈ os then gs[i]? else bs[i]? := by
  intro os
  induction os using List.reverseRecOn' with
  | nil => intro _ i; simp [stF]
  | snoc os k ih =>
    intro h i
    have ih := ih (fun k hk => h k (List.mem_append_left _ hk)) i
    have hk := h k (by simp)
    rw [stF_snoc]
    by_cases c : k.toNat = i
    · have e : k = (i : Int) := by omega
      subst e
      obtain ⟨g, hg⟩ := get_of_lt (xs := gs) (i := i) (by omega)
      rw [Int.toNat_natCast, set_get (by rw [stF_len]; omega), if_pos (by simp), gAt_of hg, hg]
    · rw [set_get_ne c, ih]
      have : ((i : Int) ∈ os ++ [k]) ↔ ((i : Int) ∈ os) := by
        rw [List.mem_append, List.mem_singleton]
        exact ⟨fun z => z.elim id fun z => absurd (by omega) c, .inl⟩
      by_cases c2 : (i : Int) ∈ os
      · rw [if_pos c2, if_pos (this.mpr c2)]
      · rw [if_neg c2, if_neg (fun z => c2 (this.mp z))]
/-- each of the moves is possible when it is made -/
def SafeO (gs bs : List (Int × Int)) (os : List Int) : Prop := ∀ (i : Nat) (k : Int), os[i]? = some k → CanP (stF gs bs (os.take i)) k.toNat (gAt gs k)
/-- and no move of a lesser index is possible then -/
def LeastO (gs bs : List (Int × Int)) (W os : List Int) : Prop := ∀ (i : Nat) (k : Int), os[i]? = some k → ∀ k' ∈ W, k' < k → k' ∉ os.take i → ¬ CanP (stF gs bs (os.take i)) k'.toNat (gAt gs k')
/-- the moved blocks -/
def mvF (bs : List (Int × Int)) (st : List Int) : List Int := (rngL 0 bs.length).filter fun k => !decide (st.getD k.toNat 0 = (bs.getD k.toNat (0, 0)).1)
theorem mv_lt {bs : List (Int × Int)} {st : List Int} {k : Int} (h : k ∈ mvF bs st) : ∃ i : Nat, k = i ∧ i < bs.length := by
  have := rngL_mem.mp (List.mem_filter.mp h).1
  exact ⟨k.toNat, by omega, by omega⟩
theorem mv_nodup (bs : List (Int × Int)) (st : List Int) : (mvF bs st).Nodup := (rngL_nodup 0 bs.length).filter _
theorem rngL_asc (lo : Int) (n : Nat) : (rngL lo n).Pairwise (· < ·) := by
  unfold rngL
  rw [List.pairwise_map]
  exact List.pairwise_lt_range.imp fun h => by omega
theorem mv_asc (bs : List (Int × Int)) (st : List Int) : (mvF bs st).Pairwise (· < ·) := (rngL_asc 0 bs.length).filter _
theorem mv_not {bs : List (Int × Int)} {st : List Int} (hl : st.length = bs.length) {i : Nat} (h : (i : Int) ∉ mvF bs st) : (plF bs st)[i]? = bs[i]? := by
  by_cases c : i < bs.length
  · obtain ⟨b, hb⟩ := get_of_lt c
    obtain ⟨s, hs⟩ := get_of_lt (xs := st) (i := i) (by omega)
    have : ¬ ((!decide (st.getD (i : Int).toNat 0 = (bs.getD (i : Int).toNat (0, 0)).1)) = true) := fun z => h (List.mem_filter.mpr ⟨rngL_mem.mpr (by omega), z⟩)
    rw [Int.toNat_natCast, List.getD_eq_getElem?_getD, List.getD_eq_getElem?_getD, hb, hs] at this
    have e : s = b.1 := by simpa using this
    rw [plF_get hb hs, hb, e]
  · rw [List.getElem?_eq_none_iff.mpr (by rw [plF_len hl]; omega), List.getElem?_eq_none_iff.mpr (by omega)]
end Pf

namespace Pf
open PySem L2
/-! ### maps: pieces and the pairs that they stand for -/
abbrev Pc := T3 Int Int Int
def rowF (p : Pc) : List (Int × Int) := (rngL 0 p.c.toNat).map fun k => (p.a + k, p.b + k)
def expF (ps : List Pc) : List (Int × Int) := ps.flatMap rowF
def imgF (ps : List (Int × Int)) (x : Int) : Option Int := (ps.find? fun p => decide (p.1 = x)).map (·.2)
/-- one pair more behind the pieces -/
def joinF (ps : List Pc) (y : Int × Int) : List Pc := match ps.getLast? with
  | some q => if q.a + q.c = y.1 ∧ q.b + q.c = y.2 then ps.dropLast ++ [⟨q.a, q.b, q.c + 1⟩] else ps ++ [⟨y.1, y.2, 1⟩]
  | none => ps ++ [⟨y.1, y.2, 1⟩]
def canF (ps : List (Int × Int)) : List Pc := (sortP ps).foldl joinF []
def PosP (ps : List Pc) : Prop := ∀ p ∈ ps, 1 ≤ p.c
theorem snoc_cases {α : Type} (xs : List α) : xs = [] ∨ ∃ ys y, xs = ys ++ [y] := by
  cases h : xs.getLast? with
  | none => exact .inl (List.getLast?_eq_none_iff.mp h)
  | some y => obtain ⟨ys, e⟩ := List.getLast?_eq_some_iff.mp h; exact .inr ⟨ys, y, e⟩
theorem joinF_snoc (ps : List Pc) (q : Pc) (y : Int × Int) : joinF (ps ++ [q]) y = if q.a + q.c = y.1 ∧ q.b + q.c = y.2 then ps ++ [⟨q.a, q.b, q.c + 1⟩] else ps ++ [q] ++ [⟨y.1, y.2, 1⟩] := by
  unfold joinF
  rw [List.getLast?_concat, List.dropLast_concat]
theorem expF_app (ps qs : List Pc) : expF (ps ++ qs) = expF ps ++ expF qs := List.flatMap_append
theorem expF_one (q : Pc) : expF [q] = rowF q := by unfold expF; rw [List.flatMap_cons, List.flatMap_nil, List.append_nil]
theorem rowF_one (x y : Int) : rowF ⟨x, y, 1⟩ = [(x, y)] := by
  show (rngL 0 1).map _ = _
  simp [rngL]
theorem rowF_succ {q : Pc} (h : 0 ≤ q.c) : rowF ⟨q.a, q.b, q.c + 1⟩ = rowF q ++ [(q.a + q.c, q.b + q.c)] := by
  unfold rowF
  dsimp only
  rw [show (q.c + 1).toNat = q.c.toNat + 1 by omega, rngL_succ, List.map_append]
  congr 1
  simp only [List.map_cons, List.map_nil]
  rw [show (0 : Int) + (q.c.toNat : Int) = q.c by omega]
theorem joinF_exp {ps : List Pc} {y : Int × Int} (h : PosP ps) : expF (joinF ps y) = expF ps ++ [y] ∧ PosP (joinF ps y) := by
  rcases snoc_cases ps with rfl | ⟨qs, q, rfl⟩
  · refine ⟨?_, ?_⟩
    · show expF [⟨y.1, y.2, 1⟩] = _
      rw [expF_one, rowF_one]; rfl
    · intro p hp
      have hp' : p ∈ [(⟨y.1, y.2, 1⟩ : Pc)] := hp
      rw [List.mem_singleton.mp hp']
      exact Int.le_refl 1
  · have hq := h q (by simp)
    rw [joinF_snoc]
    split
    · rename_i c
      refine ⟨?_, ?_⟩
      · rw [expF_app, expF_app, expF_one, expF_one, rowF_succ (by omega), c.1, c.2, List.append_assoc]
      · intro p hp
        obtain hp | hp := List.mem_append.mp hp
        · exact h p (by simp [hp])
        · rw [List.mem_singleton.mp hp]; dsimp only; omega
    · refine ⟨?_, ?_⟩
      · rw [expF_app, expF_one, rowF_one]
      · intro p hp
        obtain hp | hp := List.mem_append.mp hp
        · exact h p hp
        · rw [List.mem_singleton.mp hp]; exact Int.le_refl 1
theorem foldJ_exp : ∀ (ys : List (Int × Int)) {ps : List Pc}, PosP ps → expF (ys.foldl joinF ps) = expF ps ++ ys ∧ PosP (ys.foldl joinF ps)
  | [], ps, h => by simp; exact h
  | y :: ys, ps, h => by
    have j := joinF_exp (y := y) h
    have r := foldJ_exp ys j.2
    rw [List.foldl_cons]
    refine ⟨?_, r.2⟩
    rw [r.1, j.1, List.append_assoc]; rfl
theorem canF_exp (ps : List (Int × Int)) : expF (canF ps) = sortP ps := by
  have := (foldJ_exp (sortP ps) (ps := []) (fun p h => by cases h)).1
  rw [show expF [] = [] from rfl, List.nil_append] at this
  exact this
theorem canF_pos (ps : List (Int × Int)) : PosP (canF ps) := (foldJ_exp (sortP ps) (ps := []) (fun p h => by cases h)).2
theorem sortP_of_perm {xs ys : List (Int × Int)} (h : xs.Perm ys) : sortP xs = sortP ys := sortP_eq ((sortP_perm xs).trans h) (sortP_srt xs)
theorem canF_perm {xs ys : List (Int × Int)} (h : xs.Perm ys) : canF xs = canF ys := by unfold canF; rw [sortP_of_perm h]
theorem joinF_len (ps : List Pc) (y : Int × Int) : (joinF ps y).length ≤ ps.length + 1 := by
  rcases snoc_cases ps with rfl | ⟨qs, q, rfl⟩
  · exact Nat.le_refl 1
  · rw [joinF_snoc]
    split <;> simp
theorem foldJ_len : ∀ (ys : List (Int × Int)) (ps : List Pc), (ys.foldl joinF ps).length ≤ ps.length + ys.length
  | [], ps => by simp
  | y :: ys, ps => by
    have := foldJ_len ys (joinF ps y)
    have := joinF_len ps y
    rw [List.length_cons, List.foldl_cons]
    omega
theorem sortP_len (ps : List (Int × Int)) : (sortP ps).length = ps.length := (sortP_perm ps).length_eq
theorem canF_len (ps : List (Int × Int)) : (canF ps).length ≤ ps.length := by
  have := foldJ_len (sortP ps) []
  rw [sortP_len, List.length_nil, Nat.zero_add] at this
  exact this
/-! images -/
theorem imgF_nil (x : Int) : imgF [] x = none := rfl
theorem imgF_cons (p : Int × Int) (ps : List (Int × Int)) (x : Int) : imgF (p :: ps) x = if p.1 = x then some p.2 else imgF ps x := by
  unfold imgF
  rw [List.find?_cons]
  by_cases c : p.1 = x <;> simp [c]
theorem imgF_app (ps qs : List (Int × Int)) (x : Int) : imgF (ps ++ qs) x = (imgF ps x).or (imgF qs x) := by
  induction ps with
  | nil => simp [imgF_nil]
  | cons p ps ih =>
    rw [List.cons_append, imgF_cons, imgF_cons, ih]
    split <;> simp
theorem imgF_row (a b : Int) (x : Int) : ∀ n lo : Nat, imgF ((rngL (lo : Int) n).map fun k => (a + k, b + k)) x = if a + lo ≤ x ∧ x < a + lo + n then some (b + x - a) else none
  | 0, lo => by rw [if_neg (by omega)]; rfl
  | n + 1, lo => by
    rw [rngL_cons, List.map_cons, imgF_cons]
    have ih := imgF_row a b x n (lo + 1)
    rw [show ((lo + 1 : Nat) : Int) = (lo : Int) + 1 by omega] at ih
    rw [ih]
    by_cases c : a + (lo : Int) = x
    · rw [if_pos c, if_pos (by omega)]; congr 1; omega
    · rw [if_neg c]
      by_cases c2 : a + (lo : Int) ≤ x ∧ x < a + lo + (n + 1 : Nat)
      · rw [if_pos c2, if_pos (by omega)]
      · rw [if_neg c2, if_neg (by omega)]
def mapF : List Pc → Int → Option Int
  | [], _ => none
  | p :: ps, x => if p.a ≤ x ∧ x < p.a + p.c then some (p.b + x - p.a) else mapF ps x
theorem mapF_exp : ∀ (ps : List Pc) (x : Int), mapF ps x = imgF (expF ps) x
  | [], x => rfl
  | p :: ps, x => by
    have := imgF_row p.a p.b x p.c.toNat 0
    rw [show p :: ps = [p] ++ ps from rfl, expF_app, expF_one, imgF_app, ← mapF_exp ps x]
    unfold rowF
    rw [show ((0 : Nat) : Int) = 0 from rfl] at this
    rw [this]
    show (if _ then _ else _) = _
    by_cases c : p.a ≤ x ∧ x < p.a + p.c
    · rw [if_pos c, if_pos (by omega)]; rfl
    · rw [if_neg c, if_neg (by omega)]; rfl
/-- no source twice -/
def Uniq (ps : List (Int × Int)) : Prop := (ps.map (·.1)).Nodup
theorem imgF_mem : ∀ {ps : List (Int × Int)} {x y : Int}, imgF ps x = some y → (x, y) ∈ ps
  | [], x, y, h => by cases h
  | p :: ps, x, y, h => by
    rw [imgF_cons] at h
    split at h
    · rename_i c
      obtain ⟨p1, p2⟩ := p
      dsimp only at c h
      cases h
      rw [← c]
      exact List.mem_cons_self
    · exact List.mem_cons_of_mem _ (imgF_mem h)
theorem imgF_of_mem : ∀ {ps : List (Int × Int)} {x y : Int}, Uniq ps → (x, y) ∈ ps → imgF ps x = some y
  | p :: ps, x, y, u, h => by
    unfold Uniq at u
    rw [List.map_cons, List.nodup_cons] at u
    rw [imgF_cons]
    obtain h | h := List.mem_cons.mp h
    · rw [← h, if_pos rfl]
    · have : p.1 ≠ x := fun z => u.1 (z ▸ List.mem_map.mpr ⟨(x, y), h, rfl⟩)
      rw [if_neg this]
      exact imgF_of_mem u.2 h
theorem Uniq.perm {ps qs : List (Int × Int)} (h : ps.Perm qs) (u : Uniq ps) : Uniq qs := ((h.map _).nodup_iff).mp u
theorem imgF_perm {ps qs : List (Int × Int)} (h : ps.Perm qs) (u : Uniq ps) (x : Int) : imgF ps x = imgF qs x := by
  cases e : imgF ps x with
  | some y => exact (imgF_of_mem (u.perm h) (h.mem_iff.mp (imgF_mem e))).symm
  | none =>
    cases e2 : imgF qs x with
    | none => rfl
    | some y => rw [imgF_of_mem u (h.mem_iff.mpr (imgF_mem e2))] at e; cases e
theorem mapF_can {ps : List (Int × Int)} (u : Uniq ps) (x : Int) : mapF (canF ps) x = imgF ps x := by
  rw [mapF_exp, canF_exp]
  exact (imgF_perm (sortP_perm ps).symm u x).symm
/-! by one and then by the other -/
def cmpF (ps : List (Int × Int)) (f : Int → Option Int) : List (Int × Int) := ps.filterMap fun p => (f p.2).map fun y => (p.1, y)
def swpF (ps : List (Int × Int)) : List (Int × Int) := ps.map fun p => (p.2, p.1)
theorem cmpF_perm {ps qs : List (Int × Int)} (h : ps.Perm qs) (f : Int → Option Int) : (cmpF ps f).Perm (cmpF qs f) := h.filterMap _
theorem swpF_perm {ps qs : List (Int × Int)} (h : ps.Perm qs) : (swpF ps).Perm (swpF qs) := h.map _
theorem swpF_swp (ps : List (Int × Int)) : swpF (swpF ps) = ps := by
  unfold swpF
  rw [List.map_map]
  exact List.map_id _
theorem cmpF_len (ps : List (Int × Int)) (f : Int → Option Int) : (cmpF ps f).length ≤ ps.length := List.length_filterMap_le _ _
theorem swpF_len (ps : List (Int × Int)) : (swpF ps).length = ps.length := List.length_map _
theorem cmpF_sub (ps : List (Int × Int)) (f : Int → Option Int) : ((cmpF ps f).map (·.1)).Sublist (ps.map (·.1)) := by
  induction ps with
  | nil => exact .refl _
  | cons p ps ih =>
    unfold cmpF at *
    rw [List.filterMap_cons]
    cases f p.2 with
    | none => exact List.Sublist.cons _ ih
    | some y => exact List.Sublist.cons_cons _ ih
theorem Uniq.cmp {ps : List (Int × Int)} (u : Uniq ps) (f : Int → Option Int) : Uniq (cmpF ps f) := u.sublist (cmpF_sub ps f)
theorem imgF_cmp : ∀ {ps : List (Int × Int)} (u : Uniq ps) (f : Int → Option Int) (x : Int), imgF (cmpF ps f) x = (imgF ps x).bind f := by
  intro ps u f x
  induction ps with
  | nil => rfl
  | cons p ps ih =>
    have u' : Uniq ps := by unfold Uniq at *; rw [List.map_cons, List.nodup_cons] at u; exact u.2
    have nin : p.1 ∉ ps.map (·.1) := by unfold Uniq at u; rw [List.map_cons, List.nodup_cons] at u; exact u.1
    have ih := ih u'
    rw [imgF_cons]
    unfold cmpF at *
    rw [List.filterMap_cons]
    cases e : f p.2 with
    | some y =>
      simp only [Option.map_some]
      rw [imgF_cons]
      dsimp only
      by_cases c : p.1 = x
      · rw [if_pos c, if_pos c, Option.bind_some, e]
      · rw [if_neg c, if_neg c, ih]
    | none =>
      simp only [Option.map_none]
      rw [ih]
      by_cases c : p.1 = x
      · rw [if_pos c, Option.bind_some, e]
        have : imgF ps x = none := by
          cases h : imgF ps x with
          | none => rfl
          | some y => exact absurd (List.mem_map.mpr ⟨_, imgF_mem h, rfl⟩) (c ▸ nin)
        rw [this]; rfl
      · rw [if_neg c]
theorem cmpF_cmp (ps : List (Int × Int)) (f g : Int → Option Int) : cmpF (cmpF ps f) g = cmpF ps fun x => (f x).bind g := by
  unfold cmpF
  rw [List.filterMap_filterMap]
  congr 1
  funext p
  cases e : f p.2 <;> simp [e]
theorem cmpF_congr {ps : List (Int × Int)} {f g : Int → Option Int} (h : ∀ x, f x = g x) : cmpF ps f = cmpF ps g := by rw [show f = g from funext h]
end Pf

namespace Pf
open PySem L2
open Rp (rp)
open RpA (ra)
/-! ### dicts with whole numbers as keys -/
structure DI (β : Type) : Type where
  m : List (Int × β)
def RD {β : Type} (r : V → β → Prop) : List (Key × V) → List (Int × β) → Prop
  | [], [] => True
  | (k, v) :: kvs, (i, x) :: l => k = .inl i ∧ r v x ∧ RD r kvs l
  | _, _ => False
section
variable {β : Type}
theorem RD.imp {r r' : V → β → Prop} (h : ∀ v x, r v x → r' v x) : ∀ {kvs : List (Key × V)} {l : List (Int × β)}, RD r kvs l → RD r' kvs l
  | [], [], _ => trivial
  | (_, _) :: _, (_, _) :: _, ⟨a, b, c⟩ => ⟨a, h _ _ b, RD.imp h c⟩
theorem RD.len {r : V → β → Prop} : ∀ {kvs : List (Key × V)} {l : List (Int × β)}, RD r kvs l → kvs.length = l.length
  | [], [], _ => rfl
  | (_, _) :: _, (_, _) :: _, ⟨_, _, c⟩ => by rw [List.length_cons, List.length_cons, RD.len c]
def getI (l : List (Int × β)) (i : Int) : Option β := (l.find? fun p => decide (p.1 = i)).map (·.2)
def putI (l : List (Int × β)) (i : Int) (x : β) : List (Int × β) := if (l.any fun p => decide (p.1 = i)) = true then l.map (fun p => if p.1 = i then (p.1, x) else p) else l ++ [(i, x)]
def dropI (l : List (Int × β)) (i : Int) : List (Int × β) := l.filter fun p => decide (p.1 ≠ i)
theorem getI_cons (p : Int × β) (l : List (Int × β)) (i : Int) : getI (p :: l) i = if p.1 = i then some p.2 else getI l i := by
  unfold getI
  rw [List.find?_cons]
  by_cases c : p.1 = i <;> simp [c]
theorem valV_cons' (k k' : Key) (v : V) (kvs : List (Key × V)) : valV ((k', v) :: kvs) k = if k' = k then some v else valV kvs k := by
  unfold valV
  rw [List.find?_cons]
  by_cases c : k' = k <;> simp [c]
theorem key_eq {i j : Int} : ((Sum.inl i : Key) = .inl j) ↔ i = j := ⟨fun h => by cases h; rfl, fun h => by rw [h]⟩
theorem RD.get {r : V → β → Prop} (i : Int) : ∀ {kvs : List (Key × V)} {l : List (Int × β)}, RD r kvs l → (valV kvs (.inl i)).isSome = (getI l i).isSome ∧ ∀ x, getI l i = some x → ∃ v, valV kvs (.inl i) = some v ∧ r v x
  | [], [], _ => ⟨rfl, fun x h => by cases h⟩
  | (k, v) :: kvs, (j, x) :: l, ⟨a, b, c⟩ => by
    subst a
    have ih := RD.get i c
    rw [valV_cons', getI_cons]
    by_cases e : j = i
    · subst e
      rw [if_pos rfl, if_pos rfl]
      exact ⟨rfl, fun y h => by cases h; exact ⟨v, rfl, b⟩⟩
    · rw [if_neg (fun z => e (key_eq.mp z)), if_neg e]
      exact ih
theorem RD.any {r : V → β → Prop} (i : Int) : ∀ {kvs : List (Key × V)} {l : List (Int × β)}, RD r kvs l → (kvs.any fun kv => decide (kv.1 = (.inl i : Key))) = l.any fun p => decide (p.1 = i)
  | [], [], _ => rfl
  | (k, v) :: kvs, (j, x) :: l, ⟨a, b, c⟩ => by
    subst a
    rw [List.any_cons, List.any_cons, RD.any i c]
    congr 1
    dsimp only
    by_cases e : j = i
    · rw [decide_eq_true (key_eq.mpr e), decide_eq_true e]
    · rw [decide_eq_false (fun z => e (key_eq.mp z)), decide_eq_false e]
theorem RD.mapP {r : V → β → Prop} {i : Int} {v0 : V} {x0 : β} (h0 : r v0 x0) : ∀ {kvs : List (Key × V)} {l : List (Int × β)}, RD r kvs l → RD r (kvs.map fun kv => if kv.1 = (.inl i : Key) then (kv.1, v0) else kv) (l.map fun p => if p.1 = i then (p.1, x0) else p)
  | [], [], _ => trivial
  | (k, v) :: kvs, (j, x) :: l, ⟨a, b, c⟩ => by
    subst a
    rw [List.map_cons, List.map_cons]
    by_cases e : j = i
    · subst e
      rw [if_pos rfl, if_pos rfl]
      exact ⟨rfl, h0, RD.mapP h0 c⟩
    · rw [if_neg (fun z => e (key_eq.mp z)), if_neg e]
      exact ⟨rfl, b, RD.mapP h0 c⟩
theorem RD.app {r : V → β → Prop} : ∀ {kvs : List (Key × V)} {l : List (Int × β)} {kvs' : List (Key × V)} {l' : List (Int × β)}, RD r kvs l → RD r kvs' l' → RD r (kvs ++ kvs') (l ++ l')
  | [], [], _, _, _, h => h
  | (_, _) :: _, (_, _) :: _, _, _, ⟨a, b, c⟩, h => ⟨a, b, RD.app c h⟩
theorem RD.put {r : V → β → Prop} {i : Int} {v0 : V} {x0 : β} (h0 : r v0 x0) {kvs : List (Key × V)} {l : List (Int × β)} (h : RD r kvs l) : RD r (putK kvs (.inl i) v0) (putI l i x0) := by
  unfold putK putI
  rw [RD.any i h]
  split
  · exact RD.mapP h0 h
  · exact h.app ⟨rfl, h0, trivial⟩
theorem RD.drop {r : V → β → Prop} {i : Int} : ∀ {kvs : List (Key × V)} {l : List (Int × β)}, RD r kvs l → RD r (dropK kvs (.inl i)) (dropI l i)
  | [], [], _ => trivial
  | (k, v) :: kvs, (j, x) :: l, ⟨a, b, c⟩ => by
    subst a
    have ih := RD.drop (i := i) c
    unfold dropK dropI at *
    rw [List.filter_cons, List.filter_cons]
    dsimp only
    by_cases e : j = i
    · rw [if_neg (by simp [e]), if_neg (by simp [e])]
      exact ih
    · rw [if_pos (by simp only [decide_eq_true_eq]; exact fun z => e (key_eq.mp z)), if_pos (by simpa using e)]
      exact ⟨rfl, b, ih⟩
theorem putK_len (kvs : List (Key × V)) (k : Key) (v : V) : (putK kvs k v).length ≤ kvs.length + 1 := by
  unfold putK
  split
  · rw [List.length_map]; omega
  · rw [List.length_append]; exact Nat.le_refl _
theorem dropK_len (kvs : List (Key × V)) (k : Key) : (dropK kvs k).length ≤ kvs.length := List.length_filter_le _ _
end
/-- a dict stands at a -/
def Ds {β : Type} [Rp β] (ms : Ms) (H : Hp) (a : Addr) (d : DI β) : Prop := ∃ kvs, H a = some (.dK kvs) ∧ RD (rp ms H) kvs d.m ∧ kvs.length ≤ sizeLine
section
variable {β : Type} [Rp β] {ms ms' : Ms} {H H' : Hp} {a m p : Addr} {d : DI β} {B : Ms}
theorem Ds.step (h : Ds ms H a d) (M : Mv ms H ms' H') (e : ∀ o, H a = some o → H' a = some o) : Ds ms' H' a d := let ⟨kvs, e1, r, l⟩ := h; ⟨kvs, e _ e1, r.imp fun _ _ z => Rp.mv z M, l⟩
theorem Ds.same (h : Ds ms H a d) (s : Same H H') : Ds ms H' a d := h.step (Mv.same s) fun o e => s a o e
theorem Ds.but (h : Ds ms H a d) (hm : m ∈ ms) (n : a ≠ m) (s : But m H H') : Ds ms H' a d := h.step (Mv.but hm s) fun o e => s a o n e
theorem Ds.bu (h : Ds ms H a d) (hB : ∀ a ∈ B, a ∈ ms) (n : a ∉ B) (s : Bu B H H') : Ds ms H' a d := h.step (Mv.bu hB s) fun o e => s.1 a o n e
theorem Ds.new (h : Ds ms H a d) (np : H p = none) (s : Same H H') : Ds (p :: ms) H' a d := h.step (Mv.new np s) fun o e => s a o e
theorem Ds.less (h : Ds ms H a d) (l : ∀ a ∈ ms', a ∈ ms) : Ds ms' H a d := h.step (Mv.less l) fun o e => e
theorem Ds.alive (h : Ds ms H a d) : H a ≠ none := by obtain ⟨kvs, e, _⟩ := h; rw [e]; exact fun z => by cases z
theorem Ds.ne (h : Ds ms H a d) (np : H p = none) : a ≠ p := fun z => h.alive (z ▸ np)
theorem Ds.lt {H0 : Hp} (h : Ds ms H0 a d) (n : a ∉ B) (L : Lt B ms H0 ms' H) : Ds ms' H a d := h.step L.M fun o e => L.S a o n e
end
instance instRpDI {β : Type} [Rp β] : Rp (DI β) := ⟨fun ms H v d => ∃ a, v = .ref a ∧ a ∉ ms ∧ Ds ms H a d, fun {ms ms' H H' v x} h M => by
  obtain ⟨a, rfl, n, kvs, e, r, l⟩ := h
  obtain ⟨n', e'⟩ := M a _ n e
  exact ⟨a, rfl, n', kvs, e', r.imp fun _ _ z => Rp.mv z M, l⟩⟩
def putF {β : Type} (d : DI β) (i : Int) (x : β) : Option (DI β) := if d.m.length < sizeLine then some ⟨putI d.m i x⟩ else none
def delF {β : Type} (d : DI β) (i : Int) : Option (DI β) := if (getI d.m i).isSome = true then some ⟨dropI d.m i⟩ else none
/-- a dict that can be read at a, locked or not -/
def Er {β : Type} [Rp β] (ms : Ms) (H : Hp) (a : Addr) (d : DI β) : Prop := ∃ kvs, Rd H a (.dK kvs) ∧ RD (rp ms H) kvs d.m
theorem Ds.er {β : Type} [Rp β] {ms : Ms} {H : Hp} {a : Addr} {d : DI β} (h : Ds ms H a d) : Er ms H a d := let ⟨kvs, e, r, _⟩ := h; ⟨kvs, .inl e, r⟩
theorem Er.bu {β : Type} [Rp β] {B ms : Ms} {H H' : Hp} {a : Addr} {d : DI β} (h : Er ms H a d) (hB : ∀ a ∈ B, a ∈ ms) (n : a ∉ B) (s : Bu B H H') : Er ms H' a d := by
  obtain ⟨kvs, e, r⟩ := h
  refine ⟨kvs, ?_, r.imp fun _ _ z => Rp.mv z (Mv.bu hB s)⟩
  rcases e with e | ⟨od, e⟩
  · exact .inl (s.1 _ _ n e)
  · exact .inr ⟨od, s.1 _ _ n e⟩
/-- a dict to be read, frozen or not -/
def Ed {β : Type} [Rp β] (B ms : Ms) (te : TE) (σ : St) (H0 : Hp) (p : Hq) (d : DI β) (q : Hq) : Prop :=
  ∀ H, Bu B H0 H → p ms H → ∀ Q : VK, (∀ a H', Bu B H H' → q ms H' → a ∉ B → Er ms H' a d → Q (.ref a) H') → te σ H Q
section
variable {β : Type} [Rp β] {K : PySem.W.Frag} {B ms : Ms} {σ : St} {H0 : Hp} {p q r : Hq} {ta tb te : TE} {d d' : DI β} {i j : Int} {x : β}
theorem ed_of (hB : ∀ a ∈ B, a ∈ ms) (h : Ex B ms te σ H0 p d q) : Ed B ms te σ H0 p d q := fun H b hp Q k => h H b hp _ fun v H1 b1 q1 ⟨a, e, n, l⟩ => by
  subst e
  exact k a H1 b1 q1 (fun z => n (hB a z)) (Ds.er l)
theorem ed_var {n : Nat} {a : Addr} (W : Wd B ms H0) (hs : σ[n]? = some (some (.ref a))) (nB : a ∉ B) (h : Ds ms H0 a d) : Ed B ms (tVar n) σ H0 p d p := fun H b hp Q k => ⟨_, hs, k a H (Bu.refl B H) hp nB (h.bu W.hB nB b).er⟩
theorem ex_dget (h1 : Ed B ms ta σ H0 p d q) (h2 : Ex B ms tb σ H0 q i r) (W : Wd B ms H0) (e : getI d.m i = some x) : Ex B ms (tDGet ta tb) σ H0 p x r := fun H b hp Q k => h1 H b hp _ fun a H1 b1 q1 na l1 => h2 H1 (b.trans b1) q1 _ fun u H2 b2 q2 e2 => by
  obtain ⟨kvs, ev, rd⟩ := l1.bu W.hB na b2
  obtain ⟨v, hv, rv⟩ := (rd.get i).2 x e
  have e2' : u = .int i := e2
  subst e2'
  exact ⟨a, v, rfl, .inl ⟨kvs, .inl i, ev, rfl, hv.symm⟩, k v H2 (b1.trans b2) q2 rv⟩
theorem ex_din (h1 : Ex B ms ta σ H0 p i q) (h2 : Ed B ms tb σ H0 q d r) : Ex B ms (tDIn ta tb) σ H0 p (getI d.m i).isSome r := fun H b hp Q k => h1 H b hp _ fun u H1 b1 q1 e1 => h2 H1 (b.trans b1) q1 _ fun a H2 b2 q2 na ⟨kvs, ev, rd⟩ => by
  have e1' : u = .int i := e1
  subst e1'
  refine ⟨a, valV kvs (.inl i), rfl, .inl ⟨kvs, .inl i, ev, rfl, rfl⟩, ?_⟩
  rw [(rd.get i).1]
  exact k _ H2 (b1.trans b2) q2 rfl
theorem ex_dnotin (h1 : Ex B ms ta σ H0 p i q) (h2 : Ed B ms tb σ H0 q d r) : Ex B ms (tDNotIn ta tb) σ H0 p (!(getI d.m i).isSome) r := fun H b hp Q k => h1 H b hp _ fun u H1 b1 q1 e1 => h2 H1 (b.trans b1) q1 _ fun a H2 b2 q2 na ⟨kvs, ev, rd⟩ => by
  have e1' : u = .int i := e1
  subst e1'
  refine ⟨a, valV kvs (.inl i), rfl, .inl ⟨kvs, .inl i, ev, rfl, rfl⟩, ?_⟩
  rw [(rd.get i).1]
  exact k _ H2 (b1.trans b2) q2 rfl
/-- {} -/
theorem dn_mk {H : Hp} {Q : VK} (β : Type) [Rp β] (W : Wd B ms H) (hq : Sb B q) (hp : q ms H) (k : ∀ a H', Bu B H H' → H a = none → q (a :: ms) H' → Wd B (a :: ms) H' → Mv ms H (a :: ms) H' → Ds (a :: ms) H' a (⟨[]⟩ : DI β) → Q (.ref a) H') : tDNewK σ H Q := fun a na => by
  have s := same_upd (o := .dK []) na
  have e : (upd H a (.dK [])) a = some (.dK []) := upd_same
  have M : Mv ms H (a :: ms) (upd H a (.dK [])) := Mv.new na s
  have D : Ds (a :: ms) (upd H a (.dK [])) a (⟨[]⟩ : DI β) := ⟨[], e, trivial, Nat.zero_le _⟩
  exact k a _ (Bu.same s) na (hq.new na s hp) (W.new (Bu.same s) D.alive) M D
/-- d[e] = e -/
theorem s_dput {D : Ends} {H : Hp} {n : Nat} {m : Addr} (W : Wd B ms H) (hs : σ[n]? = some (some (.ref m))) (l : Ds ms H m d) (hm : m ∈ ms) (nB : m ∉ B) (hq : Sb B r) (hv : Ex B ms ta σ H p x q) (hk : Ex B ms tb σ H q i r) (hp : p ms H) (e : putF d i x = some d')
    (k : ∀ H', Bu (m :: B) H H' → r ms H' → Wd B ms H' → Mv ms H ms H' → Ds ms H' m d' → D.nx σ H') : sDPut (tVar n) tb ta D σ H := by
  obtain ⟨kvs, ev, rd, ll⟩ := l
  refine hv H (Bu.refl B H) hp _ fun v H1 b1 q1 rv => ⟨_, hs, hk H1 b1 q1 _ fun u H2 b2 q2 e2 => ?_⟩
  have e2' : u = .int i := e2
  subst e2'
  unfold putF at e
  split at e
  · rename_i hl
    cases e
    have b3 := b1.trans b2
    have ev2 := b3.1 _ _ nB ev
    have hl' : kvs.length < sizeLine := by rw [rd.len]; exact hl
    refine ⟨m, _, rfl, DPut.k (k := .inl i) ev2 hl', ?_⟩
    have u2 : But m H2 (upd H2 m (.dK (putK kvs (.inl i) v))) := But.upd
    have h2 : (upd H2 m (.dK (putK kvs (.inl i) v))) m = some (.dK (putK kvs (.inl i) v)) := upd_same
    have W1 := W.bu b3
    have M1 : Mv ms H2 ms (upd H2 m (.dK (putK kvs (.inl i) v))) := Mv.but hm u2
    have rd2 : RD (rp ms H2) kvs d.m := rd.imp fun _ _ z => Rp.mv z (W.mv b3)
    have rv2 : rp ms H2 v x := Rp.mv rv (Mv.bu W.hB b2)
    refine k _ ⟨fun a o n e => ?_, fun a e => ?_⟩ ?_ ⟨W.hB, W1.al.but u2 h2⟩ ((W.mv b3).trans M1) ⟨_, h2, (rd2.put rv2).imp fun _ _ z => Rp.mv z M1, Nat.le_trans (putK_len _ _ _) hl'⟩
    · have n' := notc n
      exact u2 _ _ n'.1 (b3.1 _ _ n'.2 e)
    · by_cases qm : a = m
      · rw [qm, h2]; exact fun z => by cases z
      · have := b3.2 a e
        cases h' : H2 a with
        | none => exact absurd h' this
        | some o' => rw [u2 a o' qm h']; exact fun z => by cases z
    · exact hq _ _ _ _ q2 M1 fun a ha o e => u2 _ _ (nab ha nB) e
  · cases e
/-- del d[e] -/
theorem s_ddel {D : Ends} {H : Hp} {n : Nat} {m : Addr} (W : Wd B ms H) (hs : σ[n]? = some (some (.ref m))) (l : Ds ms H m d) (hm : m ∈ ms) (nB : m ∉ B) (hq : Sb B r) (hk : Ex B ms tb σ H p i r) (hp : p ms H) (e : delF d i = some d')
    (k : ∀ H', Bu (m :: B) H H' → r ms H' → Wd B ms H' → Mv ms H ms H' → Ds ms H' m d' → D.nx σ H') : sDDel (tVar n) tb D σ H := by
  obtain ⟨kvs, ev, rd, ll⟩ := l
  refine ⟨_, hs, hk H (Bu.refl B H) hp _ fun u H2 b3 q2 e2 => ?_⟩
  have e2' : u = .int i := e2
  subst e2'
  unfold delF at e
  split at e
  · rename_i hl
    cases e
    have ev2 := b3.1 _ _ nB ev
    refine ⟨m, kvs, .inl i, rfl, ev2, rfl, by rw [(rd.get i).1]; exact hl, ?_⟩
    have u2 : But m H2 (upd H2 m (.dK (dropK kvs (.inl i)))) := But.upd
    have h2 : (upd H2 m (.dK (dropK kvs (.inl i)))) m = some (.dK (dropK kvs (.inl i))) := upd_same
    have W1 := W.bu b3
    have M1 : Mv ms H2 ms (upd H2 m (.dK (dropK kvs (.inl i)))) := Mv.but hm u2
    have rd2 : RD (rp ms H2) kvs d.m := rd.imp fun _ _ z => Rp.mv z (W.mv b3)
    refine k _ ⟨fun a o n e => ?_, fun a e => ?_⟩ ?_ ⟨W.hB, W1.al.but u2 h2⟩ ((W.mv b3).trans M1) ⟨_, h2, rd2.drop.imp fun _ _ z => Rp.mv z M1, Nat.le_trans (dropK_len _ _) ll⟩
    · have n' := notc n
      exact u2 _ _ n'.1 (b3.1 _ _ n'.2 e)
    · by_cases qm : a = m
      · rw [qm, h2]; exact fun z => by cases z
      · have := b3.2 a e
        cases h' : H2 a with
        | none => exact absurd h' this
        | some o' => rw [u2 a o' qm h']; exact fun z => by cases z
    · exact hq _ _ _ _ q2 M1 fun a ha o e => u2 _ _ (nab ha nB) e
  · cases e
end
end Pf

namespace Pf
open PySem L2
open Rp (rp)
open RpA (ra)
/-! ### defs that may raise an error of one's own; answers of two kinds -/
instance instRpSum {α β : Type} [Rp α] [Rp β] : Rp (α ⊕ β) := ⟨fun ms H v x => match x with | .inl a => rp ms H v a | .inr b => rp ms H v b, fun {ms ms' H H' v x} h M => by
  cases x with
  | inl a => exact Rp.mv (α := α) h M
  | inr b => exact Rp.mv (α := β) h M⟩
/-- unlike in kind, so never equal -/
class EncDj (α β : Type) [DecidableEq α] [DecidableEq β] [Enc α] [Enc β] : Prop where
  lr : ∀ (a : α) (b : β), PyData.eqv (Enc.enc a) (Enc.enc b) = false
  rl : ∀ (a : α) (b : β), PyData.eqv (Enc.enc b) (Enc.enc a) = false
instance {β : Type} [DecidableEq β] [Enc β] : EncDj Int (List β) := ⟨fun _ _ => rfl, fun _ _ => rfl⟩
instance {β γ : Type} [DecidableEq β] [Enc β] [DecidableEq γ] [Enc γ] : EncDj Int (β × γ) := ⟨fun _ _ => rfl, fun _ _ => rfl⟩
instance {β γ δ : Type} [DecidableEq β] [Enc β] [DecidableEq γ] [Enc γ] [DecidableEq δ] [Enc δ] : EncDj Int (T3 β γ δ) := ⟨fun _ _ => rfl, fun _ _ => rfl⟩
instance encSum {α β : Type} [DecidableEq α] [DecidableEq β] [Enc α] [Enc β] [EncDj α β] : Enc (α ⊕ β) := ⟨fun x => match x with | .inl a => Enc.enc a | .inr b => Enc.enc b, max (Enc.dep α) (Enc.dep β),
  fun x => by cases x with | inl a => exact Enc.lay a | inr b => exact Enc.lay b,
  fun x => by
    cases x with
    | inl a => have := Enc.dle a; dsimp only; omega
    | inr b => have := Enc.dle b; dsimp only; omega,
  fun x y => by
    cases x <;> cases y <;> dsimp only
    · rw [Enc.eqv]; simp
    · rw [EncDj.lr]; simp
    · rw [EncDj.rl]; simp
    · rw [Enc.eqv]; simp⟩
instance {α β : Type} [DecidableEq α] [DecidableEq β] [Enc α] [Enc β] [EncDj α β] [Rp α] [Rp β] [RpD α] [RpD β] : RpD (α ⊕ β) := ⟨fun {K ms H v x} h => by
  cases x with
  | inl a => exact RpD.dp (α := α) (x := a) h
  | inr b => exact RpD.dp (α := β) (x := b) h⟩
section
variable {α β : Type} [Rp α] [Rp β] {K : PySem.W.Frag} {B ms : Ms} {σ : St} {H0 : Hp} {p q r : Hq} {ta tb te : TE} {x : α} {y : β}
theorem ex_inl (h : Ex B ms te σ H0 p x q) : Ex B ms te σ H0 p (.inl x : α ⊕ β) q := h
theorem ex_inr (h : Ex B ms te σ H0 p y q) : Ex B ms te σ H0 p (.inr y : α ⊕ β) q := h
theorem ex_isiAL {x : Int ⊕ List β} (h : Ex B ms te σ H0 p x q) : Ex B ms (tCB (rIsi K) (tCons te (tCons (tC (.ty "list")) tNil))) σ H0 p x.isRight q := fun H b hp Q k => h H b hp _ fun v H1 b1 q1 e => by
  cases x with
  | inl i =>
    have e' : v = .int i := e
    subst e'
    exact r_isi (.int i) (show kitB "int" "list" = some false by decide +kernel) (k _ H1 b1 q1 rfl)
  | inr xs =>
    obtain ⟨a, e1, n, vs, ev, _⟩ := (show rp ms H1 v xs from e)
    subst e1
    exact r_isi_ll ev (k _ H1 b1 q1 rfl)
/-! for x in a pair -/
theorem ei_tup2 {u : α × α} (h : Ex B ms te σ H0 p u q) : Ei B ms (iTup K te) σ H0 p [u.1, u.2] q := fun H b hp R k => h H b hp _ fun v H1 b1 q1 hr => by
  obtain ⟨a, v1, v2, e, n, eh, r1, r2⟩ := id hr
  subst e
  exact ⟨a, rfl, ⟨_, SqT.of eh⟩, k _ (fun ms H => rp ms H (.ref a) u) H1 b1 q1 ⟨fun h M => Rp.mv h M⟩ hr itok_tup2⟩
/-! what raises -/
def raiN (i : Int) : Option Nat := if 0 ≤ i ∧ i ≤ 1000 then some i.toNat else none
theorem raiN_ok {i : Int} {n : Nat} (h : raiN i = some n) : i = (n : Int) ∧ n ≤ 1000 := by
  unfold raiN at h
  split at h
  · have := Option.some.inj h
    omega
  · cases h
def spX {ι ρ : Type} [RpA ι] [Rp ρ] (C : Addr) (f : Str) (F : ι → Option (Except Nat ρ)) : Sp := fun vs H Q E => ∃ (ms : Ms) (i : ι) (r : Except Nat ρ), Al ms H ∧ ra ms H vs i ∧ F i = some r ∧
  match r with
  | .ok x => ∀ v H', Same H H' → rp ms H' v x → Q v H'
  | .error n => ∀ (d : Addr) (H1 H' : Hp), Same H H1 → Same H1 H' → H1 d = none → H' d = some (.xd [(f, .int (n : Int))]) → E (.ref C) (some d) H'
theorem r_rai1 {C : Addr} {f : Str} {H : Hp} {W : XK} {i : Int} {n : Nat} {ts : TA} (h : Ea B ms ts σ H p (i, ()) q) (hp : p ms H) (e : raiN i = some n)
    (k : ∀ (d : Addr) (H1 H' : Hp), Bu B H H1 → Same H1 H' → H1 d = none → H' d = some (.xd [(f, .int (n : Int))]) → W (.ref C) (some d) H') : tMkO C (sp_exc1 C f) [] ts σ H W := by
  obtain ⟨rfl, hn⟩ := raiN_ok e
  refine h H (Bu.refl B H) hp _ fun vs H1 b1 q1 e1 => ?_
  obtain ⟨v1, _, rfl, r1, e0⟩ := e1
  have e0' : _ = [] := e0
  have r1' : v1 = .int (n : Int) := r1
  subst e0' r1'
  exact exc1_out hn fun d H' s nd hd => k d H1 H' b1 s nd hd
def okF {α : Type} : Option (Except Nat α) → Option α
  | some (.ok x) => some x
  | _ => none
theorem okF_inv {α : Type} {y : Option (Except Nat α)} {x : α} (h : okF y = some x) : y = some (.ok x) := by
  unfold okF at h
  split at h
  · cases h; rfl
  · cases h
theorem okF_ok {α : Type} {y : Option (Except Nat α)} {x : α} (h : y = some (.ok x)) : okF y = some x := by rw [h]; rfl
theorem ex_callX {ι : Type} [RpA ι] {C : Addr} {f : Str} {F : ι → Option (Except Nat α)} {ts : TA} {E : XK} {i : ι} (W : Wd B ms H0) (hq : Sb B q) (h : Ea B ms ts σ H0 p i q) (e : okF (F i) = some x) : Ex B ms (tCall (spX C f F) [] E ts) σ H0 p x q := fun H b hp Q k => r_call (h H b hp _ fun vs H1 b1 q1 e1 =>
  ⟨ms, i, .ok x, (W.al.bu b).bu b1, e1, okF_inv e, fun v H' s rv => k v H' (b1.trans (Bu.same s)) (hq.same s q1) rv⟩)
end
end Pf

namespace Pf
open PySem L2
open Rp (rp)
open RpA (ra)
/-! ### objects whose fields are set once -/
theorem pe_fldA {X : Cx} {K : PySem.W.Frag} {e : Expr} {f : Str} {pos : Pos} {ta : TE} (he : PE X e ta) (hK : X.K = K := by rfl) (hb : attributeBase e f X.env (eval e X.env) = eval e X.env := by rfl) : PE X (.Attribute e f pos) (tFld K ta f) := hK ▸ pe_fld he hb
section
variable {α β : Type} [Rp α] [Rp β] {K : PySem.W.Frag} {B ms : Ms} {σ : St} {H0 : Hp} {p q : Hq} {te : TE} {x : α} {y : β} {C : Addr} {f : Str}
/-- e.f -/
theorem ex_fldG (cl : Cls K C) (na : NoAttr K C f) (h : Ex B ms te σ H0 p x q) (get : ∀ {ms : Ms} {H : Hp} {v : V}, rp ms H v x → ∃ (a dx : Addr) (fs : List (Str × V)) (u : V), v = .ref a ∧ H a = some (.ins C dx fs) ∧ fs.lookup f = some u ∧ rp ms H u y) : Ex B ms (tFld K te f) σ H0 p y q := fun H b hp Q k => h H b hp _ fun v H1 b1 q1 r1 => by
  obtain ⟨a, dx, fs, u, e, eh, el, ru⟩ := get r1
  subst e
  exact ⟨a, C, dx, fs, u, rfl, eh, cl, na, el, k u H1 b1 q1 ru⟩
/-- an object in the making -/
def Xi (x C dx : Addr) (fs : List (Str × V)) : Hq := fun _ H => H x = some (.ins C dx fs)
theorem sb_xi {x dx : Addr} {fs : List (Str × V)} : Sb [x] (Xi x C dx fs) := fun ms ms' H H' e _ h => h x (by simp) _ e
theorem putF_len (f : Str) (v : V) : ∀ fs : List (Str × V), (L2.putF f v fs).length ≤ fs.length + 1
  | [] => Nat.le_refl _
  | (g, x) :: r => by
    unfold L2.putF
    split
    · simp
    · have := putF_len f v r
      rw [List.length_cons, List.length_cons]
      omega
theorem plt {f : Str} {v : V} {fs : List (Str × V)} {k n : Nat} (h : fs.length + (k + 1) < n) : (L2.putF f v fs).length + k < n := by
  have := putF_len f v fs
  omega
/-- self.f = e -/
theorem s_fld {D : Ends} {H : Hp} {o dx : Addr} {fs : List (Str × V)} (W : Wd [o] (o :: ms) H) (hs : σ[0]? = some (some (.ref o))) (h : Ex [o] (o :: ms) te σ H (Xi o C dx fs) y (Xi o C dx fs)) (hq : Xi o C dx fs (o :: ms) H) (cl : Cls K C) (na : NoAttr K C f) (hl : fs.length + 0 < 1000)
    (k : ∀ v H', Bu [o] H H' → Wd [o] (o :: ms) H' → Mv (o :: ms) H (o :: ms) H' → Xi o C dx (L2.putF f v fs) (o :: ms) H' → rp (o :: ms) H' v y → D.nx σ H') : sFld K (tVar 0) te f D σ H :=
  h H (Bu.refl _ H) hq _ fun v H1 b1 q1 rv => ⟨_, hs, o, C, dx, fs, rfl, q1, cl, na, hl, by
    have u2 : But o H1 (upd H1 o (.ins C dx (L2.putF f v fs))) := But.upd
    have h2 : (upd H1 o (.ins C dx (L2.putF f v fs))) o = some (.ins C dx (L2.putF f v fs)) := upd_same
    have W1 := W.bu b1
    have M1 : Mv (o :: ms) H1 (o :: ms) (upd H1 o (.ins C dx (L2.putF f v fs))) := Mv.but List.mem_cons_self u2
    refine k v _ ⟨fun a ob n e => ?_, fun a e => ?_⟩ ⟨W.hB, W1.al.but u2 h2⟩ ((W.mv b1).trans M1) h2 (Rp.mv rv M1)
    · exact u2 _ _ (fun z => n (by rw [z]; simp)) (b1.1 _ _ n e)
    · by_cases qm : a = o
      · rw [qm, h2]; exact fun z => by cases z
      · have := b1.2 a e
        cases h' : H1 a with
        | none => exact absurd h' this
        | some o' => rw [u2 a o' qm h']; exact fun z => by cases z⟩
/-- `__init__` -/
def spI {ι ρ : Type} [RpA ι] [Rp ρ] (C : Addr) (F : ι → Option ρ) : Sp := fun vs H Q _ => ∃ (ms : Ms) (o dx : Addr) (us : List V) (i : ι) (r : ρ), vs = .ref o :: us ∧ H o = some (.ins C dx []) ∧ o ∉ ms ∧ Al ms H ∧ ra (o :: ms) H us i ∧ F i = some r ∧
  ∀ H', Bu [o] H H' → rp ms H' (.ref o) r → Q .non H'
/-- C(e, ..) -/
theorem ex_make {ι : Type} [RpA ι] {F : ι → Option α} {ts : TA} {E : XK} {i : ι} (W : Wd B ms H0) (hq : Sb B q) (h : Ea B ms ts σ H0 p i q) (e : F i = some x) : Ex B ms (tMake C (spI C F) [] E ts) σ H0 p x q := fun H b hp Q k => h H b hp _ fun vs H1 b1 q1 e1 o dx no ndx ne => by
  have W1 := (W.bu b).bu b1
  have s1 : Same H1 (upd H1 dx (.own o)) := same_upd ndx
  have no1 : (upd H1 dx (.own o)) o = none := by rw [upd_ne (fun z => ne z.symm)]; exact no
  have s2 : Same H1 (upd (upd H1 dx (.own o)) o (.ins C dx [])) := fun a ob ea => same_upd no1 a ob (s1 a ob ea)
  have onm : o ∉ ms := W1.al.not no
  refine ⟨ms, o, dx, vs, i, x, by simp, upd_same, onm, W1.al.same s2, RpA.mv e1 (Mv.new no s2), e, fun H' bu rr => ⟨rfl, ?_⟩⟩
  have s3 : Same H1 H' := fun a ob ea => bu.1 a ob (fun z => by rw [List.mem_singleton.mp z, no] at ea; cases ea) (s2 a ob ea)
  exact k (.ref o) H' (b1.trans (Bu.same s3)) (hq.same s3 q1) rr
end
/-- a class that may be called -/
structure RCal (P : Program) (w : World) (K : PySem.W.Frag) (mg : Str → Option Value) (base : Heap) (x : Str) (C : Addr) (k : Nat) (f : Addr) (fd : FuncData) (ps : List Str) (sp : Sp) : Prop where
  ok : FnOk P w K mg base CX0 k f fd ps sp
  M : Mk K C f
  b : Binds K fd ps []
  m : mg x = some (.ref C)
end Pf

namespace Pf
open PySem L2 PyProof.Rows
section
variable {prog : Program} {w : World} {A : Around} {E : Value → Shared → Prop} {s : Shared} {T : String} {r d : Addr} {n : Nat} {P : Nat → Value → Prop} {OK : Heap → Prop} {Q : Value → Shared → Prop}
/-- the sum of what a view walks; nothing that was there changes -/
theorem sum_view (J : PySem.W.KdlSrc prog w T r d n P OK) (hh : A.handled = none) (hok : OK s.heap) (val : Nat → Int) (hval : ∀ (i : Nat) (v : Value), P i v → ∃ t : Tok, v = Value.int (val i) t)
    (h : ∀ (h' : Heap) (tk : Nat) (t' : Tok), (∀ b o, s.heap.get? b = some o → h'.get? b = some o) → Q (.int (preSum val n) t') { s with heap := h', toks := tk }) :
    wpAny (model prog w) A (call (.builtin "sum") [.ref r]) Q E s := by
  refine call_sum_walkAnyS ?_
  obtain ⟨oI, St, hit, W, st⟩ := J.iter A.in1 s hh hok
  refine hit _ _ ⟨s.heap.objs.size, _, _, _, n, P, _, val, rfl, W.toS, st, fun b hb => ?_, hval, fun s' t' hm => ?_⟩
  · show b < (s.heap.push oI).objs.size
    rw [size_push']
    obtain e | hb := List.mem_cons.mp hb
    · rw [e]; exact Nat.lt_succ_self _
    · rw [List.mem_singleton.mp hb]; exact Nat.lt_succ_of_lt (J.there _ hok).2
  · have hk : ∀ b o, s.heap.get? b = some o → s'.heap.get? b = some o := fun b o e => hm.heap b o (fun hI => absurd (Heap.lt_size e) (by rw [List.mem_singleton.mp hI]; exact Nat.lt_irrefl _)) (Heap.get?_push_of_some _ e)
    have fin := h s'.heap s'.toks t' hk
    rw [Moved.eq_with hm]
    exact fin
end
section
variable {X : Cx}
/-- sum(d.values()) -/
def tSumVals (td : TE) : TE := fun σ H Q => td σ H fun x H1 => ∃ (d : Addr) (kvs : List (L2.Key × V)) (ns : List Int), x = .ref d ∧ H1 d = some (.dK kvs) ∧ kvs.map (·.2) = ns.map V.int ∧ Q (.int ns.sum) H1
theorem paired_get {α β : Type} {R : α → β → Prop} : ∀ {xs : List α} {ys : List β} {i : Nat} {x : α} {y : β}, Paired R xs ys → xs[i]? = some x → ys[i]? = some y → R x y
  | _, _, i, _, _, .nil, h, _ => by simp at h
  | _, _, 0, _, _, .cons h _, e1, e2 => by cases e1; cases e2; exact h
  | _, _, i + 1, _, _, .cons _ h, e1, e2 => paired_get h (by simpa using e1) (by simpa using e2)
theorem pe_sumVals {e : Expr} {td : TE} {p0 pos apos cpos : Pos} (hc : X.calm = true) (hgs : Gl X "sum") (hms : X.mg "sum" = none) (he : PE X e td)
    (hbase : attributeBase e "values" X.env (eval e X.env) = eval e X.env := by rfl) (hline : (apos.endLine == cpos.line) = true := by rfl)
    (hs1 : starEach [.Call (.Attribute e "values" apos) [] [] cpos] X.env = (false, eval (.Call (.Attribute e "values" apos) [] [] cpos) X.env) :: starEach [] X.env := by rfl)
    (hp1 : (backTo pos (starEach [] X.env)).any (·.1) = false := by rfl) :
    PE X (.Call (.Name "sum" p0) [.Call (.Attribute e "values" apos) [] [] cpos] [] pos) (tSumVals td) := by
  refine ⟨fun pins s σ H Q I h => ?_⟩
  refine wpAny_Call_Name_kw (ld_blt I hgs hms boot_sum ?_)
  refine PyProof.Rows.callWith_builtin1 ?_ hs1 hp1
  rw [hs1]
  show wpAny _ _ (spliced ((false, eval (.Call (.Attribute e "values" apos) [] [] cpos) X.env) :: backTo pos (starEach [] X.env))) _ _ s
  refine Calls.spliced_cons ?_
  refine wpAny_Call_method (T := "dict") (id := "dict.values") hbase rfl hline F.plainAttrs_dict F.slot_dict_values F.type_dict_values (thn (he.run pins s σ H _ I h) fun u s1 ⟨x, H1, I1, rx, d, kvs, ns, ex, hd, hv, q⟩ => ?_)
  subst ex
  obtain rfl : u = Value.ref d := rx
  obtain ⟨_, hs, vs, kv, hm⟩ := dk_of I1.hok hd
  refine ⟨hm.typeIs, hm.mapOf.noDict, ?_⟩
  have I2 : Inv X pins σ H1 { s1 with heap := s1.heap.push { cls := .type "dict_values", data := .fields #[.ref d] } } := I1.kept (t' := s1.toks) fun b ob q => Heap.get?_push_of_some _ q
  show wpAny _ _ (callWith cpos (.builtin "dict.values") [.ref d] [] []) _ X.xe s1
  refine method_meetsIn F.slot_dict_values F.entry_dict_values rfl (PySem.evalArgs_none ⟨rfl, hm.typeIs, F.args_dict_values_1 _, _, meets_dict_values (mixKind X.prog X.w) d hs, ⟨vs, hm⟩, ?_⟩)
  show wpAny _ _ (spliced (backTo pos (starEach [] X.env))) _ _ _
  refine Calls.spliced_nil ?_
  obtain ⟨ep, hat⟩ := hm.dictAt
  have hlen : kvs.length = vs.length := Paired.length kv
  have hat2 : (s1.heap.push { cls := .type "dict_values", data := .fields #[.ref d] }).DictAt (mixKind X.prog X.w) d vs ep := hat.keep fun b o e => Heap.get?_push_of_some _ e
  have nl : ns.length = kvs.length := by
    have := congrArg List.length hv
    rw [List.length_map, List.length_map] at this
    exact this.symm
  refine sum_view (PySem.W.kdl_values (knd := mixKind X.prog X.w) (kvs := vs) (ep := ep)) (I2.ok.hd hc) ⟨⟨_, Heap.get?_push_size _ rfl, rfl, rfl⟩, hat2⟩ (fun j => ns.getD j 0) (fun i u hu => ?_) fun h' tk t' hk => ?_
  · obtain ⟨k, hu⟩ := hu
    have hi : i < vs.length := (List.getElem?_eq_some_iff.mp hu).1
    obtain ⟨p, hp⟩ : ∃ p, kvs[i]? = some p := ⟨_, List.getElem?_eq_getElem (by omega)⟩
    have rl := paired_get kv hp hu
    have e1 : (kvs.map (·.2))[i]? = some p.2 := by rw [List.getElem?_map, hp]; rfl
    rw [hv, List.getElem?_map] at e1
    obtain ⟨z, hz, ez⟩ := Option.map_eq_some_iff.mp e1
    have hz' : ns.getD i 0 = z := by rw [List.getD_eq_getElem?_getD, hz]; rfl
    have r2 : RelV p.2 u := rl.2
    rw [← ez] at r2
    obtain ⟨t, et⟩ := r2
    exact ⟨t, by rw [hz']; exact et⟩
  · have hsum : preSum (fun j => ns.getD j 0) vs.length = ns.sum := by
      have := preSum_list (h := fun v => match v with | .int z => z | _ => 0) (ns.map V.int) (fun j => ns.getD j 0) (fun i x hx => by
        rw [List.getElem?_map] at hx
        obtain ⟨z, hz, rfl⟩ := Option.map_eq_some_iff.mp hx
        rw [List.getD_eq_getElem?_getD, hz]
        rfl) vs.length (by rw [List.length_map]; omega)
      rw [this, List.take_of_length_le (by rw [List.length_map]; omega), List.map_map]
      congr 1
      exact List.map_id _
    rw [hsum]
    exact ⟨.int _, H1, I2.kept (t' := tk) hk, ⟨t', rfl⟩, q⟩
end
/-! ### sums of values, dicts walked, lists of three unlike items -/
theorem RD.vals {β : Type} {r : V → β → Prop} {ns : β → Int} (h : ∀ v x, r v x → v = .int (ns x)) : ∀ {kvs : List (L2.Key × V)} {l : List (Int × β)}, RD r kvs l → kvs.map (·.2) = (l.map fun p => ns p.2).map V.int
  | [], [], _ => rfl
  | (_, _) :: _, (_, _) :: _, ⟨_, b, c⟩ => by
    have ih := RD.vals h c
    simp only [List.map_cons, ih, h _ _ b]
theorem RD.key {β : Type} {r : V → β → Prop} : ∀ {kvs : List (L2.Key × V)} {l : List (Int × β)} {i : Nat} {p : L2.Key × V}, RD r kvs l → kvs[i]? = some p → ∃ q, l[i]? = some q ∧ p.1 = .inl q.1
  | [], _, _, _, _, e => by simp at e
  | (_, _) :: _, (_, _) :: _, 0, _, ⟨a, _, _⟩, e => by cases e; exact ⟨_, rfl, a⟩
  | (_, _) :: _, (_, _) :: _, i + 1, _, ⟨_, _, c⟩, e => by
    obtain ⟨q, h1, h2⟩ := RD.key c (i := i) (by simpa using e)
    exact ⟨q, by simpa using h1, h2⟩
/-- a locked dict -/
def Dz {β : Type} [Rp β] (ms : Ms) (H : Hp) (a : Addr) (d : DI β) : Prop := ∃ od kvs, H a = some (.frz od (.dK kvs)) ∧ RD (Rp.rp ms H) kvs d.m ∧ kvs.length ≤ sizeLine
section
variable {α β γ : Type} [Rp α] [Rp β] [Rp γ] {K : PySem.W.Frag} {B ms : Ms} {σ : L2.St} {H0 : Hp} {p q r : Hq} {ta tb td te : TE} {d : DI β} {a : Addr} {n : Nat}
/-- sum(d.values()), d a name -/
theorem ex_sumValsM {d : DI Int} (W : Wd B ms H0) (hs : σ[n]? = some (some (.ref a))) (nB : a ∉ B) (l : Ds ms H0 a d) : Ex B ms (tSumVals (tVar n)) σ H0 p (d.m.map (·.2)).sum p := fun H b hp Q k => by
  obtain ⟨kvs, e, rd, _⟩ := l.bu W.hB nB b
  exact ⟨_, hs, a, kvs, d.m.map (·.2), rfl, e, rd.vals (ns := fun x => x) (fun _ _ h => h), k _ H (Bu.refl B H) hp rfl⟩
theorem Dz.step {ms' : Ms} {H H' : Hp} (h : Dz ms H a d) (M : Mv ms H ms' H') (e : ∀ o, H a = some o → H' a = some o) : Dz ms' H' a d := let ⟨od, kvs, e1, r, l⟩ := h; ⟨od, kvs, e _ e1, r.imp fun _ _ z => Rp.mv z M, l⟩
theorem Dz.lt {ms' : Ms} {H : Hp} (h : Dz ms H0 a d) (nB : a ∉ B) (L : Lt B ms H0 ms' H) : Dz ms' H a d := h.step L.M fun o e => L.S a o nB e
theorem ed_lk (W : Wd B ms H0) (hs : σ[n]? = some (some (.ref a))) (nB : a ∉ B) (h : Dz ms H0 a d) : Ed B ms (tVar n) σ H0 p d p := fun H b hp Q k => by
  obtain ⟨od, kvs, e, rd, _⟩ := h
  exact ⟨_, hs, k a H (Bu.refl B H) hp nB (Er.bu ⟨kvs, .inr ⟨od, e⟩, rd⟩ W.hB nB b)⟩
/-- for k in d, d locked -/
theorem ej_keys (W : Wd B ms H0) (hs : σ[n]? = some (some (.ref a))) (nB : a ∉ B) (h : Dz ms H0 a d) : Ej B ms (iKeys (tVar n)) σ H0 p (d.m.map (·.1)) p := fun H b hp R k => by
  obtain ⟨od, kvs, e, rd, _⟩ := h
  have e1 := b.1 _ _ nB e
  refine ⟨_, hs, a, od, rfl, .inl ⟨kvs, e1, ?_⟩⟩
  refine k _ (fun _ H => H a = some (.frz od (.dK kvs))) [a] H (Bu.refl B H) hp (fun n1 _ hS => hS a (by simp) _ n1) (fun c hc => by rw [List.mem_singleton.mp hc]; exact ⟨nB, by rw [e1]; exact fun z => by cases z⟩) e1 ?_
  intro i ms' H1 hn _
  refine ⟨fun hl => ⟨hn, by rw [List.length_map] at hl; rw [rd.len]; exact hl⟩, fun x hx => ?_⟩
  rw [List.getElem?_map] at hx
  obtain ⟨y, hy, rfl⟩ := Option.map_eq_some_iff.mp hx
  have hlt := (List.getElem?_eq_some_iff.mp hy).1
  refine ⟨⟨hn, by rw [rd.len]; exact hlt⟩, fun v H2 ⟨eH, k2, v2, hk, ev⟩ => ?_⟩
  subst eH
  obtain ⟨y2, hy2, ek⟩ := rd.key hk
  rw [hy] at hy2
  cases hy2
  have ek' : k2 = .inl y.1 := ek
  subst ek'
  exact ⟨fun _ _ z => z, ev⟩
/-- a list made while the dict at a is locked -/
theorem en_lock {xs : List α} {t : TE} (W : Wd B ms H0) (l : Ds ms H0 a d) (hm : a ∈ ms) (nB : a ∉ B) (hp0 : Sb B p) (hq0 : Sb B q)
    (h : ∀ H1, Wd B ms H1 → Mv ms H0 ms H1 → (∀ c, c ≠ a → c ∉ B → ∀ o, H0 c = some o → H1 c = some o) → Dz ms H1 a d → En B ms t σ H1 p xs q) : En B ms (tLockE t) σ H0 p xs q := fun H b hp Q k => by
  obtain ⟨kvs, ea, rd, ll⟩ := l.bu W.hB nB b
  have W1 := W.bu b
  refine ⟨a, .dK kvs, ea, trivial, fun od => ?_⟩
  have u1 : But a H (upd H a (.frz od (.dK kvs))) := But.upd
  have e1 : (upd H a (.frz od (.dK kvs))) a = some (.frz od (.dK kvs)) := upd_same
  have M1 : Mv ms H ms (upd H a (.frz od (.dK kvs))) := Mv.but hm u1
  have W2 : Wd B ms (upd H a (.frz od (.dK kvs))) := ⟨W1.hB, W1.al.but u1 e1⟩
  have p1 : p ms (upd H a (.frz od (.dK kvs))) := hp0 _ _ _ _ hp M1 fun c hc o ec => u1 _ _ (fun z => nB (z ▸ hc)) ec
  have D1 : Dz ms (upd H a (.frz od (.dK kvs))) a d := ⟨od, kvs, e1, rd.imp fun _ _ z => Rp.mv z M1, ll⟩
  refine h _ W2 ((W.mv b).trans M1) (fun c ne nc o ec => u1 _ _ ne (b.1 _ _ nc ec)) D1 _ (Bu.refl B _) p1 _ fun t H' b2 q2 nt ntm lt => ?_
  have ea2 := b2.1 _ _ nB e1
  have nea : t ≠ a := fun z => by rw [z, e1] at nt; cases nt
  have u3 : But a H' (upd H' a (.dK kvs)) := But.upd
  have e3 : (upd H' a (.dK kvs)) a = some (.dK kvs) := upd_same
  have M3 : Mv (t :: ms) H' (t :: ms) (upd H' a (.dK kvs)) := Mv.but (List.mem_cons_of_mem _ hm) u3
  refine ⟨ea2, k t _ ⟨fun c o nc ec => ?_, fun c hc => ?_⟩ (hq0 _ _ _ _ q2 M3 fun c hc o ec => u3 _ _ (fun z => nB (z ▸ hc)) ec) ?_ ntm (lt.step M3 fun o e => u3 _ _ nea e)⟩
  · by_cases z : c = a
    · rw [z] at ec ⊢
      rw [e3]
      rw [ea] at ec
      exact ec
    · exact u3 _ _ z (b2.1 _ _ nc (u1 _ _ z ec))
  · by_cases z : c = a
    · rw [z, e3]
      exact fun z => by cases z
    · have h1 : (upd H a (.frz od (.dK kvs))) c ≠ none := by rw [upd_ne z]; exact hc
      have h2 := b2.2 c h1
      rw [upd_ne z]
      exact h2
  · rw [upd_ne nea] at nt
    exact nt
end
/-- a list of three unlike items -/
structure L3P (α β γ : Type) : Type where
  a : α
  b : β
  c : γ
instance instRpL3P {α β γ : Type} [Rp α] [Rp β] [Rp γ] : Rp (L3P α β γ) := ⟨fun ms H v x => ∃ a u w y, v = .ref a ∧ a ∉ ms ∧ H a = some (.lst [u, w, y]) ∧ Rp.rp ms H u x.a ∧ Rp.rp ms H w x.b ∧ Rp.rp ms H y x.c, fun {ms ms' H H' v x} h M => by
  obtain ⟨a, u, w, y, rfl, n, e, r1, r2, r3⟩ := h
  obtain ⟨n', e'⟩ := M a _ n e
  exact ⟨a, u, w, y, rfl, n', e', Rp.mv r1 M, Rp.mv r2 M, Rp.mv r3 M⟩⟩
section
variable {α β γ : Type} [Rp α] [Rp β] [Rp γ] {K : PySem.W.Frag} {B ms : Ms} {σ : L2.St} {H0 : Hp} {p q : Hq} {ta : TE}
theorem ex_k1 {u : L3P α β γ} (h1 : Ex B ms ta σ H0 p u q) : Ex B ms (tOp (rIxL K) ta (tC (.int 0))) σ H0 p u.a q := fun H b hp Q k => h1 H b hp _ fun v H1 b1 q1 ⟨a, w1, w2, w3, e, n, eh, r1, r2, r3⟩ => by
  subst e
  exact ⟨a, _, 0, w1, rfl, rfl, SqL.of eh, rfl, k _ H1 b1 q1 r1⟩
theorem ex_k2 {u : L3P α β γ} (h1 : Ex B ms ta σ H0 p u q) : Ex B ms (tOp (rIxL K) ta (tC (.int 1))) σ H0 p u.b q := fun H b hp Q k => h1 H b hp _ fun v H1 b1 q1 ⟨a, w1, w2, w3, e, n, eh, r1, r2, r3⟩ => by
  subst e
  exact ⟨a, _, 1, w2, rfl, rfl, SqL.of eh, rfl, k _ H1 b1 q1 r2⟩
theorem ex_k3 {u : L3P α β γ} (h1 : Ex B ms ta σ H0 p u q) : Ex B ms (tOp (rIxL K) ta (tC (.int 2))) σ H0 p u.c q := fun H b hp Q k => h1 H b hp _ fun v H1 b1 q1 ⟨a, w1, w2, w3, e, n, eh, r1, r2, r3⟩ => by
  subst e
  exact ⟨a, _, 2, w3, rfl, rfl, SqL.of eh, rfl, k _ H1 b1 q1 r3⟩
theorem ex_three {ts : TA} {u : L3P α β γ} (W : Wd B ms H0) (hq : Sb B q) (h : Ea B ms ts σ H0 p (u.a, u.b, u.c, ()) q) : Ex B ms (tLst ts) σ H0 p u q := fun H b hp Q k => h H b hp _ fun vs H1 b1 q1 e1 => by
  obtain ⟨v1, _, rfl, r1, v2, _, rfl, r2, v3, _, rfl, r3, e⟩ := e1
  have e' : _ = [] := e
  subst e'
  refine ⟨by rw [sizeLine_eq]; simp, fun t nt => ?_⟩
  have s := same_upd (o := .lst [v1, v2, v3]) nt
  exact k _ _ (b1.trans (Bu.same s)) (hq.same s q1) ⟨t, v1, v2, v3, rfl, ((W.al.bu b).bu b1).not nt, upd_same, Rp.mv r1 (Mv.same s), Rp.mv r2 (Mv.same s), Rp.mv r3 (Mv.same s)⟩
end
end Pf

set_option maxHeartbeats 1000000
namespace Pf
open PySem PySem.W PySem.Spec PyProof.Rows L2
open Rp (rp)
open RpA (ra)
/-! ### defs that run where no guard stands around: what repr of data needs -/
/-- a promise that is kept where no guard stands around the call -/
structure FnG (P : Program) (w : World) (K : PySem.W.Frag) (mg : Str → Option Value) (base : Heap) (k : Nat) (f : Addr) (fd : FuncData) (ps : List Str) (sp : Sp) : Prop where
  many : ∀ vs H Q E, sp vs H Q E → vs.length = ps.length
  go : ∀ (A : Around) (out : List Env) (s : Shared) (H : Hp) (args : Args) (us : List Value) (vs : List V) (Q : VK) (E : XK), A.guards = some [] → Room k A → Env0 P w K mg base A out s H → BindsTo s fd args (ps.zip us) → Vals vs us → sp vs H Q E →
    codeAny (model P w) A (.call (.ref f) args) (CR CX0 out P w H s Q E) s
section
variable {P : Program} {w : World} {K : PySem.W.Frag} {mg : Str → Option Value} {base : Heap}
theorem fnG_of {x qual : Str} {st : Stmt} {f : Addr} {fd : FuncData} {N ps : List Str} {k : Nat} {sp : Sp} (F : Fun K x qual st f fd) (S : FnScope N ps (defScope st)) (many : ∀ vs H Q E, sp vs H Q E → vs.length = ps.length)
    (body : ∀ (cdv : Value) (A : Around) (out : List Env) (s : Shared) (H : Hp) (vs : List V) (Q : VK) (E : XK), A.guards = some [] → Room k (A.deeper (envOfC qual (defScope st) s.heap.objs.size f cdv)) → sp vs H Q E →
      ∃ t, PSs (cxOf CX0 P w K mg base N qual (defScope st) f cdv A out s H E).nox (defBody st) t ∧ t { nx := fun _ H' => Q .non H', rt := Q } (start N vs) H) : FnG P w K mg base (k + 1) f fd ps sp := by
  obtain ⟨oc, od, kV, doc, pm, an, cdv, ct, osl, rfl, look, code⟩ := F.ex
  constructor
  · exact many
  intro A out s H args us vs Q E free room here bind rel want
  have long := many _ _ _ _ want
  have inK : K.In s.heap := here.mod.kin.keeps fun b o e => (here.bs b o e).1
  have noLim : s.heap.NoLimit := here.mod.nolimit.keeps fun b o e => (here.bs b o e).1
  have kinds : ∀ y ∈ ps.zip us, (defScope st).names.lookup y.1 = some .local ∨ ((defScope st).names.lookup y.1 = some .cell ∧ ((cellsFrom (s.heap.objs.size + 1) (defScope st).names []).lookup y.1).isSome = true) := by
    rintro ⟨n, v⟩ hy
    cases S.par n (List.of_mem_zip hy).1 with
    | inl q => exact .inl q
    | inr q => exact .inr ⟨q, PySem.W.cellsFrom_some _ _ _ (.inl q)⟩
  apply codeAny_call_function room.depth (inK _ _ look) rfl S.co S.gen rfl (PySem.W.codeRec_of inK code)
  apply bind
  apply wpAny_newFunctionEnv_cells S.kind kinds
  rintro env rfl s1 call
  constructor
  · exact noLim.keeps call.toInCall.keep
  apply codeAny_func
  obtain ⟨t, isT, reads⟩ := body cdv A out s H vs Q E free (room.deeper _) want
  have J0 : Inv (cxOf CX0 P w K mg base N qual (defScope st) f cdv A out s H E) [] (start N vs) H s1 := inv_start S room.hd here long rel call
  apply wpAny_mono (isT.nox.run [] s1 (start N vs) H _ J0 reads)
  · intro fl s2 fin
    cases fl with
    | ret u =>
      obtain ⟨v, σ2, H2, J, rv, q⟩ := fin
      exact ⟨v, H2, J.os, J.bare, J.base, J.hok, rv, q⟩
    | next =>
      obtain ⟨σ2, H2, J, q⟩ := fin
      exact ⟨.non, H2, J.os, J.bare, J.base, J.hok, rfl, q⟩
    | brk => obtain ⟨_, _, _, q⟩ := fin; exact q.elim
    | cont => obtain ⟨_, _, _, q⟩ := fin; exact q.elim
  · intro e s2 bad
    exact bad
end
section
variable {X : Cx} {k : Nat} {f : Addr} {fd : FuncData} {ps : List Str} {sp : Sp} {x : Str} {p pos : Pos} {e : Expr} {es : List Expr} {t : TA}
/-- f(e, ..) of such a def, from a body around which no guard stands -/
theorem pe_callG (free : X.A.guards = some []) (F : FnG X.prog X.w X.K X.mg X.base k f fd ps sp) (room : Room k X.A) (hg : Gl X x) (hm : X.mg x = some (.ref f)) (hk : PySem.W.keepIn X.K (.ref f) = true) (hb : Binds X.K fd ps []) (ha : PA X (e :: es) t)
    (hdb : (x == ("__debug__" : Str)) = false := by decide) (he : starEach (e :: es) X.env = (false, eval e X.env) :: starEach es X.env := by rfl) (hpl : (backTo pos (starEach es X.env)).any (·.1) = false := by rfl) :
    PE X (.Call (.Name x p) (e :: es) [] pos) (tCall sp [] E0 t) := by
  constructor
  intro pins s σ H Q I want
  apply wpAny_Call_Name_kw
  refine ld_glob I hg hm ?_ hdb
  refine PySem.W.callWith_K (h₀ := X.base) I.ok.mod.kin hk (thn (ha.run pos pins s σ H _ I want) fun us s1 ⟨vs, H1, I1, r, q⟩ => ⟨I1.kIn, ?_⟩) he hpl
  have q : sp vs H1 Q E0 := by rw [← List.append_nil vs]; exact q
  have long : us.length = ps.length := r.length.symm.trans (F.many _ _ _ _ q)
  have bind := hb s1 us I1.kIn (by rw [List.append_nil]; exact long)
  rw [List.append_nil] at bind
  apply wpAny_call
  apply codeAny_mono (F.go X.A X.stack s1 H1 ⟨us, []⟩ us vs Q E0 free room I1.env0 bind r q)
  intro res s2 fin
  cases res with
  | error e => exact fin.elim
  | ok fl =>
    cases fl with
    | ret u => exact I1.after fin
    | next => exact False.elim fin
    | brk => exact False.elim fin
    | cont => exact False.elim fin
/-! ### repr of data -/
/-- repr(e), e a datum on the heap, a number or a truth value -/
def rRepr (K : PySem.W.Frag) : List V → Hp → VK → Prop := fun vs H Q => ∃ (v : V) (d : PyData), vs = [v] ∧ Dp K H v d ∧ d.hasDict = false ∧ d.showable = true ∧ d.shown.length ≤ sizeLine ∧ d.depth ≤ 64 ∧ Q (.str d.shown) H
theorem cr_repr (free : X.A.guards = some []) (room : X.A.units + 66 < cLine) : CallR X (.builtin "repr") (rRepr X.K) := by
  intro pins s σ H xs us Q I r h
  obtain ⟨v, d, rfl, rd, nod, sh, sz, dep, q⟩ := h
  obtain ⟨u, rfl, ru⟩ := vals1 r
  obtain ⟨as, reads⟩ := Dp.reads I d v u rd ru
  cases reads with
  | none =>
    rw [PyData.shown] at q
    exact P.repr_of_none ⟨.str _, H, I.tok _, ⟨_, rfl⟩, q⟩
  | bool b =>
    have e : (if b = true then ("True" : Str) else "False") = (PyData.bool b).shown := by rw [PyData.shown]
    exact P.repr_of_bool ⟨.str _, H, I.tok _, ⟨_, rfl⟩, by rw [e]; exact q⟩
  | int i t =>
    rw [PyData.shown] at q
    exact P.repr_of_int (by simpa [PyData.showable] using sh) ⟨.str _, H, I.tok _, ⟨_, rfl⟩, q⟩
  | str x t =>
    rw [PyData.shown] at q sz
    exact P.repr_of_str ⟨.str _, H, I.tok _, ⟨_, rfl⟩, q⟩ sz
  | list h1 h2 h3 h4 =>
    exact repr_of_reads' (.list h1 h2 h3 h4) sh (PyData.noDict_hsm nod) free (by omega) (fun _ _ e => e) (fun h' u tk hk => ⟨.str _, H, I.kept hk, ⟨_, rfl⟩, q⟩) sz
  | tuple h1 h2 h3 h4 =>
    exact repr_of_reads' (.tuple h1 h2 h3 h4) sh (PyData.noDict_hsm nod) free (by omega) (fun _ _ e => e) (fun h' u tk hk => ⟨.str _, H, I.kept hk, ⟨_, rfl⟩, q⟩) sz
  | dict h1 h2 h3 h4 h5 => simp [PyData.hasDict] at nod
end

/-- a def that may be called where no guard stands around -/
structure CalG (P : Program) (w : World) (K : PySem.W.Frag) (mg : Str → Option Value) (base : Heap) (x : Str) (k : Nat) (f : Addr) (fd : FuncData) (ps : List Str) (sp : Sp) : Prop where
  ok : FnG P w K mg base k f fd ps sp
  mg : mg x = some (.ref f)
  kp : PySem.W.keepIn K (.ref f) = true
  b : Binds K fd ps []
/-- what repr tells of a datum in reason -/
def shwB (d : PyData) : Bool := d.showable && decide (d.shown.length ≤ sizeLine)
/-- data that repr tells -/
class Shw (α : Type) [Rp α] where
  shw : α → PyData
  dep : Nat
  dle : ∀ x, (shw x).depth ≤ dep
  nod : ∀ x, (shw x).hasDict = false
  dp : ∀ {K : PySem.W.Frag} {ms : Ms} {H : Hp} {v : V} {x : α}, rp ms H v x → Dp K H v (shw x)
instance shwInt : Shw Int := ⟨.int, 0, fun _ => Nat.le_refl _, fun _ => by rw [PyData.hasDict], fun h => by have h' : _ = V.int _ := h; subst h'; exact .int _⟩
instance shwBool : Shw Bool := ⟨.bool, 0, fun _ => Nat.le_refl _, fun _ => by rw [PyData.hasDict], fun h => by have h' : _ = V.bl _ := h; subst h'; exact .bl _⟩
instance shwStr : Shw Str := ⟨.str, 0, fun _ => Nat.le_refl _, fun _ => by rw [PyData.hasDict], fun h => by have h' : _ = V.str _ := h; subst h'; exact .str _⟩
def shwO {α : Type} [Rp α] [Shw α] : Option α → PyData
  | none => .none
  | some y => Shw.shw y
instance shwOpt {α : Type} [Rp α] [Shw α] : Shw (Option α) := ⟨shwO, Shw.dep α, fun x => by
  cases x with
  | none => exact Nat.zero_le _
  | some y => exact Shw.dle y, fun x => by
  cases x with
  | none => rw [shwO, PyData.hasDict]
  | some y => exact Shw.nod y, fun {K ms H v x} h => by
  cases x with
  | none => have h' : v = .non := h; subst h'; exact .non
  | some y => exact Shw.dp (α := α) (x := y) h⟩
theorem shw_all {α : Type} [Rp α] [Shw α] : ∀ xs : List α, PyData.depthAll (xs.map Shw.shw) ≤ Shw.dep α ∧ PyData.hasDictAll (xs.map Shw.shw) = false
  | [] => by rw [List.map_nil, PyData.depthAll, PyData.hasDictAll]; exact ⟨Nat.zero_le _, rfl⟩
  | x :: xs => by
    have h1 := shw_all xs
    have h2 := Shw.dle x
    rw [List.map_cons, PyData.depthAll, PyData.hasDictAll, h1.2, Shw.nod x]
    exact ⟨by omega, rfl⟩
theorem shw_dps {α : Type} [Rp α] [Shw α] {K : PySem.W.Frag} {ms : Ms} {H : Hp} : ∀ {vs : List V} {xs : List α}, RL (rp ms H) vs xs → DpAll K H vs (xs.map Shw.shw)
  | [], [], _ => .nil
  | _ :: _, _ :: _, ⟨a, b⟩ => .cons (Shw.dp a) (shw_dps b)
instance shwList {α : Type} [Rp α] [Shw α] : Shw (List α) := ⟨fun xs => .list (xs.map Shw.shw), Shw.dep α + 1, fun xs => by have := (shw_all xs).1; rw [PyData.depth]; omega, fun xs => by rw [PyData.hasDict]; exact (shw_all xs).2,
  fun ⟨a, e, _, vs, eh, rl, _⟩ => by subst e; exact .lst (SqL.of eh) (shw_dps rl)⟩
instance shwPair {α β : Type} [Rp α] [Shw α] [Rp β] [Shw β] : Shw (α × β) := ⟨fun x => .tuple [Shw.shw x.1, Shw.shw x.2], max (Shw.dep α) (Shw.dep β) + 1, fun x => by
  have h1 := Shw.dle x.1
  have h2 := Shw.dle x.2
  rw [PyData.depth, PyData.depthAll, PyData.depthAll, PyData.depthAll]
  omega, fun x => by rw [PyData.hasDict, PyData.hasDictAll, PyData.hasDictAll, PyData.hasDictAll, Shw.nod, Shw.nod]; rfl,
  fun ⟨a, u, w, e, _, eh, r1, r2⟩ => by subst e; exact .tup (SqT.of eh) (.cons (Shw.dp r1) (.cons (Shw.dp r2) .nil))⟩
instance shwT3 {α β γ : Type} [Rp α] [Shw α] [Rp β] [Shw β] [Rp γ] [Shw γ] : Shw (T3 α β γ) := ⟨fun x => .tuple [Shw.shw x.a, Shw.shw x.b, Shw.shw x.c], max (Shw.dep α) (max (Shw.dep β) (Shw.dep γ)) + 1, fun x => by
  have h1 := Shw.dle x.a
  have h2 := Shw.dle x.b
  have h3 := Shw.dle x.c
  rw [PyData.depth, PyData.depthAll, PyData.depthAll, PyData.depthAll, PyData.depthAll]
  omega, fun x => by rw [PyData.hasDict, PyData.hasDictAll, PyData.hasDictAll, PyData.hasDictAll, PyData.hasDictAll, Shw.nod, Shw.nod, Shw.nod]; rfl,
  fun ⟨a, u, w, y, e, _, eh, r1, r2, r3⟩ => by subst e; exact .tup (SqT.of eh) (.cons (Shw.dp r1) (.cons (Shw.dp r2) (.cons (Shw.dp r3) .nil)))⟩
/-- two data that are one, told in reason -/
def sameF {α : Type} [DecidableEq α] [Rp α] [Shw α] (x y : α) : Option Bool := if x = y ∧ shwB (Shw.shw x) = true then some true else none
theorem sameF_ok {α : Type} [DecidableEq α] [Rp α] [Shw α] {x y : α} {t : Bool} (h : sameF x y = some t) : x = y ∧ (Shw.shw x).showable = true ∧ (Shw.shw x).shown.length ≤ sizeLine ∧ t = true := by
  unfold sameF at h
  split at h
  · rename_i c
    have c2 := c.2
    unfold shwB at c2
    rw [Bool.and_eq_true, decide_eq_true_iff] at c2
    exact ⟨c.1, c2.1, c2.2, (Option.some.inj h).symm⟩
  · cases h
def sp_same (K : PySem.W.Frag) : Sp := fun vs H Q _ => ∃ (u v : V) (d : PyData), vs = [u, v] ∧ Dp K H u d ∧ Dp K H v d ∧ d.hasDict = false ∧ d.showable = true ∧ d.shown.length ≤ sizeLine ∧ d.depth ≤ 64 ∧ Q (.bl true) H
theorem ex_same {α : Type} [DecidableEq α] [Rp α] [Shw α] {K : PySem.W.Frag} {B ms : Ms} {σ : L2.St} {H0 : Hp} {p q : Hq} {x y : α} {t : Bool} {ts : TA} {E : XK} (W : Wd B ms H0) (hd : Shw.dep α ≤ 64) (h : Ea B ms ts σ H0 p (x, y, ()) q) (e : sameF x y = some t) :
    Ex B ms (tCall (sp_same K) [] E ts) σ H0 p t q := fun H b hp Q k => r_call (h H b hp _ fun vs H1 b1 q1 e1 => by
  obtain ⟨v1, _, rfl, r1, v2, _, rfl, r2, e0⟩ := e1
  have e0' : _ = [] := e0
  subst e0'
  obtain ⟨rfl, h1, h2, rfl⟩ := sameF_ok e
  exact ⟨v1, v2, Shw.shw x, rfl, Shw.dp r1, Shw.dp r2, Shw.nod x, h1, h2, Nat.le_trans (Shw.dle x) hd, k _ H1 b1 q1 rfl⟩)
/-! ### sorted of data -/
/-- the order of data, told of what they encode -/
def leD {α : Type} [DecidableEq α] [Enc α] (x y : α) : Bool := !dataLt (Enc.enc y) (Enc.enc x)
def sortD {α : Type} [DecidableEq α] [Enc α] (xs : List α) : List α := xs.mergeSort leD
/-- data that Python can sort -/
class SrtE (α : Type) [DecidableEq α] [Enc α] : Prop where
  like : ∀ x y : α, alike (Enc.enc x) (Enc.enc y) = true
  form : (∀ x : α, ∃ y r, Enc.enc x = .tuple (y :: r)) ∨ ∀ x : α, Enc.enc x ≠ .none ∧ ∀ xs, Enc.enc x ≠ .tuple xs
theorem alike_lists {α : Type} [DecidableEq α] [Enc α] (h : ∀ x y : α, alike (Enc.enc x) (Enc.enc y) = true) : ∀ xs ys : List α, alikeAll (xs.map Enc.enc) (ys.map Enc.enc) = true
  | [], _ => by simp [alikeAll]
  | _ :: _, [] => by simp [alikeAll]
  | x :: xs, y :: ys => by
    rw [List.map_cons, List.map_cons, alikeAll, alike_lists h xs ys, h x y]
    rfl
instance : SrtE Int := ⟨fun _ _ => by simp [Enc.enc, alike], .inr fun _ => ⟨by simp [Enc.enc], fun _ => by simp [Enc.enc]⟩⟩
instance {α : Type} [DecidableEq α] [Enc α] [SrtE α] : SrtE (List α) := ⟨fun xs ys => by
  show alike (.list _) (.list _) = true
  rw [alike]
  exact alike_lists SrtE.like xs ys, .inr fun _ => ⟨by simp [Enc.enc], fun _ => by simp [Enc.enc]⟩⟩
instance {α β : Type} [DecidableEq α] [Enc α] [SrtE α] [DecidableEq β] [Enc β] [SrtE β] : SrtE (α × β) := ⟨fun x y => by
  show alike (.tuple [_, _]) (.tuple [_, _]) = true
  rw [alike, alikeAll, alikeAll, SrtE.like x.1 y.1, SrtE.like x.2 y.2]
  simp [alikeAll], .inl fun x => ⟨_, _, rfl⟩⟩
instance {α β γ : Type} [DecidableEq α] [Enc α] [SrtE α] [DecidableEq β] [Enc β] [SrtE β] [DecidableEq γ] [Enc γ] [SrtE γ] : SrtE (T3 α β γ) := ⟨fun x y => by
  show alike (.tuple [_, _, _]) (.tuple [_, _, _]) = true
  rw [alike, alikeAll, alikeAll, alikeAll, SrtE.like x.a y.a, SrtE.like x.b y.b, SrtE.like x.c y.c]
  simp [alikeAll], .inl fun x => ⟨_, _, rfl⟩⟩
/-- sorted(xs) of data: the values with what they stand for -/
def rSortD (K : PySem.W.Frag) : List V → Hp → VK → Prop := fun vs H Q => ∃ (a : Addr) (ps : List (V × PyData)), vs = [.ref a] ∧ SqL K H a (ps.map (·.1)) ∧ (∀ p ∈ ps, Dp K H p.1 p.2) ∧ AllAlike (ps.map (·.2)) ∧ Sortable (ps.map (·.2)) ∧ (∀ p ∈ ps, p.2.depth ≤ 64) ∧
  ∀ b, H b = none → Q (.ref b) (upd H b (.lst ((ps.mergeSort (dataLe false (·.2))).map (·.1))))
theorem each_vals : ∀ {ps : List (V × PyData)} {us : List Value}, Vals (ps.map (·.1)) us → EachIs (fun u p => RelV p.1 u) us ps
  | [], _, h => by cases h; exact .nil
  | p :: ps, _, h => by
    cases h with
    | cons a b => exact .cons a (each_vals b)
theorem vals_each : ∀ {us : List Value} {ps : List (V × PyData)}, EachIs (fun u p => RelV p.1 u) us ps → Vals (ps.map (·.1)) us
  | _, _, .nil => .nil
  | _, _, .cons a b => .cons a (vals_each b)
theorem each_imp {α β : Type} {R S : α → β → Prop} : ∀ {us : List α} {ps : List β}, EachIs R us ps → (∀ u p, p ∈ ps → R u p → S u p) → EachIs S us ps
  | _, _, .nil, _ => .nil
  | _, _, .cons a b, h => .cons (h _ _ List.mem_cons_self a) (each_imp b fun u p m r => h u p (List.mem_cons_of_mem _ m) r)
theorem cr_sortD {X : Cx} (room : X.A.units + 80 < cLine) : CallR X (.builtin "sorted") (rSortD X.K) := by
  intro pins s σ H xs us Q I r h
  obtain ⟨a, ps, rfl, hs, hd, hal, hk, hdep, q⟩ := h
  obtain ⟨its, rv, hl, hz⟩ := I.list hs
  obtain ⟨u, rfl, ru⟩ := vals1 r
  obtain rfl : u = Value.ref a := ru
  have ev := each_vals rv
  rw [List.length_map] at hz
  refine PySem.W.sorted_data (enc := fun p : V × PyData => p.2) (R := fun u p => RelV p.1 u) hl.isList ev (each_imp ev fun u p m rel => Dp.reads I p.2 p.1 u (hd p m) rel) hal hk hz (fun p m => by have := hdep p m; omega) fun out len es => ?_
  obtain ⟨c, hc⟩ := PyProof.Rows.sortedAll_at s.heap its out.toArray
  have len2 : (ps.mergeSort (dataLe false (·.2))).length = ps.length := List.length_mergeSort ps
  refine ⟨.ref (s.heap.objs.size + 1), upd H (s.heap.objs.size + 1) (.lst ((ps.mergeSort (dataLe false (·.2))).map (·.1))), I.laid (t' := s.toks) (fun b o e => PyProof.Rows.sortedAll_old e) (Nat.le_succ _) ⟨?_, out, c, vals_each es, hc⟩, rfl, q _ (I.hok.fresh (Nat.le_succ _))⟩
  rw [List.length_map, len2]
  exact hz

theorem rl_zip {α : Type} {r : V → α → Prop} : ∀ {vs : List V} {xs : List α}, RL r vs xs → (vs.zip xs).map (·.1) = vs ∧ (vs.zip xs).map (·.2) = xs ∧ ∀ z ∈ vs.zip xs, r z.1 z.2
  | [], [], _ => ⟨rfl, rfl, fun z h => by cases h⟩
  | v :: vs, x :: xs, ⟨a, b⟩ => by
    obtain ⟨h1, h2, h3⟩ := rl_zip b
    refine ⟨by rw [List.zip_cons_cons, List.map_cons, h1], by rw [List.zip_cons_cons, List.map_cons, h2], fun z hz => ?_⟩
    obtain q | q := List.mem_cons.mp hz
    · subst q; exact a
    · exact h3 z q
theorem rl_unzip {α : Type} {r : V → α → Prop} : ∀ {zs : List (V × α)}, (∀ z ∈ zs, r z.1 z.2) → RL r (zs.map (·.1)) (zs.map (·.2))
  | [], _ => trivial
  | z :: zs, h => ⟨h z List.mem_cons_self, rl_unzip fun y hy => h y (List.mem_cons_of_mem _ hy)⟩
theorem en_sortD {α : Type} [DecidableEq α] [Enc α] [Rp α] [RpD α] [SrtE α] {K : PySem.W.Frag} {B ms : Ms} {σ : L2.St} {H0 : Hp} {p q : Hq} {te : TE} {xs : List α} (W : Wd B ms H0) (hq : Sb B q) (hd : Enc.dep α ≤ 64) (h : El B ms te σ H0 p xs q) :
    En B ms (tCB (rSortD K) (tCons te tNil)) σ H0 p (sortD xs) q := fun H b hp Q k => h H b hp _ fun a H1 b1 q1 na ⟨vs, e, rl, l⟩ => by
  obtain ⟨z1, z2, z3⟩ := rl_zip rl
  let g : V × α → V × PyData := fun z => (z.1, Enc.enc z.2)
  let le : V × α → V × α → Bool := fun z y => leD z.2 y.2
  have m1 : ((vs.zip xs).map g).mergeSort (dataLe false (·.2)) = ((vs.zip xs).mergeSort le).map g := (List.map_mergeSort (f := g) (r := le) (s := dataLe false (·.2)) fun z _ y _ => rfl).symm
  have m2 : sortD xs = ((vs.zip xs).mergeSort le).map (·.2) := by
    unfold sortD
    rw [← z2, ← List.map_mergeSort (f := fun z : V × α => z.2) (r := le) (s := leD) fun z _ y _ => rfl, z2]
  have s1 : ((vs.zip xs).map g).map (·.1) = vs := by rw [List.map_map]; exact z1
  have s2 : ((vs.zip xs).map g).map (·.2) = xs.map Enc.enc := by
    rw [List.map_map]
    conv => rhs; rw [← z2, List.map_map]
    rfl
  refine ⟨a, (vs.zip xs).map g, rfl, by rw [s1]; exact SqL.of e, fun y hy => ?_, ?_, ?_, fun y hy => ?_, fun t nt => ?_⟩
  · obtain ⟨z, hz, rfl⟩ := List.mem_map.mp hy
    exact RpD.dp (z3 z hz)
  · rw [s2]; exact AllAlike.of SrtE.like
  · rw [s2]
    obtain f | f := SrtE.form (α := α)
    · exact Sortable.tuples f
    · exact Sortable.others f
  · obtain ⟨z, hz, rfl⟩ := List.mem_map.mp hy
    exact Nat.le_trans (Enc.dle z.2) hd
  rw [m1]
  have e3 : (((vs.zip xs).mergeSort le).map g).map (·.1) = ((vs.zip xs).mergeSort le).map (·.1) := by rw [List.map_map]; rfl
  rw [e3]
  have s := same_upd (o := .lst (((vs.zip xs).mergeSort le).map (·.1))) nt
  refine k _ _ (b1.trans (Bu.same s)) (hq.new nt s q1) (b1.none nt) (((W.al.bu b).bu b1).not nt) ?_
  rw [m2]
  refine ls_new nt (rl_unzip fun z hz => ?_) ?_
  · exact z3 z ((List.mergeSort_perm _ _).mem_iff.mp hz)
  · rw [List.length_map, List.length_mergeSort]
    have := congrArg List.length z1
    rw [List.length_map] at this
    rw [this]
    exact l
/-! ### the end of a law whose defs want no guard around -/
section
theorem hid_none {h : Heap} {H : Hp} {b : Addr} {o : Obj} (e : h.get? b = some o) (n : H b = none) : (hidT h H).get? b = some o := hidT_get e n
/-- the law called, with a heap in which nothing but the script is tracked -/
theorem lawG_run {P : Program} {w : World} {K : PySem.W.Frag} {mg mb : Str → Option Value} {k : Nat} {fa a : Addr} {fd : FuncData} {x : Str} {sp : Sp} {s : Shared} {vs : List Value} {H : Hp}
    (inK : K.In s.heap) (hns : s.heap.Ns mainGlobals mg) (hb : s.heap.Ns builtinsNs mb) (hbb : ∀ x : Str, x ≠ "__name__" → mb x = bootBuiltins x) (lim : s.heap.NoLimit) (hg : s.gens = #[]) (ha : s.heap.get? a = some { cls := .type "list", data := .seq vs.toArray }) (room : Room k callerA)
    (F : ∀ base : Heap, K.In base → base.Ns mainGlobals mg → FnG P w K mg base k fa fd [x] sp) (bind : ∀ (s : Shared) (u : Value), BindsTo s fd ⟨[u], []⟩ [(x, u)]) (hok : HOk P w H s.heap) (just : ∀ b, H b ≠ none → b = a) (out : H a ≠ none → K.lookup a = none)
    (want : sp [.ref a] H (fun v _ => v = .bl true) fun _ _ _ => False) (only : Only H) :
    codeAny (model P w) callerA (.call (.ref fa) ⟨[.ref a], []⟩) (fun r s' => r = .ok (.ret (.bool true)) ∧ OldK s.heap s'.heap ∧ s'.os = s.os ∧ AllBare s'.gens) s := by
  have dictOut : ∀ {b : Addr} {o : Obj} {es : Array DictEntry} {ep : Nat}, s.heap.get? b = some o → o.data = .dict es ep → H b = none := by
    intro b o es ep e d
    by_cases q : H b = none
    · exact q
    · have eb := just b q
      rw [eb, ha] at e
      cases e
      have d' : Data.seq vs.toArray _ = Data.dict es ep := d
      cases d'
  have ns : ∀ {b : Addr} {m : Str → Option Value}, s.heap.Ns b m → (hidT s.heap H).Ns b m := by
    rintro b m ⟨o, es, ep, e, d, r⟩
    exact ⟨o, es, ep, hid_none e (dictOut e d), d, r⟩
  have inB : K.In (hidT s.heap H) := by
    intro b o e
    refine hid_none (inK b o e) ?_
    by_cases q : H b = none
    · exact q
    · have eb := just b q
      subst eb
      rw [out q] at e
      cases e
  have M : Mod K mg (hidT s.heap H) := ⟨inB, ns hns, ⟨mb, ns hb, hbb⟩, let ⟨mc, h1, h2⟩ := lim; ⟨mc, ns h1, h2⟩⟩
  have env : Env0 P w K mg (hidT s.heap H) callerA [] s H := ⟨rfl, M, fun b o e => of_hidT e, Nat.le_of_eq (hidT_size _ _), trivial, fun b hb => absurd (show b ∈ ([] : List Addr) from hb) (by simp), hok, .of_eq hg⟩
  apply codeAny_mono ((F _ inB (ns hns)).go callerA [] s H ⟨[.ref a], []⟩ [.ref a] [.ref a] _ _ rfl room env (bind s (.ref a)) (.cons rfl .nil) want)
  intro r s2 fin
  cases r with
  | error e => exact fin.elim
  | ok fl =>
    cases fl with
    | next => exact False.elim fin
    | brk => exact False.elim fin
    | cont => exact False.elim fin
    | ret u =>
      obtain ⟨v, H2, os, bare, un, hok2, rv, q⟩ := fin
      have ev : v = .bl true := q
      subst ev
      obtain rfl : u = Value.bool true := rv
      refine ⟨rfl, OldK.of_keep fun b o e => ?_, os, bare⟩
      obtain z | ⟨ob, xs, z⟩ := only b
      · exact un.keep b o e z (fun m => absurd (show b ∈ ([] : List Addr) from m) (by simp)) (by simp)
      · have z2 := un.frzs b ob _ z
        obtain ⟨e1, _⟩ := hok b _ z
        obtain ⟨e2, _⟩ := hok2 b _ z2
        rw [e] at e1
        cases e1
        exact e2
theorem lawG_call {P : Program} {w : World} {K : PySem.W.Frag} {mg mb : Str → Option Value} {k : Nat} {fa a : Addr} {fd : FuncData} {x : Str} {sp : Sp} {s : Shared} {vs : List Value} {ns : List Int}
    (inK : K.In s.heap) (hns : s.heap.Ns mainGlobals mg) (hb : s.heap.Ns builtinsNs mb) (hbb : ∀ x : Str, x ≠ "__name__" → mb x = bootBuiltins x) (lim : s.heap.NoLimit) (hg : s.gens = #[]) (ha : s.heap.get? a = some { cls := .type "list", data := .seq vs.toArray }) (theInts : IntsAre vs ns) (hl : ns.length ≤ sizeLine) (room : Room k callerA)
    (F : ∀ base : Heap, K.In base → base.Ns mainGlobals mg → FnG P w K mg base k fa fd [x] sp) (bind : ∀ (s : Shared) (u : Value), BindsTo s fd ⟨[u], []⟩ [(x, u)])
    (want : ∀ H : Hp, Only H → SqL K H a (ns.map V.int) → sp [.ref a] H (fun v _ => v = .bl true) fun _ _ _ => False) :
    codeAny (model P w) callerA (.call (.ref fa) ⟨[.ref a], []⟩) (fun r s' => r = .ok (.ret (.bool true)) ∧ OldK s.heap s'.heap ∧ s'.os = s.os ∧ AllBare s'.gens) s := by
  have rv := vals_ints theInts
  have lenV := theInts.length
  by_cases hk : K.lookup a = none
  · let H : Hp := fun b => if b = a then some (.frz { cls := .type "list", data := .seq vs.toArray } (.lst (ns.map V.int))) else none
    have at_ : ∀ b u, H b = some u → b = a ∧ u = .frz { cls := .type "list", data := .seq vs.toArray } (.lst (ns.map V.int)) := fun b u z => by
      by_cases q : b = a
      · exact ⟨q, (Option.some.inj ((if_pos q).symm.trans z)).symm⟩
      · exact absurd ((if_neg q).symm.trans z) (by simp)
    have only : Only H := fun b => by
      cases e : H b with
      | none => exact .inl rfl
      | some u => exact .inr ⟨_, _, by rw [(at_ b u e).2]⟩
    refine lawG_run (H := H) inK hns hb hbb lim hg ha room F bind (fun b u z => ?_) (fun b z => ?_) (fun _ => hk) (want H only (.inl (.inr ⟨{ cls := .type "list", data := .seq vs.toArray }, if_pos rfl⟩))) only
    · obtain ⟨rfl, rfl⟩ := at_ b u z
      exact ⟨ha, by rw [List.length_map]; exact hl, vs, _, rv, ha⟩
    · cases e : H b with
      | none => exact absurd e z
      | some u => exact (at_ b u e).1
  · obtain ⟨o, e⟩ := Option.ne_none_iff_exists'.mp hk
    have eo := inK a o e
    rw [ha] at eo
    cases eo
    have only : Only fun _ => none := fun _ => .inl rfl
    exact lawG_run (H := fun _ => none) inK hns hb hbb lim hg ha room F bind (fun b u z => by cases z) (fun b z => absurd rfl z) (fun z => absurd rfl z) (want _ only (.inr ⟨_, vs.toArray, _, e, rfl, rfl, rfl, by rw [List.size_toArray, lenV]; exact hl, by simpa using rv⟩)) only
theorem walkG {l : PySem.W.OpenLaw} {n k : Nat} {q : Program} {loose : List Str} {XP : (Str → Option Value) → Heap → Prop} {YP : World → Heap → Prop} {d : DefRec} {K : Params → PySem.W.Frag} {sp : PySem.W.Frag → Sp} {x : Str}
    (hn : l.most = some n) (hn2 : n ≤ sizeLine) (hdf : d.params.defaults = []) (room : Room k callerA) (hY : ∀ (w : World) (h : Heap), YP w h → (K w.params).In h)
    (F : ∀ (w : World) (mg : Str → Option Value) (fa : Addr) (h : Heap), (K w.params).In h → h.Ns mainGlobals mg → mg d.name = some (.ref fa) →
      ∃ fd : FuncData, (∀ (s : Shared) (u : Value), BindsTo s fd ⟨[u], []⟩ [(x, u)]) ∧ ∀ base : Heap, (K w.params).In base → base.Ns mainGlobals mg → FnG l.prog w (K w.params) mg base k fa fd [x] (sp (K w.params)))
    (want : ∀ (K : PySem.W.Frag) (H : Hp) (a : Addr) (ns : List Int), ns.length ≤ n → SqL K H a (ns.map V.int) → sp K [.ref a] H (fun v _ => v = .bl true) fun _ _ _ => False) :
    PySem.W.WalkO q loose XP YP l.row.toRowW d [] (fun f vs => PySem.call f vs) := by
  apply Att.attach_call hn hdf
  intro w s₀ s₁ mg mb fa o pm cd doc a vs ns G Y ho hd hcd hmg hobj hints hlen hg
  have inK := hY w _ Y
  obtain ⟨fd, bind, ok⟩ := F w mg fa _ inK G.T.g hmg
  exact lawG_call inK G.T.g G.T.b G.T.builtins G.T.nolimit hg hobj hints (Nat.le_trans hlen hn2) room ok bind fun H _ hS => want _ H a ns hlen hS
end

/-! ### draws out of a row -/
def drawG (bx : List Int × Nat) (m : Int) : Option (Int × (List Int × Nat)) := if 0 < m then some ((if bx.2 < bx.1.length then bx.1.getD bx.2 0 % m else ((bx.2 : Int) * 7 + 3) % m), (bx.1, bx.2 + 1)) else none
theorem drawG_ok {bx : List Int × Nat} {m : Int} (h : 0 < m) : ∃ r n, drawG bx m = some (r, (bx.1, n)) ∧ 0 ≤ r ∧ r < m := by
  unfold drawG
  rw [if_pos h]
  by_cases c : bx.2 < bx.1.length
  · rw [if_pos c]
    exact ⟨_, _, rfl, Int.emod_nonneg _ (by omega), Int.emod_lt_of_pos _ h⟩
  · rw [if_neg c]
    exact ⟨_, _, rfl, Int.emod_nonneg _ (by omega), Int.emod_lt_of_pos _ h⟩
def sp_row : Sp := fun vs H Q _ => ∃ c k m : Int, vs = [.int c, .int k, .int m] ∧ 0 ≤ m ∧ m ≤ 1000 ∧ ∀ (p : Addr) (ds : List Int) (H' : Hp), H p = none → Same H H' → H' p = some (.lst (ds.map V.int)) → ds.length ≤ 1000 → Q (.ref p) H'
def sp_box (K : PySem.W.Frag) : Sp := fun vs H Q _ => ∃ (a : Addr) (ns : List Int) (f l : Nat), vs = [.ref a, .int f, .int l] ∧ SqL K H a (ns.map V.int) ∧ f ≤ l ∧ l ≤ 63 ∧
  ∀ (b d : Addr) (ds : List Int) (H' : Hp), H b = none → H d = none → d ≠ b → Same H H' → H' b = some (.lst [.ref d, .int 0]) → H' d = some (.lst (ds.map V.int)) → Q (.ref b) H'
theorem room66 {A : Around} {k : Nat} (hr : Room k A) : A.units + 66 < cLine := by have := hr.un; omega
theorem room80 {A : Around} {k : Nat} (hr : Room k A) : A.units + 80 < cLine := by have := hr.un; omega
theorem roomIn {A : Around} {k : Nat} (hr : Room k A) : A.units + 65 < cLine := by have := hr.un; omega
/-! ### x in xs, data of any depth -/
def inD {α : Type} [DecidableEq α] (x : α) (xs : List α) : Bool := decide (x ∈ xs)
theorem inD_iff {α : Type} [DecidableEq α] {x : α} {xs : List α} : inD x xs = true ↔ x ∈ xs := by unfold inD; exact decide_eq_true_iff
theorem any_encs {α : Type} [DecidableEq α] [Enc α] (x : α) : ∀ xs : List α, ((xs.map Enc.enc).any fun z => PyData.eqv z (Enc.enc x)) = inD x xs
  | [] => by simp [inD]
  | y :: ys => by
    rw [List.map_cons, List.any_cons, any_encs x ys, Enc.eqv]
    by_cases h : y = x
    · subst h; simp [inD]
    · have h' : ¬ x = y := fun z => h z.symm
      simp [inD, h, h']
section
variable {α : Type} [DecidableEq α] [Enc α] [Rp α] [RpD α] {K : PySem.W.Frag} {B ms : Ms} {σ : L2.St} {H0 : Hp} {p q r : Hq} {ta tb : TE} {x : α} {xs : List α}
theorem ex_inD (W : Wd B ms H0) (hd : Enc.dep (List α) ≤ 64) (h1 : Ex B ms ta σ H0 p x q) (h2 : El B ms tb σ H0 q xs r) : Ex B ms (tOp (rInD K) ta tb) σ H0 p (inD x xs) r := fun H b hp Q k => h1 H b hp _ fun v H1 b1 q1 r1 => h2 H1 (b.trans b1) q1 _ fun a H2 b2 q2 na l2 =>
  ⟨Enc.enc x, xs.map Enc.enc, RpD.dp (Rp.mv r1 (Mv.bu W.hB b2)), l2.is, shapedE (Nat.le_trans (Nat.le_succ _) hd) x, shapedE hd xs, by rw [any_encs]; exact k _ H2 (b1.trans b2) q2 rfl⟩
theorem ex_notInD (W : Wd B ms H0) (hd : Enc.dep (List α) ≤ 64) (h1 : Ex B ms ta σ H0 p x q) (h2 : El B ms tb σ H0 q xs r) : Ex B ms (tOp (rNotInD K) ta tb) σ H0 p (!inD x xs) r := fun H b hp Q k => h1 H b hp _ fun v H1 b1 q1 r1 => h2 H1 (b.trans b1) q1 _ fun a H2 b2 q2 na l2 =>
  ⟨Enc.enc x, xs.map Enc.enc, RpD.dp (Rp.mv r1 (Mv.bu W.hB b2)), l2.is, shapedE (Nat.le_trans (Nat.le_succ _) hd) x, shapedE hd xs, by rw [any_encs]; exact k _ H2 (b1.trans b2) q2 rfl⟩
end
end Pf

set_option maxHeartbeats 1000000
namespace Pf
open PySem PySem.Spec PyProof.Rows L2
open Rp (rp)
open RpA (ra)
/-! ### dicts whose keys are tuples of any depth, of numbers and truth values -/
mutual
def plainK : NestedKey → Bool
  | .none => true
  | .num _ => true
  | .text _ => false
  | .tup ks => plainAll ks
def plainAll : List NestedKey → Bool
  | [] => true
  | k :: ks => plainK k && plainAll ks
end
mutual
def hashN : NestedKey → Int
  | .none => reduceHash 0xFCA86420
  | .num i => hashInt i
  | .text _ => 0
  | .tup ks => reduceHash (Builtin.Tuple.tupleHashOf (hashNs ks))
def hashNs : List NestedKey → List Int
  | [] => []
  | k :: ks => hashN k :: hashNs ks
end
mutual
theorem hash_plain (w : World) : ∀ k : NestedKey, plainK k = true → k.hash w = hashN k
  | .none, _ => by rw [NestedKey.hash, hashN]
  | .num i, _ => by rw [NestedKey.hash, hashN]
  | .text _, h => by rw [plainK] at h; cases h
  | .tup ks, h => by rw [plainK] at h; rw [NestedKey.hash, hashN, hashes_plain w ks h]
theorem hashes_plain (w : World) : ∀ ks : List NestedKey, plainAll ks = true → NestedKey.hashes w ks = hashNs ks
  | [], _ => by rw [NestedKey.hashes, hashNs]
  | k :: ks, h => by
    rw [plainAll, Bool.and_eq_true] at h
    rw [NestedKey.hashes, hashNs, hash_plain w k h.1, hashes_plain w ks h.2]
end
mutual
/-- a value is a key -/
inductive KeyIs (H : Hp) : V → NestedKey → Prop
  | num (i : Int) : KeyIs H (.int i) (.num i)
  | bl (b : Bool) : KeyIs H (.bl b) (.num (if b = true then 1 else 0))
  | tup {a : Addr} {xs : List V} {ks : List NestedKey} : H a = some (.tup xs) → KeyAll H xs ks → KeyIs H (.ref a) (.tup ks)
inductive KeyAll (H : Hp) : List V → List NestedKey → Prop
  | nil : KeyAll H [] []
  | cons {v : V} {vs : List V} {k : NestedKey} {ks : List NestedKey} : KeyIs H v k → KeyAll H vs ks → KeyAll H (v :: vs) (k :: ks)
end
section
variable {P : Program} {w : World} {H : Hp} {h : Heap}
mutual
theorem KeyIs.nested (ok : HOk P w H h) : ∀ (k : NestedKey) (v : V) (u : Value), KeyIs H v k → RelV v u → NestedIs h k u
  | .num _, _, _, .num i, r => by
    obtain ⟨t, rfl⟩ := r
    exact .int i t
  | .num _, _, _, .bl b, r => by
    have r' : _ = Value.bool b := r
    subst r'
    exact .bool rfl
  | .tup ks, _, _, .tup (a := a) (xs := xs) e all, r => by
    have r' : _ = Value.ref a := r
    subst r'
    obtain ⟨_, its, rv, o, h1, h2, n, h3⟩ := (show ObjOk P w H h a (.tup xs) from ok a _ e)
    exact .tup h1 h2 h3 (by simpa using KeyAll.nested ok ks xs its all rv)
theorem KeyAll.nested (ok : HOk P w H h) : ∀ (ks : List NestedKey) (vs : List V) (us : List Value), KeyAll H vs ks → Vals vs us → NestedAll h ks us
  | [], _, _, .nil, r => by cases r; exact .nil
  | k :: ks, _, _, .cons a b, r => by
    cases r with
    | cons r1 r2 => exact .cons (KeyIs.nested ok k _ _ a r1) (KeyAll.nested ok ks _ _ b r2)
end
end
/-- an entry: the key, where it stands, the value -/
abbrev NEnt := NestedKey × Addr × V
def NE : List NEnt → List (NestedKey × Addr × Value) → Prop := Paired fun p q => p.1 = q.1 ∧ p.2.1 = q.2.1 ∧ RelV p.2.2 q.2.2
def dnOk (xs : List NEnt) (a : Addr) : Heap → Prop := fun h => (a == sysModules) = false ∧ ∃ ys, NE xs ys ∧ ∃ o es ep, h.get? a = some o ∧ o.ExactDict ∧ o.data = .dict es ep ∧ es.toList = ys.map fun y => (⟨hashN y.1, .ref y.2.1, y.2.2⟩ : DictEntry)
/-- a dict at a -/
def dN (xs : List NEnt) (a : Addr) : HO := .ext (dnOk xs a)
/-- it can be read at a, locked or not -/
def Rdn (H : Hp) (a : Addr) (xs : List NEnt) : Prop := H a = some (dN xs a) ∨ ∃ o, H a = some (.frz o (dN xs a))
/-- what is known of its entries besides -/
structure NOk (H : Hp) (xs : List NEnt) : Prop where
  len : xs.length ≤ sizeLine
  nd : (xs.map (·.1)).Nodup
  key : ∀ x ∈ xs, KeyIs H (.ref x.2.1) x.1 ∧ x.1.depth ≤ 8 ∧ plainK x.1 = true
def getN (xs : List NEnt) (k : NestedKey) : Option V := (xs.find? fun x => decide (x.1 = k)).map (·.2.2)
def putN (xs : List NEnt) (k : NestedKey) (b : Addr) (v : V) : List NEnt := if (getN xs k).isSome = true then xs.map (fun x => if x.1 = k then (x.1, x.2.1, v) else x) else xs ++ [(k, b, v)]
theorem getN_cons (x : NEnt) (xs : List NEnt) (k : NestedKey) : getN (x :: xs) k = if x.1 = k then some x.2.2 else getN xs k := by
  unfold getN
  rw [List.find?_cons]
  by_cases h : x.1 = k <;> simp [h]
theorem atKey_cons (x : NestedKey × Addr × Value) (xs : List (NestedKey × Addr × Value)) (k : NestedKey) : (atKey (x :: xs) k).map (·.2) = if x.1 = k then some x.2.2 else (atKey xs k).map (·.2) := by
  unfold atKey
  rw [List.find?_cons]
  by_cases h : x.1 = k <;> simp [h]
theorem NE.val (k : NestedKey) : ∀ {xs : List NEnt} {ys : List (NestedKey × Addr × Value)}, NE xs ys → RelO (getN xs k) ((atKey ys k).map (·.2))
  | [], _, r => by cases r; exact True.intro
  | x :: xs, _, r => by
    cases r with
    | @cons a b as bs r1 r2 =>
      rw [getN_cons, atKey_cons, ← r1.1]
      by_cases h : x.1 = k
      · rw [if_pos h, if_pos h]; exact r1.2.2
      · rw [if_neg h, if_neg h]; exact NE.val k r2
theorem NE.keys : ∀ {xs : List NEnt} {ys : List (NestedKey × Addr × Value)}, NE xs ys → xs.map (·.1) = ys.map (·.1)
  | [], _, r => by cases r; rfl
  | x :: xs, _, r => by
    cases r with
    | cons r1 r2 => rw [List.map_cons, List.map_cons, r1.1, NE.keys r2]
theorem NE.mem : ∀ {xs : List NEnt} {ys : List (NestedKey × Addr × Value)}, NE xs ys → ∀ y ∈ ys, ∃ x ∈ xs, x.1 = y.1 ∧ x.2.1 = y.2.1
  | [], _, r, y, hy => by cases r; cases hy
  | x :: xs, _, r, y, hy => by
    cases r with
    | cons r1 r2 =>
      obtain z | z := List.mem_cons.mp hy
      · exact ⟨x, List.mem_cons_self, by rw [z]; exact ⟨r1.1, r1.2.1⟩⟩
      · obtain ⟨x', m, e⟩ := NE.mem r2 y z
        exact ⟨x', List.mem_cons_of_mem _ m, e⟩
theorem NE.repl {k : NestedKey} {v : V} {u : Value} (rv : RelV v u) : ∀ {xs : List NEnt} {ys : List (NestedKey × Addr × Value)}, NE xs ys → NE (xs.map fun x => if x.1 = k then (x.1, x.2.1, v) else x) (ys.map (putAt k u))
  | [], _, r => by cases r; exact .nil
  | x :: xs, _, r => by
    cases r with
    | @cons a b as bs r1 r2 =>
      rw [List.map_cons, List.map_cons]
      refine .cons ?_ (NE.repl rv r2)
      unfold putAt
      rw [← r1.1]
      by_cases h : x.1 = k
      · rw [if_pos h, if_pos h]; exact ⟨rfl, r1.2.1, rv⟩
      · rw [if_neg h, if_neg h]; exact r1
theorem NE.snoc {x : NEnt} {y : NestedKey × Addr × Value} (h : x.1 = y.1 ∧ x.2.1 = y.2.1 ∧ RelV x.2.2 y.2.2) : ∀ {xs : List NEnt} {ys : List (NestedKey × Addr × Value)}, NE xs ys → NE (xs ++ [x]) (ys ++ [y])
  | [], _, r => by cases r; exact .cons h .nil
  | z :: xs, _, r => by
    cases r with
    | cons r1 r2 => exact .cons r1 (NE.snoc h r2)
theorem NE.put {k : NestedKey} {b : Addr} {v : V} {u : Value} {xs : List NEnt} {ys : List (NestedKey × Addr × Value)} (r : NE xs ys) (rv : RelV v u) : NE (putN xs k b v) (storedH ys k b u) := by
  have e : (getN xs k).isSome = (atKey ys k).isSome := by
    rw [(NE.val k r).isSome_eq, Option.isSome_map]
  unfold putN storedH
  rw [e]
  by_cases q : (atKey ys k).isSome = true
  · rw [if_pos q, if_pos q]; exact NE.repl rv r
  · rw [if_neg q, if_neg q]; exact NE.snoc ⟨rfl, rfl, rv⟩ r
theorem putN_len (xs : List NEnt) (k : NestedKey) (b : Addr) (v : V) : (putN xs k b v).length ≤ xs.length + 1 := by
  unfold putN
  split
  · rw [List.length_map]; omega
  · rw [List.length_append]; exact Nat.le_refl _
theorem putN_mem {xs : List NEnt} {k : NestedKey} {b : Addr} {v : V} {x : NEnt} (h : x ∈ putN xs k b v) : (∃ y ∈ xs, y.1 = x.1 ∧ y.2.1 = x.2.1) ∨ (x.1 = k ∧ x.2.1 = b) := by
  unfold putN at h
  split at h
  · obtain ⟨y, hy, e⟩ := List.mem_map.mp h
    refine .inl ⟨y, hy, ?_⟩
    rw [← e]
    split <;> exact ⟨rfl, rfl⟩
  · obtain z | z := List.mem_append.mp h
    · exact .inl ⟨x, z, rfl, rfl⟩
    · rw [List.mem_singleton.mp z]
      exact .inr ⟨rfl, rfl⟩
theorem getN_none {k : NestedKey} : ∀ {xs : List NEnt}, (getN xs k).isSome = false → k ∉ xs.map (·.1)
  | [], _ => by simp
  | x :: xs, h => by
    rw [getN_cons] at h
    by_cases e : x.1 = k
    · rw [if_pos e] at h; cases h
    · rw [if_neg e] at h
      rw [List.map_cons, List.mem_cons]
      rintro (z | z)
      · exact e z.symm
      · exact getN_none h z
theorem putN_nd {xs : List NEnt} {k : NestedKey} {b : Addr} {v : V} (h : (xs.map (·.1)).Nodup) : ((putN xs k b v).map (·.1)).Nodup := by
  unfold putN
  split
  · rw [List.map_map]
    have e : ((fun x : NEnt => x.1) ∘ fun x => if x.1 = k then (x.1, x.2.1, v) else x) = fun x => x.1 := by
      funext x
      show (if x.1 = k then (x.1, x.2.1, v) else x).1 = x.1
      split <;> rfl
    rw [e]
    exact h
  · rename_i q
    rw [List.map_append]
    refine List.nodup_append.mpr ⟨h, by simp, fun y hy z hz e => ?_⟩
    rw [List.map_singleton, List.mem_singleton] at hz
    subst hz e
    exact getN_none (by simpa using q) hy
section
variable {X : Cx} {pins : List (Addr × Obj)} {σ : L2.St} {H : Hp} {s : Shared}
theorem dn_of (I : L2.Inv X pins σ H s) {a : Addr} {xs : List NEnt} (e : Rdn H a xs) (ok : NOk H xs) : (a == sysModules) = false ∧ ∃ ys, NE xs ys ∧ s.heap.DictOfH (nestedKind X.prog X.w) a ys := by
  obtain ⟨⟨hd, ys, r, o, es, ep, h1, h2, h3, h4⟩, _, _⟩ := (show ObjOk X.prog X.w H s.heap a (dN xs a) from by
    rcases e with e | ⟨od, e⟩
    · exact I.hok a _ e
    · exact (show ObjOk X.prog X.w H s.heap a (.frz od (dN xs a)) from I.hok a _ e).2)
  refine ⟨hd, ys, r, o, es, ep, h1, h2, h3, ?_, fun y hy => ?_, by rw [← r.keys]; exact ok.nd⟩
  · rw [h4]
    refine List.map_congr_left fun y hy => ?_
    obtain ⟨x, hx, e1, _⟩ := r.mem y hy
    unfold entryOfKey
    show (⟨hashN y.1, _, _⟩ : DictEntry) = ⟨y.1.hash X.w, _, _⟩
    rw [hash_plain X.w y.1 (by rw [← e1]; exact (ok.key x hx).2.2)]
  · obtain ⟨x, hx, e1, e2⟩ := r.mem y hy
    obtain ⟨k1, k2, _⟩ := ok.key x hx
    rw [← e1, ← e2]
    exact ⟨KeyIs.nested I.hok x.1 _ _ k1 rfl, k2⟩
theorem dn_ok {a : Addr} {xs : List NEnt} {h : Heap} (p : dnOk xs a h) {P : Program} {w : World} {H : Hp} : ObjOk P w H h a (dN xs a) := by
  refine ⟨p, ?_, fun h1 h2 p1 k => ?_⟩
  · obtain ⟨_, _, _, o, _, _, e, _⟩ := p
    exact ⟨o, e⟩
  · obtain ⟨hd, ys, r, o, es, ep, e1, e2⟩ := p1
    exact ⟨hd, ys, r, o, es, ep, k o e1, e2⟩
/-- {} -/
def tDNewN : TE := fun _ H Q => ∀ p, H p = none → Q (.ref p) (upd H p (dN [] p))
theorem pe_dnewN {pos : Pos} : PE X (.Dict [] [] pos) tDNewN := ⟨fun pins s σ H Q I h =>
  wpAny_Dict_empty ⟨.ref s.heap.objs.size, _, I.laid (a := s.heap.objs.size) (o := dN [] s.heap.objs.size) (t' := s.toks) (fun _ _ q => Heap.get?_push_of_some _ q) (Nat.le_refl _)
    (dn_ok ⟨beq_eq_false_iff_ne.mpr (Ne.symm (Nat.ne_of_lt I.big)), [], .nil, _, #[], 0, Heap.get?_push_size _ rfl, ⟨rfl, rfl, rfl⟩, rfl, rfl⟩), rfl, h _ (I.hok.fresh (Nat.le_refl _))⟩⟩
/-- the dict at a, asked for the key that stands at b -/
def NAsk (H : Hp) (a b : Addr) (xs : List NEnt) (k : NestedKey) : Prop := Rdn H a xs ∧ NOk H xs ∧ KeyIs H (.ref b) k ∧ k.depth ≤ 8 ∧ plainK k = true
/-- d[y] -/
def tNGet (td ty : TE) : TE := fun σ H Q => td σ H fun x H1 => ty σ H1 fun y H2 => ∃ a b xs k v, x = .ref a ∧ y = .ref b ∧ NAsk H2 a b xs k ∧ getN xs k = some v ∧ Q v H2
/-- y in d, y not in d -/
def tNIn (ty td : TE) : TE := fun σ H Q => ty σ H fun y H1 => td σ H1 fun x H2 => ∃ a b xs k, x = .ref a ∧ y = .ref b ∧ NAsk H2 a b xs k ∧ Q (.bl (getN xs k).isSome) H2
def tNNotIn (ty td : TE) : TE := fun σ H Q => ty σ H fun y H1 => td σ H1 fun x H2 => ∃ a b xs k, x = .ref a ∧ y = .ref b ∧ NAsk H2 a b xs k ∧ Q (.bl (!(getN xs k).isSome)) H2
/-- d[y] = v -/
def sNPut (td ty tv : TE) : TS := fun D σ H => tv σ H fun v H1 => td σ H1 fun x H2 => ty σ H2 fun y H3 => ∃ a b xs k, x = .ref a ∧ y = .ref b ∧ NAsk H3 a b xs k ∧ H3 a = some (dN xs a) ∧ xs.length < sizeLine ∧ D.nx σ (upd H3 a (dN (putN xs k b v) a))
variable {o i e value : Expr} {pos pos' tpos : Pos} {td ty tv : TE}
theorem nroom {A : Around} (hu : A.units + 65 < cLine) : A.in1.units + 8 < cLine := by show A.units + 1 + 8 < cLine; omega
theorem pe_nget (hu : X.A.units + 65 < cLine) (ho : PE X o td) (hi : PE X i ty) (hs : NoSl i) : PE X (.Subscript o i pos) (tNGet td ty) := by
  refine ⟨fun pins s σ H Q I h => ?_⟩
  refine subD_of PySem.F.slot_dict_getitem.lookup hs (thn (ho.run pins s σ H _ I h) fun u s1 ⟨x, H1, I1, rx, q1⟩ => thn (hi.run pins s1 σ H1 _ I1 q1) fun iv s2 ⟨y, H2, I2, ry, a, b, xs, k, v, ex, ey, ⟨ea, ok, kb, dp, pl⟩, g, q2⟩ => ?_)
  subst ex ey
  obtain rfl : u = Value.ref a := rx
  obtain rfl : iv = Value.ref b := ry
  obtain ⟨hd, ys, r, dd⟩ := dn_of I2 ea ok
  obtain ⟨w', hw, rw'⟩ := RelO.some_of (v := v) (o := (atKey ys k).map (·.2)) (by rw [← g]; exact r.val k)
  obtain ⟨p, hp, hp2⟩ := Option.map_eq_some_iff.mp hw
  refine ⟨dd.typeIs, wpAny_getItem_heap (knd := nestedKind X.prog X.w) (nroom hu) ⟨KeyIs.nested I2.hok k _ _ kb rfl, dp⟩ dd hp ?_⟩
  rw [hp2]
  exact ⟨v, H2, I2.tok _, rw', q2⟩
theorem pc_nin (hu : X.A.units + 65 < cLine) (hi : PE X i ty) (ho : PE X o td) : PC X .In i o (tNIn ty td) := by
  refine ⟨fun pins s σ H Q I h => ?_⟩
  refine thn (hi.run pins s σ H _ I h) fun iv s1 ⟨y, H1, I1, ry, q1⟩ => thn (ho.run pins s1 σ H1 _ I1 q1) fun u s2 ⟨x, H2, I2, rx, a, b, xs, k, ex, ey, ⟨ea, ok, kb, dp, pl⟩, q2⟩ => ?_
  subst ex ey
  obtain rfl : u = Value.ref a := rx
  obtain rfl : iv = Value.ref b := ry
  obtain ⟨hd, ys, r, dd⟩ := dn_of I2 ea ok
  refine wpAny_in_heap (knd := nestedKind X.prog X.w) (nroom hu) ⟨KeyIs.nested I2.hok k _ _ kb rfl, dp⟩ hd dd ?_
  have q := (r.val k).isSome_eq
  rw [Option.isSome_map] at q
  rw [← q]
  exact ⟨.bl _, H2, I2.tok _, rfl, q2⟩
theorem pc_nnotin (hu : X.A.units + 65 < cLine) (hi : PE X i ty) (ho : PE X o td) : PC X .NotIn i o (tNNotIn ty td) := by
  refine ⟨fun pins s σ H Q I h => ?_⟩
  refine thn (hi.run pins s σ H _ I h) fun iv s1 ⟨y, H1, I1, ry, q1⟩ => thn (ho.run pins s1 σ H1 _ I1 q1) fun u s2 ⟨x, H2, I2, rx, a, b, xs, k, ex, ey, ⟨ea, ok, kb, dp, pl⟩, q2⟩ => ?_
  subst ex ey
  obtain rfl : u = Value.ref a := rx
  obtain rfl : iv = Value.ref b := ry
  obtain ⟨hd, ys, r, dd⟩ := dn_of I2 ea ok
  refine wpAny_notIn_heap (knd := nestedKind X.prog X.w) (nroom hu) ⟨KeyIs.nested I2.hok k _ _ kb rfl, dp⟩ hd dd ?_
  have q := (r.val k).isSome_eq
  rw [Option.isSome_map] at q
  rw [← q]
  exact ⟨.bl _, H2, I2.tok _, rfl, q2⟩
theorem ps_nput (hu : X.A.units + 65 < cLine) (ho : PE X o td) (hi : PE X i ty) (hv : PE X value tv) (hs : swapsWith value (some (.Subscript o i pos')) pos.line X.env = pure false) :
    PS X (.Assign [.Subscript o i pos'] value pos) (sNPut td ty tv) := by
  refine ⟨fun pins s σ H D I h => ?_⟩
  refine wpAny_Assign_Subscript (hs := hs) (thn (hv.run pins s σ H _ I h) fun r s1 ⟨v, H1, I1, rv, q1⟩ => thn (ho.run pins s1 σ H1 _ I1 q1) fun u s2 ⟨x, H2, I2, rx, q2⟩ => thn (hi.run pins s2 σ H2 _ I2 q2) fun iv s3 ⟨y, H3, I3, ry, a, b, xs, k, ex, ey, ⟨_, ok, kb, dp, pl⟩, ea, hl, q3⟩ => ?_)
  subst ex ey
  obtain rfl : u = Value.ref a := rx
  obtain rfl : iv = Value.ref b := ry
  obtain ⟨hd, ys, rel, dd⟩ := dn_of I3 (.inl ea) ok
  have hz : ys.length ≤ sizeLine := by have := congrArg List.length rel.keys; rw [List.length_map, List.length_map] at this; omega
  refine wpAny_setItem_heap (knd := nestedKind X.prog X.w) (hsz := hz) (nroom hu) ⟨KeyIs.nested I3.hok k _ _ kb rfl, dp⟩ dd fun h' dd' hs' => ?_
  obtain ⟨ob, es, ep, hq, h2, h3, h4, h6, h5⟩ := dd'
  refine ⟨σ, _, d_write I3 (by rw [ea]; exact True.intro) hs' ⟨ob, hq⟩ (dn_ok ⟨hd, _, rel.put rv, ob, es, ep, hq, h2, h3, ?_⟩), q3⟩
  rw [h4]
  refine List.map_congr_left fun y hy => ?_
  unfold entryOfKey
  show (⟨y.1.hash X.w, _, _⟩ : DictEntry) = ⟨hashN y.1, _, _⟩
  obtain ⟨x, hx, e1, _⟩ := (NE.put (k := k) (b := b) rel rv).mem y hy
  rw [hash_plain X.w y.1]
  rw [← e1]
  obtain ⟨z, hz, e, _⟩ | ⟨e, _⟩ := putN_mem hx
  · rw [← e]; exact (ok.key z hz).2.2
  · rw [e]; exact pl
end

/-! ### the same, typed -/
/-- data that may be keys -/
class NK (κ : Type) [Rp κ] where
  nk : κ → NestedKey
  inj : ∀ {x y : κ}, nk x = nk y → x = y
  dep : Nat
  dle : ∀ x, (nk x).depth ≤ dep
  pl : ∀ x, plainK (nk x) = true
  isK : ∀ {ms : Ms} {H : Hp} {v : V} {x : κ}, rp ms H v x → KeyIs H v (nk x)
/-- keys that stand on the heap -/
class NKR (κ : Type) [Rp κ] : Prop where
  ref : ∀ {ms : Ms} {H : Hp} {v : V} {x : κ}, rp ms H v x → ∃ b, v = .ref b
open NK (nk)
instance nkInt : NK Int := ⟨.num, fun h => by cases h; rfl, 0, fun _ => by rw [NestedKey.depth]; exact Nat.le_refl _, fun _ => by rw [plainK], fun h => by have h' : _ = V.int _ := h; subst h'; exact .num _⟩
theorem nkb_inj (x y : Bool) (h : NestedKey.num (if x = true then 1 else 0) = .num (if y = true then 1 else 0)) : x = y := by
  injection h with h
  cases x <;> cases y <;> simp at h ⊢
instance nkBool : NK Bool := ⟨fun b => .num (if b = true then 1 else 0), fun {x y} h => nkb_inj x y h, 0, fun _ => by rw [NestedKey.depth]; exact Nat.le_refl _, fun _ => by rw [plainK], fun h => by have h' : _ = V.bl _ := h; subst h'; exact .bl _⟩
section
variable {α β γ : Type} [Rp α] [NK α] [Rp β] [NK β] [Rp γ] [NK γ]
instance nkPair : NK (α × β) := ⟨fun x => .tup [nk x.1, nk x.2], fun {x y} h => by
  injection h with h
  injection h with h1 h
  injection h with h2 h
  exact Prod.ext (NK.inj h1) (NK.inj h2), max (NK.dep α) (NK.dep β) + 1, fun x => by
  have h1 := NK.dle x.1
  have h2 := NK.dle x.2
  rw [NestedKey.depth, NestedKey.depthAll, NestedKey.depthAll, NestedKey.depthAll]
  omega, fun x => by rw [plainK, plainAll, plainAll, plainAll, NK.pl, NK.pl]; rfl,
  fun ⟨a, u, w, e, _, eh, r1, r2⟩ => by subst e; exact .tup eh (.cons (NK.isK r1) (.cons (NK.isK r2) .nil))⟩
instance nkrPair : NKR (α × β) := ⟨fun ⟨a, _, _, e, _⟩ => ⟨a, e⟩⟩
end
/-- a tuple of as many items as it has -/
structure VT (α : Type) : Type where
  l : List α
deriving DecidableEq
instance instRpVT {α : Type} [Rp α] : Rp (VT α) := ⟨fun ms H v x => ∃ a vs, v = .ref a ∧ a ∉ ms ∧ H a = some (.tup vs) ∧ RL (rp ms H) vs x.l ∧ vs.length ≤ sizeLine, fun {ms ms' H H' v x} h M => by
  obtain ⟨a, vs, rfl, n, e, r, l⟩ := h
  obtain ⟨n', e'⟩ := M a _ n e
  exact ⟨a, vs, rfl, n', e', r.imp fun _ _ z => Rp.mv z M, l⟩⟩
section
variable {α : Type} [Rp α] [NK α]
theorem nk_all : ∀ xs : List α, NestedKey.depthAll (xs.map nk) ≤ NK.dep α ∧ plainAll (xs.map nk) = true
  | [] => by rw [List.map_nil, NestedKey.depthAll, plainAll]; exact ⟨Nat.zero_le _, rfl⟩
  | x :: xs => by
    obtain ⟨h1, h2⟩ := nk_all xs
    have h3 := NK.dle x
    rw [List.map_cons, NestedKey.depthAll, plainAll, NK.pl, h2]
    exact ⟨by omega, rfl⟩
theorem nk_inj : ∀ {xs ys : List α}, xs.map nk = ys.map nk → xs = ys
  | [], [], _ => rfl
  | [], _ :: _, h => by cases h
  | _ :: _, [], h => by cases h
  | x :: xs, y :: ys, h => by
    injection h with h1 h2
    rw [NK.inj h1, nk_inj h2]
theorem nk_keys {ms : Ms} {H : Hp} : ∀ {vs : List V} {xs : List α}, RL (rp ms H) vs xs → KeyAll H vs (xs.map nk)
  | [], [], _ => .nil
  | _ :: _, _ :: _, ⟨a, b⟩ => .cons (NK.isK a) (nk_keys b)
instance nkVT : NK (VT α) := ⟨fun x => .tup (x.l.map nk), fun {x y} h => by
  injection h with h
  have e := nk_inj h
  cases x; cases y
  exact congrArg VT.mk e, NK.dep α + 1, fun x => by rw [NestedKey.depth]; have := (nk_all x.l).1; omega, fun x => by rw [plainK]; exact (nk_all x.l).2,
  fun ⟨a, vs, e, _, eh, r, _⟩ => by subst e; exact .tup eh (nk_keys r)⟩
instance nkrVT : NKR (VT α) := ⟨fun ⟨a, _, e, _⟩ => ⟨a, e⟩⟩
end
/-- a dict with such keys -/
structure DN (κ β : Type) : Type where
  m : List (κ × β)
def getM {κ β : Type} [DecidableEq κ] (m : List (κ × β)) (k : κ) : Option β := (m.find? fun p => decide (p.1 = k)).map (·.2)
def putM {κ β : Type} [DecidableEq κ] (m : List (κ × β)) (k : κ) (x : β) : List (κ × β) := if (getM m k).isSome = true then m.map (fun p => if p.1 = k then (p.1, x) else p) else m ++ [(k, x)]
def putD {κ β : Type} [DecidableEq κ] (d : DN κ β) (k : κ) (x : β) : Option (DN κ β) := if d.m.length < sizeLine then some ⟨putM d.m k x⟩ else none
theorem getM_cons {κ β : Type} [DecidableEq κ] (p : κ × β) (m : List (κ × β)) (k : κ) : getM (p :: m) k = if p.1 = k then some p.2 else getM m k := by
  unfold getM
  rw [List.find?_cons]
  by_cases h : p.1 = k <;> simp [h]
section
variable {κ β : Type} [DecidableEq κ] [Rp κ] [NK κ] [Rp β]
/-- entry by entry -/
def RE (ms : Ms) (H : Hp) : List NEnt → List (κ × β) → Prop
  | [], [] => True
  | x :: xs, p :: m => (x.1 = nk p.1 ∧ rp ms H (.ref x.2.1) p.1 ∧ rp ms H x.2.2 p.2) ∧ RE ms H xs m
  | _, _ => False
theorem RE.mv {ms ms' : Ms} {H H' : Hp} (M : Mv ms H ms' H') : ∀ {xs : List NEnt} {m : List (κ × β)}, RE ms H xs m → RE ms' H' xs m
  | [], [], _ => trivial
  | _ :: _, _ :: _, ⟨⟨a, b, c⟩, r⟩ => ⟨⟨a, Rp.mv b M, Rp.mv c M⟩, RE.mv M r⟩
theorem RE.len {ms : Ms} {H : Hp} : ∀ {xs : List NEnt} {m : List (κ × β)}, RE ms H xs m → xs.length = m.length
  | [], [], _ => rfl
  | _ :: _, _ :: _, ⟨_, r⟩ => by rw [List.length_cons, List.length_cons, RE.len r]
theorem RE.get {ms : Ms} {H : Hp} (k : κ) : ∀ {xs : List NEnt} {m : List (κ × β)}, RE ms H xs m → (getN xs (nk k)).isSome = (getM m k).isSome ∧ ∀ x, getM m k = some x → ∃ v, getN xs (nk k) = some v ∧ rp ms H v x
  | [], [], _ => ⟨rfl, fun x h => by cases h⟩
  | x :: xs, p :: m, ⟨⟨a, b, c⟩, r⟩ => by
    rw [getN_cons, getM_cons, a]
    by_cases e : p.1 = k
    · rw [if_pos (by rw [e]), if_pos e]
      exact ⟨rfl, fun y hy => ⟨_, rfl, by cases hy; exact c⟩⟩
    · rw [if_neg (fun z => e (NK.inj z)), if_neg e]
      exact RE.get k r
theorem RE.repl {ms : Ms} {H : Hp} {k : κ} {v : V} {y : β} (rv : rp ms H v y) : ∀ {xs : List NEnt} {m : List (κ × β)}, RE ms H xs m → RE ms H (xs.map fun x => if x.1 = nk k then (x.1, x.2.1, v) else x) (m.map fun p => if p.1 = k then (p.1, y) else p)
  | [], [], _ => trivial
  | x :: xs, p :: m, ⟨⟨a, b, c⟩, r⟩ => by
    refine ⟨?_, RE.repl rv r⟩
    dsimp only
    by_cases e : p.1 = k
    · rw [if_pos (by rw [a, e]), if_pos e]; exact ⟨a, b, rv⟩
    · rw [if_neg (fun z => e (NK.inj (a.symm.trans z))), if_neg e]; exact ⟨a, b, c⟩
theorem RE.snoc {ms : Ms} {H : Hp} {x : NEnt} {p : κ × β} (h : x.1 = nk p.1 ∧ rp ms H (.ref x.2.1) p.1 ∧ rp ms H x.2.2 p.2) : ∀ {xs : List NEnt} {m : List (κ × β)}, RE ms H xs m → RE ms H (xs ++ [x]) (m ++ [p])
  | [], [], _ => ⟨h, trivial⟩
  | _ :: _, _ :: _, ⟨a, r⟩ => ⟨a, RE.snoc h r⟩
theorem RE.put {ms : Ms} {H : Hp} {k : κ} {b : Addr} {v : V} {y : β} {xs : List NEnt} {m : List (κ × β)} (r : RE ms H xs m) (rk : rp ms H (.ref b) k) (rv : rp ms H v y) : RE ms H (putN xs (nk k) b v) (putM m k y) := by
  unfold putN putM
  rw [(RE.get k r).1]
  split
  · exact RE.repl rv r
  · exact RE.snoc ⟨rfl, rk, rv⟩ r
theorem RE.ok {ms : Ms} {H : Hp} (h8 : NK.dep κ ≤ 8) : ∀ {xs : List NEnt} {m : List (κ × β)}, RE ms H xs m → ∀ x ∈ xs, KeyIs H (.ref x.2.1) x.1 ∧ x.1.depth ≤ 8 ∧ plainK x.1 = true
  | [], [], _, x, hx => by cases hx
  | y :: xs, p :: m, ⟨⟨a, b, c⟩, r⟩, x, hx => by
    obtain z | z := List.mem_cons.mp hx
    · subst z
      rw [a]
      exact ⟨NK.isK b, Nat.le_trans (NK.dle p.1) h8, NK.pl p.1⟩
    · exact RE.ok h8 r x z
/-- a dict stands at a -/
def Dn (ms : Ms) (H : Hp) (a : Addr) (d : DN κ β) : Prop := ∃ xs, H a = some (dN xs a) ∧ RE ms H xs d.m ∧ xs.length ≤ sizeLine ∧ (xs.map (·.1)).Nodup
instance instRpDN : Rp (DN κ β) := ⟨fun ms H v d => ∃ a, v = .ref a ∧ a ∉ ms ∧ Dn ms H a d, fun {ms ms' H H' v x} h M => by
  obtain ⟨a, rfl, n, xs, e, r, l, nd⟩ := h
  obtain ⟨n', e'⟩ := M a _ n e
  exact ⟨a, rfl, n', xs, e', r.mv M, l, nd⟩⟩
variable {B ms ms' : Ms} {H H' : Hp} {a m p : Addr} {d : DN κ β}
theorem Dn.step (h : Dn ms H a d) (M : Mv ms H ms' H') (e : ∀ o, H a = some o → H' a = some o) : Dn ms' H' a d := let ⟨xs, e1, r, l, nd⟩ := h; ⟨xs, e _ e1, r.mv M, l, nd⟩
theorem Dn.bu (h : Dn ms H a d) (hB : ∀ a ∈ B, a ∈ ms) (n : a ∉ B) (s : Bu B H H') : Dn ms H' a d := h.step (Mv.bu hB s) fun o e => s.1 a o n e
theorem Dn.less (h : Dn ms H a d) (l : ∀ a ∈ ms', a ∈ ms) : Dn ms' H a d := h.step (Mv.less l) fun o e => e
theorem Dn.alive (h : Dn ms H a d) : H a ≠ none := by obtain ⟨xs, e, _⟩ := h; rw [e]; exact fun z => by cases z
theorem Dn.ne (h : Dn ms H a d) (np : H p = none) : a ≠ p := fun z => h.alive (z ▸ np)
theorem Dn.lt {H0 : Hp} (h : Dn ms H0 a d) (n : a ∉ B) (L : Lt B ms H0 ms' H) : Dn ms' H a d := h.step L.M fun o e => L.S a o n e
/-- such a dict that can be read at a -/
def Er2 (ms : Ms) (H : Hp) (a : Addr) (d : DN κ β) : Prop := ∃ xs, Rdn H a xs ∧ RE ms H xs d.m ∧ xs.length ≤ sizeLine ∧ (xs.map (·.1)).Nodup
theorem Dn.er (h : Dn ms H a d) : Er2 ms H a d := let ⟨xs, e, r, l, nd⟩ := h; ⟨xs, .inl e, r, l, nd⟩
theorem Er2.bu (h : Er2 ms H a d) (hB : ∀ a ∈ B, a ∈ ms) (n : a ∉ B) (s : Bu B H H') : Er2 ms H' a d := by
  obtain ⟨xs, e, r, l, nd⟩ := h
  refine ⟨xs, ?_, r.mv (Mv.bu hB s), l, nd⟩
  rcases e with e | ⟨o, e⟩
  · exact .inl (s.1 _ _ n e)
  · exact .inr ⟨o, s.1 _ _ n e⟩
/-- such a dict to be read, frozen or not -/
def Ed2 (B ms : Ms) (te : TE) (σ : L2.St) (H0 : Hp) (p : Hq) (d : DN κ β) (q : Hq) : Prop :=
  ∀ H, Bu B H0 H → p ms H → ∀ Q : VK, (∀ a H', Bu B H H' → q ms H' → a ∉ B → Er2 ms H' a d → Q (.ref a) H') → te σ H Q
end
section
variable {κ β : Type} [DecidableEq κ] [Rp κ] [NK κ] [NKR κ] [Rp β] {B ms : Ms} {σ : L2.St} {H0 : Hp} {p q r : Hq} {ta tb te : TE} {d d' : DN κ β} {i : κ} {x : β}
theorem ed2_of (hB : ∀ a ∈ B, a ∈ ms) (h : Ex B ms te σ H0 p d q) : Ed2 B ms te σ H0 p d q := fun H b hp Q k => h H b hp _ fun v H1 b1 q1 ⟨a, e, n, l⟩ => by
  subst e
  exact k a H1 b1 q1 (fun z => n (hB a z)) (Dn.er l)
theorem ed2_var {n : Nat} {a : Addr} (W : Wd B ms H0) (hs : σ[n]? = some (some (.ref a))) (nB : a ∉ B) (h : Dn ms H0 a d) : Ed2 B ms (tVar n) σ H0 p d p := fun H b hp Q k => ⟨_, hs, k a H (Bu.refl B H) hp nB (h.bu W.hB nB b).er⟩
theorem nask (h8 : NK.dep κ ≤ 8) {H : Hp} {a : Addr} {v : V} (l : Er2 ms H a d) (rv : rp ms H v i) : ∃ b xs, v = .ref b ∧ NAsk H a b xs (nk i) ∧ RE ms H xs d.m ∧ xs.length = d.m.length := by
  obtain ⟨xs, e, r, ll, nd⟩ := l
  obtain ⟨b, eb⟩ := NKR.ref rv
  subst eb
  exact ⟨b, xs, rfl, ⟨e, ⟨ll, nd, r.ok h8⟩, NK.isK rv, Nat.le_trans (NK.dle i) h8, NK.pl i⟩, r, r.len⟩
theorem ex_nget (h8 : NK.dep κ ≤ 8) (h1 : Ed2 B ms ta σ H0 p d q) (h2 : Ex B ms tb σ H0 q i r) (W : Wd B ms H0) (e : getM d.m i = some x) : Ex B ms (tNGet ta tb) σ H0 p x r := fun H b hp Q k => h1 H b hp _ fun a H1 b1 q1 na l1 => h2 H1 (b.trans b1) q1 _ fun u H2 b2 q2 r2 => by
  obtain ⟨c, xs, eb, A, R, _⟩ := nask h8 (l1.bu W.hB na b2) r2
  obtain ⟨v, hv, rv⟩ := (R.get i).2 x e
  exact ⟨a, c, xs, _, v, rfl, eb, A, hv, k v H2 (b1.trans b2) q2 rv⟩
theorem ex_nin (h8 : NK.dep κ ≤ 8) (W : Wd B ms H0) (h1 : Ex B ms ta σ H0 p i q) (h2 : Ed2 B ms tb σ H0 q d r) : Ex B ms (tNIn ta tb) σ H0 p (getM d.m i).isSome r := fun H b hp Q k => h1 H b hp _ fun u H1 b1 q1 r1 => h2 H1 (b.trans b1) q1 _ fun a H2 b2 q2 na l2 => by
  obtain ⟨c, xs, eb, A, R, _⟩ := nask h8 l2 (Rp.mv r1 (Mv.bu W.hB b2))
  refine ⟨a, c, xs, _, rfl, eb, A, ?_⟩
  rw [(R.get i).1]
  exact k _ H2 (b1.trans b2) q2 rfl
theorem ex_nnotin (h8 : NK.dep κ ≤ 8) (W : Wd B ms H0) (h1 : Ex B ms ta σ H0 p i q) (h2 : Ed2 B ms tb σ H0 q d r) : Ex B ms (tNNotIn ta tb) σ H0 p (!(getM d.m i).isSome) r := fun H b hp Q k => h1 H b hp _ fun u H1 b1 q1 r1 => h2 H1 (b.trans b1) q1 _ fun a H2 b2 q2 na l2 => by
  obtain ⟨c, xs, eb, A, R, _⟩ := nask h8 l2 (Rp.mv r1 (Mv.bu W.hB b2))
  refine ⟨a, c, xs, _, rfl, eb, A, ?_⟩
  rw [(R.get i).1]
  exact k _ H2 (b1.trans b2) q2 rfl
/-- {} -/
theorem nn_mk {H : Hp} {Q : VK} (κ β : Type) [DecidableEq κ] [Rp κ] [NK κ] [Rp β] (W : Wd B ms H) (hq : Sb B q) (hp : q ms H) (k : ∀ a H', Bu B H H' → H a = none → q (a :: ms) H' → Wd B (a :: ms) H' → Mv ms H (a :: ms) H' → Dn (a :: ms) H' a (⟨[]⟩ : DN κ β) → Q (.ref a) H') : tDNewN σ H Q := fun a na => by
  have s := same_upd (o := dN [] a) na
  have e : (upd H a (dN [] a)) a = some (dN [] a) := upd_same
  have M : Mv ms H (a :: ms) (upd H a (dN [] a)) := Mv.new na s
  have D : Dn (a :: ms) (upd H a (dN [] a)) a (⟨[]⟩ : DN κ β) := ⟨[], e, trivial, Nat.zero_le _, List.nodup_nil⟩
  exact k a _ (Bu.same s) na (hq.new na s hp) (W.new (Bu.same s) D.alive) M D
/-- d[e] = e -/
theorem s_nput {D : Ends} {H : Hp} {n : Nat} {m : Addr} (h8 : NK.dep κ ≤ 8) (W : Wd B ms H) (hs : σ[n]? = some (some (.ref m))) (l : Dn ms H m d) (hm : m ∈ ms) (nB : m ∉ B) (hq : Sb B r) (hv : Ex B ms ta σ H p x q) (hk : Ex B ms tb σ H q i r) (hp : p ms H) (e : putD d i x = some d')
    (k : ∀ H', Bu (m :: B) H H' → r ms H' → Wd B ms H' → Mv ms H ms H' → Dn ms H' m d' → D.nx σ H') : sNPut (tVar n) tb ta D σ H := by
  refine hv H (Bu.refl B H) hp _ fun v H1 b1 q1 rv => ⟨_, hs, hk H1 b1 q1 _ fun u H2 b2 q2 r2 => ?_⟩
  unfold putD at e
  split at e
  · rename_i hl
    cases e
    have b3 := b1.trans b2
    obtain ⟨xs, em, R, ll, nd⟩ := l.bu W.hB nB b3
    have hlen := R.len
    obtain ⟨c, eb⟩ := NKR.ref r2
    subst eb
    have A : NAsk H2 m c xs (nk i) := ⟨.inl em, ⟨ll, nd, R.ok h8⟩, NK.isK r2, Nat.le_trans (NK.dle i) h8, NK.pl i⟩
    refine ⟨m, c, xs, _, rfl, rfl, A, em, by omega, ?_⟩
    have u2 : But m H2 (upd H2 m (dN (putN xs (nk i) c v) m)) := But.upd
    have h2 : (upd H2 m (dN (putN xs (nk i) c v) m)) m = some (dN (putN xs (nk i) c v) m) := upd_same
    have W1 := W.bu b3
    have M1 : Mv ms H2 ms (upd H2 m (dN (putN xs (nk i) c v) m)) := Mv.but hm u2
    have rv2 : rp ms H2 v x := Rp.mv rv (Mv.bu W.hB b2)
    refine k _ ⟨fun a o n e => ?_, fun a e => ?_⟩ ?_ ⟨W.hB, W1.al.but u2 h2⟩ ((W.mv b3).trans M1) ⟨_, h2, (R.put r2 rv2).mv M1, ?_, putN_nd A.2.1.nd⟩
    · have n' := notc n
      exact u2 _ _ n'.1 (b3.1 _ _ n'.2 e)
    · by_cases qm : a = m
      · rw [qm, h2]; exact fun z => by cases z
      · have := b3.2 a e
        cases h' : H2 a with
        | none => exact absurd h' this
        | some o' => rw [u2 a o' qm h']; exact fun z => by cases z
    · exact hq _ _ _ _ q2 M1 fun a ha o e => u2 _ _ (nab ha nB) e
    · have := putN_len xs (nk i) c v
      omega
  · cases e
end

/-! ### reversed(range(n)) -/
section
variable {K : PySem.W.Frag} {B ms : Ms} {σ : L2.St} {H0 : Hp} {p q : Hq} {te : TE}
theorem itok_rngC {lo c : Int} {n : Nat} : ItOk (Itc lo c n) Tr ((List.range n).map fun i : Nat => lo + (i : Int) * c) := fun i ms H _ al => ⟨fun h => by
  have h' : n ≤ i := by simpa using h
  exact h', fun x ex => by
  rw [List.getElem?_map] at ex
  obtain ⟨j, ej, rfl⟩ := Option.map_eq_some_iff.mp ex
  obtain ⟨hj, e⟩ := List.getElem?_eq_some_iff.mp ej
  rw [List.getElem_range] at e
  rw [List.length_range] at hj
  subst e
  refine ⟨hj, fun u H' ⟨eH, h⟩ => ?_⟩
  subst eH
  exact ⟨fun _ _ z => z, h⟩⟩
def rrg1 (j : Int) : Option (List Int) := if -(2 ^ 62) ≤ j ∧ j < 2 ^ 62 ∧ j.toNat ≤ sizeLine then some (rngL 0 j.toNat).reverse else none
theorem rev_rng (n : Nat) : ((List.range n).map fun i : Nat => ((n : Int) - 1) + (i : Int) * (-1)) = (rngL 0 n).reverse := by
  apply List.ext_getElem?
  intro i
  rw [List.getElem?_map]
  by_cases h : i < n
  · rw [List.getElem?_range h, List.getElem?_reverse (by simp [rngL]; exact h)]
    unfold rngL
    rw [List.getElem?_map, List.length_map, List.length_range, List.getElem?_range (by omega)]
    simp
    omega
  · rw [List.getElem?_eq_none (by simpa using h), List.getElem?_eq_none (by simpa [rngL] using h)]
    rfl
theorem ei_rrg1 {j : Int} {xs : List Int} (h : Ex B ms te σ H0 p j q) (e : rrg1 j = some xs) : Ei B ms (iRevR (tRg1 te)) σ H0 p xs q := fun H b hp R k => h H b hp _ fun v H1 b1 q1 r1 => by
  have r1' : v = .int j := r1
  subst r1'
  unfold rrg1 at e
  split at e
  · rename_i hl
    cases e
    refine ⟨j, rfl, by decide, by decide, hl.1, hl.2.1, ?_⟩
    refine k _ Tr H1 b1 q1 nst_tr trivial ?_
    have I := itok_rngC (lo := 0 + (((j - 0).toNat : Nat) : Int) - 1) (c := -1) (n := (j - 0).toNat)
    have e2 : ((List.range (j - 0).toNat).map fun i : Nat => (0 + (((j - 0).toNat : Nat) : Int) - 1) + (i : Int) * (-1)) = (rngL 0 j.toNat).reverse := by
      rw [← rev_rng]
      simp
    rw [e2] at I
    exact I
  · cases e
end
/-! ### min of a list of data -/
def minF {α : Type} [DecidableEq α] [Enc α] : List α → Option α
  | [] => none
  | x :: xs => some (xs.foldl (fun a y => if PySem.W.dataLt (Enc.enc y) (Enc.enc a) then y else a) x)
theorem minF_enc {α : Type} [DecidableEq α] [Enc α] : ∀ (xs : List α) (x : α), PySem.W.minD (Enc.enc x) (xs.map Enc.enc) = Enc.enc (xs.foldl (fun a y => if PySem.W.dataLt (Enc.enc y) (Enc.enc a) then y else a) x)
  | [], x => rfl
  | y :: xs, x => by
    rw [List.map_cons, List.foldl_cons, ← minF_enc xs]
    show PySem.W.minD (if PySem.W.dataLt (Enc.enc y) (Enc.enc x) then Enc.enc y else Enc.enc x) (xs.map Enc.enc) = _
    split <;> rfl
theorem enc_inj {α : Type} [DecidableEq α] [Enc α] {x y : α} (h : Enc.enc x = Enc.enc y) : x = y := by
  have e := Enc.eqv x y
  rw [h, Enc.eqv y y] at e
  simpa using e.symm
/-- min(xs): an item that encodes the least -/
def rMinE (K : PySem.W.Frag) : List V → Hp → VK → Prop := fun vs H Q => ∃ (a : Addr) (x : V × PyData) (ps : List (V × PyData)), vs = [.ref a] ∧ SqL K H a ((x :: ps).map (·.1)) ∧ (∀ p ∈ x :: ps, Dp K H p.1 p.2 ∧ p.2.canLay0 = true) ∧ PySem.W.AlikeAll ((x :: ps).map (·.2)) ∧ PyData.depthAll ((x :: ps).map (·.2)) ≤ 64 ∧
  ∀ p ∈ x :: ps, p.2 = PySem.W.minD x.2 (ps.map (·.2)) → Q p.1 H

theorem dp_all : ∀ {K : PySem.W.Frag} {H : Hp} {ps : List (V × PyData)}, (∀ p ∈ ps, Dp K H p.1 p.2) → DpAll K H (ps.map (·.1)) (ps.map (·.2))
  | _, _, [], _ => .nil
  | _, _, p :: ps, h => .cons (h p List.mem_cons_self) (dp_all fun q hq => h q (List.mem_cons_of_mem _ hq))
theorem lay_all : ∀ {ps : List (V × PyData)}, (∀ p ∈ ps, p.2.canLay0 = true) → PyData.canLayAll0 (ps.map (·.2)) = true
  | [], _ => rfl
  | p :: ps, h => by rw [List.map_cons, PyData.canLayAll0, h p List.mem_cons_self, lay_all fun q hq => h q (List.mem_cons_of_mem _ hq)]; rfl
theorem cr_minE {X : Cx} (hc : X.calm = true) (room : X.A.units + 70 < cLine) : CallR X (.builtin "min") (rMinE X.K) := by
  intro pins s σ H xs us Q I r h
  obtain ⟨a, x, ps, rfl, hs, hd, hal, hdep, q⟩ := h
  obtain ⟨its, rv, hl, hz⟩ := I.list hs
  obtain ⟨u, rfl, ru⟩ := vals1 r
  obtain rfl : u = Value.ref a := ru
  obtain ⟨as, reads⟩ := Dp.readsAll I ((x :: ps).map (·.2)) _ its (dp_all fun p hp => (hd p hp).1) rv
  refine PySem.W.min_list_data (x := x.2) (xs := ps.map fun z : V × PyData => z.2) (I.ok.hd hc) hl.isList (by simpa using reads) hal (by rw [List.map_cons] at hdep; omega) fun i v h' tk bs hv rd hk => ?_
  have hv' : its[i]? = some v := by simpa using hv
  have len : ((x :: ps).map (·.1)).length = its.length := rv.length
  have hi : i < (x :: ps).length := by
    have := (List.getElem?_eq_some_iff.mp hv').1
    rw [List.length_map] at len
    omega
  obtain ⟨p, hp⟩ : ∃ p, (x :: ps)[i]? = some p := ⟨_, List.getElem?_eq_getElem hi⟩
  have hp1 : ((x :: ps).map (·.1))[i]? = some p.1 := by rw [List.getElem?_map, hp]; rfl
  obtain ⟨v', hv2, rel⟩ := rv.get hp1
  rw [hv'] at hv2
  cases hv2
  obtain ⟨d1, l1⟩ := hd p (List.mem_of_getElem? hp)
  obtain ⟨as1, r1⟩ := Dp.reads I p.2 p.1 v d1 rel
  have e := (Reads.unique (PyProof.Rows.Reads.keeps hk r1) _ _ rd).1
  exact ⟨p.1, H, I.kept hk, rel, q p (List.mem_of_getElem? hp) e⟩
theorem room70 {A : Around} {k : Nat} (hr : Room k A) : A.units + 70 < cLine := by have := hr.un; omega
theorem ex_minE {α : Type} [DecidableEq α] [Enc α] [Rp α] [RpD α] [SrtE α] [EncN α] {K : PySem.W.Frag} {B ms : Ms} {σ : L2.St} {H0 : Hp} {p q : Hq} {te : TE} {xs : List α} {x : α} (W : Wd B ms H0) (hd : Enc.dep α ≤ 64) (h : El B ms te σ H0 p xs q) (e : minF xs = some x) :
    Ex B ms (tCB (rMinE K) (tCons te tNil)) σ H0 p x q := fun H b hp Q k => h H b hp _ fun a H1 b1 q1 na ⟨vs, ev, rl, l⟩ => by
  cases xs with
  | nil => cases e
  | cons y ys =>
    cases vs with
    | nil => exact rl.elim
    | cons v vs =>
      obtain ⟨r1, rl2⟩ := rl
      obtain ⟨z1, z2, z3⟩ := rl_zip rl2
      let g : V × α → V × PyData := fun z => (z.1, Enc.enc z.2)
      have s1 : ((vs.zip ys).map g).map (·.1) = vs := by rw [List.map_map]; exact z1
      have s2 : ((vs.zip ys).map g).map (·.2) = ys.map Enc.enc := by
        rw [List.map_map]
        conv => rhs; rw [← z2, List.map_map]
        rfl
      have all : ∀ z ∈ (v, Enc.enc y) :: (vs.zip ys).map g, ∃ w : α, z.2 = Enc.enc w ∧ rp ms H1 z.1 w := fun z hz => by
        obtain q | q := List.mem_cons.mp hz
        · subst q; exact ⟨y, rfl, r1⟩
        · obtain ⟨w, hw, rfl⟩ := List.mem_map.mp q
          exact ⟨w.2, rfl, z3 w hw⟩
      refine ⟨a, (v, Enc.enc y), (vs.zip ys).map g, rfl, by rw [List.map_cons, s1]; exact SqL.of ev, fun z hz => ?_, ?_, ?_, fun z hz ez => ?_⟩
      · obtain ⟨w, e1, r⟩ := all z hz
        rw [e1]
        exact ⟨RpD.dp r, Enc.lay w⟩
      · rw [List.map_cons, s2]
        refine ⟨fun d1 m1 d2 m2 => ?_, fun d1 m1 => ?_⟩
        · obtain ⟨w1, _, rfl⟩ := List.mem_map.mp (show d1 ∈ (y :: ys).map Enc.enc from m1)
          obtain ⟨w2, _, rfl⟩ := List.mem_map.mp (show d2 ∈ (y :: ys).map Enc.enc from m2)
          exact SrtE.like w1 w2
        · obtain ⟨w1, _, rfl⟩ := List.mem_map.mp (show d1 ∈ (y :: ys).map Enc.enc from m1)
          exact EncN.nn w1
      · rw [List.map_cons, s2]
        exact Nat.le_trans (depAll (y :: ys)) hd
      · rw [s2, minF_enc] at ez
        obtain ⟨w, e1, r⟩ := all z hz
        have e2 : w = x := by
          refine enc_inj (e1.symm.trans (ez.trans ?_))
          exact congrArg Enc.enc (Option.some.inj e)
        subst e2
        exact k _ H1 b1 q1 r
end Pf

namespace Pf
open PySem PySem.W PyProof.Rows L2
/-! ### loops that only append -/
theorem fold_flat {α β : Type} {f : α → List β → Option (List β)} {g : α → List β} (m : Nat) : ∀ {xs : List α} {x0 : List β}, (∀ a ∈ xs, ∀ x, x.length + (g a).length ≤ m → f a x = some (x ++ g a)) → x0.length + (xs.flatMap g).length ≤ m → fold f xs x0 = some (x0 ++ xs.flatMap g)
  | [], x0, _, _ => by simp [fold]
  | a :: as, x0, h, hl => by
    rw [List.flatMap_cons, List.length_append] at hl
    have e := h a List.mem_cons_self x0 (by omega)
    have r := fold_flat m (xs := as) (x0 := x0 ++ g a) (fun b hb => h b (List.mem_cons_of_mem _ hb)) (by rw [List.length_append]; omega)
    show (f a x0).bind (fun y => fold f as y) = _
    rw [e]
    show fold f as (x0 ++ g a) = _
    rw [r, List.flatMap_cons, List.append_assoc]
theorem flat_len {α β : Type} {g : α → List β} {n : Nat} : ∀ {xs : List α}, (∀ a ∈ xs, (g a).length ≤ n) → (xs.flatMap g).length ≤ xs.length * n
  | [], _ => by simp
  | a :: as, h => by
    have h1 := h a List.mem_cons_self
    have h2 := flat_len (xs := as) fun b hb => h b (List.mem_cons_of_mem _ hb)
    rw [List.flatMap_cons, List.length_append, List.length_cons, Nat.succ_mul]
    omega
/-! ### the order of lists of pairs -/
def ltP (x y : Int × Int) : Bool := decide (x.1 < y.1 ∨ (x.1 = y.1 ∧ x.2 < y.2))
def ltL : List (Int × Int) → List (Int × Int) → Bool
  | [], [] => false
  | [], _ :: _ => true
  | _ :: _, [] => false
  | x :: xs, y :: ys => if x = y then ltL xs ys else ltP x y
theorem ltP_tri {x y : Int × Int} (h : x ≠ y) : ltP x y = !ltP y x := by
  obtain ⟨a, b⟩ := x
  obtain ⟨c, d⟩ := y
  have h' : ¬ (a = c ∧ b = d) := fun ⟨z1, z2⟩ => h (by rw [z1, z2])
  unfold ltP
  dsimp only
  rw [← decide_not]
  apply decide_eq_decide.mpr
  omega
theorem ltL_self : ∀ xs : List (Int × Int), ltL xs xs = false
  | [] => rfl
  | x :: xs => by rw [ltL, if_pos rfl]; exact ltL_self xs
theorem ltL_tri : ∀ {xs ys : List (Int × Int)}, xs ≠ ys → ltL xs ys = !ltL ys xs
  | [], [], h => absurd rfl h
  | [], _ :: _, _ => rfl
  | _ :: _, [], _ => rfl
  | x :: xs, y :: ys, h => by
    rw [ltL, ltL]
    by_cases e : x = y
    · subst e
      rw [if_pos rfl, if_pos rfl]
      exact ltL_tri fun z => h (by rw [z])
    · rw [if_neg e, if_neg fun z => e z.symm]
      exact ltP_tri e
theorem ltP_trans {x y z : Int × Int} (h1 : ltP x y = true) (h2 : ltP y z = true) : ltP x z = true ∧ x ≠ z := by
  obtain ⟨a, b⟩ := x
  obtain ⟨c, d⟩ := y
  obtain ⟨e, f⟩ := z
  unfold ltP at *
  dsimp only at *
  rw [decide_eq_true_iff] at *
  refine ⟨by omega, fun q => ?_⟩
  obtain ⟨q1, q2⟩ := Prod.mk.inj q
  omega
theorem ltL_trans : ∀ {xs ys zs : List (Int × Int)}, ltL xs ys = true → ltL ys zs = true → ltL xs zs = true
  | [], [], _, h, _ => by cases h
  | [], _ :: _, [], _, h => by cases h
  | [], _ :: _, _ :: _, _, _ => rfl
  | _ :: _, [], _, h, _ => by cases h
  | _ :: _, _ :: _, [], _, h => by cases h
  | x :: xs, y :: ys, z :: zs, h1, h2 => by
    rw [ltL] at *
    by_cases e1 : x = y
    · subst e1
      rw [if_pos rfl] at h1
      by_cases e2 : x = z
      · rw [if_pos e2] at h2 ⊢
        exact ltL_trans h1 h2
      · rw [if_neg e2] at h2 ⊢
        exact h2
    · rw [if_neg e1] at h1
      by_cases e2 : y = z
      · subst e2
        rw [if_neg e1]
        exact h1
      · rw [if_neg e2] at h2
        have t := ltP_trans h1 h2
        rw [if_neg t.2]
        exact t.1
theorem dataLt_encL : ∀ xs ys : List (Int × Int), lexLt itemOrd (keyToksAll (xs.map Enc.enc)) (keyToksAll (ys.map Enc.enc)) = ltL xs ys
  | [], [] => by rw [List.map_nil, keyToksAll, ltL]; exact lex_irrefl _
  | [], y :: ys => by
    rw [ltL]
    show lexLt itemOrd (keyToksAll []) (keyToksAll (.tuple [.int y.1, .int y.2] :: ys.map Enc.enc)) = true
    simp only [keyToksAll, keyToks, List.cons_append]
    exact lex_true.mpr (.inl (by first | rfl | decide))
  | x :: xs, [] => by
    rw [ltL]
    show lexLt itemOrd (keyToksAll (.tuple [.int x.1, .int x.2] :: xs.map Enc.enc)) (keyToksAll []) = false
    simp only [keyToksAll, keyToks, List.cons_append]
    exact lex_false.mpr ⟨by first | rfl | decide, .inl (by first | rfl | decide)⟩
  | x :: xs, y :: ys => by
    rw [List.map_cons, List.map_cons, dataLt_cons (SrtE.like x y), Enc.eqv, dataLt_encL xs ys, ltL]
    by_cases e : x = y
    · rw [if_pos (decide_eq_true e), if_pos e]
    · rw [if_neg (by simp [e]), if_neg e]
      exact dataLt_ii x.1 x.2 y.1 y.2
theorem leD_L (xs ys : List (Int × Int)) : leD xs ys = !ltL ys xs := by
  unfold leD
  rw [← dataLt_encL]
  rfl
theorem leD_trans (xs ys zs : List (Int × Int)) (h1 : leD xs ys = true) (h2 : leD ys zs = true) : leD xs zs = true := by
  rw [leD_L] at *
  by_cases e1 : xs = ys
  · rw [e1]; exact h2
  · by_cases e2 : ys = zs
    · rw [← e2]; exact h1
    · rw [← ltL_tri e1] at h1
      rw [← ltL_tri e2] at h2
      have t := ltL_trans h1 h2
      by_cases e3 : xs = zs
      · rw [e3, ltL_self]; rfl
      · rw [← ltL_tri e3]; exact t
theorem leD_total (xs ys : List (Int × Int)) : (leD xs ys || leD ys xs) = true := by
  rw [leD_L, leD_L]
  by_cases e : xs = ys
  · rw [e, ltL_self]; rfl
  · rw [ltL_tri e]
    cases ltL ys xs <;> rfl
theorem sortD_perm {α : Type} [DecidableEq α] [Enc α] (xs : List α) : (sortD xs).Perm xs := List.mergeSort_perm xs leD
theorem sortD_L {xs ys : List (List (Int × Int))} (p : ys.Perm xs) (s : ys.Pairwise fun a b => ltL a b = true) : sortD xs = ys := by
  have s1 : (sortD xs).Pairwise fun a b => leD a b = true := List.pairwise_mergeSort leD_trans leD_total xs
  have s2 : ys.Pairwise fun a b => leD a b = true := s.imp fun {a b} h => by
    rw [leD_L]
    by_cases e : a = b
    · rw [e, ltL_self]; rfl
    · rw [← ltL_tri e]; exact h
  refine List.Perm.eq_of_pairwise (le := fun a b => leD a b = true) (fun a b _ _ h1 h2 => ?_) s1 s2 ((sortD_perm xs).trans p.symm)
  rw [leD_L] at h1 h2
  by_cases e : a = b
  · exact e
  · rw [← ltL_tri e] at h1
    rw [h1] at h2
    cases h2
/-! ### positions -/
section
variable (size : Int) (ls : List Int)
/-- blocks from a cell on, of allowed lengths, with at most so many cells -/
def Good : Int → Int → List (Int × Int) → Prop
  | _, _, [] => True
  | f, lim, b :: r => f ≤ b.1 ∧ b.2 ∈ ls ∧ b.1 + b.2 ≤ size ∧ b.2 ≤ lim ∧ Good (b.1 + b.2) (lim - b.2) r
def posL : Nat → Int → Int → List (List (Int × Int))
  | 0, _, _ => []
  | n + 1, f, lim => [] :: (rngL f (size - f).toNat).flatMap fun s => ls.flatMap fun l => if s + l ≤ size ∧ l ≤ lim then (posL n (s + l) (lim - l)).map ((s, l) :: ·) else []
end
section
variable {size : Int} {ls : List Int}
theorem mem_posL (hl : ∀ l ∈ ls, 1 ≤ l) : ∀ {n : Nat} {f lim : Int} {x : List (Int × Int)}, (size - f).toNat < n → (x ∈ posL size ls n f lim ↔ Good size ls f lim x)
  | 0, _, _, _, h => by omega
  | n + 1, f, lim, [], h => by rw [posL, Good]; exact iff_of_true List.mem_cons_self trivial
  | n + 1, f, lim, (s, l) :: r, h => by
    rw [posL, Good, List.mem_cons, List.mem_flatMap]
    constructor
    · rintro (z | ⟨s', hs, hx⟩)
      · cases z
      · obtain ⟨l', hl', hx⟩ := List.mem_flatMap.mp hx
        split at hx
        · rename_i c
          obtain ⟨y, hy, e⟩ := List.mem_map.mp hx
          cases e
          rw [rngL_mem] at hs
          have := hl l hl'
          exact ⟨hs.1, hl', c.1, c.2, (mem_posL hl (by omega)).mp hy⟩
        · cases hx
    · rintro ⟨h1, h2, h3, h4, h5⟩
      have := hl l h2
      dsimp only at h1 h3 h4 h5
      refine .inr ⟨s, rngL_mem.mpr ⟨h1, by omega⟩, List.mem_flatMap.mpr ⟨l, h2, ?_⟩⟩
      rw [if_pos ⟨h3, h4⟩]
      exact List.mem_map.mpr ⟨r, (mem_posL hl (by omega)).mpr h5, rfl⟩
theorem posL_asc (hl : ∀ l ∈ ls, 1 ≤ l) (ha : ls.Pairwise (· < ·)) : ∀ (n : Nat) (f lim : Int), (posL size ls n f lim).Pairwise fun a b => ltL a b = true
  | 0, _, _ => by rw [posL]; exact .nil
  | n + 1, f, lim => by
    rw [posL, List.pairwise_cons]
    constructor
    · intro y hy
      obtain ⟨s, _, hy⟩ := List.mem_flatMap.mp hy
      obtain ⟨l, _, hy⟩ := List.mem_flatMap.mp hy
      split at hy
      · obtain ⟨z, _, rfl⟩ := List.mem_map.mp hy
        rfl
      · cases hy
    · rw [List.pairwise_flatMap]
      have one : ∀ s l x, (x ∈ if s + l ≤ size ∧ l ≤ lim then (posL size ls n (s + l) (lim - l)).map ((s, l) :: ·) else []) → ∃ r, x = (s, l) :: r := fun s l x hx => by
        split at hx
        · obtain ⟨z, _, rfl⟩ := List.mem_map.mp hx
          exact ⟨z, rfl⟩
        · cases hx
      refine ⟨fun s _ => ?_, (rngL_asc f _).imp fun {s s'} lt x hx y hy => ?_⟩
      · rw [List.pairwise_flatMap]
        refine ⟨fun l _ => ?_, ha.imp fun {l l'} lt x hx y hy => ?_⟩
        · split
          · rw [List.pairwise_map]
            refine (posL_asc hl ha n _ _).imp fun {a b} h => ?_
            rw [ltL, if_pos rfl]
            exact h
          · exact .nil
        · obtain ⟨r, rfl⟩ := one _ _ _ hx
          obtain ⟨r', rfl⟩ := one _ _ _ hy
          rw [ltL, if_neg (fun z => by cases z; omega)]
          exact decide_eq_true (.inr ⟨rfl, lt⟩)
      · obtain ⟨l, _, hx⟩ := List.mem_flatMap.mp hx
        obtain ⟨l', _, hy⟩ := List.mem_flatMap.mp hy
        obtain ⟨r, rfl⟩ := one _ _ _ hx
        obtain ⟨r', rfl⟩ := one _ _ _ hy
        rw [ltL, if_neg (fun z => by cases z; omega)]
        exact decide_eq_true (.inl lt)
theorem posL_len (hl : ∀ l ∈ ls, 1 ≤ l) (h3 : ls.length ≤ 3) : ∀ (n : Nat) (f lim : Int), (posL size ls n f lim).length ≤ 4 ^ (size - f).toNat
  | 0, _, _ => by rw [posL]; exact Nat.zero_le _
  | n + 1, f, lim => by
    rw [posL, List.length_cons]
    have step : ∀ (k : Nat) (g : Int), (size - g).toNat = k → ((rngL g k).flatMap fun s => ls.flatMap fun l => if s + l ≤ size ∧ l ≤ lim then (posL size ls n (s + l) (lim - l)).map ((s, l) :: ·) else []).length + 1 ≤ 4 ^ k := by
      intro k
      induction k with
      | zero => intro g _; simp [rngL]
      | succ k ih =>
        intro g hg
        rw [rngL_cons, List.flatMap_cons, List.length_append]
        have h1 := ih (g + 1) (by omega)
        have h2 : (ls.flatMap fun l => if g + l ≤ size ∧ l ≤ lim then (posL size ls n (g + l) (lim - l)).map ((g, l) :: ·) else []).length ≤ ls.length * 4 ^ k := flat_len fun l m => by
          split
          · rw [List.length_map]
            refine Nat.le_trans (posL_len hl h3 n _ _) (Nat.pow_le_pow_right (by decide) ?_)
            have := hl l m
            omega
          · exact Nat.zero_le _
        have h4 : ls.length * 4 ^ k ≤ 3 * 4 ^ k := Nat.mul_le_mul_right _ h3
        rw [Nat.pow_succ]
        omega
    exact step _ f rfl
/-- the end of the last block -/
def endL (f : Int) (x : List (Int × Int)) : Int := (x.getLast?.map fun b => b.1 + b.2).getD f
theorem good_snoc : ∀ {x : List (Int × Int)} {f lim : Int} {b : Int × Int}, Good size ls f lim (x ++ [b]) ↔ Good size ls f lim x ∧ endL f x ≤ b.1 ∧ b.2 ∈ ls ∧ b.1 + b.2 ≤ size ∧ b.2 ≤ lim - (x.map (·.2)).sum
  | [], f, lim, b => by simp [Good, endL]
  | a :: x, f, lim, b => by
    have e : endL f (a :: x) = endL (a.1 + a.2) x := by
      unfold endL
      cases x with
      | nil => rfl
      | cons c r =>
        rw [List.getLast?_cons_cons]
        cases h : (c :: r).getLast? with
        | none => simp at h
        | some d => rfl
    rw [List.cons_append, Good, Good, good_snoc, e, List.map_cons, List.sum_cons]
    constructor
    · rintro ⟨h1, h2, h3, h4, h5, h6, h7, h8, h9⟩
      exact ⟨⟨h1, h2, h3, h4, h5⟩, h6, h7, h8, by omega⟩
    · rintro ⟨⟨h1, h2, h3, h4, h5⟩, h6, h7, h8, h9⟩
      exact ⟨h1, h2, h3, h4, h5, h6, h7, h8, by omega⟩
/-- what a layout is continued to -/
def chL (size limit : Int) (ls : List Int) (x : List (Int × Int)) : List (List (Int × Int)) :=
  (rngL (endL 0 x) (size - endL 0 x).toNat).flatMap fun s => ls.flatMap fun l => if s + l ≤ size ∧ (x.map (·.2)).sum + l ≤ limit then [x ++ [(s, l)]] else []
theorem mem_chL {limit : Int} (hl : ∀ l ∈ ls, 1 ≤ l) {x y : List (Int × Int)} (hx : Good size ls 0 limit x) : y ∈ chL size limit ls x ↔ ∃ b, y = x ++ [b] ∧ Good size ls 0 limit (x ++ [b]) := by
  unfold chL
  rw [List.mem_flatMap]
  constructor
  · rintro ⟨s, hs, hy⟩
    obtain ⟨l, hl', hy⟩ := List.mem_flatMap.mp hy
    split at hy
    · rename_i c
      rw [rngL_mem] at hs
      exact ⟨(s, l), List.mem_singleton.mp hy, good_snoc.mpr ⟨hx, hs.1, hl', c.1, by dsimp only; omega⟩⟩
    · cases hy
  · rintro ⟨⟨s, l⟩, rfl, hg⟩
    obtain ⟨_, h1, h2, h3, h4⟩ := good_snoc.mp hg
    dsimp only at h1 h2 h3 h4
    have := hl l h2
    refine ⟨s, rngL_mem.mpr ⟨h1, by omega⟩, List.mem_flatMap.mpr ⟨l, h2, ?_⟩⟩
    rw [if_pos ⟨h3, by omega⟩]
    exact List.mem_singleton.mpr rfl
theorem chL_nodup {limit : Int} (hn : ls.Nodup) (x : List (Int × Int)) : (chL size limit ls x).Nodup := by
  unfold chL
  unfold List.Nodup
  rw [List.pairwise_flatMap]
  have one : ∀ s l y, (y ∈ if s + l ≤ size ∧ (x.map (·.2)).sum + l ≤ limit then [x ++ [(s, l)]] else []) → y = x ++ [(s, l)] := fun s l y hy => by
    split at hy
    · exact List.mem_singleton.mp hy
    · cases hy
  refine ⟨fun s _ => ?_, (rngL_nodup _ _).imp fun {s s'} ne y hy z hz => ?_⟩
  · rw [List.pairwise_flatMap]
    refine ⟨fun l _ => ?_, hn.imp fun {l l'} ne y hy z hz => ?_⟩
    · split
      · exact List.pairwise_singleton _ _
      · exact .nil
    · rw [one _ _ _ hy, one _ _ _ hz]
      intro e
      have := List.append_cancel_left e
      cases this
      exact ne rfl
  · obtain ⟨l, _, hy⟩ := List.mem_flatMap.mp hy
    obtain ⟨l', _, hz⟩ := List.mem_flatMap.mp hz
    rw [one _ _ _ hy, one _ _ _ hz]
    intro e
    have := List.append_cancel_left e
    cases this
    exact ne rfl
/-- found breadth first: what is there, of what has been continued -/
structure Bfs (size limit : Int) (ls : List Int) (F : List (List (Int × Int))) (p : Nat) : Prop where
  le : p ≤ F.length
  nd : F.Nodup
  good : ∀ x ∈ F, Good size ls 0 limit x
  nil : [] ∈ F
  from_ : ∀ x b, x ++ [b] ∈ F → x ∈ F.take p
  to_ : ∀ x ∈ F.take p, ∀ b, Good size ls 0 limit (x ++ [b]) → x ++ [b] ∈ F
theorem Bfs.start {limit : Int} : Bfs size limit ls [[]] 0 := ⟨Nat.zero_le _, by simp, fun x hx => by rw [List.mem_singleton.mp hx]; trivial, List.mem_singleton.mpr rfl, fun x b h => by simp at h, fun x hx => by simp at hx⟩
theorem Bfs.next {limit : Int} (hl : ∀ l ∈ ls, 1 ≤ l) (hn : ls.Nodup) {F : List (List (Int × Int))} {p : Nat} {x : List (Int × Int)} (B : Bfs size limit ls F p) (hx : F[p]? = some x) : Bfs size limit ls (F ++ chL size limit ls x) (p + 1) := by
  have hlt := lt_of_get hx
  have mx : x ∈ F := List.mem_of_getElem? hx
  have gx := B.good x mx
  have tk : (F ++ chL size limit ls x).take (p + 1) = F.take p ++ [x] := by
    rw [List.take_append_of_le_length (by omega), List.take_succ, hx]
    rfl
  have nx : x ∉ F.take p := fun h => by
    obtain ⟨i, hi⟩ := List.mem_iff_getElem?.mp h
    have lt := lt_of_get hi
    rw [List.length_take] at lt
    rw [List.getElem?_take_of_lt (by omega)] at hi
    have := nodup_get B.nd hi hx
    omega
  refine ⟨by rw [List.length_append]; omega, ?_, fun y hy => ?_, List.mem_append_left _ B.nil, fun y b hy => ?_, fun y hy b hg => ?_⟩
  · refine List.nodup_append.mpr ⟨B.nd, chL_nodup hn x, fun y hy z hz e => ?_⟩
    subst e
    obtain ⟨b, rfl, _⟩ := (mem_chL hl gx).mp hz
    exact nx (B.from_ x b hy)
  · obtain h | h := List.mem_append.mp hy
    · exact B.good y h
    · obtain ⟨b, rfl, g⟩ := (mem_chL hl gx).mp h
      exact g
  · rw [tk]
    obtain h | h := List.mem_append.mp hy
    · exact List.mem_append_left _ (B.from_ y b h)
    · obtain ⟨b', e, _⟩ := (mem_chL hl gx).mp h
      obtain ⟨rfl, _⟩ := List.append_inj' e rfl
      exact List.mem_append_right _ (List.mem_singleton.mpr rfl)
  · rw [tk] at hy
    obtain h | h := List.mem_append.mp hy
    · exact List.mem_append_left _ (B.to_ y h b hg)
    · rw [List.mem_singleton.mp h] at hg ⊢
      exact List.mem_append_right _ ((mem_chL hl gx).mpr ⟨b, rfl, hg⟩)
theorem Bfs.all {limit : Int} {F : List (List (Int × Int))} (B : Bfs size limit ls F F.length) : ∀ x, x ∈ F ↔ Good size ls 0 limit x := fun x => ⟨B.good x, fun h => by
  induction x using List.reverseRecOn' with
  | nil => exact B.nil
  | snoc ys y ih =>
    have := ih (good_snoc.mp h).1
    exact B.to_ ys (by rw [List.take_length]; exact this) y h⟩
theorem Bfs.len {limit : Int} (hl : ∀ l ∈ ls, 1 ≤ l) (h3 : ls.length ≤ 3) {F : List (List (Int × Int))} {p : Nat} (B : Bfs size limit ls F p) : F.length ≤ 4 ^ size.toNat := by
  have h := nodup_le B.nd (ys := posL size ls (size.toNat + 1) 0 limit) fun x hx => (mem_posL hl (by omega)).mpr (B.good x hx)
  have := posL_len hl h3 (size.toNat + 1) (0 : Int) limit (size := size)
  rw [Int.sub_zero] at this
  omega
theorem Bfs.sorted {limit : Int} (hl : ∀ l ∈ ls, 1 ≤ l) (ha : ls.Pairwise (· < ·)) {F : List (List (Int × Int))} (B : Bfs size limit ls F F.length) (n : Nat) (h : size.toNat < n) : sortD F = posL size ls n 0 limit := by
  have asc := posL_asc hl ha n 0 limit (size := size)
  refine sortD_L ((List.perm_ext_iff_of_nodup ?_ B.nd).mpr fun x => ?_) asc
  · exact asc.imp fun {a b} h e => by rw [e, ltL_self] at h; cases h
  · rw [mem_posL hl (by omega), B.all]
end

/-! ### what repr tells stays in reason -/
structure Okd (d : PyData) (n : Nat) : Prop where
  sh : d.showable = true
  lf : d.leavesShort 13 = true
  wt : d.weight ≤ n
theorem okd_int {i : Int} {k : Nat} (h : i.natAbs < 2 ^ k) (hk : k ≤ 32 := by decide) : Okd (Shw.shw i) k := by
  have h32 : i.natAbs < 2 ^ 32 := Nat.lt_of_lt_of_le h (Nat.pow_le_pow_right (by decide) hk)
  refine ⟨?_, ?_, ?_⟩
  · show (PyData.int i).showable = true
    simp only [PyData.showable, decide_eq_true_eq]
    exact Spec.log2_small (Nat.lt_of_lt_of_le h32 (Nat.pow_le_pow_right (by decide) (by decide)))
  · show (PyData.int i).leavesShort 13 = true
    rw [PyData.leavesShort]
    exact decide_eq_true (PyData.shown_int_le (Nat.lt_of_lt_of_le h32 (by decide)))
  · show (PyData.int i).weight ≤ k
    rw [PyData.weight]
    by_cases e : i = 0
    · simp [e]
    · rw [if_neg (by simpa using e)]
      have : i.natAbs ≠ 0 := by omega
      exact (Nat.log2_lt this).mpr h
theorem okd_bool (b : Bool) : Okd (Shw.shw b) 0 := ⟨by show (PyData.bool b).showable = true; rw [PyData.showable], by show (PyData.bool b).leavesShort 13 = true; rw [PyData.leavesShort], by show (PyData.bool b).weight ≤ 0; rw [PyData.weight]; exact Nat.le_refl _⟩
theorem okd_all {α : Type} [Rp α] [Shw α] {n : Nat} : ∀ {xs : List α}, (∀ x ∈ xs, Okd (Shw.shw x) n) → PyData.showableAll (xs.map Shw.shw) = true ∧ PyData.leavesShortAll 13 (xs.map Shw.shw) = true ∧ PyData.weightAll (xs.map Shw.shw) ≤ xs.length * (n + 1)
  | [], _ => by simp [PyData.showableAll, PyData.leavesShortAll, PyData.weightAll]
  | x :: xs, h => by
    obtain ⟨a, b, c⟩ := h x List.mem_cons_self
    obtain ⟨a', b', c'⟩ := okd_all (xs := xs) fun y hy => h y (List.mem_cons_of_mem _ hy)
    rw [List.map_cons, PyData.showableAll, PyData.leavesShortAll, PyData.weightAll, a, a', b, b', List.length_cons, Nat.succ_mul]
    exact ⟨rfl, rfl, by omega⟩
theorem okd_list {α : Type} [Rp α] [Shw α] {n m : Nat} {xs : List α} (h : ∀ x ∈ xs, Okd (Shw.shw x) n) (hm : xs.length * (n + 1) ≤ m) : Okd (Shw.shw xs) m := by
  obtain ⟨a, b, c⟩ := okd_all h
  exact ⟨by show (PyData.list _).showable = true; rw [PyData.showable]; exact a, by show (PyData.list _).leavesShort 13 = true; rw [PyData.leavesShort]; exact b, by show (PyData.list _).weight ≤ m; rw [PyData.weight]; omega⟩
theorem okd_pair {α β : Type} [Rp α] [Shw α] [Rp β] [Shw β] {a b m : Nat} {x : α} {y : β} (h1 : Okd (Shw.shw x) a) (h2 : Okd (Shw.shw y) b) (hm : a + b + 2 ≤ m) : Okd (Shw.shw (x, y)) m := by
  obtain ⟨a1, b1, c1⟩ := h1
  obtain ⟨a2, b2, c2⟩ := h2
  refine ⟨?_, ?_, ?_⟩
  · show (PyData.tuple [Shw.shw x, Shw.shw y]).showable = true
    rw [PyData.showable, PyData.showableAll, PyData.showableAll, PyData.showableAll, a1, a2]; rfl
  · show (PyData.tuple [Shw.shw x, Shw.shw y]).leavesShort 13 = true
    rw [PyData.leavesShort, PyData.leavesShortAll, PyData.leavesShortAll, PyData.leavesShortAll, b1, b2]; rfl
  · show (PyData.tuple [Shw.shw x, Shw.shw y]).weight ≤ m
    rw [PyData.weight, PyData.weightAll, PyData.weightAll, PyData.weightAll]; omega
theorem okd_T3 {α β γ : Type} [Rp α] [Shw α] [Rp β] [Shw β] [Rp γ] [Shw γ] {a b c m : Nat} {x : T3 α β γ} (h1 : Okd (Shw.shw x.a) a) (h2 : Okd (Shw.shw x.b) b) (h3 : Okd (Shw.shw x.c) c) (hm : a + b + c + 3 ≤ m) : Okd (Shw.shw x) m := by
  obtain ⟨a1, b1, c1⟩ := h1
  obtain ⟨a2, b2, c2⟩ := h2
  obtain ⟨a3, b3, c3⟩ := h3
  refine ⟨?_, ?_, ?_⟩
  · show (PyData.tuple [Shw.shw x.a, Shw.shw x.b, Shw.shw x.c]).showable = true
    rw [PyData.showable, PyData.showableAll, PyData.showableAll, PyData.showableAll, PyData.showableAll, a1, a2, a3]; rfl
  · show (PyData.tuple [Shw.shw x.a, Shw.shw x.b, Shw.shw x.c]).leavesShort 13 = true
    rw [PyData.leavesShort, PyData.leavesShortAll, PyData.leavesShortAll, PyData.leavesShortAll, PyData.leavesShortAll, b1, b2, b3]; rfl
  · show (PyData.tuple [Shw.shw x.a, Shw.shw x.b, Shw.shw x.c]).weight ≤ m
    rw [PyData.weight, PyData.weightAll, PyData.weightAll, PyData.weightAll, PyData.weightAll]; omega
theorem okd_str {s : Str} {n : Nat} (h1 : (s.cps.toList.all fun c => decide (c < 16 ^ 8)) = true) (h2 : s.cps.size ≤ n) : Okd (Shw.shw s) n :=
  ⟨by show (PyData.str s).showable = true; rw [PyData.showable], by show (PyData.str s).leavesShort 13 = true; rw [PyData.leavesShort]; exact h1, by show (PyData.str s).weight ≤ n; rw [PyData.weight]; exact h2⟩
theorem Okd.le {d : PyData} {n m : Nat} (h : Okd d n) (l : n ≤ m) : Okd d m := ⟨h.sh, h.lf, Nat.le_trans h.wt l⟩
theorem same_of {α : Type} [DecidableEq α] [Rp α] [Shw α] {x y : α} {n : Nat} (e : x = y) (h : Okd (Shw.shw x) n) (hn : n ≤ 1048576 := by decide) : sameF x y = some true := by
  unfold sameF
  rw [if_pos]
  refine ⟨e, ?_⟩
  unfold shwB
  rw [Bool.and_eq_true, decide_eq_true_iff]
  exact ⟨h.sh, PyData.shown_fits (by decide) (by decide) h.lf (Nat.le_trans h.wt (by omega))⟩
/-! ### what is asked of a layout is what makes a position -/
def ascB : Int → List (Int × Int) → Bool
  | _, [] => true
  | e, b :: r => !(decide (b.1 < e) || decide (b.2 < 1)) && ascB (b.1 + b.2) r
theorem endL_cons (f : Int) (a : Int × Int) (x : List (Int × Int)) : endL f (a :: x) = endL (a.1 + a.2) x := by
  unfold endL
  cases x with
  | nil => rfl
  | cons c r =>
    rw [List.getLast?_cons_cons]
    cases h : (c :: r).getLast? with
    | none => simp at h
    | some d => rfl
theorem good_iff {size : Int} {ls : List Int} (hl : ∀ l ∈ ls, 1 ≤ l) : ∀ (x : List (Int × Int)) (f lim : Int), (f ≤ size ∧ 0 ≤ lim ∧ Good size ls f lim x) ↔ ((∀ b ∈ x, b.2 ∈ ls) ∧ ascB f x = true ∧ endL f x ≤ size ∧ (x.map (·.2)).sum ≤ lim)
  | [], f, lim => by simp [Good, ascB, endL]
  | b :: r, f, lim => by
    have ih := good_iff (size := size) hl r (b.1 + b.2) (lim - b.2)
    rw [Good, endL_cons, ascB, List.map_cons, List.sum_cons, Bool.and_eq_true]
    constructor
    · rintro ⟨h1, h2, h3, h4, h5, h6, h7⟩
      obtain ⟨i1, i2, i3, i4⟩ := ih.mp ⟨h5, by omega, h7⟩
      have := hl _ h4
      refine ⟨fun c hc => ?_, ⟨?_, i2⟩, i3, by omega⟩
      · obtain z | z := List.mem_cons.mp hc
        · rw [z]; exact h4
        · exact i1 c z
      · simp; omega
    · rintro ⟨h1, ⟨h2, h3⟩, h4, h5⟩
      have hb := h1 b List.mem_cons_self
      have := hl _ hb
      obtain ⟨j1, j2, j3⟩ := ih.mpr ⟨fun c hc => h1 c (List.mem_cons_of_mem _ hc), h3, h4, by omega⟩
      simp at h2
      exact ⟨by omega, by omega, by omega, hb, j1, by omega, j3⟩
theorem good_len {size : Int} {ls : List Int} (hl : ∀ l ∈ ls, 1 ≤ l) : ∀ {x : List (Int × Int)} {f lim : Int}, Good size ls f lim x → 0 ≤ lim → (x.length : Int) ≤ lim
  | [], _, _, _, h => by simpa using h
  | b :: r, f, lim, ⟨h1, h2, h3, h4, h5⟩, h => by
    have := good_len hl h5 (by omega)
    have := hl _ h2
    rw [List.length_cons]
    omega
theorem good_mem {size : Int} {ls : List Int} (hl : ∀ l ∈ ls, 1 ≤ l) : ∀ {x : List (Int × Int)} {f lim : Int}, Good size ls f lim x → ∀ b ∈ x, f ≤ b.1 ∧ b.1 < size ∧ b.2 ∈ ls
  | [], _, _, _, b, hb => by cases hb
  | c :: r, f, lim, ⟨h1, h2, h3, h4, h5⟩, b, hb => by
    have hc := hl _ h2
    obtain z | z := List.mem_cons.mp hb
    · rw [z]; exact ⟨h1, by omega, h2⟩
    · obtain ⟨k1, k2, k3⟩ := good_mem hl h5 b z
      exact ⟨by omega, k2, k3⟩
/-- lengths of a contract -/
structure Lens (ls : List Int) : Prop where
  asc : ls.Pairwise (· < ·)
  one : ∀ l ∈ ls, 1 ≤ l
  three : ∀ l ∈ ls, l ≤ 3
  len : ls.length ≤ 3
theorem Lens.nd {ls : List Int} (h : Lens ls) : ls.Nodup := h.asc.imp fun {a b} lt e => by omega

theorem whl_go {s ρ : Type} {c : s → Option Bool} {f : s → Option (Fl ρ s)} {m : Nat} {x : s} (N : s → Nat) (I : s → Prop) (h : ∀ x, I x → ∃ b, c x = some b ∧ (b = true → ∃ x', f x = some (.go x') ∧ I x' ∧ N x' < N x)) (h0 : I x) (hm : N x < m) :
    ∃ out, whl c f m x = some (.go out) ∧ (I out ∧ c out = some false) := by
  obtain ⟨r, _, z⟩ | h := whl_ex N I (fun _ => False) (fun x hx => by
    obtain ⟨b, e, k⟩ := h x hx
    exact ⟨b, e, fun hb => .inr (k hb)⟩) m x h0 hm
  · exact z.elim
  · exact h
theorem good_short {size : Int} {ls : List Int} (hl : ∀ l ∈ ls, 1 ≤ l) : ∀ {x : List (Int × Int)} {f lim : Int}, Good size ls f lim x → f ≤ size → (x.length : Int) ≤ size - f
  | [], _, _, _, h => by simpa using h
  | b :: r, f, lim, ⟨h1, h2, h3, h4, h5⟩, h => by
    have := good_short hl h5 h3
    have := hl _ h2
    rw [List.length_cons]
    omega
theorem colS_all {α β s : Type} {f : α → s → Option (Option β × s)} (P : β → Prop) (h : ∀ x b, ∃ y b', f x b = some (some y, b') ∧ P y) {xs : List α} (hl : xs.length ≤ 1000000) (b : s) : ∃ z, colS f xs b = some z ∧ (z.1.length = xs.length ∧ ∀ y ∈ z.1, P y) := by
  unfold colS
  rw [if_pos (by rw [sizeLine_eq]; omega)]
  clear hl
  induction xs generalizing b with
  | nil => exact ⟨_, rfl, rfl, fun y hy => by cases hy⟩
  | cons x xs ih =>
    obtain ⟨y, b1, e, hy⟩ := h x b
    obtain ⟨⟨ys, b2⟩, e2, hl, hys⟩ := ih b1
    refine ⟨(y :: ys, b2), ?_, by rw [List.length_cons, List.length_cons, ← hl], fun z hz => ?_⟩
    · show (f x b).bind _ = _
      rw [e]
      show (coll f xs b1).bind _ = _
      rw [e2]
      rfl
    · obtain q | q := List.mem_cons.mp hz
      · rw [q]; exact hy
      · exact hys z q
end Pf

namespace Pf
open PySem PySem.W PyProof.Rows L2
/-! ### the order of data -/
class Lv (α : Type) [DecidableEq α] [Enc α] where
  lt : α → α → Bool
  enc : ∀ x y : α, dataLt (Enc.enc x) (Enc.enc y) = lt x y
  irr : ∀ x : α, lt x x = false
  tri : ∀ {x y : α}, x ≠ y → lt x y = !lt y x
  trans : ∀ {x y z : α}, lt x y = true → lt y z = true → lt x z = true
instance : Lv Int where
  lt x y := decide (x < y)
  enc x y := dataLt_int x y
  irr x := by simp
  tri {x y} h := by rw [← decide_not]; apply decide_eq_decide.mpr; omega
  trans {x y z} h1 h2 := by rw [decide_eq_true_iff] at *; omega
section
variable {α : Type} [DecidableEq α] [Enc α] [SrtE α] [Lv α]
def lvL : List α → List α → Bool
  | [], [] => false
  | [], _ :: _ => true
  | _ :: _, [] => false
  | x :: xs, y :: ys => if x = y then lvL xs ys else Lv.lt x y
theorem lvL_self : ∀ xs : List α, lvL xs xs = false
  | [] => rfl
  | x :: xs => by rw [lvL, if_pos rfl]; exact lvL_self xs
theorem lvL_tri : ∀ {xs ys : List α}, xs ≠ ys → lvL xs ys = !lvL ys xs
  | [], [], h => absurd rfl h
  | [], _ :: _, _ => rfl
  | _ :: _, [], _ => rfl
  | x :: xs, y :: ys, h => by
    rw [lvL, lvL]
    by_cases e : x = y
    · subst e
      rw [if_pos rfl, if_pos rfl]
      exact lvL_tri fun z => h (by rw [z])
    · rw [if_neg e, if_neg fun z => e z.symm]
      exact Lv.tri e
theorem lv_ne {x y z : α} (h1 : Lv.lt x y = true) (h2 : Lv.lt y z = true) : x ≠ z := fun e => by
  subst e
  have t := Lv.trans h1 h2
  rw [Lv.irr] at t
  cases t
theorem lvL_trans : ∀ {xs ys zs : List α}, lvL xs ys = true → lvL ys zs = true → lvL xs zs = true
  | [], [], _, h, _ => by cases h
  | [], _ :: _, [], _, h => by cases h
  | [], _ :: _, _ :: _, _, _ => rfl
  | _ :: _, [], _, h, _ => by cases h
  | _ :: _, _ :: _, [], _, h => by cases h
  | x :: xs, y :: ys, z :: zs, h1, h2 => by
    rw [lvL] at *
    by_cases e1 : x = y
    · subst e1
      rw [if_pos rfl] at h1
      by_cases e2 : x = z
      · rw [if_pos e2] at h2 ⊢
        exact lvL_trans h1 h2
      · rw [if_neg e2] at h2 ⊢
        exact h2
    · rw [if_neg e1] at h1
      by_cases e2 : y = z
      · subst e2
        rw [if_neg e1]
        exact h1
      · rw [if_neg e2] at h2
        rw [if_neg (lv_ne h1 h2)]
        exact Lv.trans h1 h2
theorem lvL_enc : ∀ xs ys : List α, lexLt itemOrd (keyToksAll (xs.map Enc.enc)) (keyToksAll (ys.map Enc.enc)) = lvL xs ys
  | [], [] => by rw [List.map_nil, keyToksAll, lvL]; exact lex_irrefl _
  | [], y :: ys => by
    rw [lvL]
    simp only [List.map_cons, List.map_nil, keyToksAll]
    exact lex_true.mpr (.inl (by first | rfl | decide))
  | x :: xs, [] => by
    rw [lvL]
    simp only [List.map_cons, List.map_nil, keyToksAll]
    exact lex_false.mpr ⟨by first | rfl | decide, .inl (by first | rfl | decide)⟩
  | x :: xs, y :: ys => by
    rw [List.map_cons, List.map_cons, dataLt_cons (SrtE.like x y), Enc.eqv, lvL_enc xs ys, lvL]
    by_cases e : x = y
    · rw [if_pos (decide_eq_true e), if_pos e]
    · rw [if_neg (by simp [e]), if_neg e]
      exact Lv.enc x y
instance : Lv (List α) where
  lt := lvL
  enc xs ys := by rw [← lvL_enc]; rfl
  irr := lvL_self
  tri := lvL_tri
  trans := lvL_trans
end
section
variable {α β γ : Type} [DecidableEq α] [Enc α] [SrtE α] [Lv α] [DecidableEq β] [Enc β] [SrtE β] [Lv β] [DecidableEq γ] [Enc γ] [SrtE γ] [Lv γ]
def lvP (x y : α × β) : Bool := if x.1 = y.1 then Lv.lt x.2 y.2 else Lv.lt x.1 y.1
theorem lv_row2 (a a' : α) (b b' : β) : lexLt itemOrd (keyToksAll [Enc.enc a, Enc.enc b]) (keyToksAll [Enc.enc a', Enc.enc b']) = if a = a' then Lv.lt b b' else Lv.lt a a' := by
  have e : lexLt itemOrd (keyToksAll []) (keyToksAll []) = false := lex_irrefl _
  rw [dataLt_cons (SrtE.like a a'), dataLt_cons (SrtE.like b b'), e, Enc.eqv, Enc.eqv, Lv.enc, Lv.enc]
  by_cases h : a = a'
  · rw [if_pos (decide_eq_true h), if_pos h]
    by_cases h2 : b = b'
    · rw [if_pos (decide_eq_true h2), h2, Lv.irr]
    · rw [if_neg (by simp [h2])]
  · rw [if_neg (by simp [h]), if_neg h]
instance : Lv (α × β) where
  lt := lvP
  enc x y := lv_row2 x.1 y.1 x.2 y.2
  irr x := by unfold lvP; rw [if_pos rfl]; exact Lv.irr _
  tri {x y} h := by
    unfold lvP
    by_cases e : x.1 = y.1
    · rw [if_pos e, if_pos e.symm]
      exact Lv.tri fun z => h (Prod.ext e z)
    · rw [if_neg e, if_neg fun z => e z.symm]
      exact Lv.tri e
  trans {x y z} h1 h2 := by
    unfold lvP at *
    by_cases e1 : x.1 = y.1
    · rw [if_pos e1] at h1
      by_cases e2 : y.1 = z.1
      · rw [if_pos e2] at h2
        rw [if_pos (e1.trans e2)]
        exact Lv.trans h1 h2
      · rw [if_neg e2] at h2
        rw [if_neg fun q => e2 (e1.symm.trans q), e1]
        exact h2
    · rw [if_neg e1] at h1
      by_cases e2 : y.1 = z.1
      · rw [← e2, if_neg e1]
        exact h1
      · rw [if_neg e2] at h2
        rw [if_neg (lv_ne h1 h2)]
        exact Lv.trans h1 h2
def lvT (x y : T3 α β γ) : Bool := if x.a = y.a then (if x.b = y.b then Lv.lt x.c y.c else Lv.lt x.b y.b) else Lv.lt x.a y.a
theorem lvT_P (x y : T3 α β γ) : lvT x y = lvP (x.a, (x.b, x.c)) (y.a, (y.b, y.c)) := rfl
instance : Lv (T3 α β γ) where
  lt := lvT
  enc x y := by
    show lexLt itemOrd (keyToksAll [Enc.enc x.a, Enc.enc x.b, Enc.enc x.c]) (keyToksAll [Enc.enc y.a, Enc.enc y.b, Enc.enc y.c]) = _
    rw [dataLt_cons (SrtE.like x.a y.a), lv_row2, Enc.eqv, Lv.enc]
    unfold lvT
    by_cases h : x.a = y.a
    · rw [if_pos (decide_eq_true h), if_pos h]
    · rw [if_neg (by simp [h]), if_neg h]
  irr x := by rw [lvT_P]; exact Lv.irr (α := α × (β × γ)) _
  tri {x y} h := by
    rw [lvT_P, lvT_P]
    refine Lv.tri (α := α × (β × γ)) fun z => h ?_
    obtain ⟨a, b, c⟩ := x
    obtain ⟨a', b', c'⟩ := y
    obtain ⟨z1, z2⟩ := Prod.mk.inj z
    obtain ⟨z2, z3⟩ := Prod.mk.inj z2
    dsimp only at z1 z2 z3
    rw [z1, z2, z3]
  trans {x y z} h1 h2 := by
    rw [lvT_P] at *
    exact Lv.trans (α := α × (β × γ)) h1 h2
end
section
variable {α : Type} [DecidableEq α] [Enc α] [Lv α]
theorem lv_as {x y : α} (h : Lv.lt x y = true) : Lv.lt y x = false := by
  cases e : Lv.lt y x with
  | false => rfl
  | true =>
    have := Lv.trans h e
    rw [Lv.irr] at this
    cases this
/-- no less, two times -/
theorem lv_le {x y z : α} (h1 : Lv.lt y x = false) (h2 : Lv.lt z y = false) : Lv.lt z x = false := by
  by_cases e1 : x = y
  · rw [e1]; exact h2
  · by_cases e2 : y = z
    · rw [← e2]; exact h1
    · have a : Lv.lt x y = true := by rw [Lv.tri e1, h1]; rfl
      have b : Lv.lt y z = true := by rw [Lv.tri e2, h2]; rfl
      exact lv_as (Lv.trans a b)
theorem leD_V (x y : α) : leD x y = !Lv.lt y x := by unfold leD; rw [Lv.enc]
theorem leV_trans (xs ys zs : α) (h1 : leD xs ys = true) (h2 : leD ys zs = true) : leD xs zs = true := by
  rw [leD_V] at *
  rw [lv_le (x := xs) (y := ys) (by simpa using h1) (by simpa using h2)]
  rfl
theorem leV_total (x y : α) : (leD x y || leD y x) = true := by
  rw [leD_V, leD_V]
  by_cases e : x = y
  · rw [e, Lv.irr]; rfl
  · rw [Lv.tri e]
    cases Lv.lt y x <;> rfl
theorem sortD_srt (xs : List α) : (sortD xs).Pairwise fun a b => Lv.lt b a = false := (List.pairwise_mergeSort leV_trans leV_total xs).imp fun {a b} h => by
  rw [leD_V] at h
  simpa using h
theorem srt_eq {xs ys : List α} (p : ys.Perm xs) (s1 : xs.Pairwise fun a b => Lv.lt b a = false) (s2 : ys.Pairwise fun a b => Lv.lt b a = false) : xs = ys := by
  refine List.Perm.eq_of_pairwise (le := fun a b => Lv.lt b a = false) (fun a b _ _ h1 h2 => ?_) s1 s2 p.symm
  by_cases e : a = b
  · exact e
  · rw [Lv.tri e, h1] at h2
    cases h2
theorem sortD_V {xs ys : List α} (p : ys.Perm xs) (s : ys.Pairwise fun a b => Lv.lt b a = false) : sortD xs = ys := srt_eq (p.trans (sortD_perm xs).symm) (sortD_srt xs) s
theorem sortD_lt {xs ys : List α} (p : ys.Perm xs) (s : ys.Pairwise fun a b => Lv.lt a b = true) : sortD xs = ys := sortD_V p (s.imp lv_as)
theorem minF_least : ∀ {xs : List α}, xs ≠ [] → ∃ m, minF xs = some m ∧ m ∈ xs ∧ ∀ y ∈ xs, Lv.lt y m = false
  | [], h => absurd rfl h
  | x :: xs, _ => by
    refine ⟨_, rfl, ?_⟩
    suffices h : ∀ (xs : List α) (x : α), let m := xs.foldl (fun a y => if dataLt (Enc.enc y) (Enc.enc a) then y else a) x; m ∈ x :: xs ∧ ∀ y ∈ x :: xs, Lv.lt y m = false from h xs x
    intro xs
    induction xs with
    | nil => intro x; exact ⟨List.mem_singleton.mpr rfl, fun y hy => by rw [List.mem_singleton.mp hy]; exact Lv.irr _⟩
    | cons z zs ih =>
      intro x
      dsimp only
      rw [List.foldl_cons]
      rw [Lv.enc]
      by_cases c : Lv.lt z x = true
      · rw [if_pos c]
        obtain ⟨h1, h2⟩ := ih z
        refine ⟨List.mem_cons_of_mem _ h1, fun y hy => ?_⟩
        obtain e | e := List.mem_cons.mp hy
        · subst e
          exact lv_le (h2 z List.mem_cons_self) (lv_as c)
        · exact h2 y e
      · rw [if_neg c]
        obtain ⟨h1, h2⟩ := ih x
        refine ⟨?_, fun y hy => ?_⟩
        · obtain e | e := List.mem_cons.mp h1
          · rw [e]; exact List.mem_cons_self
          · exact List.mem_cons_of_mem _ (List.mem_cons_of_mem _ e)
        · obtain e | e := List.mem_cons.mp hy
          · rw [e]; exact h2 x List.mem_cons_self
          · obtain e | e := List.mem_cons.mp e
            · rw [e]
              exact lv_le (h2 x List.mem_cons_self) (by simpa using c)
            · exact h2 y (List.mem_cons_of_mem _ e)
end

/-! ### dicts as lists -/
section
variable {κ β : Type} [DecidableEq κ]
theorem getM_nil (k : κ) : getM ([] : List (κ × β)) k = none := rfl
theorem getM_app (m m' : List (κ × β)) (k : κ) : getM (m ++ m') k = (getM m k).or (getM m' k) := by
  induction m with
  | nil => simp [getM_nil]
  | cons p m ih =>
    rw [List.cons_append, getM_cons, getM_cons, ih]
    by_cases h : p.1 = k <;> simp [h]
theorem getM_put (m : List (κ × β)) (k k' : κ) (x : β) : getM (putM m k x) k' = if k' = k then some x else getM m k' := by
  unfold putM
  by_cases c : (getM m k).isSome = true
  · rw [if_pos c]
    induction m with
    | nil => cases c
    | cons p m ih =>
      rw [List.map_cons, getM_cons, getM_cons]
      rw [getM_cons] at c
      by_cases h : p.1 = k
      · rw [if_pos h]
        by_cases h2 : k' = k
        · rw [if_pos h2, if_pos (by rw [h2, h])]
        · have h3 : ¬ p.1 = k' := fun z => h2 (z.symm.trans h)
          rw [if_neg h2]
          show (if p.1 = k' then _ else _) = _
          rw [if_neg h3, if_neg h3]
          clear ih c
          induction m with
          | nil => rfl
          | cons q m ih =>
            rw [List.map_cons, getM_cons, getM_cons, ih]
            by_cases h4 : q.1 = k
            · rw [if_pos h4]
              have h5 : ¬ q.1 = k' := fun z => h2 (z.symm.trans h4)
              show (if q.1 = k' then _ else _) = _
              rw [if_neg h5, if_neg h5]
            · rw [if_neg h4]
      · rw [if_neg h] at c ⊢
        rw [ih c]
        by_cases h2 : k' = k
        · rw [if_pos h2, if_neg (by rw [h2]; exact h)]
          rw [if_pos h2]
        · rw [if_neg h2, if_neg h2]
  · rw [if_neg c, getM_app, getM_cons, getM_nil]
    have c' : getM m k = none := by simpa using c
    by_cases h2 : k' = k
    · rw [if_pos h2, h2, c', if_pos rfl]; rfl
    · rw [if_neg h2, if_neg fun z => h2 z.symm]
      cases getM m k' <;> rfl
theorem putM_len (m : List (κ × β)) (k : κ) (x : β) : (putM m k x).length ≤ m.length + 1 := by
  unfold putM
  split
  · rw [List.length_map]; omega
  · rw [List.length_append]; exact Nat.le_refl _
theorem putD_ok {d : DN κ β} {k : κ} {x : β} (h : d.m.length ≤ 1000000) : putD d k x = some ⟨putM d.m k x⟩ := by
  unfold putD
  exact if_pos (Nat.lt_of_le_of_lt h (by decide))
end
theorem fold_exQ {α s : Type} {f : α → s → Option s} {xs : List α} {x0 : s} {Q : s → Prop} (I : Nat → s → Prop) (h0 : I 0 x0) (fin : ∀ out, I xs.length out → Q out) (step : ∀ i a x, xs[i]? = some a → I i x → ∃ x', f a x = some x' ∧ I (i + 1) x') : ∃ out, fold f xs x0 = some out ∧ Q out := by
  obtain ⟨out, h1, h2⟩ := fold_ex I h0 step
  exact ⟨out, h1, fin out h2⟩
theorem loop_goQ {α s ρ : Type} {f : α → s → Option (Fl ρ s)} {xs : List α} {x0 : s} {Q : s → Prop} (I : Nat → s → Prop) (h0 : I 0 x0) (fin : ∀ out, I xs.length out → Q out) (step : ∀ i a x, xs[i]? = some a → I i x → ∃ x', f a x = some (.go x') ∧ I (i + 1) x') : ∃ out, loop f xs x0 = some (.go out) ∧ Q out := by
  obtain ⟨out, h1, h2⟩ := loop_go I h0 step
  exact ⟨out, h1, fin out h2⟩
theorem filterMap_flat {α β : Type} (f : α → Option β) : ∀ xs : List α, xs.filterMap f = xs.flatMap fun x => (f x).toList
  | [] => rfl
  | x :: xs => by
    rw [List.filterMap_cons, List.flatMap_cons, ← filterMap_flat f xs]
    cases f x <;> rfl
end Pf

set_option maxHeartbeats 1000000
namespace Pf
open PySem PySem.W PySem.Spec PyProof.Rows L2
open Rp (rp)
open RpA (ra)
/-! ### xs == [], xs of any things -/
def rEqNil (K : PySem.W.Frag) : R2 := fun x y H Q => ∃ (a b : Addr) (vs : List V), x = .ref a ∧ y = .ref b ∧ SqL K H a vs ∧ SqL K H b [] ∧ Q (.bl vs.isEmpty) H
theorem op_eqNil {X : Cx} (hu : X.A.units + 65 < cLine) : OpR X (compareOp .Eq) (rEqNil X.K) := by
  intro pins s σ H x y v u Q I rx ry h
  obtain ⟨a, b, vs, rfl, rfl, ha, hb, q⟩ := h
  obtain rfl : v = Value.ref a := rx
  obtain rfl : u = Value.ref b := ry
  obtain ⟨i1, r1, p1, z1⟩ := I.list ha
  obtain ⟨i2, r2, p2, z2⟩ := I.list hb
  have l1 := r1.length
  have l2 := r2.length
  by_cases e : vs = []
  · subst e
    refine SeqAt.eq_listAt (e := fun _ => true) p1.isList p2.isList (by rw [List.size_toArray, List.size_toArray, ← l1, ← l2]) (by omega) (fun j h1 h2 => ?_) ?_
    · rw [List.size_toArray, ← l1] at h1
      exact absurd h1 (Nat.not_lt_zero j)
    · rw [List.size_toArray, ← l1]
      exact ⟨.bl _, H, I, rfl, q⟩
  · refine SeqAt.eq_list_lengthsAt p1.isList p2.isList ?_ (by omega) ?_
    · rw [List.size_toArray, List.size_toArray, ← l1, ← l2]
      simpa using e
    · have : vs.isEmpty = false := by simpa using e
      rw [this] at q
      exact ⟨.bl _, H, I, rfl, q⟩
section
variable {α : Type} [Rp α] {K : PySem.W.Frag} {B ms : Ms} {σ : L2.St} {H0 : Hp} {p q r : Hq} {ta tb te : TE}
theorem ex_eqNil {β : Type} [Rp β] {xs : List α} (W : Wd B ms H0) (h1 : El B ms ta σ H0 p xs q) (h2 : El B ms tb σ H0 q ([] : List β) r) : Ex B ms (tOp (rEqNil K) ta tb) σ H0 p xs.isEmpty r := fun H b hp Q k => h1 H b hp _ fun a H1 b1 q1 na l1 => h2 H1 (b.trans b1) q1 _ fun a2 H2 b2 q2 na2 l2 => by
  obtain ⟨vs, e, rl, _⟩ := l1.bu W.hB na b2
  obtain ⟨us, e2, rl2, _⟩ := l2
  cases us with
  | cons u us => exact rl2.elim
  | nil =>
    refine ⟨a, a2, vs, rfl, rfl, SqL.of e, SqL.of e2, ?_⟩
    have : vs.isEmpty = xs.isEmpty := by
      have := rl.len
      cases vs <;> cases xs <;> simp_all
    rw [this]
    exact k _ H2 (b1.trans b2) q2 rfl
/-! ### len(set(xs)), xs of whole numbers, perhaps some of them twice -/
def tLenSetN (K : PySem.W.Frag) (ta : TE) : TE := fun σ H Q => ta σ H fun x H1 => ∃ (l : Addr) (ns : List Int), x = V.ref l ∧ SqL K H1 l (ns.map V.int) ∧ ns.length < 4000 ∧ Q (.int (firstMet (fun i => ns.getD i 0) ns.length).length) H1
theorem pe_lenSetN {X : Cx} {a : Expr} {ta : TE} {p p2 q pos : Pos} (hc : X.calm = true) (hg : Gl X "len") (hm : X.mg "len" = none) (hg2 : Gl X "set") (hm2 : X.mg "set" = none) (ha : PE X a ta)
    (na : starEach [a] X.env = (false, eval a X.env) :: starEach [] X.env := by rfl) : PE X (.Call (.Name "len" p) [.Call (.Name "set" p2) [a] [] q] [] pos) (tLenSetN X.K ta) := by
  refine ⟨fun pins s σ H Q I h => ?_⟩
  refine Call_ (ld_blt I hg hm PySem.boot_len ?_)
  refine PyProof.Rows.callWith_builtin1 (PyProof.Rows.args_cons ?_ rfl) rfl rfl
  refine Call_ (ld_blt I hg2 hm2 PyProof.Rows.boot_set ?_)
  refine PyProof.Rows.callWith_type1 (PyProof.Rows.args_cons (thn (ha.run pins s σ H _ I h) fun v s1 ⟨x, H1, I1, r1, q1⟩ => PyProof.Rows.args_nil ?_) na) na rfl
  obtain ⟨l, ns, rfl, hq, h1, q1⟩ := q1
  cases r1
  obtain ⟨its, r, pl, hz⟩ := I1.list hq
  have hl : its.toArray.size = ns.length := by rw [List.size_toArray, ← r.length, List.length_map]
  refine call_set_list (I1.ok.hd hc) pl.isList (ns := ns) (by simpa using r.ints) (by unfold scanBound; omega) fun h' tk hS hk => ?_
  rw [hl] at hS
  refine PyProof.Rows.args_nil ?_
  obtain ⟨o, es, ep, t, ho, hex, hd, _, _, _, hf, hn⟩ := hS
  have I2 : Inv X pins σ H1 { s1 with heap := h', toks := tk } := I1.kept fun b o e => hk b o (Heap.lt_size e) e
  have hle := firstMet_length_le (fun i => ns.getD i 0) ns.length
  refine call_len_set ho hex hd hf (by rw [hn] <;> omega) ⟨.int _, H1, I2.tok _, ⟨_, by rw [hn]⟩, q1⟩
/-- how many different ones -/
def cntF (xs : List Int) : Option Int := if xs.length < 4000 then some ((firstMet (fun i => xs.getD i 0) xs.length).length : Int) else none
theorem ex_lenSet {xs : List Int} {t : Int} (h : El B ms te σ H0 p xs q) (e : cntF xs = some t) : Ex B ms (tLenSetN K te) σ H0 p t q := fun H b hp Q k => h H b hp _ fun a H1 b1 q1 na ⟨vs, ev, rl, _⟩ => by
  unfold cntF at e
  split at e
  · rename_i hl
    cases e
    rw [rl.ints fun _ _ h => h] at ev
    exact ⟨a, xs, rfl, SqL.of ev, hl, k _ H1 b1 q1 rfl⟩
  · cases e
end
end Pf

set_option maxHeartbeats 1000000
namespace Pf
open PySem PySem.W PySem.Spec PyProof.Rows L2
open Rp (rp)
open RpA (ra)
open NK (nk)
theorem pi_cast {X : Cx} {tg e : Expr} {t t' : TI} (h : PI X tg e t) (q : t = t') : PI X tg e t' := q ▸ h
theorem pe_cast {X : Cx} {e : Expr} {t t' : TE} (h : PE X e t) (q : t = t') : PE X e t' := q ▸ h
/-! ### more of dicts whose keys are tuples -/
theorem paired_of {α β : Type} {F : α → β → Prop} : ∀ {xs : List α} {ys : List β}, xs.length = ys.length → (∀ (i : Nat) (x : α), xs[i]? = some x → ∃ y, ys[i]? = some y ∧ F x y) → Paired F xs ys
  | [], [], _, _ => .nil
  | [], _ :: _, h, _ => by cases h
  | _ :: _, [], h, _ => by cases h
  | x :: xs, y :: ys, h, g => by
    obtain ⟨z, hz, r⟩ := g 0 x rfl
    cases hz
    refine .cons r (paired_of (by simpa using h) fun i v hv => ?_)
    obtain ⟨z, hz, r⟩ := g (i + 1) v (by simpa using hv)
    exact ⟨z, by simpa using hz, r⟩
section
variable {X : Cx} {pins : List (Addr × Obj)} {σ : L2.St} {H : Hp} {s : Shared}
/-- d.get(k) -/
def tNGet1 (td ty : TE) : TE := fun σ H Q => td σ H fun x H1 => ∃ (a : Addr) (ys : List NEnt), x = .ref a ∧ Rdn H1 a ys ∧ NOk H1 ys ∧ ty σ H1 fun y H2 => ∃ b xs k, y = .ref b ∧ NAsk H2 a b xs k ∧ Q ((getN xs k).getD .non) H2
theorem dn_typ (I : L2.Inv X pins σ H s) {a : Addr} {ys : List NEnt} (e : Rdn H a ys) (ok : NOk H ys) : s.TypeIs (.ref a) "dict" ∧ (∀ b, Value.ref a = .ref b → ∃ ob, s.heap.get? b = some ob ∧ ob.dict = none) := by
  obtain ⟨_, zs, _, dd⟩ := dn_of I e ok
  refine ⟨dd.typeIs, fun b q => ?_⟩
  cases q
  obtain ⟨ob, _, _, h1, h2, _⟩ := dd
  exact ⟨ob, h1, h2.2.1⟩
theorem pe_nget1 {o e : Expr} {apos cpos : Pos} {td ty : TE} (hu : X.A.units + 65 < cLine) (ho : PE X o td) (he : PE X e ty) (m : M1 X o "get" apos e cpos) : PE X (.Call (.Attribute o "get" apos) [e] [] cpos) (tNGet1 td ty) := by
  refine ⟨fun pins s σ H Q I h => ?_⟩
  refine wpAny_Call_method m.base m.few m.line PySem.F.plainAttrs_dict PySem.F.slot_dict_get PySem.F.type_dict_get (thn (ho.run pins s σ H _ I h) fun u s1 ⟨x, H1, I1, rx, a, ys, ex, d, nok, q1⟩ => ?_)
  subst ex
  obtain rfl : u = Value.ref a := rx
  obtain ⟨t1, t2⟩ := dn_typ I1 d nok
  refine ⟨t1, t2, ?_⟩
  rw [m.trees]
  refine Calls.callWith_builtin rfl (Calls.evalArgs_plain (Calls.spliced_cons (thn (he.run pins s1 σ H1 _ I1 q1) fun iv s2 ⟨y, H2, I2, ry, b, xs, k, ey, ⟨ea, ok, kb, dp, pl⟩, q2⟩ => Calls.spliced_nil ?_)))
  subst ey
  obtain rfl : iv = Value.ref b := ry
  obtain ⟨hd, zs, r, dd⟩ := dn_of I2 ea ok
  refine call_meetsIn PySem.F.slot_dict_get dd.typeIs PySem.F.entry_dict_get (PySem.F.args_dict_get_2 _ _) (meetsH_dict_get (nestedKind X.prog X.w) a b hd) ⟨nroom hu, k, zs, ⟨KeyIs.nested I2.hok k _ _ kb rfl, dp⟩, dd, ?_⟩
  exact ⟨_, H2, I2.tok _, (r.val k).getD (d := V.non) rfl, q2⟩
/-- len(d) -/
def rLenN : List V → Hp → VK → Prop := fun xs H Q => ∃ (p : Addr) (ys : List NEnt), xs = [.ref p] ∧ Rdn H p ys ∧ NOk H ys ∧ Q (.int ((ys.length : Nat) : Int)) H
theorem cr_lenN : CallR X (.builtin "len") rLenN := by
  intro pins s σ H xs us Q I r h
  obtain ⟨p, ys, rfl, hp, ok, q⟩ := h
  obtain ⟨u, rfl, rx⟩ := vals1 r
  obtain rfl : u = .ref p := rx
  obtain ⟨hd, zs, rel, dd⟩ := dn_of I hp ok
  have hl : ys.length = zs.length := by have := congrArg List.length rel.keys; rw [List.length_map, List.length_map] at this; exact this
  have z := ok.len
  refine call_len_dictH hd dd (by rw [← hl]; rw [sizeLine_eq] at z; omega) ?_
  rw [← hl]
  exact ⟨.int ((ys.length : Nat) : Int), H, I.tok _, ⟨_, rfl⟩, q⟩
/-- list(d) -/
def rListN : List V → Hp → VK → Prop := fun xs H Q => ∃ (p : Addr) (ys : List NEnt), xs = [.ref p] ∧ Rdn H p ys ∧ NOk H ys ∧ ∀ l, H l = none → Q (.ref l) (upd H l (.lst (ys.map fun y => .ref y.2.1)))
theorem cr_listN (hc : X.calm = true) : CallR X (.type "list") rListN := by
  intro pins s σ H xs us Q I r h
  obtain ⟨p, ys, rfl, hp, ok, q⟩ := h
  obtain ⟨u, rfl, rx⟩ := vals1 r
  obtain rfl : u = .ref p := rx
  obtain ⟨hd, zs, rel, dd⟩ := dn_of I hp ok
  obtain ⟨es, ep, hraw, hsz, hk⟩ := dd.raw
  have hl : ys.length = zs.length := by have := congrArg List.length rel.keys; rw [List.length_map, List.length_map] at this; exact this
  refine PySem.W.kdl_call (KdlSrc.rawDict hd) (I.ok.hd hc) hraw (by rw [hsz, ← hl]; exact ok.len) fun h' tk acc c kp hS hacc => ?_
  have I1 : L2.Inv X pins σ (upd H s.heap.objs.size (.lst (ys.map fun y => .ref y.2.1))) { s with heap := h', toks := tk } := by
    refine I.laid (t' := tk) kp (Nat.le_refl _) (show ObjOk X.prog X.w _ h' _ (.lst _) from ⟨by rw [List.length_map]; exact ok.len, acc.toList, c, ?_, by simpa using hS⟩)
    have e8 := hacc.1
    have e9 : acc.toList.length = acc.size := by simp
    refine paired_of (show (ys.map fun y => V.ref y.2.1).length = acc.toList.length by rw [List.length_map]; omega) fun i v hv => ?_
    rw [List.getElem?_map] at hv
    obtain ⟨y, hy, rfl⟩ := Option.map_eq_some_iff.mp hv
    have hi : i < zs.length := by rw [← hl]; exact (List.getElem?_eq_some_iff.mp hy).1
    have hi2 : i < acc.size := by rw [hacc.1, hsz]; exact hi
    have ha : acc[i]? = some acc[i] := Array.getElem?_eq_getElem hi2
    obtain ⟨hie, ek⟩ := hacc.2 i _ ha
    obtain ⟨z, hz, e1, _⟩ := hk i hie
    refine ⟨acc[i], by rw [Array.getElem?_toList]; exact ha, ?_⟩
    have rl := Pf.paired_get rel hy hz
    show RelV (.ref y.2.1) acc[i]
    rw [ek, e1, rl.2.1]
    rfl
  exact ⟨.ref _, _, I1, rfl, q _ (I.hok.fresh (Nat.le_refl _))⟩
end
/-! walks over the keys of a locked dict -/
def Itn (d : Addr) (o : Obj) (xs : List NEnt) : It :=
  ⟨fun i H => H d = some (.frz o (dN xs d)) ∧ i < xs.length, fun i H v H' => H' = H ∧ ∃ x, xs[i]? = some x ∧ v = .ref x.2.1, fun i H => H d = some (.frz o (dN xs d)) ∧ xs.length ≤ i⟩
section
variable {X : Cx} {pins : List (Addr × Obj)} {σ : L2.St} {H : Hp} {s : Shared} {d : Addr} {o : Obj} {xs : List NEnt}
theorem frzN (I : L2.Inv X pins σ H s) (h : H d = some (.frz o (dN xs d))) : (d == sysModules) = false ∧ s.heap.get? d = some o ∧ o.ExactDict ∧ ∃ (es : Array DictEntry) (ep : Nat), o.data = .dict es ep ∧ es.size = xs.length ∧
    ∀ (i : Nat) (x : NEnt), xs[i]? = some x → ∃ en, es[i]? = some en ∧ en.key = .ref x.2.1 := by
  obtain ⟨e0, ⟨hd, ys, r, o', es, ep, h1, h2, h3, h4⟩, _, _⟩ := (show ObjOk X.prog X.w H s.heap d (.frz o (dN xs d)) from I.hok d _ h)
  rw [e0] at h1
  cases h1
  have hl : xs.length = ys.length := by have := congrArg List.length r.keys; rw [List.length_map, List.length_map] at this; exact this
  have hs : es.size = ys.length := by have := congrArg List.length h4; rw [List.length_map, Array.length_toList] at this; exact this
  refine ⟨hd, e0, h2, es, ep, h3, by omega, fun i x hx => ?_⟩
  have hi : i < ys.length := by rw [← hl]; exact (List.getElem?_eq_some_iff.mp hx).1
  have hy := List.getElem?_eq_getElem hi
  have rl := Pf.paired_get r hx hy
  have e2 : es.toList[i]? = some (⟨hashN ys[i].1, .ref ys[i].2.1, ys[i].2.2⟩ : DictEntry) := by rw [h4, List.getElem?_map, hy]; rfl
  refine ⟨_, by rw [← Array.getElem?_toList]; exact e2, ?_⟩
  rw [rl.2.1]
end
section
variable {P : Program} {w : World} {K : PySem.W.Frag} {tg : Expr} {d : Addr} {o : Obj} {es : Array DictEntry} {ep : Nat}
theorem turn_keysN {xs : List NEnt} (it : Addr) (hod : o.data = .dict es ep) : Turn P w K tg (Itn d o xs) [it] it (fun i h => h.IsKeyIter it d i xs.length ep) where
  mem := by simp
  obj := fun i h st b hb => by
    have e : b = it := by simpa using hb
    subst e
    obtain ⟨oi, e, c, dd⟩ := st
    exact ⟨oi, e, fun v z => by rw [dd] at z; cases z⟩
  keep := fun i h h' st k => st.at fun oi e => k it (by simp) oi e
  item := by
    intro X hP hw hK hc i pins s σ H E I hf st hg
    subst hP hw hK
    obtain ⟨hd, hi⟩ := hg
    obtain ⟨f0, f1, f2, f3, f4, f5⟩ := hf it (by simp)
    obtain ⟨hs, hgd, hx, es', ep', hdt, hsz, ent⟩ := frzN I hd
    obtain ⟨rfl, rfl⟩ := dict_ep hod hdt
    obtain ⟨x, hxi⟩ : ∃ p, xs[i]? = some p := ⟨xs[i], List.getElem?_eq_getElem hi⟩
    obtain ⟨en, hen, ek⟩ := ent i x hxi
    refine next_key_item st hgd hdt hsz hen fun h' st' sb => ?_
    have I1 : L2.Inv X pins σ H { s with heap := h' } := I.turned (t' := s.toks) (fun b ob hb e => (sb.2 b hb).trans e) f0 f1 f3 f4 f5
    obtain ⟨oi, e, c, dd⟩ := id st'
    exact ⟨en.key, rfl, go_of (s := { s with heap := h' }) e c dd (by decide) ⟨.ref x.2.1, H, I1, by rw [ek]; exact rfl, ⟨rfl, x, hxi, rfl⟩, st', fun b hb => (hf b hb).1⟩⟩
  done := by
    intro X hP hw hK hc i pins s σ H E I hf st hg
    subst hP hw hK
    obtain ⟨hd, hi⟩ := hg
    obtain ⟨f0, f1, f2, f3, f4, f5⟩ := hf it (by simp)
    obtain ⟨hs, hgd, hx, es', ep', hdt, hsz, ent⟩ := frzN I hd
    obtain ⟨rfl, rfl⟩ := dict_ep hod hdt
    exact next_key_end (I.ok.hd hc) st hgd hdt hsz hi fun h' eb => ⟨rfl, I.turned (t' := s.toks) (fun b ob hb e => eb b ob hb e) f0 f1 f3 f4 f5⟩
  self := fun A i s Q E st h => wpAny_pyIter_keyiter st h
end
def iKeysN (td : TE) : TI := fun σ H R => td σ H fun x H1 => ∃ d o xs, x = .ref d ∧ H1 d = some (.frz o (dN xs d)) ∧ R (Itn d o xs) H1
theorem pi_keysN {X : Cx} {tg e : Expr} {td : TE} (he : PE X e td) : PI X tg e (iKeysN td) := by
  refine ⟨fun pins s σ H R I h => ?_⟩
  refine thn (he.run pins s σ H _ I h) fun u s1 ⟨x, H1, I1, rx, d, o, xs, ex, hd, q⟩ => ?_
  subst ex
  obtain rfl : u = Value.ref d := rx
  obtain ⟨hs, hgd, hx, es, ep, hdt, hsz, ent⟩ := frzN I1 hd
  refine iter_keys hs hgd hx hdt (pi_one (tk := s1.toks) I1 _ (turn_keysN _ hdt) ⟨_, Heap.get?_push_size _ rfl, rfl, ?_⟩ q)
  rw [hsz] <;> rfl
/-! ### the same, typed -/
section
variable {κ β : Type} [DecidableEq κ] [Rp κ] [NK κ] [Rp β] {B ms ms' : Ms} {H H' : Hp} {a m p : Addr} {d : DN κ β}
/-- such a dict stands at a, locked: the object o, the entries xs -/
structure Lk (ms : Ms) (H : Hp) (a : Addr) (o : Obj) (xs : List NEnt) (d : DN κ β) : Prop where
  at_ : H a = some (.frz o (dN xs a))
  re : RE ms H xs d.m
  len : xs.length ≤ sizeLine
  nd : (xs.map (·.1)).Nodup
variable {o : Obj} {xs : List NEnt}
theorem Lk.er (h : Lk ms H a o xs d) : Er2 ms H a d := ⟨xs, .inr ⟨o, h.at_⟩, h.re, h.len, h.nd⟩
theorem Lk.step (h : Lk ms H a o xs d) (M : Mv ms H ms' H') (e : ∀ u, H a = some u → H' a = some u) : Lk ms' H' a o xs d := ⟨e _ h.at_, h.re.mv M, h.len, h.nd⟩
theorem Lk.bu (h : Lk ms H a o xs d) (hB : ∀ a ∈ B, a ∈ ms) (n : a ∉ B) (s : Bu B H H') : Lk ms H' a o xs d := h.step (Mv.bu hB s) fun u e => s.1 a u n e
theorem Lk.less (h : Lk ms H a o xs d) (l : ∀ a ∈ ms', a ∈ ms) : Lk ms' H a o xs d := h.step (Mv.less l) fun u e => e
theorem Lk.lt {H0 : Hp} (h : Lk ms H0 a o xs d) (n : a ∉ B) (L : Lt B ms H0 ms' H) : Lk ms' H a o xs d := h.step L.M fun u e => L.S a u n e
theorem Lk.ne (h : Lk ms H a o xs d) (np : H p = none) : a ≠ p := fun z => by rw [← z, h.at_] at np; cases np
end
section
variable {κ β : Type} [DecidableEq κ] [Rp κ] [NK κ] [NKR κ] [Rp β] {B ms : Ms} {σ : L2.St} {H0 : Hp} {p q r : Hq} {ta tb te : TE} {d d' : DN κ β} {i : κ} {x : β} {a : Addr} {o : Obj} {xs : List NEnt}
theorem ed2_lk {n : Nat} (W : Wd B ms H0) (hs : σ[n]? = some (some (.ref a))) (nB : a ∉ B) (h : Lk ms H0 a o xs d) : Ed2 B ms (tVar n) σ H0 p d p := fun H b hp Q k => ⟨_, hs, k a H (Bu.refl B H) hp nB (h.bu W.hB nB b).er⟩
theorem er_nok {ms : Ms} {H : Hp} (h8 : NK.dep κ ≤ 8) (l : Er2 ms H a d) : ∃ ys, Rdn H a ys ∧ NOk H ys ∧ RE ms H ys d.m ∧ ys.length = d.m.length := by
  obtain ⟨xs, e, r, ll, nd⟩ := l
  exact ⟨xs, e, ⟨ll, nd, r.ok h8⟩, r, r.len⟩
theorem ex_nget1 (h8 : NK.dep κ ≤ 8) (h1 : Ed2 B ms ta σ H0 p d q) (h2 : Ex B ms tb σ H0 q i r) (W : Wd B ms H0) : Ex B ms (tNGet1 ta tb) σ H0 p (getM d.m i) r := fun H b hp Q k => h1 H b hp _ fun a H1 b1 q1 na l1 => by
  obtain ⟨ys, e, ok, _, _⟩ := er_nok h8 l1
  refine ⟨a, ys, rfl, e, ok, h2 H1 (b.trans b1) q1 _ fun u H2 b2 q2 r2 => ?_⟩
  obtain ⟨c, xs, eb, A, R, _⟩ := nask h8 (l1.bu W.hB na b2) r2
  refine ⟨c, xs, _, eb, A, k _ H2 (b1.trans b2) q2 ?_⟩
  cases hg : getM d.m i with
  | none =>
    have e1 := (R.get i).1
    rw [hg] at e1
    have e2 : getN xs (nk i) = none := by cases h : getN xs (nk i) with | none => rfl | some _ => rw [h] at e1; cases e1
    rw [e2]
    exact rfl
  | some x =>
    obtain ⟨v, hv, rv⟩ := (R.get i).2 x hg
    rw [hv]
    exact rv
theorem ex_nlen (h8 : NK.dep κ ≤ 8) (h : Ed2 B ms te σ H0 p d q) : Ex B ms (tCB rLenN (tCons te tNil)) σ H0 p (d.m.length : Int) q := fun H b hp Q k => h H b hp _ fun a H1 b1 q1 na l1 => by
  obtain ⟨ys, e, ok, _, hl⟩ := er_nok h8 l1
  exact ⟨a, ys, rfl, e, ok, k _ H1 b1 q1 (by rw [hl]; rfl)⟩
theorem RE.keysL {ms : Ms} {H : Hp} : ∀ {xs : List NEnt} {m : List (κ × β)}, RE ms H xs m → RL (rp ms H) (xs.map fun y => V.ref y.2.1) (m.map (·.1))
  | [], [], _ => trivial
  | _ :: _, _ :: _, ⟨⟨_, b, _⟩, r⟩ => ⟨b, RE.keysL r⟩
theorem RE.at_ {ms : Ms} {H : Hp} : ∀ {xs : List NEnt} {m : List (κ × β)} {i : Nat} {p : κ × β}, RE ms H xs m → m[i]? = some p → ∃ x, xs[i]? = some x ∧ rp ms H (.ref x.2.1) p.1
  | [], [], _, _, _, e => by simp at e
  | _ :: _, _ :: _, 0, _, ⟨⟨_, b, _⟩, _⟩, e => by cases e; exact ⟨_, rfl, b⟩
  | _ :: _, _ :: _, i + 1, _, ⟨_, r⟩, e => by
    obtain ⟨x, h1, h2⟩ := RE.at_ r (i := i) (by simpa using e)
    exact ⟨x, by simpa using h1, h2⟩
theorem en_listN (h8 : NK.dep κ ≤ 8) (W : Wd B ms H0) (hq : Sb B q) (h : Ed2 B ms te σ H0 p d q) : En B ms (tCB rListN (tCons te tNil)) σ H0 p (d.m.map (·.1)) q := fun H b hp Q k => h H b hp _ fun a H1 b1 q1 na l1 => by
  obtain ⟨ys, e, ok, R, hl⟩ := er_nok h8 l1
  refine ⟨a, ys, rfl, e, ok, fun t nt => ?_⟩
  have s := same_upd (o := .lst (ys.map fun y => V.ref y.2.1)) nt
  exact k _ _ (b1.trans (Bu.same s)) (hq.new nt s q1) (b1.none nt) (((W.al.bu b).bu b1).not nt) (ls_new nt R.keysL (by rw [List.length_map]; exact ok.len))
theorem itok_keysN {K0 : Addr → Addr} : ItOk (Itn a o xs) (fun ms H => Lk ms H a o xs d) (d.m.map (·.1)) := fun i ms H hf al => by
  have hl := hf.re.len
  refine ⟨fun h => ⟨hf.at_, by rw [List.length_map] at h; omega⟩, fun x ex => ?_⟩
  rw [List.getElem?_map] at ex
  obtain ⟨y, hy, rfl⟩ := Option.map_eq_some_iff.mp ex
  have hlt := (List.getElem?_eq_some_iff.mp hy).1
  refine ⟨⟨hf.at_, by omega⟩, fun v H2 ⟨eH, x2, hx2, ev⟩ => ?_⟩
  subst eH
  obtain ⟨x3, hx3, r3⟩ := hf.re.at_ hy
  rw [hx2] at hx3
  cases hx3
  rw [ev]
  exact ⟨fun _ _ z => z, r3⟩
/-- for k in d, d locked -/
theorem ej_keysN {n : Nat} (W : Wd B ms H0) (hs : σ[n]? = some (some (.ref a))) (nB : a ∉ B) (h : Lk ms H0 a o xs d) : Ej B ms (iKeysN (tVar n)) σ H0 p (d.m.map (·.1)) p := fun H b hp R k => by
  have l1 := h.bu W.hB nB b
  refine ⟨_, hs, a, o, xs, rfl, l1.at_, k _ (fun ms H => Lk ms H a o xs d) [a] H (Bu.refl B H) hp (fun n M s => n.step M (s a (by simp))) (fun c hc => ?_) l1 (itok_keysN (K0 := id))⟩
  rw [List.mem_singleton.mp hc]
  exact ⟨nB, by rw [l1.at_]; exact fun z => by cases z⟩
/-- what is known while the dict at a is locked -/
theorem lock_at {H : Hp} (W : Wd B ms H) (l : Dn ms H a d) (hm : a ∈ ms) (nB : a ∉ B) (hp0 : Sb B p) (hp : p ms H) : ∃ xs, H a = some (dN xs a) ∧ ∀ od, Wd B ms (upd H a (.frz od (dN xs a))) ∧ Mv ms H ms (upd H a (.frz od (dN xs a))) ∧
    (∀ c, c ≠ a → ∀ o, H c = some o → (upd H a (.frz od (dN xs a))) c = some o) ∧ p ms (upd H a (.frz od (dN xs a))) ∧ Lk ms (upd H a (.frz od (dN xs a))) a od xs d := by
  obtain ⟨xs, ea, r, ll, nd⟩ := l
  refine ⟨xs, ea, fun od => ?_⟩
  have u1 : But a H (upd H a (.frz od (dN xs a))) := But.upd
  have e1 : (upd H a (.frz od (dN xs a))) a = some (.frz od (dN xs a)) := upd_same
  have M1 : Mv ms H ms (upd H a (.frz od (dN xs a))) := Mv.but hm u1
  exact ⟨⟨W.hB, W.al.but u1 e1⟩, M1, fun c ne o e => u1 _ _ ne e, hp0 _ _ _ _ hp M1 fun c hc o ec => u1 _ _ (fun z => nB (z ▸ hc)) ec, ⟨e1, r.mv M1, ll, nd⟩⟩
/-- and behind it -/
theorem unlock_at {H : Hp} (W : Wd B ms H) (l : Lk ms H a o xs d) (hm : a ∈ ms) (nB : a ∉ B) (hp0 : Sb B p) (hp : p ms H) : Wd B ms (upd H a (dN xs a)) ∧ Mv ms H ms (upd H a (dN xs a)) ∧
    (∀ c, c ≠ a → ∀ o, H c = some o → (upd H a (dN xs a)) c = some o) ∧ p ms (upd H a (dN xs a)) ∧ Dn ms (upd H a (dN xs a)) a d := by
  have u1 : But a H (upd H a (dN xs a)) := But.upd
  have e1 : (upd H a (dN xs a)) a = some (dN xs a) := upd_same
  have M1 : Mv ms H ms (upd H a (dN xs a)) := Mv.but hm u1
  exact ⟨⟨W.hB, W.al.but u1 e1⟩, M1, fun c ne o e => u1 _ _ ne e, hp0 _ _ _ _ hp M1 fun c hc o ec => u1 _ _ (fun z => nB (z ▸ hc)) ec, ⟨xs, e1, l.re.mv M1, l.len, l.nd⟩⟩
/-- a list made while the dict at a is locked -/
theorem en_lockN {α : Type} [Rp α] {zs : List α} {t : TE} (W : Wd B ms H0) (l : Dn ms H0 a d) (hm : a ∈ ms) (nB : a ∉ B) (hp0 : Sb B p) (hq0 : Sb B q)
    (h : ∀ H1 o xs, Wd B ms H1 → Mv ms H0 ms H1 → (∀ c, c ≠ a → c ∉ B → ∀ o, H0 c = some o → H1 c = some o) → Lk ms H1 a o xs d → En B ms t σ H1 p zs q) : En B ms (tLockE t) σ H0 p zs q := fun H b hp Q k => by
  obtain ⟨xs, ea, hl⟩ := lock_at (W.bu b) (l.bu W.hB nB b) hm nB hp0 hp
  refine ⟨a, dN xs a, ea, trivial, fun od => ?_⟩
  obtain ⟨W2, M1, st1, p1, L1⟩ := hl od
  refine h _ od xs W2 ((W.mv b).trans M1) (fun c ne nc o ec => st1 c ne _ (b.1 _ _ nc ec)) L1 _ (Bu.refl B _) p1 _ fun t H' b2 q2 nt ntm lt => ?_
  have L2 := L1.bu W2.hB nB b2
  have nea : t ≠ a := fun z => by rw [z, L1.at_] at nt; cases nt
  obtain ⟨W3, M3, st3, q3, D3⟩ := unlock_at (W2.bu b2) L2 hm nB hq0 (hq0.less (a := t) q2)
  have u3 : But a H' (upd H' a (dN xs a)) := But.upd
  have M4 : Mv (t :: ms) H' (t :: ms) (upd H' a (dN xs a)) := Mv.but (List.mem_cons_of_mem _ hm) u3
  refine ⟨L2.at_, k t _ ⟨fun c u nc ec => ?_, fun c hc => ?_⟩ (hq0 _ _ _ _ q2 M4 fun c hc o ec => u3 _ _ (fun z => nB (z ▸ hc)) ec) ?_ ntm (lt.step M4 fun o e => u3 _ _ nea e)⟩
  · by_cases z : c = a
    · rw [z] at ec ⊢
      rw [upd_same]
      rw [ea] at ec
      exact ec
    · exact u3 _ _ z (b2.1 _ _ nc (st1 c z _ ec))
  · by_cases z : c = a
    · rw [z, upd_same]
      exact fun z => by cases z
    · have h1 : (upd H a (.frz od (dN xs a))) c ≠ none := by rw [upd_ne z]; exact hc
      have h2 := b2.2 c h1
      rw [upd_ne z]
      exact h2
  · rw [upd_ne nea] at nt
    exact nt
end
/-! ### tuples of any length -/
section
variable {α : Type} [Rp α] {K : PySem.W.Frag} {B ms : Ms} {σ : L2.St} {H0 : Hp} {p q r : Hq} {te : TE} {xs : List α}
/-- tuple(xs) -/
theorem ex_tupL (W : Wd B ms H0) (hq : Sb B q) (h : El B ms te σ H0 p xs q) : Ex B ms (tCB (fun xs H Q => ∃ p ys, xs = [.ref p] ∧ ((SqL K H p ys ∧ ∀ l, H l = none → Q (.ref l) (upd H l (.tup ys))) ∨ (SqT K H p ys ∧ Q (.ref p) H))) (tCons te tNil)) σ H0 p (⟨xs⟩ : VT α) q := fun H b hp Q k => h H b hp _ fun a H1 b1 q1 na ⟨vs, e, rl, l⟩ => by
  refine ⟨a, vs, rfl, .inl ⟨SqL.of e, fun t nt => ?_⟩⟩
  have s := same_upd (o := .tup vs) nt
  exact k _ _ (b1.trans (Bu.same s)) (hq.same s q1) ⟨t, vs, rfl, ((W.al.bu b).bu b1).not nt, upd_same, rl.imp fun _ _ z => Rp.mv z (Mv.same s), l⟩
/-- list(t) -/
theorem en_listV {x : VT α} (W : Wd B ms H0) (hq : Sb B q) (h : Ex B ms te σ H0 p x q) : En B ms (tCB (fun xs H Q => ∃ p ys, xs = [.ref p] ∧ (SqL K H p ys ∨ SqT K H p ys) ∧ ∀ l, H l = none → Q (.ref l) (upd H l (.lst ys))) (tCons te tNil)) σ H0 p x.l q := fun H b hp Q k => h H b hp _ fun v H1 b1 q1 ⟨a, vs, ev, _, e, rl, l⟩ => by
  subst ev
  refine ⟨a, vs, rfl, .inr (SqT.of e), fun t nt => ?_⟩
  have s := same_upd (o := .lst vs) nt
  exact k _ _ (b1.trans (Bu.same s)) (hq.new nt s q1) (b1.none nt) (((W.al.bu b).bu b1).not nt) (ls_new nt rl l)
/-- () -/
theorem ex_tup0 (α : Type) [Rp α] (W : Wd B ms H0) (hq : Sb B p) : Ex B ms (tTup tNil) σ H0 p (⟨[]⟩ : VT α) p := fun H b hp Q k => by
  refine ⟨by simp, fun t nt => ?_⟩
  have s := same_upd (o := .tup []) nt
  exact k _ _ (Bu.same s) (hq.same s hp) ⟨t, [], rfl, (W.al.bu b).not nt, upd_same, trivial, Nat.zero_le _⟩
end
/-! ### tuples of any length as data -/
section
variable {α : Type} [DecidableEq α]
theorem VT.eq_iff {x y : VT α} : x = y ↔ x.l = y.l := ⟨fun h => by rw [h], fun h => by cases x; cases y; cases h; rfl⟩
instance encVT [Enc α] : Enc (VT α) := ⟨fun x => .tuple (x.l.map Enc.enc), Enc.dep α + 1, fun x => by rw [PyData.canLay0]; exact layAll x.l,
  fun x => by have := depAll x.l; rw [PyData.depth]; omega, fun x y => by rw [PyData.eqv, eqvAll]; exact decide_eq_decide.mpr VT.eq_iff.symm⟩
instance [Enc α] [Rp α] [RpD α] : RpD (VT α) := ⟨fun ⟨_, _, e, _, eh, rl, _⟩ => by subst e; exact .tup (SqT.of eh) (dpAll_of rl)⟩
instance [Enc α] : EncN (VT α) := ⟨fun _ z => by cases z⟩
instance shwVT {α : Type} [Rp α] [Shw α] : Shw (VT α) := ⟨fun x => .tuple (x.l.map Shw.shw), Shw.dep α + 1, fun x => by have := (shw_all x.l).1; rw [PyData.depth]; omega, fun x => by rw [PyData.hasDict]; exact (shw_all x.l).2,
  fun ⟨_, _, e, _, eh, rl, _⟩ => by subst e; exact .tup (SqT.of eh) (shw_dps rl)⟩
end
/-! ### list(range(a, b)), int of a truth value -/
def intB (c : Bool) : Int := if c = true then 1 else 0
theorem ex_intB {B ms : Ms} {σ : L2.St} {H0 : Hp} {p q : Hq} {ts : TA} {c : Bool} {A : List V → Hp → VK → Prop} (h : Ea B ms ts σ H0 p (c, ()) q) : Ex B ms (tCB (fun xs H Q => A xs H Q ∨ (∃ k, xs = [V.bl k] ∧ Q (V.int (if k then 1 else 0)) H)) ts) σ H0 p (intB c) q := fun H b hp Q k => h H b hp _ fun vs H1 b1 q1 e1 => by
  obtain ⟨v1, _, rfl, r1, e⟩ := e1
  have e' : _ = [] := e
  have r1' : v1 = .bl c := r1
  subst e' r1'
  exact .inr ⟨c, rfl, k _ H1 b1 q1 rfl⟩
section
variable {K : PySem.W.Frag} {B ms : Ms} {σ : L2.St} {H0 : Hp} {p q r : Hq} {ta tb te : TE}
theorem rgV_rngL (a b : Int) : rgV a b = (rngL a (b - a).toNat).map V.int := by
  unfold rgV rngL
  rw [List.map_map]
  rfl
theorem en_listRg2 {i j : Int} {xs : List Int} (W : Wd B ms H0) (hq : Sb B r) (h1 : Ex B ms ta σ H0 p i q) (h2 : Ex B ms tb σ H0 q j r) (e : rng2 i j = some xs) : En B ms (tLstRg (tRg2 ta tb)) σ H0 p xs r := fun H b hp Q k => h1 H b hp _ fun v H1 b1 q1 r1 => h2 H1 (b.trans b1) q1 _ fun u H2 b2 q2 r2 => by
  unfold rng2 at e
  split at e
  case isFalse => cases e
  rename_i hl
  cases e
  refine ⟨i, j, r1, r2, ⟨hl.1, hl.2.1, hl.2.2.1, hl.2.2.2.1, by rw [sizeLine_eq] at hl; omega⟩, fun t nt => ?_⟩
  have s := same_upd (o := .lst (rgV i j)) nt
  refine k _ _ ((b1.trans b2).trans (Bu.same s)) (hq.new nt s q2) ((b1.trans b2).none nt) ((((W.al.bu b).bu b1).bu b2).not nt) ?_
  rw [rgV_rngL]
  exact ls_new nt (RL.of_map (f := V.int) (fun _ => rfl) _) (by rw [List.length_map]; simpa [rngL] using hl.2.2.2.2)
theorem en_listRg1 {j : Int} {xs : List Int} (W : Wd B ms H0) (hq : Sb B q) (h2 : Ex B ms tb σ H0 p j q) (e : rng1 j = some xs) : En B ms (tLstRg (tRg1 tb)) σ H0 p xs q := fun H b hp Q k => h2 H b hp _ fun u H2 b2 q2 r2 => by
  unfold rng1 at e
  split at e
  case isFalse => cases e
  rename_i hl
  cases e
  refine ⟨j, r2, ⟨by decide, by decide, hl.1, hl.2.1, by rw [sizeLine_eq] at hl; omega⟩, fun t nt => ?_⟩
  have s := same_upd (o := .lst (rgV 0 j)) nt
  refine k _ _ (b2.trans (Bu.same s)) (hq.new nt s q2) (b2.none nt) (((W.al.bu b).bu b2).not nt) ?_
  rw [rgV_rngL, Int.sub_zero]
  exact ls_new nt (RL.of_map (f := V.int) (fun _ => rfl) _) (by rw [List.length_map]; simpa [rngL] using hl.2.2)
end
/-! ### for k in d: .. -/
theorem Bu.ownN {B : Ms} {H H' H'' : Hp} {p : Addr} (x : Bu B H H') (n : H p = Option.none) (s : But p H' H'') (e : H'' p ≠ Option.none) : Bu B H H'' := by
  obtain ⟨o, e⟩ := Option.ne_none_iff_exists'.mp e
  exact x.own n s e
section
variable {κ β : Type} [DecidableEq κ] [Rp κ] [NK κ] [NKR κ] [Rp β] {B ms : Ms} {p : Hq} {d : DN κ β} {a : Addr}
theorem lock_go {t : TS} {D : Ends} {σ : L2.St} {H : Hp} (W : Wd B ms H) (l : Dn ms H a d) (hm : a ∈ ms) (nB : a ∉ B) (hp0 : Sb B p) (hp : p ms H)
    (k : ∀ od xs H1, But a H H1 → H1 a ≠ none → Wd B ms H1 → Mv ms H ms H1 → (∀ c, c ≠ a → ∀ o, H c = some o → H1 c = some o) → p ms H1 → Lk ms H1 a od xs d →
      t ⟨fun σ' H' => H' a = some (.frz od (dN xs a)) ∧ D.nx σ' (upd H' a (dN xs a)), fun v H' => H' a = some (.frz od (dN xs a)) ∧ D.rt v (upd H' a (dN xs a)), fun σ' H' => H' a = some (.frz od (dN xs a)) ∧ D.bk σ' (upd H' a (dN xs a)), fun σ' H' => H' a = some (.frz od (dN xs a)) ∧ D.ct σ' (upd H' a (dN xs a))⟩ σ H1) : tLock t D σ H := by
  obtain ⟨xs, ea, hl⟩ := lock_at W l hm nB hp0 hp
  refine ⟨a, dN xs a, ea, trivial, fun od => ?_⟩
  obtain ⟨W2, M1, st1, p1, L1⟩ := hl od
  exact k od xs _ But.upd (by rw [upd_same]; exact fun z => by cases z) W2 M1 st1 p1 L1
theorem unlock_go {H : Hp} {o : Obj} {xs : List NEnt} {R : Hp → Prop} (W : Wd B ms H) (l : Lk ms H a o xs d) (hm : a ∈ ms) (nB : a ∉ B) (hp0 : Sb B p) (hp : p ms H)
    (k : ∀ H1, But a H H1 → H1 a ≠ none → Wd B ms H1 → Mv ms H ms H1 → (∀ c, c ≠ a → ∀ o, H c = some o → H1 c = some o) → p ms H1 → Dn ms H1 a d → R H1) : H a = some (.frz o (dN xs a)) ∧ R (upd H a (dN xs a)) := by
  obtain ⟨W2, M1, st1, p1, L1⟩ := unlock_at W l hm nB hp0 hp
  exact ⟨l.at_, k _ But.upd (by rw [upd_same]; exact fun z => by cases z) W2 M1 st1 p1 L1⟩
end
end Pf

set_option maxHeartbeats 1000000
namespace Pf
open PySem PySem.W PySem.Spec PyProof.Rows L2
open Rp (rp)
open RpA (ra)
open NK (nk)
/-! ### {k: v for x in xs if ..}, the keys tuples -/
/-- one more entry, by a comprehension -/
theorem put_entry {X : Cx} {pins : List (Addr × Obj)} {σ : L2.St} {H : Hp} {s : Shared} {E : Value → Shared → Prop} {D b : Addr} {xs : List NEnt} {k : NestedKey} {z : V} {r : Value} {Q : Unit → Shared → Prop} (I : L2.Inv X pins σ H s) (hu : X.A.units + 65 < cLine)
    (A : NAsk H D b xs k) (eD : H D = some (dN xs D)) (hl : xs.length < sizeLine) (rz : RelV z r) (fin : ∀ s', L2.Inv X pins σ (upd H D (dN (putN xs k b z) D)) s' → Q () s') : wpAny (model X.prog X.w) X.A (dictSet D (.ref b) r) Q E s := by
  obtain ⟨_, nok, kb, dp, pl⟩ := A
  obtain ⟨nsys, ys, rel, dd⟩ := dn_of I (.inl eD) nok
  have hz : ys.length ≤ sizeLine := by have := congrArg List.length rel.keys; rw [List.length_map, List.length_map] at this; omega
  refine wpAny_dictSet_heap (knd := nestedKind X.prog X.w) (hsz := hz) (by show X.A.units + 8 < cLine; omega) ⟨KeyIs.nested I.hok k _ _ kb rfl, dp⟩ dd fun h' d2 same => fin _ ?_
  obtain ⟨ob, es, ep, q1, q2, q3, q4, _, _⟩ := d2
  refine d_write I (by rw [eD]; exact True.intro) same ⟨ob, q1⟩ (dn_ok ⟨nsys, _, rel.put rz, ob, es, ep, q1, q2, q3, ?_⟩)
  rw [q4]
  refine List.map_congr_left fun y hy => ?_
  have pl2 : plainK y.1 = true := by
    obtain ⟨x, hx, e1, _⟩ := (NE.put (k := k) (b := b) rel rz).mem y hy
    rw [← e1]
    obtain ⟨w, hw, e, _⟩ | ⟨e, _⟩ := putN_mem hx
    · rw [← e]; exact (nok.key w hw).2.2
    · rw [e]; exact pl
  unfold entryOfKey
  show (⟨y.1.hash X.w, _, _⟩ : DictEntry) = ⟨hashN y.1, _, _⟩
  rw [hash_plain X.w y.1 pl2]
def tDcN (wi : TI) (g : TG) (tt : TT) (tk tv : TE) (vs : List Nat) : TE := fun σ H Q => wi σ H fun J H1 => ∀ D, H1 D = none → ∃ W : Nat → Nat → Hp → Prop, (∃ m, W 0 m (upd H1 D (dN [] D))) ∧ ∀ i m H, W i m H →
  (J.stop i H ∧ Q (.ref D) H) ∨ (J.go i H ∧ ∃ Nx : Hp → Prop, (∀ H', Nx H' → ∃ m', m' < m ∧ W (i + 1) m' H') ∧ ∀ x H', J.yld i H x H' → g x (wipe σ vs) H' fun σ2 H2 => wipe σ2 vs = wipe σ vs ∧ tt σ2 H2 fun c H3 =>
    if c = true then tk σ2 H3 fun y H4 => tv σ2 H4 fun z H5 => ∃ b xs k, y = .ref b ∧ NAsk H5 D b xs k ∧ H5 D = some (dN xs D) ∧ xs.length < sizeLine ∧ Nx (upd H5 D (dN (putN xs k b z) D)) else Nx H3)
section
variable {X : Cx} {kx vx tg iter : Expr} {ifs : List Expr} {scope : Scope} {own : List (Str × Nat)} {pos : Pos} {wi : TI} {g : TG} {tt : TT} {tk tv : TE}
/-- what the block's parts are -/
structure DcParts (X : Cx) (kx vx tg : Expr) (ifs : List Expr) (scope : Scope) (g : TG) (tt : TT) (tk tv : TE) : Prop where
  tgt : ∀ (s : Shared) (H : Hp) (C : Addr) (cl : List (Str × Addr)) (fp : List Addr), PG (X.blk s H scope (compEnvC scope cl C X.env) fp) tg g
  tst : ∀ (s : Shared) (H : Hp) (C : Addr) (cl : List (Str × Addr)) (fp : List Addr), PTs (X.blk s H scope (compEnvC scope cl C X.env) fp) ifs tt
  key : ∀ (s : Shared) (H : Hp) (C : Addr) (cl : List (Str × Addr)) (fp : List Addr), PE (X.blk s H scope (compEnvC scope cl C X.env) fp) kx tk
  val : ∀ (s : Shared) (H : Hp) (C : Addr) (cl : List (Str × Addr)) (fp : List Addr), PE (X.blk s H scope (compEnvC scope cl C X.env) fp) vx tv
theorem dcN_core {pins : List (Addr × Obj)} {s : Shared} {σ : L2.St} {H : Hp} {Q : VK} {pos' : Pos} {use : Option (Value → Sem Unit)} {Qf : Value → Shared → Prop} (calm : X.calm = true) (hu : X.A.units + 65 < cLine) (nd : X.N.Nodup) (I : L2.Inv X pins σ H s) (hi : PI X tg iter wi) (ok : BlkOk X.N X.env.scope scope own) (parts : DcParts X kx vx tg ifs scope g tt tk tv) (hs : ∀ x, foldedSetIterable iter X.env x = pure x)
    (want : tDcN wi g tt tk tv (own.map (·.2)) σ H Q)
    (hRR : ∀ D C s' m H', L2.Inv X pins σ H' s' → Q (.ref D) H' → s'.heap.Ns C m → FpOk X pins H' C → compPost (model X.prog X.w) X.A X.xe use Qf (.ref D) C (.ok .next) s') :
    wpAny (model X.prog X.w) X.A (comprehension (.DictComp kx vx [⟨tg, iter, ifs, 0⟩] scope pos) scope X.env pos' newDict false (eval iter X.env) use) Qf X.xe s := by
  have free : ∀ y ∈ scope.names, y.2 = .free → ∃ c, X.env.cells.lookup y.1 = some c := fun y hy e => (ok.free y hy e).elim (fun k => I.ok.has _ (.inl k)) (fun k => I.ok.has _ (.inr k))
  refine wpAny_comprehension_free (use := use) rfl hs (closure_ok free) ok.kind (fun y hy e => by rw [ok.uniq y hy, e]) (thn (hi.run pins s σ H _ I want) fun xv s1 hx => thn hx fun itv s2 got => ?_)
  obtain ⟨it, fp, tn, J, H2, rfl, I2, T, st2, f2, more⟩ := got
  refine wpAny_newObj_type (newEnv_comp ?_)
  obtain ⟨D, eD⟩ : ∃ D, D = s2.heap.objs.size := ⟨_, rfl⟩
  have fresh : H2 D = none := I2.hok.fresh (Nat.le_of_eq eD.symm)
  obtain ⟨W, ⟨m0, w0⟩, turn⟩ := more D fresh
  rw [← eD]
  -- the empty dict stands at D
  obtain ⟨H3, eH3⟩ : ∃ H3, H3 = upd H2 D (dN [] D) := ⟨_, rfl⟩
  obtain ⟨s3, es3⟩ : ∃ s3 : Shared, s3 = { s2 with heap := s2.heap.push { cls := .type "dict", data := .dict #[] } } := ⟨_, rfl⟩
  have I3 : L2.Inv X pins σ H3 s3 := by
    rw [es3, eH3]
    refine I2.laid (t' := s2.toks) (fun b o e => Heap.get?_push_of_some _ e) (Nat.le_of_eq eD.symm) (dn_ok ⟨beq_eq_false_iff_ne.mpr (Ne.symm (by rw [eD]; exact Nat.ne_of_lt I2.big)), [], .nil, _, #[], 0, by rw [eD]; exact Heap.get?_push_size _ rfl, ⟨rfl, rfl, rfl⟩, rfl, rfl⟩)
  have hp3 : s3.heap = s2.heap.push { cls := .type "dict", data := .dict #[] } := by rw [es3]
  have lt2 : ∀ b ∈ fp, b < s2.heap.objs.size := fun b hb => let ⟨o, e, _⟩ := T.obj _ _ st2 b hb; Heap.lt_size e
  have f3 : ∀ b ∈ fp, FpOk X pins H3 b ∧ b < s3.heap.objs.size := fun b hb => by
    refine ⟨⟨?_, (f2 b hb).2⟩, by rw [hp3, Heap.size_push]; exact Nat.lt_succ_of_lt (lt2 b hb)⟩
    rw [eH3, upd_ne (by rw [eD]; exact Nat.ne_of_lt (lt2 b hb))]
    exact (f2 b hb).1
  have st3 : tn 0 s3.heap := T.keep _ _ _ st2 fun b _ o e => by rw [hp3]; exact Heap.get?_push_of_some _ e
  have w0 : W 0 m0 H3 := by rw [eH3]; exact w0
  -- the block's own frame
  obtain ⟨ce, ece⟩ : ∃ ce, ce = compEnvC scope (cellsFrom (s3.heap.objs.size + 1) scope.names (cloFrom X.env.cells scope.names [])) s3.heap.objs.size X.env := ⟨_, rfl⟩
  obtain ⟨s4, es4⟩ : ∃ s4 : Shared, s4 = { s3 with heap := pushCells (s3.heap.push { cls := .type "dict", data := .dict #[] }) scope.names } := ⟨_, rfl⟩
  have pT := parts.tgt s3 H3 s3.heap.objs.size (cellsFrom (s3.heap.objs.size + 1) scope.names (cloFrom X.env.cells scope.names [])) fp
  have pI := parts.tst s3 H3 s3.heap.objs.size (cellsFrom (s3.heap.objs.size + 1) scope.names (cloFrom X.env.cells scope.names [])) fp
  have pK := parts.key s3 H3 s3.heap.objs.size (cellsFrom (s3.heap.objs.size + 1) scope.names (cloFrom X.env.cells scope.names [])) fp
  have pV := parts.val s3 H3 s3.heap.objs.size (cellsFrom (s3.heap.objs.size + 1) scope.names (cloFrom X.env.cells scope.names [])) fp
  have I4 := block_start I3 ok nd f3
  rw [← ece] at pT pI pK pV I4
  rw [← es4] at I4
  have cL : ce.locals = s3.heap.objs.size := by rw [ece]; rfl
  have st4 : tn 0 s4.heap := T.keep _ _ _ st3 fun b _ o e => by rw [es4]; exact pushCells_keeps _ _ _ _ (Heap.get?_push_of_some _ e)
  have stat : ∀ {σ' : L2.St} {H' : Hp} {s' : Shared}, L2.Inv (X.blk s3 H3 scope ce fp) [] σ' H' s' → (∀ b ∈ fp, H' b = none) → ∀ b ∈ fp, FpOk (X.blk s3 H3 scope ce fp) [] H' b := fun {σ' H' s'} J' n b hb =>
    ⟨n b hb, (J'.ok.exf b hb).1, J'.ok.exfs b hb, .inl hb, fun x c e => (J'.ok.exf b hb).2 x c e, fun p hp => absurd (show p ∈ ([] : List (Addr × Obj)) ++ [] from hp) (by simp)⟩
  have hub : (X.blk s3 H3 scope ce fp).A.units + 65 < cLine := hu
  have run : codeAny (model X.prog X.w) X.A (.compLoop (.DictComp kx vx [⟨tg, iter, ifs, 0⟩] scope pos) 0 (.ref it) (.ref D) ce) (compPost (model X.prog X.w) X.A X.xe use Qf (.ref D) s3.heap.objs.size) s4 := by
    refine compLoop_anyD (fun n s' => ∃ i H', L2.Inv (X.blk s3 H3 scope ce fp) [] (wipe σ (own.map (·.2))) H' s' ∧ tn i s'.heap ∧ (∀ b ∈ fp, H' b = none) ∧ W i n H') ?_ m0 ⟨0, H3, I4, st4, fun b hb => (f3 b hb).1.1, w0⟩
    rintro n s5 ⟨i, H5, I5, st5, n5, w5⟩
    rcases turn i n H5 w5 with ⟨stop, last⟩ | ⟨go, Nx, next, step⟩
    · refine thnF (T.done (X.blk s3 H3 scope ce fp) rfl rfl rfl calm i [] s5 _ H5 (fun _ _ => False) I5 (stat I5 n5) st5 stop) fun r s6 ⟨hr, I6⟩ => ?_
      subst hr
      have I7 : L2.Inv X pins σ H5 s6 := I3.call' (ch := fp) I6.os I6.base I6.hok I6.bare fun b hb => let f := (f3 b hb).1; ⟨f.2.2.2.1, f.2.1, f.2.2.2.2.1, f.2.2.2.2.2⟩
      have nC : H5 s3.heap.objs.size = none := by rw [← cL]; exact I6.free
      obtain ⟨m, hn, _⟩ := I6.loc
      have hn : s6.heap.Ns s3.heap.objs.size m := by rw [← cL]; exact hn
      exact hRR D s3.heap.objs.size s6 m H5 I7 last hn (I3.fpOk (H' := H5) (Nat.le_refl _) nC)
    · refine thnF (T.item (X.blk s3 H3 scope ce fp) rfl rfl rfl calm i [] s5 _ H5 (fun _ _ => False) I5 (stat I5 n5) st5 go) fun r s6 ⟨u, hr, after⟩ => ?_
      subst hr
      refine thnF after fun _ s7 ⟨x, H7, I7, r7, y7, st7, n7⟩ => ?_
      refine thnF (pT.run _ s7 _ H7 x u _ (I7.pinned (stat I7 n7) (T.obj _ _ st7)) r7 (step x H7 y7)) fun _ s8 ⟨σ8, H8, I8, same8, q8⟩ => ?_
      refine thnF (pI.run _ s8 σ8 H8 _ I8 q8) fun c s9 ⟨H9, I9, q9⟩ => ?_
      have back : ∀ {s' : Shared} {H' : Hp}, L2.Inv (X.blk s3 H3 scope ce fp) ([] ++ pinsAt fp s7.heap) σ8 H' s' → Nx H' → ∃ m, m < n ∧ ∃ i H', L2.Inv (X.blk s3 H3 scope ce fp) [] (wipe σ (own.map (·.2))) H' s' ∧ tn i s'.heap ∧ (∀ b ∈ fp, H' b = none) ∧ W i m H' := fun {s' H'} J' nx => by
        obtain ⟨m', less, w'⟩ := next H' nx
        have at7 : ∀ b ∈ fp, ∀ o, s7.heap.get? b = some o → s'.heap.get? b = some o ∧ H' b = none := fun b hb o e => let z := J'.pin (b, o) (List.mem_append_right _ (List.mem_append_right _ (mem_pinsAt hb e))); ⟨z.1, z.2.1⟩
        refine ⟨m', less, i + 1, H', (J'.unpinned (pins := [])).weak (by rw [← same8, wipe_length]) (fun j v e => ?_), T.keep _ _ _ st7 fun b hb o e => (at7 b hb o e).1, fun b hb => ?_, w'⟩
        · rw [← same8] at e
          exact (wipe_some e).1
        · obtain ⟨o, e, _⟩ := T.obj _ _ st7 b hb
          exact (at7 b hb o e).2
      cases c with
      | false => exact back I9 q9
      | true =>
        refine thnF (pK.run _ s9 σ8 H9 _ I9 q9) fun kv s10 ⟨yk, H10, I10, r10, q10⟩ => ?_
        refine thnF (pV.run _ s10 σ8 H10 _ I10 q10) fun vv s11 ⟨yv, H11, I11, r11, b, xs, k, ek, ask, eD11, hl, nx⟩ => ?_
        subst ek
        obtain rfl : kv = Value.ref b := r10
        exact put_entry (X := X.blk s3 H3 scope ce fp) I11 hub ask eD11 hl r11 fun s12 I12 => back I12 nx
  have done := codeAny_compStart_dict run (T.self X.A 0 _ _ _ st4 run)
  rw [es4, ece] at done
  rw [es3] at done
  exact done
theorem pe_dcN (calm : X.calm = true) (hu : X.A.units + 65 < cLine) (nd : X.N.Nodup) (hi : PI X tg iter wi) (ok : BlkOk X.N X.env.scope scope own) (parts : DcParts X kx vx tg ifs scope g tt tk tv) (hs : ∀ x, foldedSetIterable iter X.env x = pure x := by intro _; rfl) :
    PE X (.DictComp kx vx [⟨tg, iter, ifs, 0⟩] scope pos) (tDcN wi g tt tk tv (own.map (·.2))) := by
  refine ⟨fun pins s σ H Q I want => ?_⟩
  rw [arm_eval_DictComp]
  refine dcN_core calm hu nd I hi ok parts hs want fun D C s' m H' I' q hn f => ⟨m, hn, fun h2 sb => ?_⟩
  obtain ⟨c0, c1, c2, c3, c4, c5⟩ := f
  exact ⟨.ref D, H', I'.turned (t' := s'.toks) (fun b o hb e => (sb.2 b hb).trans e) c0 c1 c3 c4 c5, rfl, q⟩
/-- name = {..} on one line, the name a local -/
theorem ps_setDcN {i : Nat} {y : Str} {py spos : Pos} (calm : X.calm = true) (hu : X.A.units + 65 < cLine) (nd : X.N.Nodup) (hy : X.N[i]? = some y) (hyl : X.env.scope.names.lookup y = some .local)
    (hsw : swapsWith (.DictComp kx vx [⟨tg, iter, ifs, 0⟩] scope pos) (some (.Name y py)) spos.line X.env = pure true) (hi : PI X tg iter wi) (ok : BlkOk X.N X.env.scope scope own) (parts : DcParts X kx vx tg ifs scope g tt tk tv) (hs : ∀ x, foldedSetIterable iter X.env x = pure x := by intro _; rfl) :
    PS X (.Assign [.Name y py] (.DictComp kx vx [⟨tg, iter, ifs, 0⟩] scope pos) spos) (tAsg (tDcN wi g tt tk tv (own.map (·.2))) (gName i)) := by
  refine ⟨fun pins s σ H D I h => ?_⟩
  rw [exec_Assign_Name_used _ _ _ _ hsw]
  refine wpAny_bind (wpAny_standAt (wpAny_bind ?_))
  show wpAny _ X.A (do let _ ← comprehension (.DictComp kx vx [⟨tg, iter, ifs, 0⟩] scope pos) scope X.env (firstIterPos [⟨tg, iter, ifs, 0⟩] pos) newDict false (eval iter X.env) (some (assign (.Name y py) X.env))) _ _ s
  have h : tDcN wi g tt tk tv (own.map (·.2)) σ H (fun x H1 => gName i x σ H1 D.nx) := h
  refine wpAny_bind (thn (dcN_core (Qf := fun _ s' => SP X pins D .next s') calm hu nd I hi ok parts hs h fun L C s' m H' I' q hn f => ?_) fun _ s' hq => wpAny_pure (wpAny_pure hq))
  show wpAny _ _ (assign (.Name y py) X.env (.ref L)) _ _ _
  refine wpAny_assign_Name (store_ok2 (v := V.ref L) I' nd hy (.inl hyl) rfl (fun s2 I2 ⟨a, sb, ha⟩ => ?_) (.inr hyl))
  obtain ⟨f0, f1, f2, f3, f4, f5⟩ := f
  have haC : C ≠ a := by
    rcases ha with z | z
    · rw [z]; exact f1
    · exact fun e => f4 y a z e.symm
  refine ⟨m, hn.sameBut sb haC, fun h3 sb3 => ?_⟩
  exact ⟨_, H', I2.turned (t' := s2.toks) (fun b o hb e => (sb3.2 b hb).trans e) f0 f1 f3 f4 f5, q⟩
theorem sw_trueD {ke ve : Expr} {gs : List Comprehension} {scope : Scope} {pos py : Pos} {y : Str} {l : Nat} {env : Env} (hk : env.scope.kind = .function) (hy : env.scope.names.lookup y = some .local) (hl : (py.line == pos.line) = true)
    (ha : (scope.names.any fun (n, k) => n == y && (k == .local || k == .cell)) = false) : swapsWith (.DictComp ke ve gs scope pos) (some (.Name y py)) l env = pure true := by
  have ky : env.kindOf y = some .local := hy
  have hb : env.blockKind = .function := by unfold Env.blockKind; rw [hk]; rfl
  unfold swapsWith
  simp only [hb, ky, ha, Expr.pos, hl]
  rfl
end
/-! ### the same, typed -/
section
variable {α κ β : Type} [Rp α] [DecidableEq κ] [Rp κ] [NK κ] [NKR κ] [Rp β] {B ms : Ms} {σ : L2.St} {H0 : Hp} {p q r : Hq} {te tk tv : TE} {d : DN κ β}
/-- an expression that gives a new dict -/
def En2 (B ms : Ms) (te : TE) (σ : L2.St) (H0 : Hp) (p : Hq) (d : DN κ β) (q : Hq) : Prop :=
  ∀ H, Bu B H0 H → p ms H → ∀ Q : VK, (∀ a H', Bu B H H' → q (a :: ms) H' → H a = none → a ∉ ms → Dn (a :: ms) H' a d → Q (.ref a) H') → te σ H Q
theorem En2.mk {H : Hp} {Q : VK} (W : Wd B ms H) (h : En2 B ms te σ H p d q) (hp : p ms H) (k : ∀ a H', Bu B H H' → H a = none → q (a :: ms) H' → Wd B (a :: ms) H' → Mv ms H (a :: ms) H' → Dn (a :: ms) H' a d → Q (.ref a) H') : te σ H Q :=
  h H (Bu.refl B H) hp _ fun a H1 b1 q1 na nm l => k a H1 b1 na q1 (W.new b1 l.alive) (mv_newB W b1 na) l
theorem En2.ex (hq : Sb B q) (h : En2 B ms te σ H0 p d q) : Ex B ms te σ H0 p d q := fun H b hp Q k => h H b hp _ fun a H1 b1 q1 na nm l => k _ H1 b1 (hq.less q1) ⟨a, rfl, nm, l.less fun _ m => List.mem_cons_of_mem _ m⟩
/-- entry by entry, behind d -/
def dcP (f : α → Option (Option (κ × β))) : List α → DN κ β → Option (DN κ β)
  | [], d => some d
  | a :: as, d => (f a).bind fun o => match o with
    | none => dcP f as d
    | some e => (putD d e.1 e.2).bind fun d' => dcP f as d'
def dcL (f : α → Option (Option (κ × β))) (xs : List α) : Option (DN κ β) := if xs.length ≤ sizeLine then dcP f xs ⟨[]⟩ else none
theorem en2_dc {wi : TI} {g : TG} {tt : TT} {vs : List Nat} {xs : List α} {f : α → Option (Option (κ × β))} (h8 : NK.dep κ ≤ 8) (W : Wd B ms H0) (hq : Sb B q) (hi : Ej B ms wi σ H0 p xs q) (hc : dcL f xs = some d)
    (hb : ∀ (ms' : Ms) (H : Hp) (y : α) (v : V) (r : Option (κ × β)), Lt B ms H0 ms' H → q ms' H → rp ms' H v y → f y = some r → ∃ σ2, Bnd g v (wipe σ vs) H σ2 ∧ wipe σ2 vs = wipe σ vs ∧ ∃ c, Et B ms' tt σ2 H q c q ∧ (c = false → r = none) ∧ (c = true → ∃ k u, r = some (k, u) ∧ Ex B ms' tk σ2 H q k q ∧ Ex B ms' tv σ2 H q u q)) :
    En2 B ms (tDcN wi g tt tk tv vs) σ H0 p d q := fun H b hp Q k => by
  unfold dcL at hc
  split at hc
  case isFalse => cases hc
  rename_i hl
  refine hi H b hp _ fun J N S H1 b1 q1 st hS n1 ok D nD => ?_
  have W1 := (W.bu b).bu b1
  have nDm : D ∉ ms := W1.al.not nD
  have nDB : D ∉ B := fun z => nDm (W.hB D z)
  have s1 := same_upd (o := dN [] D) nD
  have hSD : ∀ a ∈ S, a ≠ D := fun a ha z => (hS a ha).2 (z ▸ nD)
  refine ⟨fun i m H => m = xs.length - i ∧ i ≤ xs.length ∧ ∃ d1, Dn (D :: ms) H D d1 ∧ Bu B H1 H ∧ q (D :: ms) H ∧ N (D :: ms) H ∧ dcP f (xs.drop i) d1 = some d ∧ Mv ms H1 (D :: ms) H,
    ⟨xs.length, by simp, Nat.zero_le _, ⟨[]⟩, ⟨[], upd_same, trivial, Nat.zero_le _, List.nodup_nil⟩, Bu.same s1, hq _ _ _ _ q1 (Mv.new nD s1) (fun a ha o e => s1 a o e), st n1 (Mv.new nD s1) (fun a ha o e => s1 a o e), hc, Mv.new nD s1⟩, ?_⟩
  rintro i m H2 ⟨rfl, hi, d1, hD, b2, q2, n2, hd, M2⟩
  have hB' : ∀ a ∈ B, a ∈ D :: ms := fun a ha => List.mem_cons_of_mem _ (W.hB a ha)
  have al2 : Al (D :: ms) H2 := by
    obtain ⟨ys, ey, _⟩ := id hD
    exact (W1.al.bu b2).cons ey
  obtain ⟨ok1, ok2⟩ := ok i _ H2 n2 al2
  by_cases hlt : i < xs.length
  · right
    have ex := List.getElem?_eq_getElem hlt
    generalize xs[i] = y at ex
    obtain ⟨go, yld⟩ := ok2 y ex
    rw [drop_get ex] at hd
    obtain ⟨r, hf, hd⟩ := bind_inv hd
    refine ⟨go, fun H' => xs.length - (i + 1) = xs.length - (i + 1) ∧ i + 1 ≤ xs.length ∧ ∃ d1, Dn (D :: ms) H' D d1 ∧ Bu B H1 H' ∧ q (D :: ms) H' ∧ N (D :: ms) H' ∧ dcP f (xs.drop (i + 1)) d1 = some d ∧ Mv ms H1 (D :: ms) H', fun H' h => ⟨_, by omega, h⟩, fun v H3 hy => ?_⟩
    obtain ⟨s3, rv⟩ := yld v H3 hy
    have W3 : Wd B (D :: ms) H3 := ⟨hB', al2.same s3⟩
    have M3 : Mv ms H1 (D :: ms) H3 := M2.trans (Mv.same s3)
    have bb : Bu B H0 H3 := ((b.trans b1).trans b2).trans (Bu.same s3)
    have q3 := hq.same s3 q2
    obtain ⟨σ2, bd, ew, c, ht, hf0, hf1⟩ := hb _ H3 y v r ⟨W3, (Mv.bu W.hB (b.trans b1)).trans M3, bb.1⟩ q3 rv hf
    refine bd _ ⟨ew, ht.use q3 fun H4 b4 q4 => ?_⟩
    have M24 : Mv (D :: ms) H2 (D :: ms) H4 := (Mv.same s3).trans (Mv.bu hB' b4)
    have D4 : Dn (D :: ms) H4 D d1 := hD.step M24 fun o e => b4.1 _ _ nDB (s3 _ _ e)
    cases c with
    | false =>
      cases hf0 rfl
      rw [if_neg (by decide)]
      exact ⟨rfl, hlt, d1, D4, (b2.trans (Bu.same s3)).trans b4, q4, st n2 M24 (fun a ha o e => b4.1 _ _ (hS a ha).1 (s3 _ _ e)), hd, M2.trans M24⟩
    | true =>
      obtain ⟨kk, uu, rfl, hk, hu⟩ := hf1 rfl
      obtain ⟨d2, hput, hd⟩ := bind_inv hd
      rw [if_pos rfl]
      refine hk H4 b4 q4 _ fun yk H5 b5 q5 r5 => hu H5 (b4.trans b5) q5 _ fun yv H6 b6 q6 r6 => ?_
      have b46 := b5.trans b6
      have M26 : Mv (D :: ms) H2 (D :: ms) H6 := M24.trans (Mv.bu hB' b46)
      have D6 : Dn (D :: ms) H6 D d1 := D4.step (Mv.bu hB' b46) fun o e => b46.1 _ _ nDB e
      obtain ⟨ys, ey, R, ll, nd⟩ := D6
      have r5' := Rp.mv r5 (Mv.bu hB' b6)
      obtain ⟨bk, ek⟩ := NKR.ref r5'
      subst ek
      unfold putD at hput
      split at hput
      case isFalse => cases hput
      rename_i hlen
      cases hput
      have hR := R.len
      have M67 : Mv (D :: ms) H6 (D :: ms) (upd H6 D (dN (putN ys (nk kk) bk yv) D)) := Mv.but (m := D) (by simp) But.upd
      refine ⟨bk, ys, nk kk, rfl, ⟨.inl ey, ⟨ll, nd, R.ok h8⟩, NK.isK r5', Nat.le_trans (NK.dle kk) h8, NK.pl kk⟩, ey, by omega, rfl, hlt, _, ⟨_, upd_same, (R.put r5' r6).mv M67, ?_, putN_nd nd⟩,
        Bu.own (((b2.trans (Bu.same s3)).trans b4).trans b46) nD But.upd upd_same, hq _ _ _ _ q6 M67 (fun a ha o e => by rw [upd_ne (nab ha nDB)]; exact e), st n2 (M26.trans M67) (fun a ha o e => by rw [upd_ne (hSD a ha)]; exact b46.1 _ _ (hS a ha).1 (b4.1 _ _ (hS a ha).1 (s3 _ _ e))), hd, M2.trans (M26.trans M67)⟩
      have := putN_len ys (nk kk) bk yv
      omega
  · left
    have e : i = xs.length := by omega
    subst e
    rw [List.drop_length] at hd
    cases hd
    exact ⟨ok1 (Nat.le_refl _), k D H2 (b1.trans b2) q2 (b1.none nD) nDm hD⟩
/-! ### a def that answers a dict of its own -/
def spPn {ι : Type} [RpA ι] (F : ι → Option (DN κ β)) : Sp := fun vs H Q _ => ∃ (ms : Ms) (i : ι) (r : DN κ β), Al ms H ∧ ra ms H vs i ∧ F i = some r ∧ ∀ a H', Same H H' → H a = none → Dn (a :: ms) H' a r → Q (.ref a) H'
theorem en2_call {ι : Type} [RpA ι] {F : ι → Option (DN κ β)} {ts : TA} {E : XK} {i : ι} (W : Wd B ms H0) (hq : Sb B q) (h : Ea B ms ts σ H0 p i q) (e : F i = some d) : En2 B ms (tCall (spPn F) [] E ts) σ H0 p d q := fun H b hp Q k => r_call (h H b hp _ fun vs H1 b1 q1 e1 =>
  ⟨ms, i, d, (W.al.bu b).bu b1, e1, e, fun a H' s na l => k a H' (b1.trans (Bu.same s)) (hq.new na s q1) (b1.none na) (((W.al.bu b).bu b1).not na) l⟩)
end
/-! ### data without dicts in them: they do not care whether a dict may change -/
class RpE (α : Type) [Rp α] : Prop where
  ext : ∀ {ms ms' : Ms} {H : Hp} {v : V} {x : α}, rp ms H v x → (∀ a ∈ ms', a ∈ ms ∨ ∃ φ, H a = some (.ext φ)) → rp ms' H v x
theorem not_ext {ms ms' : Ms} {H : Hp} {a : Addr} {o : HO} (h : ∀ a ∈ ms', a ∈ ms ∨ ∃ φ, H a = some (.ext φ)) (n : a ∉ ms) (e : H a = some o) (no : ∀ φ, o ≠ .ext φ) : a ∉ ms' := fun z => by
  rcases h a z with z | ⟨φ, z⟩
  · exact n z
  · rw [e] at z
    cases z
    exact no φ rfl
instance : RpE Int := ⟨fun h _ => h⟩
instance : RpE Bool := ⟨fun h _ => h⟩
instance : RpE Str := ⟨fun h _ => h⟩
section
variable {α β γ : Type} [Rp α] [RpE α] [Rp β] [RpE β] [Rp γ] [RpE γ]
instance : RpE (Option α) := ⟨fun {ms ms' H v x} h g => by
  cases x with
  | none => exact h
  | some y => exact RpE.ext (α := α) (x := y) h g⟩
instance : RpE (List α) := ⟨fun ⟨a, e, n, vs, eh, rl, l⟩ g => ⟨a, e, not_ext g n eh (fun _ z => by cases z), vs, eh, rl.imp fun _ _ z => RpE.ext z g, l⟩⟩
instance : RpE (α × β) := ⟨fun ⟨a, u, w, e, n, eh, r1, r2⟩ g => ⟨a, u, w, e, not_ext g n eh (fun _ z => by cases z), eh, RpE.ext r1 g, RpE.ext r2 g⟩⟩
instance : RpE (T3 α β γ) := ⟨fun ⟨a, u, w, y, e, n, eh, r1, r2, r3⟩ g => ⟨a, u, w, y, e, not_ext g n eh (fun _ z => by cases z), eh, RpE.ext r1 g, RpE.ext r2 g, RpE.ext r3 g⟩⟩
instance : RpE (VT α) := ⟨fun ⟨a, vs, e, n, eh, rl, l⟩ g => ⟨a, vs, e, not_ext g n eh (fun _ z => by cases z), eh, rl.imp fun _ _ z => RpE.ext z g, l⟩⟩
end
/-- a call that is given dicts that may still change; its answer has no dicts in it -/
theorem ex_callE {α : Type} [Rp α] [RpE α] {ι : Type} [RpA ι] {B ms : Ms} {σ : L2.St} {H0 : Hp} {q : Hq} {x : α} {F : ι → Option α} {ts : TA} {E : XK} {i : ι} (dr : Ms) (W : Wd B ms H0) (nd : ∀ c ∈ B, c ∉ dr) (hdr : ∀ c ∈ dr, c ∉ B ∧ ∃ φ, H0 c = some (.ext φ)) (hq : Sb B q)
    (h : ∀ H1, Lt B ms H0 (ms.filter fun c => decide (c ∉ dr)) H1 → Wd [] (ms.filter fun c => decide (c ∉ dr)) H1 → Ea [] (ms.filter fun c => decide (c ∉ dr)) ts σ H1 Tr i Tr) (e : F i = some x) : Ex B ms (tCall (spP F) [] E ts) σ H0 q x q := fun H b hp Q k => by
  have hsub : ∀ a ∈ ms.filter (fun c => decide (c ∉ dr)), a ∈ ms := fun a ha => (List.mem_filter.mp ha).1
  have W1 : Wd B (ms.filter fun c => decide (c ∉ dr)) H := ⟨fun a ha => List.mem_filter.mpr ⟨W.hB a ha, by simpa using nd a ha⟩, (W.al.bu b).less hsub⟩
  have W2 : Wd [] (ms.filter fun c => decide (c ∉ dr)) H := ⟨fun a z => by (cases z), W1.al⟩
  have L : Lt B ms H0 (ms.filter fun c => decide (c ∉ dr)) H := ⟨W1, (Mv.bu W.hB b).trans (Mv.less hsub), b.1⟩
  exact r_call (h H L W2 H (Bu.refl [] H) trivial _ fun vs H1 b1 q1 e1 =>
    ⟨_, i, x, W1.al.bu b1, e1, e, fun v H' s rv => k v H' ((Bu.same b1.to_same).trans (Bu.same s)) (hq.same (fun a o z => s a o (b1.to_same a o z)) hp) (RpE.ext rv fun a ha => by
      by_cases hd : a ∈ dr
      · obtain ⟨n1, φ, e1⟩ := hdr a hd
        exact .inr ⟨φ, s _ _ (b1.to_same _ _ (b.1 _ _ n1 e1))⟩
      · exact .inl (List.mem_filter.mpr ⟨ha, by simpa using hd⟩))⟩)
theorem Dn.extA {κ β : Type} [DecidableEq κ] [Rp κ] [NK κ] [Rp β] {ms : Ms} {H : Hp} {a : Addr} {d : DN κ β} (h : Dn ms H a d) : ∃ φ, H a = some (.ext φ) := let ⟨xs, e, _⟩ := h; ⟨_, e⟩
end Pf

set_option maxHeartbeats 1000000
namespace Pf
open PySem PySem.W PySem.Spec PyProof.Rows L2
open Rp (rp)
open RpA (ra)
open NK (nk)
/-! ### all(x in d for x in xs) -/
/-- a code object's table, whatever it holds by now -/
def tabX (P : Addr) : HO := .ext fun h => ∃ ps : Array Value, h.get? P = some { cls := .none, data := .fields ps } ∧ TriplesOk ps.toList
section
variable {X : Cx} {pins : List (Addr × Obj)} {σ : L2.St} {H : Hp} {s : Shared}
theorem tab_get (I : L2.Inv X pins σ H s) {P : Addr} (e : H P = some (tabX P)) : ∃ ps : Array Value, s.heap.get? P = some { cls := .none, data := .fields ps } ∧ TriplesOk ps.toList := (I.hok P _ e).1
theorem tab_ok {P : Addr} {h : Heap} (e : ∃ ps : Array Value, h.get? P = some { cls := .none, data := .fields ps } ∧ TriplesOk ps.toList) {Pr : Program} {w : World} {H : Hp} : ObjOk Pr w H h P (tabX P) :=
  ⟨e, let ⟨_, e1, _⟩ := e; ⟨_, e1⟩, fun _ _ ⟨ps, e1, e2⟩ k => ⟨ps, k _ e1, e2⟩⟩
/-- only the table at P has grown -/
theorem inv_grown {P : Addr} {h' : Heap} {g' : Array GenState} {d' : Drawn} {t' : Nat} (I : L2.Inv X pins σ H s) (hP : H P = some (tabX P)) (k : ∀ b o, b ≠ P → s.heap.get? b = some o → h'.get? b = some o)
    (hm : ∃ ps : Array Value, h'.get? P = some { cls := .none, data := .fields ps } ∧ TriplesOk ps.toList) (hg : AllBare g') : L2.Inv X pins σ H { s with heap := h', gens := g', drawn := d', toks := t' } := by
  have nN : ∀ b, H b = none → b ≠ P := fun b e z => by
    rw [z, hP] at e
    cases e
  refine I.step (g' := g') (d' := d') (ch := []) (fun b hb => absurd hb (by simp)) (fun b o _ _ _ e n => k b o (nN b n) e) (fun b o _ _ _ e n => ⟨o.slots, k b o (nN b n) e⟩) (fun b o _ e n => n) (fun b o _ e => ?_) (fun b xs e => e) (fun b o u e => e) (fun b qs e => ⟨#[], by simpa using e⟩) (fun m hn => ?_) (fun b u e => ?_) hg
  · by_cases hb : b = P
    · rw [hb]
      obtain ⟨ps, e1, _⟩ := hm
      exact ⟨_, e1⟩
    · exact ⟨o, k b o hb e⟩
  · obtain ⟨ob, es, ep, ho, r⟩ := hn
    exact ⟨ob, es, ep, k _ ob (nN _ I.free) ho, r⟩
  · by_cases hb : b = P
    · rw [hb] at e ⊢
      rw [hP] at e
      cases e
      exact tab_ok hm
    · refine (I.hok b u e).stay (fun d v hd q => k d v (fun z => ?_) q) (fun d q => q) fun d xs q => q
      rcases hd with y | y
      · exact hb (y.symm.trans z)
      · rw [z, hP] at y
        cases y
end
/-- the generator expression's words: x in d, x its own name, d a name that it captures -/
structure InS (env : Env) (scope : Scope) (x d : Str) : Prop where
  kind : scope.kind = .function
  co : scope.isCoroutine = false
  cell : ∀ y ∈ scope.names, y.2 ≠ .cell
  dot : scope.names.lookup (".0" : Str) = some NameKind.local
  loc : scope.names.lookup x = some .local
  fre : scope.names.lookup d = some .free
  free : ∀ y ∈ scope.names, y.2 = .free → env.scope.names.lookup y.1 = some .cell ∨ env.scope.names.lookup y.1 = some .free
  nx : (x == ("__debug__" : Str)) = false
  nd : (d == ("__debug__" : Str)) = false
  nc : (d == ("__classdict__" : Str)) = false
theorem clo_at {cells : List (Str × Addr)} {d : Str} {c : Addr} (hc : cells.lookup d = some c) : ∀ {names : List (Str × NameKind)} {acc : List (Str × Addr)}, (acc.lookup d = some c ∨ (d, NameKind.free) ∈ names) → (∀ e, acc.lookup d = some e → e = c) → (cloFrom cells names acc).lookup d = some c
  | [], acc, h, _ => by
    rcases h with h | h
    · exact h
    · cases h
  | (n, k) :: r, acc, h, u => by
    show (if k == .free then cloFrom cells r ((n, (cells.lookup n).getD 0) :: acc) else cloFrom cells r acc).lookup d = some c
    by_cases hk : (k == .free) = true
    · rw [if_pos hk]
      by_cases hn : d = n
      · subst hn
        have e1 : ((d, (cells.lookup d).getD 0) :: acc).lookup d = some c := by simp [List.lookup, hc]
        exact clo_at hc (.inl e1) fun e he => by rw [e1] at he; cases he; rfl
      · have e1 : ((n, (cells.lookup n).getD 0) :: acc).lookup d = acc.lookup d := by simp [List.lookup, beq_eq_false_iff_ne.mpr hn]
        refine clo_at hc ?_ (fun e he => u e (by rw [e1] at he; exact he))
        rcases h with h | h
        · exact .inl (e1.trans h)
        · obtain z | z := List.mem_cons.mp h
          · exact absurd (congrArg Prod.fst z) hn
          · exact .inr z
    · rw [if_neg hk]
      refine clo_at hc ?_ u
      rcases h with h | h
      · exact .inl h
      · obtain z | z := List.mem_cons.mp h
        · have z2 : NameKind.free = k := congrArg Prod.snd z
          rw [← z2] at hk
          exact absurd rfl hk
        · exact .inr z
theorem mem_of_lookup {d : Str} {k : NameKind} : ∀ {names : List (Str × NameKind)}, names.lookup d = some k → (d, k) ∈ names
  | [], h => by cases h
  | (n, k') :: r, h => by
    by_cases hn : d = n
    · subst hn
      simp [List.lookup] at h
      rw [h]
      exact List.mem_cons_self
    · rw [List.lookup, beq_eq_false_iff_ne.mpr hn] at h
      exact List.mem_cons_of_mem _ (mem_of_lookup h)
def tAllIn (K : PySem.W.Frag) (P : Addr) (j : Nat) (te : TE) : TE := fun σ H Q => te σ H fun v H1 => ∃ (l a : Addr) (vs : List V) (ys : List NEnt) (ks : List NestedKey), v = .ref l ∧ SqL K H1 l vs ∧ σ[j]? = some (some (.ref a)) ∧ Rdn H1 a ys ∧ NOk H1 ys ∧ KeyAll H1 vs ks ∧
  (∀ k ∈ ks, k.depth ≤ 8 ∧ plainK k = true) ∧ (∀ v ∈ vs, ∃ b, v = V.ref b) ∧ H1 P = some (tabX P) ∧ Q (.bl (ks.all fun k => (getN ys k).isSome)) H1
theorem keyAll_at {H : Hp} : ∀ {vs : List V} {ks : List NestedKey} {i : Nat} {v : V}, KeyAll H vs ks → vs[i]? = some v → ∃ k, ks[i]? = some k ∧ KeyIs H v k
  | [], [], _, _, _, e => by simp at e
  | _ :: _, _ :: _, 0, _, .cons a _, e => by cases e; exact ⟨_, rfl, a⟩
  | _ :: _, _ :: _, i + 1, _, .cons _ b, e => by
    obtain ⟨k, h1, h2⟩ := keyAll_at b (i := i) (by simpa using e)
    exact ⟨k, by simpa using h1, h2⟩
theorem keyAll_len {H : Hp} : ∀ {vs : List V} {ks : List NestedKey}, KeyAll H vs ks → vs.length = ks.length
  | [], [], .nil => rfl
  | _ :: _, _ :: _, .cons _ b => by rw [List.length_cons, List.length_cons, keyAll_len b]
def atB (ks : List NestedKey) (f : NestedKey → Bool) (i : Nat) : Bool := match ks[i]? with
  | some k => f k
  | none => false
theorem all_atB (ks : List NestedKey) (f : NestedKey → Bool) : (List.range ks.length).all (atB ks f) = ks.all f := by
  rw [Bool.eq_iff_iff, List.all_eq_true, List.all_eq_true]
  constructor
  · intro h k hk
    obtain ⟨i, hi, e⟩ := List.getElem_of_mem hk
    have := h i (List.mem_range.mpr hi)
    unfold atB at this
    rw [List.getElem?_eq_getElem hi, e] at this
    exact this
  · intro h i hi
    have hi := List.mem_range.mp hi
    unfold atB
    rw [List.getElem?_eq_getElem hi]
    exact h _ (List.getElem_mem hi)
section
variable {X : Cx}
theorem pe_allIn {c P : Addr} {iter : Expr} {x d : Str} {j k : Nat} {px qx qd qc p pos gpos : Pos} {scope : Scope} {te : TE} (hc : X.calm = true) (hr : Room k X.A) (hu : X.A.units + 90 < cLine) (hg : Gl X "all") (hm : X.mg "all" = none) (hb : bootBuiltins "all" = some (.builtin "all"))
    (TB : LamX.TabB X.base X.mg c P) (hcode : X.env.code = .ref c) (S : InS X.env scope x d) (hN : X.N[j]? = some d) (hv : Vis X.env.scope d) (hcel : X.env.kindOf d ≠ some .local) (hi : PE X iter te) (hs : ∀ v, genFold iter X.env v = pure v)
    (he : starEach [.GeneratorExp (.Compare (.Name x qx) [.In] [.Name d qd] qc) [⟨.Name x px, iter, [], 0⟩] scope gpos] X.env = (false, eval (.GeneratorExp (.Compare (.Name x qx) [.In] [.Name d qd] qc) [⟨.Name x px, iter, [], 0⟩] scope gpos) X.env) :: starEach [] X.env := by rfl) :
    PE X (.Call (.Name "all" p) [.GeneratorExp (.Compare (.Name x qx) [.In] [.Name d qd] qc) [⟨.Name x px, iter, [], 0⟩] scope gpos] [] pos) (tAllIn X.K P j te) := by
  refine ⟨fun pins s σ H Q I want => ?_⟩
  refine wpAny_Call_Name_kw (ld_blt I hg hm hb ?_)
  refine PyProof.Rows.callWith_builtin1 ?_ he (by rfl)
  rw [he]
  show wpAny _ _ (spliced ((false, eval (.GeneratorExp _ _ scope gpos) X.env) :: backTo pos (starEach [] X.env))) _ _ s
  refine Calls.spliced_cons ?_
  refine wpAny_GeneratorExp_walksQD hr.hd S.co (closure_ok fun y hy e => (S.free y hy e).elim (fun k => I.ok.has _ (.inl k)) (fun k => I.ok.has _ (.inr k))) S.cell S.dot S.loc S.kind (by have := hr.dp; omega) ?_ hs
  refine thn (hi.run pins s σ H _ I want) fun xv s1 ⟨v, H1, I1, r1, l, a, vs, ys, ks, ev, hl, hj, hdict, nok, hks, kok, refs, hP, q⟩ => ?_
  subst ev
  obtain rfl : xv = Value.ref l := r1
  obtain ⟨its, rv, pl, hz⟩ := I1.list hl
  obtain ⟨ps, hPs, ht⟩ := tab_get I1 hP
  have lenv : vs.length = its.length := rv.length
  have lenk := keyAll_len hks
  refine wpAny_pyIter_list pl.isList ?_
  have ll : l < s1.heap.objs.size := by obtain ⟨o, z, _⟩ := pl.isList; exact Heap.lt_size z
  obtain ⟨wo, ewo⟩ : ∃ wo : Obj, wo = { cls := .type "list_iterator", data := .fields #[.ref l, .int 0 0] } := ⟨_, rfl⟩
  rw [← ewo]
  have hP2 : (s1.heap.push wo).get? P = some { cls := .none, data := .fields ps } := Heap.get?_push_of_some _ hPs
  have Plt : P < s1.heap.objs.size := Heap.lt_size hPs
  have cd : PySem.W.CodeHd (s1.heap.push wo) c P := TB.code.keeps fun b u e => Heap.get?_push_of_some _ (I1.bk b u e)
  have lim : (s1.heap.push wo).NoLimit := I1.nolimit.push wo
  -- the dict's name is a cell
  obtain ⟨ma, hna, look⟩ := I1.loc
  obtain ⟨ua, ra_, la⟩ := look j d (.ref a) hN hj hv
  obtain rfl : ua = Value.ref a := ra_
  obtain ⟨ca, hca, hcell⟩ : ∃ ca, X.env.cells.lookup d = some ca ∧ s1.heap.IsCell ca (some (.ref a)) := by
    rcases la with ⟨hk, _⟩ | ⟨_, z⟩
    · exact absurd hk hcel
    · exact z
  obtain ⟨nsys, zs, rel, dd⟩ := dn_of I1 hdict nok
  have nP : ∀ b o, s1.heap.get? b = some o → (∀ qs, o.data ≠ .fields qs) → b ≠ P := fun b o e n z => by
    rw [z, hPs] at e
    cases e
    exact n _ rfl
  -- once the code object is there
  have cont : ∀ (code : Value) (h3 : Heap) (tk : Nat) (ps' : Array Value), Heap.ExtBut P (s1.heap.push wo) h3 → (s1.heap.push wo).objs.size ≤ h3.objs.size → h3.get? P = some { cls := .none, data := .fields ps' } → TriplesOk ps'.toList →
      wpAny (model X.prog X.w) X.A (builtinsFor X.env.globals X.env.builtins) (fun bi s₄ =>
        ∃ Ia fp wr n₀ Pf St₀ pz F, Value.ref s1.heap.objs.size = .ref Ia ∧ (∀ A' : Around, A'.handled = none → Walks X.prog X.w A' Ia fp wr n₀ Pf St₀) ∧ St₀ 0 s₄.heap ∧ (∀ b ∈ fp, b < s₄.heap.objs.size) ∧ s₄.heap.NoLimit ∧ cStatics ∉ wr ∧
          (∀ href : Heap, (∀ b o, s₄.heap.get? b = some o → href.get? b = some o) →
            QuietGenD X.prog X.w (genEnv scope (cloFrom X.env.cells scope.names []) s₄.heap.objs.size code bi X.env) x [] (.Compare (.Name x qx) [.In] [.Name d qd] qc) (List.range s₄.heap.objs.size) wr Pf pz F href (X.A.depth + 1) (X.A.units + 8)) ∧
          (∀ g h₅ tk gs, gs.bare = true → s₄.heap.objs.size < g → h₅.objs.size = g + 1 → (∀ b o, s₄.heap.get? b = some o → h₅.get? b = some o) →
            WalksS X.prog X.w X.A.in4 g (g :: s₄.heap.objs.size :: List.range s₄.heap.objs.size) (s₄.heap.objs.size :: wr) (GenOnlyQ s₄.gens.size) (passing pz n₀ 0).length
              (fun j y => ∃ i, (passing pz n₀ 0)[j]? = some i ∧ F i y) (GenAt X.prog X.w X.A.in4 g s₄.gens.size s₄.heap.objs.size (List.range s₄.heap.objs.size) wr pz n₀ F) →
            GenAt X.prog X.w X.A.in4 g s₄.gens.size s₄.heap.objs.size (List.range s₄.heap.objs.size) wr pz n₀ F 0 { s₄ with gens := s₄.gens.push gs, toks := tk, heap := h₅ } →
            wpAny (model X.prog X.w) X.A (spliced (backTo pos (starEach [] X.env))) (fun us s' => wpAny (model X.prog X.w) X.A (call (.builtin "all") (Value.ref g :: us)) (EP X pins σ Q) X.xe s') X.xe { s₄ with gens := s₄.gens.push gs, toks := tk, heap := h₅ })) X.xe { s1 with heap := h3, toks := tk } := by
    intro code h3 tk ps' hx hsz hP3 ht3
    obtain ⟨bm, ob, e1, e2, e3, e4, e5, e6, e7, e8⟩ := TB.bm
    have cP : cStatics ≠ P := fun e => by
      obtain ⟨_, hns, _⟩ := I1.nolimit
      obtain ⟨o', es, ep, ho, hd, _⟩ := hns
      rw [e, hPs] at ho
      cases ho
      cases hd
    have clt : cStatics < s1.heap.objs.size := let ⟨_, hns, _⟩ := I1.nolimit; hns.lt
    have sz2 : (s1.heap.push wo).objs.size = s1.heap.objs.size + 1 := Heap.size_push ..
    have le13 : s1.heap.objs.size ≤ h3.objs.size := by omega
    have keep3 : ∀ b u, b ≠ P → s1.heap.get? b = some u → h3.get? b = some u := fun b u hb e => hx b u hb (Heap.get?_push_of_some _ e)
    refine wpAny_builtinsFor (m := X.mg) (by rw [I1.ok.glob]; exact ((I1.mod.glob.keeps I1.bk).push wo).extBut hx TB.gP) e1 e2 (keep3 _ _ e4 (I1.bk _ _ e5)) e6 e7 e8 ?_
    refine ⟨s1.heap.objs.size, [s1.heap.objs.size, l], [s1.heap.objs.size], its.toArray.size, _, _, (fun _ => true), (fun i y => ∃ kk, ks[i]? = some kk ∧ y = .bool (getN ys kk).isSome), rfl, fun A' hA => Walks.list (prog := X.prog) (w := X.w) (A := A') hA s1.heap.objs.size l (Nat.ne_of_lt ll) its.toArray, ?_, ?_, lim.extBut hx cP, ?_, ?_, ?_⟩
    · refine ⟨⟨_, hx _ _ (Nat.ne_of_gt Plt) (by rw [ewo]; exact Heap.get?_push_size _ rfl), rfl, rfl⟩, pl.isList.at fun o z => keep3 l o (nP l o z fun qs h => ?_) z⟩
      obtain ⟨o2, z2, _, n2, d2⟩ := pl.isList
      rw [z] at z2
      cases z2
      rw [h] at d2
      cases d2
    · intro b hb
      rcases List.mem_cons.mp hb with z | z
      · rw [z]
        show s1.heap.objs.size < h3.objs.size
        omega
      · rw [List.mem_singleton.mp z]
        exact Nat.lt_of_lt_of_le ll le13
    · intro z
      exact Nat.ne_of_lt clt (List.mem_singleton.mp z)
    · intro href hhref
      refine ⟨fun A' E' i v s₂ m₂ hA hD hU hPv hn hm hk => ?_, fun A' E' i v s₂ m₂ hA hD hU hPv hp hn hm hk => ?_⟩
      · simp only [List.forIn_nil]
        exact wpAny_pure ⟨rfl, s₂.heap, s₂.toks, rfl, fun _ _ e => e⟩
      · have up : ∀ b o, b ≠ P → s1.heap.get? b = some o → s₂.heap.get? b = some o := fun b o hb e => by
          have hlt := Heap.lt_size e
          refine hk b (List.mem_range.mpr ?_) (fun z => absurd (List.mem_singleton.mp z) (Nat.ne_of_lt hlt)) o (hhref b o (keep3 b o hb e))
          exact Nat.lt_of_lt_of_le hlt le13
        have hv' : its[i]? = some v := by rw [List.getElem?_toArray] at hPv; exact hPv
        have hi' : i < vs.length := by rw [lenv]; exact (List.getElem?_eq_some_iff.mp hv').1
        have hvs := List.getElem?_eq_getElem hi'
        obtain ⟨kk, hkk, hkis⟩ := keyAll_at hks hvs
        obtain ⟨bb, ebb⟩ := refs _ (List.getElem_mem hi')
        obtain ⟨u2, hu2, ru2⟩ := rv.get hvs
        rw [hv'] at hu2
        cases hu2
        rw [ebb] at ru2 hkis
        obtain rfl : v = Value.ref bb := ru2
        obtain ⟨dp, plk⟩ := kok kk (List.mem_of_getElem? hkk)
        have seqs : ∀ b o ws n, s1.heap.get? b = some o → o.data = .seq ws n → s₂.heap.get? b = some o := fun b o ws n e hd => up b o (nP b o e fun qs h => by rw [hd] at h; cases h) e
        have nis : NestedIs s₂.heap kk (.ref bb) := NestedIs.at seqs _ _ (KeyIs.nested I1.hok kk _ _ hkis rfl)
        have dd2 : s₂.heap.DictOfH (nestedKind X.prog X.w) a zs := by
          refine dd.at' (fun o e => up a o (nP a o e fun qs h => ?_) e) fun y hy => ?_
          · obtain ⟨o2, es2, ep2, f1, f2, f3, _⟩ := dd
            rw [e] at f1
            cases f1
            rw [h] at f3
            cases f3
          · obtain ⟨o2, es2, ep2, f1, f2, f3, f4, f5, _⟩ := dd
            exact ⟨NestedIs.at seqs _ _ (f5 y hy).1, (f5 y hy).2⟩
        have cell2 : s₂.heap.IsCell ca (some (.ref a)) := by
          obtain ⟨o2, f1, f2⟩ := hcell
          exact ⟨o2, up ca o2 (nP ca o2 f1 fun qs h => by rw [h] at f2; cases f2) f1, f2⟩
        refine wpAny_Compare1 ?_
        refine wpAny_Name (wpAny_loadName_local S.kind (show scope.names.lookup x = some .local from S.loc) hn hm ?_) S.nx
        refine wpAny_Name (wpAny_loadName_free S.kind (show scope.names.lookup d = some .free from S.fre) (clo_at hca (.inr (mem_of_lookup S.fre)) (fun e he => by cases he)) cell2 ?_ S.nc) S.nd
        refine wpAny_in_heap (knd := nestedKind X.prog X.w) (nroom (by omega)) ⟨nis, dp⟩ nsys dd2 ?_
        refine ⟨⟨kk, hkk, ?_⟩, s₂.heap, _, rfl, fun _ _ e => e⟩
        have qv := (rel.val kk).isSome_eq
        rw [Option.isSome_map] at qv
        rw [← qv]
    · intro g h5 tk5 gs hgb hag hsz5 hk5 W5 hat
      simp only [GxR.passing_true, List.length_range] at W5
      refine Calls.spliced_nil ?_
      refine call_all_walkS (W5.in4_1.self 0 _ _ _ hat ⟨g, _, _, _, _, _, _, atB ks fun kk => (getN ys kk).isSome, rfl, W5.in4_1, hat, ?_, fun s' hm => ?_⟩)
      · intro j y sj Qj Ej hy hQj
        obtain ⟨i, hij, kk, hkk, rfl⟩ := hy
        obtain ⟨_, ej⟩ := List.getElem?_eq_some_iff.mp hij
        rw [List.getElem_range] at ej
        subst ej
        have e9 : atB ks (fun kk => (getN ys kk).isSome) j = (getN ys kk).isSome := by unfold atB; rw [hkk]
        rw [e9] at hQj
        exact wpAny_truthy_bool hQj
      · have nwr : ∀ b u, s1.heap.get? b = some u → b ∉ h3.objs.size :: [s1.heap.objs.size] := fun b u hb => by
          have hlt := Heap.lt_size hb
          intro z
          rcases List.mem_cons.mp z with z | z
          · rw [z] at hlt
            exact Nat.lt_irrefl _ (Nat.lt_of_lt_of_le hlt le13)
          · rw [List.mem_singleton.mp z] at hlt
            exact Nat.lt_irrefl _ hlt
        have J := inv_grown (h' := s'.heap) (g' := s'.gens) (d' := s'.drawn) (t' := s'.toks) I1 hP (fun b u hb e => hm.heap b u (nwr b u e) (hk5 b u (keep3 b u hb e)))
          ⟨ps', hm.heap P _ (nwr P _ hPs) (hk5 P _ hP3), ht3⟩ (AllBare.movedS (I1.bare.push hgb) hm)
        rw [GxR.sh_eta s1 s' hm.os] at J
        refine ⟨.bl _, H1, J, rfl, ?_⟩
        have el : its.toArray.size = ks.length := by rw [List.size_toArray]; omega
        rw [el, all_atB]
        exact q
  refine ⟨lim, ?_⟩
  cases hf : codeAmong gpos ps.toList with
  | none =>
    refine wpAny_genexprCodeX hcode (cd.code hP2 ht) (cd.tab hP2) hf fun c' h' tk hx hge hlt hco' _ htab' _ => ?_
    obtain ⟨o1, us1, f1, tf, fl, tg, inF, tx, tt, op, _, _, _, _, _, _, _, _, _, htr, _⟩ := hco'
    exact cont _ h' tk _ hx (Nat.le_trans hge (Nat.le_of_lt hlt)) htab'.2 htr
  | some cv =>
    refine wpAny_genexprCode_hit hcode (cd.code hP2 ht) hf ?_
    exact cont cv (s1.heap.push wo) s1.toks ps (Heap.ExtBut.refl _ _) (Nat.le_refl _) hP2 ht
end
/-! ### the same, typed; tables handed on without a word of the text -/
/-- the table at P is there, and stays -/
def TabF (P : Addr) : Hq := fun ms H => P ∉ ms ∧ H P = some (tabX P)
theorem nst_tab {P : Addr} : NSt (TabF P) := ⟨fun h M => M P _ h.1 h.2⟩
structure TabP (P : Addr) : Type where
instance instRpATab {P : Addr} {ι : Type} [RpA ι] : RpA (TabP P × ι) := ⟨fun ms H vs x => TabF P ms H ∧ ra ms H vs x.2, fun {ms ms' H H' vs x} h M => ⟨nst_tab.mv h.1 M, RpA.mv h.2 M⟩⟩
section
variable {K : PySem.W.Frag} {B ms : Ms} {σ : L2.St} {H0 : Hp} {p q r : Hq} {te : TE} {P : Addr}
theorem ea_tab {ι : Type} [RpA ι] {ts : TA} {i : ι} (W : Wd B ms H0) (f : TabF P ms H0) (h : Ea B ms ts σ H0 p i q) : Ea B ms ts σ H0 p ((⟨⟩ : TabP P), i) q := fun H b hp Q k => h H b hp _ fun vs H1 b1 q1 e1 => k vs H1 b1 q1 ⟨nst_tab.mv f (Mv.bu W.hB (b.trans b1)), e1⟩
variable {κ β : Type} [DecidableEq κ] [Rp κ] [NK κ] [NKR κ] [Rp β] {d : DN κ β} {xs : List κ}
theorem nk_refs {ms : Ms} {H : Hp} : ∀ {vs : List V} {xs : List κ}, RL (rp ms H) vs xs → ∀ v ∈ vs, ∃ b, v = V.ref b
  | [], [], _, v, h => by cases h
  | _ :: _, _ :: _, ⟨a, b⟩, v, h => by
    obtain z | z := List.mem_cons.mp h
    · rw [z]; exact NKR.ref a
    · exact nk_refs b v z
theorem getN_all {ms : Ms} {H : Hp} {ys : List NEnt} {m : List (κ × β)} (R : RE ms H ys m) : ∀ xs : List κ, ((xs.map nk).all fun k => (getN ys k).isSome) = xs.all fun k => (getM m k).isSome
  | [] => rfl
  | x :: xs => by rw [List.map_cons, List.all_cons, List.all_cons, getN_all R xs, (R.get x).1]
/-- all(x in d for x in xs), d a frozen dict at the name j -/
theorem ex_allIn {j : Nat} {u : V} (h8 : NK.dep κ ≤ 8) (W : Wd B ms H0) (h : El B ms te σ H0 p xs q) (hs : σ[j]? = some (some u)) (fd : rp ms H0 u d) (ft : TabF P ms H0) : Ex B ms (tAllIn K P j te) σ H0 p (xs.all fun k => (getM d.m k).isSome) q := fun H b hp Q k => h H b hp _ fun l H1 b1 q1 nl ⟨vs, e, rl, _⟩ => by
  have M := Mv.bu W.hB (b.trans b1)
  obtain ⟨a, eu, na, ld⟩ := Rp.mv fd M
  subst eu
  obtain ⟨ys, ey, ok, R, _⟩ := er_nok h8 ld.er
  refine ⟨l, a, vs, ys, xs.map nk, rfl, SqL.of e, hs, ey, ok, nk_keys rl, fun kk hk => ?_, nk_refs rl, (nst_tab.mv ft M).2, ?_⟩
  · obtain ⟨x, _, rfl⟩ := List.mem_map.mp hk
    exact ⟨Nat.le_trans (NK.dle x) h8, NK.pl x⟩
  · rw [getN_all R]
    exact k _ H1 b1 q1 rfl
end
/-! ### the end of such a law -/
section
/-- what is tracked at first: the script, perhaps, and the tables -/
def OnlyT (Ps : List Addr) (H : Hp) : Prop := ∀ b, H b = none ∨ (b ∈ Ps ∧ H b = some (tabX b)) ∨ ∃ o xs, H b = some (.frz o (.lst xs))
theorem lawT_run {P : Program} {w : World} {K : PySem.W.Frag} {mg mb : Str → Option Value} {k : Nat} {fa a : Addr} {cs : List (Addr × Addr)} {fd : FuncData} {x : Str} {sp : Sp} {s : Shared} {vs : List Value} {H : Hp}
    (inK : K.In s.heap) (hns : s.heap.Ns mainGlobals mg) (hb : s.heap.Ns builtinsNs mb) (hbb : ∀ x : Str, x ≠ "__name__" → mb x = bootBuiltins x) (lim : s.heap.NoLimit) (hg : s.gens = #[])
    (hT : ∀ p ∈ cs, s.heap.get? p.2 = some { cls := .none, data := .fields #[] }) (nT : ∀ p ∈ cs, K.lookup p.2 = none) (C : ∀ p ∈ cs, PySem.W.CodeHd s.heap p.1 p.2)
    (hbm : ∃ (bm : Addr) (ob : Obj), mg "__builtins__" = some (.ref bm) ∧ bm ≠ builtinsNs ∧ s.heap.get? bm = some ob ∧ ob.cls = .type "module" ∧ ob.dict = some builtinsNs ∧ ob.data = .plain)
    (ha : s.heap.get? a = some { cls := .type "list", data := .seq vs.toArray }) (room : Room k callerA)
    (F : ∀ base : Heap, K.In base → base.Ns mainGlobals mg → (∀ p ∈ cs, LamX.TabB base mg p.1 p.2) → FnG P w K mg base k fa fd [x] sp) (bind : ∀ (s : Shared) (u : Value), BindsTo s fd ⟨[u], []⟩ [(x, u)]) (hok : HOk P w H s.heap) (just : ∀ b, H b ≠ none → b = a ∨ b ∈ cs.map (·.2)) (out : H a ≠ none → K.lookup a = none)
    (want : sp [.ref a] H (fun v H' => v = .bl true ∧ ∀ p ∈ cs, H' p.2 = some (tabX p.2)) fun _ _ _ => False) (only : OnlyT (cs.map (·.2)) H) :
    codeAny (model P w) callerA (.call (.ref fa) ⟨[.ref a], []⟩) (fun r s' => r = .ok (.ret (.bool true)) ∧ OldK s.heap s'.heap ∧ s'.os = s.os ∧ AllBare s'.gens) s := by
  have isT : ∀ b : Addr, b ∈ cs.map (·.2) → s.heap.get? b = some { cls := .none, data := .fields #[] } := fun b hb => by
    obtain ⟨p, hp, e⟩ := List.mem_map.mp hb
    rw [← e]
    exact hT p hp
  have plain : ∀ {b : Addr} {o : Obj}, s.heap.get? b = some o → (∀ vs n, o.data ≠ .seq vs n) → o.data ≠ .fields #[] → H b = none := by
    intro b o e n1 n2
    by_cases q : H b = none
    · exact q
    · rcases just b q with eb | eb
      · rw [eb, ha] at e
        cases e
        exact (n1 _ _ rfl).elim
      · rw [isT b eb] at e
        cases e
        exact (n2 rfl).elim
  have ns : ∀ {b : Addr} {m : Str → Option Value}, s.heap.Ns b m → (hidT s.heap H).Ns b m := by
    rintro b m ⟨o, es, ep, e, d, r⟩
    exact ⟨o, es, ep, hid_none e (plain e (fun vs n z => by rw [d] at z; cases z) fun z => by rw [d] at z; cases z), d, r⟩
  have inB : K.In (hidT s.heap H) := by
    intro b o e
    refine hid_none (inK b o e) ?_
    by_cases q : H b = none
    · exact q
    · rcases just b q with eb | eb
      · subst eb
        rw [out q] at e
        cases e
      · obtain ⟨p, hp, ep⟩ := List.mem_map.mp eb
        rw [← ep, nT p hp] at e
        cases e
  have TB : ∀ p ∈ cs, LamX.TabB (hidT s.heap H) mg p.1 p.2 := fun p hp => by
    have hTp := hT p hp
    refine ⟨?_, ?_, fun z => ?_⟩
    · obtain ⟨o, us, file, tf, flags, tg, inF, text, tt, c1, c2, c3, c4, c5, c6, c7, c8, c9, hne⟩ := C p hp
      exact ⟨o, us, file, tf, flags, tg, inF, text, tt, hid_none c1 (plain c1 (fun vs n z => by rw [c3] at z; cases z) fun z => by rw [c3] at z; cases z; simp at c4), c2, c3, c4, c5, c6, c7, c8, c9, hne⟩
    · obtain ⟨bm, ob, b1, b2, b3, b4, b5, b6⟩ := hbm
      refine ⟨bm, ob, b1, b2, fun q => ?_, fun q => ?_, hid_none b3 (plain b3 (fun vs n z => by rw [b6] at z; cases z) fun z => by rw [b6] at z; cases z), b4, b5, b6⟩
      · obtain ⟨o, es, ep, e, hd, _⟩ := hns
        rw [q, e] at b3
        cases b3
        rw [hd] at b6
        cases b6
      · rw [q, hTp] at b3
        cases b3
        cases b6
    · obtain ⟨o, es, ep, e, hd, _⟩ := hns
      rw [z, hTp] at e
      cases e
      cases hd
  have M : Mod K mg (hidT s.heap H) := ⟨inB, ns hns, ⟨mb, ns hb, hbb⟩, let ⟨mc, h1, h2⟩ := lim; ⟨mc, ns h1, h2⟩⟩
  have env : Env0 P w K mg (hidT s.heap H) callerA [] s H := ⟨rfl, M, fun b o e => of_hidT e, Nat.le_of_eq (hidT_size _ _), trivial, fun b hb => absurd (show b ∈ ([] : List Addr) from hb) (by simp), hok, .of_eq hg⟩
  apply codeAny_mono ((F _ inB (ns hns) TB).go callerA [] s H ⟨[.ref a], []⟩ [.ref a] [.ref a] _ _ rfl room env (bind s (.ref a)) (.cons rfl .nil) want)
  intro r s2 fin
  cases r with
  | error e => exact fin.elim
  | ok fl =>
    cases fl with
    | next => exact False.elim fin
    | brk => exact False.elim fin
    | cont => exact False.elim fin
    | ret u =>
      obtain ⟨v, H2, os, bare, un, hok2, rv, q, tabs⟩ := fin
      subst q
      obtain rfl : u = Value.bool true := rv
      have grown : ∀ p ∈ cs, ∃ more : Array Value, s2.heap.get? p.2 = some { cls := .none, data := .fields more } := fun p hp => by
        obtain ⟨ps, e, _⟩ := (hok2 p.2 _ (tabs p hp)).1
        exact ⟨ps, e⟩
      have key : ∀ b o, b ∉ cs.map (·.2) → s.heap.get? b = some o → s2.heap.get? b = some o := fun b o nb e => by
        rcases only b with z | ⟨z, _⟩ | ⟨ob, xs, z⟩
        · exact un.keep b o e z (fun m => absurd (show b ∈ ([] : List Addr) from m) (by simp)) (by simp)
        · exact absurd z nb
        · obtain ⟨f1, _⟩ := hok b _ z
          obtain ⟨f2, _⟩ := hok2 b _ (un.frzs b ob _ z)
          rw [e] at f1
          cases f1
          exact f2
      refine ⟨rfl, ⟨fun b o e => ?_, fun b o e => ?_⟩, os, bare⟩
      · by_cases hb : b ∈ cs.map (·.2)
        · obtain ⟨p, hp, ep⟩ := List.mem_map.mp hb
          obtain ⟨more, hm⟩ := grown p hp
          rw [← ep] at e ⊢
          rw [hT p hp] at e
          cases e
          exact .inr (.inl ⟨((C p hp).tab (hT p hp)).isCodeTable, rfl, #[], more, rfl, by rw [Array.empty_append]; exact hm⟩)
        · exact .inl (key b o hb e)
      · by_cases hb : b ∈ cs.map (·.2)
        · obtain ⟨p, hp, ep⟩ := List.mem_map.mp hb
          obtain ⟨more, hm⟩ := grown p hp
          rw [← ep]
          exact ⟨_, hm⟩
        · exact ⟨o, key b o hb e⟩
theorem lawT_call {P : Program} {w : World} {K : PySem.W.Frag} {mg mb : Str → Option Value} {k : Nat} {fa a : Addr} {cs : List (Addr × Addr)} {fd : FuncData} {x : Str} {sp : Sp} {s : Shared} {vs : List Value} {ns : List Int}
    (inK : K.In s.heap) (hns : s.heap.Ns mainGlobals mg) (hb : s.heap.Ns builtinsNs mb) (hbb : ∀ x : Str, x ≠ "__name__" → mb x = bootBuiltins x) (lim : s.heap.NoLimit) (hg : s.gens = #[])
    (hT : ∀ p ∈ cs, s.heap.get? p.2 = some { cls := .none, data := .fields #[] }) (nT : ∀ p ∈ cs, K.lookup p.2 = none) (C : ∀ p ∈ cs, PySem.W.CodeHd s.heap p.1 p.2)
    (hbm : ∃ (bm : Addr) (ob : Obj), mg "__builtins__" = some (.ref bm) ∧ bm ≠ builtinsNs ∧ s.heap.get? bm = some ob ∧ ob.cls = .type "module" ∧ ob.dict = some builtinsNs ∧ ob.data = .plain)
    (ha : s.heap.get? a = some { cls := .type "list", data := .seq vs.toArray }) (theInts : IntsAre vs ns) (hl : ns.length ≤ sizeLine) (room : Room k callerA)
    (F : ∀ base : Heap, K.In base → base.Ns mainGlobals mg → (∀ p ∈ cs, LamX.TabB base mg p.1 p.2) → FnG P w K mg base k fa fd [x] sp) (bind : ∀ (s : Shared) (u : Value), BindsTo s fd ⟨[u], []⟩ [(x, u)])
    (want : ∀ H : Hp, (∀ p ∈ cs, H p.2 = some (tabX p.2)) → SqL K H a (ns.map V.int) → sp [.ref a] H (fun v H' => v = .bl true ∧ ∀ p ∈ cs, H' p.2 = some (tabX p.2)) fun _ _ _ => False) :
    codeAny (model P w) callerA (.call (.ref fa) ⟨[.ref a], []⟩) (fun r s' => r = .ok (.ret (.bool true)) ∧ OldK s.heap s'.heap ∧ s'.os = s.os ∧ AllBare s'.gens) s := by
  have rv := vals_ints theInts
  have lenV := theInts.length
  have isT : ∀ b : Addr, b ∈ cs.map (·.2) → s.heap.get? b = some { cls := .none, data := .fields #[] } := fun b hb => by
    obtain ⟨p, hp, e⟩ := List.mem_map.mp hb
    rw [← e]
    exact hT p hp
  have memT : ∀ p ∈ cs, p.2 ∈ cs.map (·.2) := fun p hp => List.mem_map.mpr ⟨p, hp, rfl⟩
  have aT : a ∉ cs.map (·.2) := fun z => by
    have q := isT a z
    rw [ha] at q
    cases q
  have tabOk : ∀ {H : Hp} {b : Addr}, b ∈ cs.map (·.2) → ObjOk P w H s.heap b (tabX b) := fun {H b} hb => tab_ok ⟨#[], isT b hb, True.intro⟩
  by_cases hk : K.lookup a = none
  · let S : HO := .frz { cls := .type "list", data := .seq vs.toArray } (.lst (ns.map V.int))
    let H : Hp := fun b => if b = a then some S else if b ∈ cs.map (·.2) then some (tabX b) else none
    have atA : H a = some S := if_pos rfl
    have atT : ∀ b, b ∈ cs.map (·.2) → H b = some (tabX b) := fun b hb => (if_neg fun (z : b = a) => aT (by rw [← z]; exact hb)).trans (if_pos hb)
    have atN : ∀ b, b ≠ a → b ∉ cs.map (·.2) → H b = none := fun b h1 h2 => (if_neg h1).trans (if_neg h2)
    have all : ∀ b, (b = a) ∨ (b ∈ cs.map (·.2)) ∨ H b = none := fun b => by
      by_cases h1 : b = a
      · exact .inl h1
      · by_cases h2 : b ∈ cs.map (·.2)
        · exact .inr (.inl h2)
        · exact .inr (.inr (atN b h1 h2))
    refine lawT_run (H := H) inK hns hb hbb lim hg hT nT C hbm ha room F bind (fun b u z => ?_) (fun b z => ?_) (fun _ => hk) (want H (fun p hp => atT _ (memT p hp)) (.inl (.inr ⟨_, atA⟩))) fun b => ?_
    · rcases all b with e | e | e
      · subst e
        rw [atA] at z
        cases z
        exact ⟨ha, by rw [List.length_map]; exact hl, vs, _, rv, ha⟩
      · rw [atT b e] at z
        cases z
        exact tabOk e
      · rw [e] at z
        cases z
    · rcases all b with e | e | e
      · exact .inl e
      · exact .inr e
      · exact absurd e z
    · rcases all b with e | e | e
      · exact .inr (.inr ⟨_, _, by rw [e]; exact atA⟩)
      · exact .inr (.inl ⟨e, atT b e⟩)
      · exact .inl e
  · obtain ⟨o, e⟩ := Option.ne_none_iff_exists'.mp hk
    have eo := inK a o e
    rw [ha] at eo
    cases eo
    let H : Hp := fun b => if b ∈ cs.map (·.2) then some (tabX b) else none
    have atT : ∀ b, b ∈ cs.map (·.2) → H b = some (tabX b) := fun b hb => if_pos hb
    have atN : ∀ b, b ∉ cs.map (·.2) → H b = none := fun b h2 => if_neg h2
    refine lawT_run (H := H) inK hns hb hbb lim hg hT nT C hbm ha room F bind (fun b u z => ?_) (fun b z => ?_) (fun z => absurd (atN a aT) z) (want H (fun p hp => atT _ (memT p hp)) (.inr ⟨_, vs.toArray, _, e, rfl, rfl, rfl, by rw [List.size_toArray, lenV]; exact hl, by simpa using rv⟩)) fun b => ?_
    · by_cases hbT : b ∈ cs.map (·.2)
      · rw [atT b hbT] at z
        cases z
        exact tabOk hbT
      · rw [atN b hbT] at z
        cases z
    · by_cases hbT : b ∈ cs.map (·.2)
      · exact .inr hbT
      · exact absurd (atN b hbT) z
    · by_cases hbT : b ∈ cs.map (·.2)
      · exact .inr (.inl ⟨hbT, atT b hbT⟩)
      · exact .inl (atN b hbT)
theorem walkGT {l : PySem.W.OpenLaw} {n k : Nat} {q : Program} {loose : List Str} {XP : (Str → Option Value) → Heap → Prop} {YP : World → Heap → Prop} {d d2 : DefRec} {K : Params → PySem.W.Frag} {sp : PySem.W.Frag → Addr → Sp} {x y : Str}
    (hn : l.most = some n) (hn2 : n ≤ sizeLine) (hdf : d.params.defaults = []) (room : Room k callerA) (hY : ∀ (w : World) (h : Heap), YP w h → (K w.params).In h) (rec_ : (recsOf q).find? (fun e => e.name == y) = some d2)
    (F : ∀ (w : World) (mg : Str → Option Value) (fa : Addr) (h : Heap), (K w.params).In h → h.Ns mainGlobals mg → mg d.name = some (.ref fa) →
      ∃ (fd : FuncData) (c P : Addr), PySem.W.tabIn (K w.params) y = some (c, P) ∧ (K w.params).lookup P = none ∧ (∀ (s : Shared) (u : Value), BindsTo s fd ⟨[u], []⟩ [(x, u)]) ∧
        ∀ base : Heap, (K w.params).In base → base.Ns mainGlobals mg → LamX.TabB base mg c P → FnG l.prog w (K w.params) mg base k fa fd [x] (sp (K w.params) P))
    (want : ∀ (K : PySem.W.Frag) (P : Addr) (H : Hp) (a : Addr) (ns : List Int), ns.length ≤ n → H P = some (tabX P) → SqL K H a (ns.map V.int) → sp K P [.ref a] H (fun v H' => v = .bl true ∧ H' P = some (tabX P)) fun _ _ _ => False) :
    PySem.W.WalkO q loose XP YP l.row.toRowW d [] (fun f vs => PySem.call f vs) := by
  refine Att.attach_callB hn hdf fun w s₀ s₁ mg mb fa o pm cd doc a vs ns G Y ho hd hcd hmg hobj hints hlen hbits hg => ?_
  have inK := hY w _ Y
  obtain ⟨fd, c, P, tab, out, bind, ok⟩ := F w mg fa _ inK G.T.g hmg
  obtain ⟨code, empty⟩ := PySem.W.tab_of G.T inK rec_ tab
  refine lawT_call (cs := [(c, P)]) (sp := sp (K w.params) P) inK G.T.g G.T.b G.T.builtins G.T.nolimit hg (fun p mem => ?_) (fun p mem => ?_) (fun p mem => ?_) G.T.bmain hobj hints (Nat.le_trans hlen hn2) room (fun base b1 b2 b3 => ok base b1 b2 (b3 (c, P) List.mem_cons_self)) bind
    (fun H hH hS => ?_)
  · rw [List.mem_singleton.mp mem]; exact empty
  · rw [List.mem_singleton.mp mem]; exact out
  · rw [List.mem_singleton.mp mem]; exact code
  · have w1 := want _ P H a ns hlen (hH (c, P) List.mem_cons_self) hS
    have e : (fun (v : V) (H' : Hp) => v = .bl true ∧ H' P = some (tabX P)) = fun v H' => v = .bl true ∧ ∀ p ∈ [(c, P)], H' p.2 = some (tabX p.2) := by
      funext v H'
      simp
    rw [e] at w1
    exact w1
end
/-! ### methods of objects whose fields are set once -/
/-- a method that may be called -/
structure MCal (P : Program) (w : World) (K : PySem.W.Frag) (mg : Str → Option Value) (base : Heap) (C : Addr) (m : Str) (k : Nat) (f : Addr) (fd : FuncData) (ps : List Str) (sp : Sp) : Prop where
  ok : FnOk P w K mg base CX0 k f fd ps sp
  hm : Meth K C m f
  b : Binds K fd ps []
section
variable {α β : Type} [Rp α] [Rp β] {K : PySem.W.Frag} {B ms : Ms} {σ : L2.St} {H0 : Hp} {p q r : Hq} {ta : TE} {ts : TA} {x : α} {y : β} {C : Addr} {m : Str} {E : XK}
/-- o.m(e, ..) -/
theorem ex_meth {ι : Type} [RpA ι] {F : α × ι → Option β} {i : ι} (W : Wd B ms H0) (hq : Sb B r) (h1 : Ex B ms ta σ H0 p x q) (h2 : Ea B ms ts σ H0 q i r) (e : F (x, i) = some y)
    (get : ∀ {ms : Ms} {H : Hp} {v : V}, rp ms H v x → ∃ (a dx : Addr) (fs : List (Str × V)), v = .ref a ∧ H a = some (.ins C dx fs) ∧ fs.lookup m = none) : Ex B ms (tMeth C m (spP F) [] E ta ts) σ H0 p y r := fun H b hp Q k => h1 H b hp _ fun v H1 b1 q1 r1 => by
  obtain ⟨a, dx, fs, ev, ea, el⟩ := get r1
  refine ⟨a, dx, fs, ev, ea, el, h2 H1 (b.trans b1) q1 _ fun vs H2 b2 q2 r2 => ?_⟩
  rw [List.append_nil]
  exact ⟨ms, (x, i), y, ((W.al.bu b).bu b1).bu b2, ⟨v, vs, rfl, Rp.mv r1 (Mv.bu W.hB b2), r2⟩, e, fun v H' s rv => k v H' ((b1.trans b2).trans (Bu.same s)) (hq.same s q2) rv⟩
theorem ex_meth0 {F : α × Unit → Option β} (W : Wd B ms H0) (hq : Sb B q) (h1 : Ex B ms ta σ H0 p x q) (e : F (x, ()) = some y)
    (get : ∀ {ms : Ms} {H : Hp} {v : V}, rp ms H v x → ∃ (a dx : Addr) (fs : List (Str × V)), v = .ref a ∧ H a = some (.ins C dx fs) ∧ fs.lookup m = none) : Ex B ms (tMeth C m (spP F) [] E ta tNil) σ H0 p y q := ex_meth W hq h1 ea_nil e get
end
theorem room90 {A : Around} {k : Nat} (hr : Room k A) : A.units + 90 < cLine := by have := hr.un; omega
theorem inS_free {names : List (Str × NameKind)} {sc : Scope} (h : (names.all fun y => !decide (y.2 = .free) || decide (sc.names.lookup y.1 = some .cell) || decide (sc.names.lookup y.1 = some .free)) = true) : ∀ y ∈ names, y.2 = .free → sc.names.lookup y.1 = some .cell ∨ sc.names.lookup y.1 = some .free := fun y hy e => by
  have := List.all_eq_true.mp h y hy
  rw [e] at this
  simpa using this
end Pf

set_option maxHeartbeats 1000000
namespace Pf
open PySem PySem.W PySem.Spec PyProof.Rows L2
/-! ### sorting that the kernel can count out -/
section
variable {α : Type} [DecidableEq α] [Enc α] [Lv α]
def insV (x : α) : List α → List α
  | [] => [x]
  | y :: ys => if Lv.lt y x = true then y :: insV x ys else x :: y :: ys
def isD : List α → List α
  | [] => []
  | x :: xs => insV x (isD xs)
theorem insV_perm (x : α) : ∀ ys : List α, (insV x ys).Perm (x :: ys)
  | [] => .refl _
  | y :: ys => by
    unfold insV
    split
    · exact ((insV_perm x ys).cons y).trans (.swap x y ys)
    · exact .refl _
theorem isD_perm : ∀ xs : List α, (isD xs).Perm xs
  | [] => .refl _
  | x :: xs => (insV_perm x (isD xs)).trans ((isD_perm xs).cons x)
theorem insV_srt (x : α) : ∀ {ys : List α}, (ys.Pairwise fun a b => Lv.lt b a = false) → (insV x ys).Pairwise fun a b => Lv.lt b a = false
  | [], _ => by unfold insV; simp
  | y :: ys, h => by
    unfold insV
    rw [List.pairwise_cons] at h
    split
    · rename_i c
      rw [List.pairwise_cons]
      refine ⟨fun z hz => ?_, insV_srt x h.2⟩
      obtain q | q := List.mem_cons.mp ((insV_perm x ys).mem_iff.mp hz)
      · rw [q]; exact lv_as c
      · exact h.1 z q
    · rename_i c
      rw [List.pairwise_cons]
      refine ⟨fun z hz => ?_, by rw [List.pairwise_cons]; exact h⟩
      have c' : Lv.lt y x = false := by simpa using c
      obtain q | q := List.mem_cons.mp hz
      · rw [q]; exact c'
      · exact lv_le c' (h.1 z q)
theorem isD_srt : ∀ xs : List α, (isD xs).Pairwise fun a b => Lv.lt b a = false
  | [] => .nil
  | x :: xs => insV_srt x (isD_srt xs)
theorem sortD_is (xs : List α) : sortD xs = isD xs := sortD_V (isD_perm xs) (isD_srt xs)
end
theorem lexB_leD : lexB = leD (α := Int × Int) := by
  funext a b
  rw [leD_V]
  show lexB a b = !lvP b a
  obtain ⟨a, a'⟩ := a
  obtain ⟨b, b'⟩ := b
  unfold lexB lvP
  show decide (a < b ∨ (a = b ∧ a' ≤ b')) = !(if b = a then decide (b' < a') else decide (b < a))
  by_cases h : b = a
  · subst h
    rw [if_pos rfl, Bool.eq_iff_iff]; simp
  · rw [if_neg h, Bool.eq_iff_iff]; simp; omega
theorem sortP_is (xs : List (Int × Int)) : sortP xs = isD xs := by
  unfold sortP
  rw [lexB_leD]
  exact sortD_is xs
def isT : Option Bool → Bool
  | some true => true
  | _ => false
theorem isT_true {o : Option Bool} (h : isT o = true) : o = some true := match o, h with | some true, _ => rfl
theorem bind_T {α : Type} {x : Option α} {a : α} {k : α → Option Bool} (e : x = some a) (h : isT (k a) = true) : x.bind k = some true := by rw [e]; exact isT_true h
end Pf

set_option maxHeartbeats 1000000
namespace Pf
open PySem PySem.W PySem.Spec PyProof.Rows L2
open Rp (rp)
open RpA (ra)
def divF (a m : Int) : Option Int := if 0 < m ∧ m < 1073741824 then some (a / m) else none
theorem divF_ok {a m t : Int} (h : divF a m = some t) : CDiv a m ∧ a / m = t := by
  unfold divF at h
  split at h
  · exact ⟨by assumption, Option.some.inj h⟩
  · cases h
/-! ### a, b = a list of two -/
def two {α : Type} : List α → Option (α × α)
  | [a, b] => some (a, b)
  | _ => none
theorem two_ok {α : Type} {xs : List α} {p : α × α} (h : two xs = some p) : xs = [p.1, p.2] := by
  match xs, h with
  | [a, b], h => cases h; rfl
theorem ls2 {α : Type} [Rp α] {ms : Ms} {H : Hp} {v : V} {xs : List α} {p : α × α} (h : rp ms H v xs) (e : two xs = some p) : ∃ a u w, v = .ref a ∧ H a = some (.lst [u, w]) ∧ rp ms H u p.1 ∧ rp ms H w p.2 := by
  obtain rfl := two_ok e
  obtain ⟨a, ev, _, vs, eh, r, _⟩ := h
  match vs, r with
  | [u, w], ⟨r1, r2, _⟩ => exact ⟨a, u, w, ev, eh, r1, r2⟩
theorem bnd_lst2 {K : PySem.W.Frag} {σ : L2.St} {H : Hp} {a : Addr} {u w : V} {t1 t2 : TG} {σ1 σ2 : L2.St} (eh : H a = some (.lst [u, w])) (h1 : Bnd t1 u σ H σ1) (h2 : Bnd t2 w σ1 H σ2) : Bnd (gLst K 2 (gCons t1 (gCons t2 gNil))) (.ref a) σ H σ2 := fun R hR =>
  ⟨a, _, rfl, SqL.of eh, rfl, r_gcons (h1 _ (r_gcons (h2 _ (r_gnil hR))))⟩
/-- a statement that is never reached -/
theorem ps_never {X : Cx} {st : Stmt} : PS X st fun _ _ _ => False := ⟨fun _ _ _ _ _ _ h => h.elim⟩
/-! ### max and min of a list of ints -/
def maxI : List Int → Option Int
  | [] => none
  | x :: xs => some (xs.foldl (fun a b => if a < b then b else a) x)
def minI : List Int → Option Int
  | [] => none
  | x :: xs => some (xs.foldl (fun a b => if b < a then b else a) x)
theorem maxI_fold : ∀ (xs : List Int) (x : Int), let z := xs.foldl (fun a b => if a < b then b else a) x; z ∈ x :: xs ∧ ∀ y ∈ x :: xs, y ≤ z
  | [], x => ⟨by simp, by simp⟩
  | b :: xs, x => by
    have h := maxI_fold xs (if x < b then b else x)
    dsimp only at h ⊢
    rw [List.foldl_cons]
    refine ⟨?_, fun y hy => ?_⟩
    · obtain e | e := List.mem_cons.mp h.1
      · rw [e]; split <;> simp
      · exact List.mem_cons_of_mem _ (List.mem_cons_of_mem _ e)
    · have h2 := h.2 _ List.mem_cons_self
      obtain e | e := List.mem_cons.mp hy
      · rw [e]; split at h2
        · rename_i c; rw [if_pos c]; omega
        · rename_i c; rw [if_neg c]; omega
      · obtain e | e := List.mem_cons.mp e
        · rw [e]; split at h2
          · rename_i c; rw [if_pos c]; omega
          · rename_i c; rw [if_neg c]; omega
        · exact h.2 y (List.mem_cons_of_mem _ e)
theorem maxI_ok {xs : List Int} {z : Int} (h : maxI xs = some z) : z ∈ xs ∧ ∀ y ∈ xs, y ≤ z := by
  cases xs with
  | nil => cases h
  | cons x xs => cases h; exact maxI_fold xs x
section
variable {K : PySem.W.Frag} {B ms : Ms} {σ : L2.St} {H0 : Hp} {p q : Hq} {te : TE} {xs : List Int} {z : Int}
theorem ex_maxI (h : El B ms te σ H0 p xs q) (e : maxI xs = some z) : Ex B ms (tCB (rMax K) (tCons te tNil)) σ H0 p z q := fun H b hp Q k => h H b hp _ fun a H1 b1 q1 na ⟨vs, ev, rl, l⟩ => by
  obtain ⟨h1, h2⟩ := maxI_ok e
  rw [rl.ints fun _ _ h => h] at ev
  refine ⟨a, xs, rfl, SqL.of ev, List.length_pos_of_mem h1, fun m hm hy => k _ H1 b1 q1 ?_⟩
  rw [show z = m from Int.le_antisymm (hy z h1) (h2 m hm)]
  exact rfl
end
/-! ### xs.index(i), of ints -/
def idxI (xs : List Int) (x : Int) : Option Int := if x ∈ xs then some ((xs.idxOf x : Nat) : Int) else none
section
variable {K : PySem.W.Frag} {B ms : Ms} {σ : L2.St} {H0 : Hp} {p q r : Hq} {ta tb : TE} {xs : List Int} {x t : Int}
theorem idx_first {x : Int} : ∀ {xs : List Int}, x ∈ xs → xs[xs.idxOf x]? = some x ∧ ∀ (m : Nat) (z : Int), m < xs.idxOf x → xs[m]? = some z → z ≠ x
  | [], h => by cases h
  | y :: ys, h => by
    rw [List.idxOf_cons]
    by_cases e : y = x
    · subst e
      simp
    · have h' : x ∈ ys := by
        obtain q | q := List.mem_cons.mp h
        · exact absurd q.symm e
        · exact q
      obtain ⟨a, b⟩ := idx_first h'
      have e' : (y == x) = false := beq_eq_false_iff_ne.mpr e
      rw [e']
      refine ⟨by simpa using a, fun m z hm hz => ?_⟩
      cases m with
      | zero =>
        have : y = z := by simpa using hz
        rw [← this]; exact e
      | succ m => exact b m z (by have : m + 1 < ys.idxOf x + 1 := by simpa using hm
                                  omega) (by simpa using hz)
theorem ex_idxI (W : Wd B ms H0) (h1 : El B ms ta σ H0 p xs q) (h2 : Ex B ms tb σ H0 q x r) (e : idxI xs x = some t) : Ex B ms (tBM K "list" (rIndex K) ta (tCons tb tNil)) σ H0 p t r := fun H b hp Q k => h1 H b hp _ fun a H1 b1 q1 na ⟨vs, ev, rl, l⟩ => by
  rw [rl.ints fun _ _ h => h] at ev
  refine ⟨.inl ⟨rfl, _, SqL.of ev⟩, h2 H1 (b.trans b1) q1 _ fun v H2 b2 q2 rv => ?_⟩
  obtain rfl : v = V.int x := rv
  unfold idxI at e
  split at e
  · rename_i hm
    cases e
    obtain ⟨f1, f2⟩ := idx_first hm
    refine ⟨a, xs.map V.int, .int x, xs.idxOf x, .int x, rfl, rfl, SqL.of (b2.1 a _ na ev), rfl, by rw [List.all_map]; exact List.all_eq_true.mpr fun _ _ => rfl, by rw [List.getElem?_map, f1]; rfl, by show (x == x) = true; simp, fun m z' hm hz => ?_, k _ H2 (b1.trans b2) q2 rfl⟩
    rw [List.getElem?_map] at hz
    obtain ⟨z, hz1, rfl⟩ := Option.map_eq_some_iff.mp hz
    show (z == x) = false
    exact beq_eq_false_iff_ne.mpr (f2 m z hm hz1)
  · cases e
end
end Pf

set_option maxHeartbeats 1000000
namespace Pf
open PySem PySem.W PySem.Spec PyProof.Rows L2
open Rp (rp)
open RpA (ra)
/-! ### data of any form, as they stand in the heap (never changed) -/
mutual
def rpD (ms : Ms) (H : Hp) : PyData → V → Prop
  | .none, v => v = .non
  | .bool b, v => v = .bl b
  | .int i, v => v = .int i
  | .str s, v => v = .str s
  | .list ds, v => ∃ a vs, v = .ref a ∧ a ∉ ms ∧ H a = some (.lst vs) ∧ rpDs ms H ds vs ∧ vs.length ≤ sizeLine
  | .tuple ds, v => ∃ a vs, v = .ref a ∧ a ∉ ms ∧ H a = some (.tup vs) ∧ rpDs ms H ds vs ∧ vs.length ≤ sizeLine
  | .dict _, _ => False
def rpDs (ms : Ms) (H : Hp) : List PyData → List V → Prop
  | [], vs => vs = []
  | d :: ds, vs => ∃ v us, vs = v :: us ∧ rpD ms H d v ∧ rpDs ms H ds us
end
mutual
theorem rpD_mv {ms ms' : Ms} {H H' : Hp} (M : Mv ms H ms' H') : ∀ (d : PyData) (v : V), rpD ms H d v → rpD ms' H' d v
  | .none, _, h => h
  | .bool _, _, h => h
  | .int _, _, h => h
  | .str _, _, h => h
  | .list ds, _, h => by
    rw [rpD] at h ⊢
    obtain ⟨a, vs, e, n, eh, r, l⟩ := h
    obtain ⟨n', e'⟩ := M a _ n eh
    exact ⟨a, vs, e, n', e', rpDs_mv M ds vs r, l⟩
  | .tuple ds, _, h => by
    rw [rpD] at h ⊢
    obtain ⟨a, vs, e, n, eh, r, l⟩ := h
    obtain ⟨n', e'⟩ := M a _ n eh
    exact ⟨a, vs, e, n', e', rpDs_mv M ds vs r, l⟩
  | .dict _, _, h => h
theorem rpDs_mv {ms ms' : Ms} {H H' : Hp} (M : Mv ms H ms' H') : ∀ (ds : List PyData) (vs : List V), rpDs ms H ds vs → rpDs ms' H' ds vs
  | [], _, h => h
  | d :: ds, _, h => by
    rw [rpDs] at h ⊢
    obtain ⟨v, us, e, a, b⟩ := h
    exact ⟨v, us, e, rpD_mv M d v a, rpDs_mv M ds us b⟩
end
instance instRpDat : Rp PyData := ⟨fun ms H v d => rpD ms H d v, fun {ms ms' H H' v x} h M => rpD_mv M x v h⟩
theorem rpDs_iff {ms : Ms} {H : Hp} : ∀ {ds : List PyData} {vs : List V}, rpDs ms H ds vs ↔ RL (rp ms H) vs ds
  | [], [] => by rw [rpDs]; exact ⟨fun _ => trivial, fun _ => rfl⟩
  | [], _ :: _ => by rw [rpDs]; exact ⟨fun h => (by cases h), fun h => h.elim⟩
  | d :: ds, [] => by rw [rpDs]; exact ⟨fun ⟨_, _, e, _⟩ => (by cases e), fun h => h.elim⟩
  | d :: ds, v :: vs => by
    rw [rpDs]
    exact ⟨fun ⟨_, _, e, a, b⟩ => by cases e; exact ⟨a, rpDs_iff.mp b⟩, fun ⟨a, b⟩ => ⟨v, vs, rfl, a, rpDs_iff.mpr b⟩⟩
mutual
theorem rpD_dp {K : PySem.W.Frag} {ms : Ms} {H : Hp} : ∀ (d : PyData) (v : V), rpD ms H d v → Dp K H v d
  | .none, _, h => by rw [rpD] at h; subst h; exact .non
  | .bool _, _, h => by rw [rpD] at h; subst h; exact .bl _
  | .int _, _, h => by rw [rpD] at h; subst h; exact .int _
  | .str _, _, h => by rw [rpD] at h; subst h; exact .str _
  | .list ds, _, h => by
    rw [rpD] at h
    obtain ⟨a, vs, e, n, eh, r, l⟩ := h
    subst e
    exact .lst (SqL.of eh) (rpDs_dp ds vs r)
  | .tuple ds, _, h => by
    rw [rpD] at h
    obtain ⟨a, vs, e, n, eh, r, l⟩ := h
    subst e
    exact .tup (SqT.of eh) (rpDs_dp ds vs r)
  | .dict _, _, h => by rw [rpD] at h; exact h.elim
theorem rpDs_dp {K : PySem.W.Frag} {ms : Ms} {H : Hp} : ∀ (ds : List PyData) (vs : List V), rpDs ms H ds vs → DpAll K H vs ds
  | [], _, h => by rw [rpDs] at h; subst h; exact .nil
  | d :: ds, _, h => by
    rw [rpDs] at h
    obtain ⟨v, us, e, a, b⟩ := h
    subst e
    exact .cons (rpD_dp d v a) (rpDs_dp ds us b)
end
/-- what is a datum too -/
class ToD (α : Type) [Rp α] where
  toD : α → PyData
  rpd : ∀ {ms : Ms} {H : Hp} {v : V} {x : α}, rp ms H v x → rpD ms H (toD x) v
open ToD (toD)
instance : ToD PyData := ⟨id, fun h => h⟩
instance : ToD Int := ⟨.int, fun h => by rw [rpD]; exact h⟩
instance : ToD Bool := ⟨.bool, fun h => by rw [rpD]; exact h⟩
instance : ToD Str := ⟨.str, fun h => by rw [rpD]; exact h⟩
section
variable {α β γ : Type} [Rp α] [ToD α] [Rp β] [ToD β] [Rp γ] [ToD γ]
theorem toD_all {ms : Ms} {H : Hp} : ∀ {vs : List V} {xs : List α}, RL (rp ms H) vs xs → rpDs ms H (xs.map toD) vs
  | [], [], _ => by rw [List.map_nil, rpDs]
  | v :: vs, x :: xs, ⟨a, b⟩ => by rw [List.map_cons, rpDs]; exact ⟨v, vs, rfl, ToD.rpd a, toD_all b⟩
instance : ToD (List α) := ⟨fun xs => .list (xs.map toD), fun ⟨a, e, n, vs, eh, r, l⟩ => by rw [rpD]; exact ⟨a, vs, e, n, eh, toD_all r, l⟩⟩
instance : ToD (VT α) := ⟨fun x => .tuple (x.l.map toD), fun ⟨a, vs, e, n, eh, r, l⟩ => by rw [rpD]; exact ⟨a, vs, e, n, eh, toD_all r, l⟩⟩
instance : ToD (α × β) := ⟨fun x => .tuple [toD x.1, toD x.2], fun ⟨a, u, w, e, n, eh, r1, r2⟩ => by
  rw [rpD]
  refine ⟨a, _, e, n, eh, ?_, Nat.le_trans (show 2 ≤ 64 by decide) (by rw [sizeLine_eq]; decide)⟩
  rw [rpDs_iff]
  exact ⟨ToD.rpd r1, ToD.rpd r2, trivial⟩⟩
instance : ToD (T3 α β γ) := ⟨fun x => .tuple [toD x.a, toD x.b, toD x.c], fun ⟨a, u, w, y, e, n, eh, r1, r2, r3⟩ => by
  rw [rpD]
  refine ⟨a, _, e, n, eh, ?_, Nat.le_trans (show 3 ≤ 64 by decide) (by rw [sizeLine_eq]; decide)⟩
  rw [rpDs_iff]
  exact ⟨ToD.rpd r1, ToD.rpd r2, ToD.rpd r3, trivial⟩⟩
def toDO : Option α → PyData
  | none => .none
  | some y => toD y
instance : ToD (Option α) := ⟨toDO, fun {ms H v x} h => by
  cases x with
  | none => rw [toDO, rpD]; exact h
  | some y => exact ToD.rpd (α := α) (x := y) h⟩
end
/-! what a datum is, looked at -/
def asI : PyData → Option Int
  | .int i => some i
  | _ => none
def asS : PyData → Option Str
  | .str s => some s
  | _ => none
def asB : PyData → Option Bool
  | .bool b => some b
  | _ => none
def asT : PyData → Option (VT PyData)
  | .tuple ds => some ⟨ds⟩
  | _ => none
def asL : PyData → Option (List PyData)
  | .list ds => some ds
  | _ => none
def isTD : PyData → Bool
  | .tuple _ => true
  | _ => false
def isND : PyData → Bool
  | .none => true
  | _ => false
section
variable {K : PySem.W.Frag} {B ms : Ms} {σ : L2.St} {H0 : Hp} {p q r : Hq} {te ta tb : TE} {d d' : PyData}
theorem ex_toD {α : Type} [Rp α] [ToD α] {x : α} (h : Ex B ms te σ H0 p x q) : Ex B ms te σ H0 p (toD x) q := fun H b hp Q k => h H b hp _ fun v H1 b1 q1 r1 => k v H1 b1 q1 (ToD.rpd r1)
theorem ex_nonD (hq : Sb B p) : Ex B ms (tC .non) σ H0 p PyData.none p := fun H b hp Q k => k _ H (Bu.refl B H) hp (by show rpD _ _ _ _; rw [rpD])
theorem ex_asI {i : Int} (h : Ex B ms te σ H0 p d q) (e : asI d = some i) : Ex B ms te σ H0 p i q := by
  cases d <;> simp [asI] at e
  subst e
  exact fun H b hp Q k => h H b hp _ fun v H1 b1 q1 r1 => k v H1 b1 q1 (by have r1 : rpD _ _ _ _ := r1; rw [rpD] at r1; exact r1)
theorem ex_asS {s : Str} (h : Ex B ms te σ H0 p d q) (e : asS d = some s) : Ex B ms te σ H0 p s q := by
  cases d <;> simp [asS] at e
  subst e
  exact fun H b hp Q k => h H b hp _ fun v H1 b1 q1 r1 => k v H1 b1 q1 (by have r1 : rpD _ _ _ _ := r1; rw [rpD] at r1; exact r1)
theorem ex_asB {s : Bool} (h : Ex B ms te σ H0 p d q) (e : asB d = some s) : Ex B ms te σ H0 p s q := by
  cases d <;> simp [asB] at e
  subst e
  exact fun H b hp Q k => h H b hp _ fun v H1 b1 q1 r1 => k v H1 b1 q1 (by have r1 : rpD _ _ _ _ := r1; rw [rpD] at r1; exact r1)
theorem ex_asT {s : VT PyData} (h : Ex B ms te σ H0 p d q) (e : asT d = some s) : Ex B ms te σ H0 p s q := by
  cases d <;> simp [asT] at e
  subst e
  refine fun H b hp Q k => h H b hp _ fun v H1 b1 q1 r1 => k v H1 b1 q1 ?_
  have r1 : rpD _ _ _ _ := r1
  rw [rpD] at r1
  obtain ⟨a, vs, ev, n, eh, rl, l⟩ := r1
  exact ⟨a, vs, ev, n, eh, rpDs_iff.mp rl, l⟩
theorem ex_asL {s : List PyData} (h : Ex B ms te σ H0 p d q) (e : asL d = some s) : Ex B ms te σ H0 p s q := by
  cases d <;> simp [asL] at e
  subst e
  refine fun H b hp Q k => h H b hp _ fun v H1 b1 q1 r1 => k v H1 b1 q1 ?_
  have r1 : rpD _ _ _ _ := r1
  rw [rpD] at r1
  obtain ⟨a, vs, ev, n, eh, rl, l⟩ := r1
  exact ⟨a, ev, n, vs, eh, rpDs_iff.mp rl, l⟩
end
end Pf

set_option maxHeartbeats 1000000
namespace Pf
open PySem PySem.W PySem.Spec PyProof.Rows L2
open Rp (rp)
open RpA (ra)
/-! ### (a, *xs, b) -/
def tStar (K : PySem.W.Frag) (te : TE) (ts : TA) : TA := fun σ H Q => te σ H fun x H1 => ∃ a xs, x = .ref a ∧ (SqL K H1 a xs ∨ SqT K H1 a xs) ∧ ts σ H1 fun ys H2 => Q (xs ++ ys) H2
theorem star_lst {X : Cx} {pins : List (Addr × Obj)} {σ : L2.St} {H : Hp} {s : Shared} {a : Addr} {xs : List V} {E : Value → Shared → Prop} {Q : List Value → Shared → Prop} (I : L2.Inv X pins σ H s) (h : SqL X.K H a xs) (hQ : ∀ us s', L2.Inv X pins σ H s' → Vals xs us → Q us s') :
    PySem.W.StarOf (model X.prog X.w) X.A E (.ref a) Q s := by
  obtain ⟨its, r, pl, hz⟩ := I.list h
  obtain ⟨o, n, ho, hc, hdn, hd⟩ := pl
  have hT : s.TypeIs (.ref a) "list" := ⟨o, ho, hc⟩
  have hl := r.length
  have z : wpAny (model X.prog X.w) X.A (collect (.ref a)) Q E s := by
    refine wpAny_collect_seq a (.inl rfl) ho hc hd (fun h' hk => ?_) (by rw [List.size_toArray]; omega)
    have e : its.toArray.toList = its := by simp
    rw [e]
    exact hQ its _ (I.kept (t' := s.toks) hk) r
  unfold PySem.W.StarOf notIterableAtAll
  exact wpAny_bind (wpAny_specialOf hT PySem.F.slot_list_iter.lookup (wpAny_pure ⟨rfl, z⟩))
theorem pa_star {X : Cx} {e : Expr} {es : List Expr} {p : Pos} {te : TE} {ts : TA} (he : PE X e te) (hr : PA X es ts) (hs : starEach (.Starred e p :: es) X.env = (true, eval e X.env) :: starEach es X.env := by rfl) : PA X (.Starred e p :: es) (tStar X.K te ts) := by
  refine ⟨fun pos pins s σ H Q I h => ?_⟩
  refine PySem.W.items_star (thn (he.run pins s σ H _ I h) fun u s1 ⟨x, H1, I1, r1, a, xs, ex, hx, q1⟩ => ?_) hs
  subst ex
  obtain rfl : u = Value.ref a := r1
  have go : ∀ us s', L2.Inv X pins σ H1 s' → Vals xs us → wpAny (model X.prog X.w) X.A (spliced (backTo pos (starEach es X.env))) (fun vs s₃ => AP X pins σ Q (us ++ vs) s₃) X.xe s' := fun us s' I' r =>
    thn (hr.run pos pins s' σ H1 _ I' q1) fun vs s2 ⟨ys, H2, I2, r2, q2⟩ => ⟨xs ++ ys, H2, I2, r.append r2, q2⟩
  rcases hx with hx | hx
  · exact star_lst I1 hx go
  · exact star_tup I1 hx go
/-! ### x, *ys = a tuple -/
def gStar (K : PySem.W.Frag) (t u : TG) : TG := fun v σ H Q => ∃ a x xs, v = .ref a ∧ SqT K H a (x :: xs) ∧ ∀ l, H l = none → t x σ (upd H l (.lst xs)) fun σ1 H1 => u (.ref l) σ1 H1 Q
theorem pg_star1 {X : Cx} {e1 e2 : Expr} {k : Nat} {p pos : Pos} {t u : TG} (hc : X.calm = true) (h1 : PG X e1 t) (h2 : PG X e2 u)
    (hs : assignEach [e1, .Starred e2 p] X.env = [(false, assign e1 X.env), (true, assign e2 X.env)] := by rfl) : PG X (.Tuple [e1, .Starred e2 p] k pos) (gStar X.K t u) := by
  refine ⟨fun pins s σ H v w Q I r hw => ?_⟩
  obtain ⟨a, x, xs, ev, hq, go⟩ := hw
  subst ev
  obtain rfl : w = Value.ref a := r
  obtain ⟨its, rv, tup, hz⟩ := I.tuple hq
  rw [PyProof.Rows.assign_Tuple]
  refine wpAny_bind (wpAny_standAt ?_)
  unfold unpack
  rw [hs]
  show wpAny _ _ (holding [Value.ref a] (unpackItems (.ref a) 2 (some 1)) >>= fun vs => assignInOrder [assign e1 X.env, assign e2 X.env] vs) _ _ s
  rcases rv with _ | ⟨r0, rest⟩
  rename_i u0 us
  have hlu := rest.length
  have ne : a ≠ s.heap.objs.size := Nat.ne_of_lt tup.lt
  refine wpAny_bind (wpAny_holding ?_)
  unfold unpackItems notIterableAtAll
  refine wpAny_bind ?_
  refine wpAny_bind (wpAny_specialOf tup.typeIs PySem.F.slot_tuple_iter.lookup ?_)
  refine wpAny_pure ?_
  simp only [Bool.false_eq_true, if_false]
  refine wpAny_bind (wpAny_holding (iter_tuple tup ?_))
  refine wpAny_bind (wpAny_holding (draw_tuple ne 1 0 _ _ ⟨_, Heap.get?_push_size _ rfl, rfl, rfl⟩ (tup.push _) (by simp) fun g1 it1 same1 => ?_))
  have tup1 : IsTup g1 a (u0 :: us).toArray := (tup.push _).extBut same1.extBut ne
  have it1' := it1
  obtain ⟨oi, hoi, _⟩ := it1'
  have tup1' := tup1
  obtain ⟨ol, hol, _⟩ := tup1'
  show wpAny _ _ (if ([u0] : List Value).length < 1 then _ else _) _ _ _
  rw [if_neg (by simp)]
  refine wpAny_bind (wpAny_holding (kun_collect (s := { s with heap := g1 }) (T := "tuple_iterator") (.inr (.inr (.inr rfl))) (Walks.tuple (A := X.A.in1) (I.ok.hd hc) s.heap.objs.size a ne (u0 :: us).toArray) (fun j u st => st.1.typeIs) (k := 1) (by simp) ⟨it1, tup1⟩ (Heap.lt_size hoi) (Heap.lt_size hol) (fun g2 tk keep => ?_) (by have h := hz; rw [List.length_cons] at h; show (u0 :: us).toArray.size ≤ sizeLine; rw [List.size_toArray, List.length_cons, ← hlu]; exact h)))
  show wpAny _ _ (if us.length < 0 then _ else _) _ _ _
  rw [if_neg (by omega)]
  show wpAny _ _ (newList (us.take (us.length - 0)) >>= fun d => pure ([u0] ++ [d] ++ us.drop (us.length - 0))) _ _ _
  rw [Nat.sub_zero, List.take_length, List.drop_length]
  have kp : ∀ b o, s.heap.get? b = some o → g2.get? b = some o := fun b o e => keep b o (Nat.ne_of_lt (Heap.lt_size e)) (same1.extBut b o (Nat.ne_of_lt (Heap.lt_size e)) (Heap.get?_push_of_some _ e))
  have I2 : L2.Inv X pins σ H { s with heap := g2, toks := tk } := I.kept kp
  refine wpAny_bind (wpAny_newList (wpAny_pure ?_) (by have h := hz; rw [List.length_cons] at h; omega))
  have hz' : xs.length ≤ sizeLine := by have h := hz; rw [List.length_cons] at h; omega
  have hf : H g2.objs.size = none := I2.hok.fresh (Nat.le_refl _)
  have I3 : L2.Inv X pins σ (upd H g2.objs.size (.lst xs)) { s with heap := g2.push { cls := .type "list", data := .seq us.toArray }, toks := tk } :=
    I2.laid (t' := tk) (fun b o e => Heap.get?_push_of_some _ e) (Nat.le_refl _) ⟨hz', us, 0, rest, Heap.get?_push_size _ rfl⟩
  show wpAny _ _ (assignInOrder [assign e1 X.env, assign e2 X.env] [u0, .ref g2.objs.size]) _ _ _
  refine assignInOrder_cons (thn (h1.run pins _ σ _ _ _ _ I3 r0 (go _ hf)) fun _ s4 ⟨σ4, H4, I4, q4⟩ => ?_)
  refine assignInOrder_cons (thn (h2.run pins _ σ4 _ _ _ _ I4 (show RelV (.ref g2.objs.size) (Value.ref g2.objs.size) from rfl) q4) fun _ s5 ⟨σ5, H5, I5, q5⟩ => ?_)
  exact wpAny_pure ⟨σ5, H5, I5, q5⟩
end Pf

set_option maxHeartbeats 1000000
namespace Pf
open PySem PySem.W PySem.Spec PyProof.Rows L2
open Rp (rp)
open RpA (ra)
/-! ### displays of data: (a, *xs, b) -/
section
variable {α : Type} [Rp α] {K : PySem.W.Frag} {B ms : Ms} {σ : L2.St} {H0 : Hp} {p q r : Hq} {te ta tb : TE} {ts : TA}
def Eds (B ms : Ms) (ta : TA) (σ : L2.St) (H0 : Hp) (p : Hq) (xs : List α) (q : Hq) : Prop :=
  ∀ H, Bu B H0 H → p ms H → ∀ Q : List V → Hp → Prop, (∀ vs H', Bu B H H' → q ms H' → RL (rp ms H') vs xs → Q vs H') → ta σ H Q
theorem eds_nil : Eds B ms tNil σ H0 p ([] : List α) p := fun H b hp Q k => k [] H (Bu.refl B H) hp trivial
theorem eds_cons {x : α} {xs : List α} (W : Wd B ms H0) (h1 : Ex B ms te σ H0 p x q) (h2 : Eds B ms ts σ H0 q xs r) : Eds B ms (tCons te ts) σ H0 p (x :: xs) r := fun H b hp Q k => h1 H b hp _ fun v H1 b1 q1 r1 => h2 H1 (b.trans b1) q1 _ fun vs H2 b2 q2 r2 =>
  k _ H2 (b1.trans b2) q2 ⟨Rp.mv r1 (Mv.bu W.hB b2), r2⟩
theorem eds_starL {xs ys : List α} (W : Wd B ms H0) (h1 : El B ms te σ H0 p xs q) (h2 : Eds B ms ts σ H0 q ys r) : Eds B ms (tStar K te ts) σ H0 p (xs ++ ys) r := fun H b hp Q k => h1 H b hp _ fun a H1 b1 q1 na l1 => by
  obtain ⟨vs, ev, rl, l⟩ := l1
  refine ⟨a, vs, rfl, .inl (SqL.of ev), h2 H1 (b.trans b1) q1 _ fun us H2 b2 q2 r2 => ?_⟩
  exact k _ H2 (b1.trans b2) q2 ((rl.imp fun _ _ z => Rp.mv z (Mv.bu W.hB b2)).app r2)
/-- such a tuple, of as many items as there are -/
def vtF (xs : List α) : Option (VT α) := if xs.length ≤ sizeLine then some ⟨xs⟩ else none
theorem ex_tupV {xs : List α} {y : VT α} (W : Wd B ms H0) (hq : Sb B q) (h : Eds B ms ts σ H0 p xs q) (e : vtF xs = some y) : Ex B ms (tTup ts) σ H0 p y q := fun H b hp Q k => h H b hp _ fun vs H1 b1 q1 rl => by
  unfold vtF at e
  split at e
  · rename_i hl
    cases e
    refine ⟨by rw [rl.len]; exact hl, fun t nt => ?_⟩
    have s := same_upd (o := .tup vs) nt
    exact k _ _ (b1.trans (Bu.same s)) (hq.same s q1) ⟨t, vs, rfl, ((W.al.bu b).bu b1).not nt, upd_same, rl.imp fun _ _ z => Rp.mv z (Mv.same s), by rw [rl.len]; exact hl⟩
  · cases e
/-! ### t[i], t[lo:hi], for x in t, of tuples of any length -/
theorem ex_ixV {x : VT α} {i : Int} {y : α} (W : Wd B ms H0) (h1 : Ex B ms ta σ H0 p x q) (h2 : Ex B ms tb σ H0 q i r) (e : atI x.l i = some y) : Ex B ms (tOp (rIxT K) ta tb) σ H0 p y r := fun H b hp Q k => h1 H b hp _ fun v H1 b1 q1 l1 => h2 H1 (b.trans b1) q1 _ fun u H2 b2 q2 e2 => by
  obtain ⟨a, vs, ev, n, eh, rl, _⟩ := (show rp ms H2 v x from Rp.mv l1 (Mv.bu W.hB b2))
  subst ev
  obtain ⟨j, ej, ex⟩ := Option.bind_eq_some_iff.mp e
  obtain ⟨w, hw, rw⟩ := rl.get' ex
  have e2' : u = .int i := e2
  subst e2'
  exact ⟨a, vs, i, w, rfl, rfl, SqT.of eh, Option.bind_eq_some_iff.mpr ⟨j, by rw [rl.len]; exact ej, hw⟩, k _ H2 (b1.trans b2) q2 rw⟩
def cutT (x : VT α) (lo hi : Option Int) : Option (VT α) := if ¬ (HT.sIx x.l.length 0 lo = 0 ∧ HT.sIx x.l.length x.l.length hi = x.l.length) then some ⟨cutF x.l lo hi⟩ else none
theorem ex_slV {x y : VT α} {lo hi : Option Int} {tl th : TO} {s : Hq} (W : Wd B ms H0) (hs : Sb B s) (h1 : Ex B ms te σ H0 p x q) (h2 : Eo B ms tl σ H0 q lo r) (h3 : Eo B ms th σ H0 r hi s) (e : cutT x lo hi = some y) : Ex B ms (tSl (rSlT K) te tl th) σ H0 p y s := fun H b hp Q k => h1 H b hp _ fun v H1 b1 q1 l1 =>
  h2 H1 (b.trans b1) q1 _ fun H2 b2 q2 => h3 H2 ((b.trans b1).trans b2) q2 _ fun H3 b3 q3 => by
  obtain ⟨a, vs, ev, n, eh, rl, l⟩ := (show rp ms H3 v x from Rp.mv l1 (Mv.bu W.hB (b2.trans b3)))
  subst ev
  unfold cutT at e
  split at e
  · rename_i c
    cases e
    refine ⟨a, vs, rfl, SqT.of eh, by rw [rl.len]; exact c, fun t nt => ?_⟩
    have hr : RL (rp ms H3) (cutV vs lo hi) (cutF x.l lo hi) := by
      unfold cutV cutF
      rw [rl.len]
      exact rl.drop.take
    have s := same_upd (o := .tup (cutV vs lo hi)) nt
    exact k _ _ (((b1.trans b2).trans b3).trans (Bu.same s)) (hs.same s q3) ⟨t, _, rfl, ((((W.al.bu b).bu b1).bu b2).bu b3).not nt, upd_same, hr.imp fun _ _ z => Rp.mv z (Mv.same s), Nat.le_trans (cutV_length vs lo hi) l⟩
  · cases e
theorem itok_vt {a : Addr} {x : VT α} : ItOk (Itt K a) (fun ms H => rp ms H (.ref a) x) x.l := fun i ms H hf al => by
  obtain ⟨a', vs, e, n, eh, rl, l⟩ := hf
  cases e
  refine ⟨fun h => ⟨vs, SqT.of eh, by rw [rl.len]; exact h⟩, fun y ey => ?_⟩
  obtain ⟨v, ev, rv⟩ := rl.get' ey
  refine ⟨⟨vs, v, SqT.of eh, ev⟩, fun z H' ⟨eH, h⟩ => ?_⟩
  subst eH
  have := h _ (SqT.of eh)
  rw [ev] at this
  cases this
  exact ⟨fun _ _ z => z, rv⟩
theorem ei_vt {x : VT α} (h : Ex B ms te σ H0 p x q) : Ei B ms (iTup K te) σ H0 p x.l q := fun H b hp R k => h H b hp _ fun v H1 b1 q1 hr => by
  obtain ⟨a, vs, e, n, eh, rl, l⟩ := id hr
  subst e
  exact ⟨a, rfl, ⟨_, SqT.of eh⟩, k _ (fun ms H => rp ms H (.ref a) x) H1 b1 q1 ⟨fun h M => Rp.mv h M⟩ hr itok_vt⟩
end
/-! ### isinstance and is None of data -/
def kD : PyData → String
  | .none => "NoneType"
  | .bool _ => "bool"
  | .int _ => "int"
  | .str _ => "str"
  | .list _ => "list"
  | .tuple _ => "tuple"
  | .dict _ => "dict"
def isIntD : PyData → Bool
  | .int _ => true
  | .bool _ => true
  | _ => false
def isBoolD : PyData → Bool
  | .bool _ => true
  | _ => false
section
variable {K : PySem.W.Frag} {B ms : Ms} {σ : L2.St} {H0 : Hp} {p q r : Hq} {te ta tb : TE} {d : PyData}
theorem ty_rpD {ms : Ms} {H : Hp} : ∀ {d : PyData} {v : V}, rpD ms H d v → TyOf K H v (.type (kD d))
  | .none, _, h => by rw [rpD] at h; subst h; exact .non
  | .bool _, _, h => by rw [rpD] at h; subst h; exact .bl _
  | .int _, _, h => by rw [rpD] at h; subst h; exact .int _
  | .str _, _, h => by rw [rpD] at h; subst h; exact .str _
  | .list _, _, h => by rw [rpD] at h; obtain ⟨a, vs, e, n, eh, _⟩ := h; subst e; exact .lst eh
  | .tuple _, _, h => by rw [rpD] at h; obtain ⟨a, vs, e, n, eh, _⟩ := h; subst e; exact .tup eh
  | .dict _, _, h => by rw [rpD] at h; exact h.elim
theorem ex_isiD {T : String} {c : Bool} (e : kitB (kD d) T = some c) (h : Ex B ms te σ H0 p d q) : Ex B ms (tCB (rIsi K) (tCons te (tCons (tC (.ty T)) tNil))) σ H0 p c q := fun H b hp Q k => h H b hp _ fun v H1 b1 q1 hr => r_isi (ty_rpD hr) e (k _ H1 b1 q1 rfl)
theorem kit_nn : kitB "NoneType" "bool" = some false := by decide +kernel
theorem kit_int (d : PyData) : kitB (kD d) "int" = some (isIntD d) := by cases d <;> (dsimp only [kD, isIntD, isBoolD, isTD]; decide +kernel)
theorem kit_bool (d : PyData) : kitB (kD d) "bool" = some (isBoolD d) := by cases d <;> (dsimp only [kD, isIntD, isBoolD, isTD]; decide +kernel)
theorem kit_tup (d : PyData) : kitB (kD d) "tuple" = some (isTD d) := by cases d <;> (dsimp only [kD, isIntD, isBoolD, isTD]; decide +kernel)
theorem non_rpD {ms : Ms} {H : Hp} {v : V} (h : rpD ms H d v) : decide (v = .non) = isND d := by
  cases d <;> rw [rpD] at h
  · subst h; rfl
  · subst h; exact decide_eq_false fun z => by cases z
  · subst h; exact decide_eq_false fun z => by cases z
  · subst h; exact decide_eq_false fun z => by cases z
  · obtain ⟨a, vs, e, _⟩ := h; subst e; exact decide_eq_false fun z => by cases z
  · obtain ⟨a, vs, e, _⟩ := h; subst e; exact decide_eq_false fun z => by cases z
  · exact h.elim
theorem ex_isND (h1 : Ex B ms ta σ H0 p d q) : Ex B ms (tOp (fun x y H Q => y = .non ∧ Q (.bl (decide (x = .non))) H) ta (tC .non)) σ H0 p (isND d) q := fun H b hp Q k => h1 H b hp _ fun v H1 b1 q1 l1 => ⟨rfl, by rw [non_rpD l1]; exact k _ H1 b1 q1 rfl⟩
theorem ex_notND (h1 : Ex B ms ta σ H0 p d q) : Ex B ms (tOp (fun x y H Q => y = .non ∧ Q (.bl (!decide (x = .non))) H) ta (tC .non)) σ H0 p (!isND d) q := fun H b hp Q k => h1 H b hp _ fun v H1 b1 q1 l1 => ⟨rfl, by rw [non_rpD l1]; exact k _ H1 b1 q1 rfl⟩
end
end Pf
namespace Pf
open PySem PySem.W PySem.Spec PyProof.Rows L2
open Rp (rp)
open RpA (ra)
/-! ### index of texts -/
def idxS (xs : List Str) (x : Str) : Option Nat := xs.findIdx? fun y => decide (y = x)
theorem idxS_ok {xs : List Str} {x : Str} {i : Nat} (h : idxS xs x = some i) : xs[i]? = some x ∧ ∀ (m : Nat) (z : Str), m < i → xs[m]? = some z → z ≠ x := by
  unfold idxS at h
  obtain ⟨hi, hp, hn⟩ := List.findIdx?_eq_some_iff_getElem.mp h
  refine ⟨by rw [List.getElem?_eq_getElem hi, of_decide_eq_true hp], fun m z hm hz e => ?_⟩
  have hlt : m < xs.length := Nat.lt_trans hm hi
  rw [List.getElem?_eq_getElem hlt] at hz
  cases hz
  exact hn m hm (decide_eq_true e)
theorem RL.strs {r : V → Str → Prop} (h : ∀ v x, r v x → v = .str x) : ∀ {vs : List V} {xs : List Str}, RL r vs xs → vs = xs.map V.str
  | [], [], _ => rfl
  | _ :: _, _ :: _, ⟨a, b⟩ => by rw [h _ _ a, RL.strs h b]; rfl
section
variable {K : PySem.W.Frag} {B ms : Ms} {σ : L2.St} {H0 : Hp} {p q r : Hq} {ta tb : TE} {xs : List Str} {x : Str} {i : Nat}
theorem ex_idxS (W : Wd B ms H0) (h1 : El B ms ta σ H0 p xs q) (h2 : Ex B ms tb σ H0 q x r) (e : idxS xs x = some i) : Ex B ms (tBM K "list" (rIndex K) ta (tCons tb tNil)) σ H0 p (i : Int) r := fun H b hp Q k => h1 H b hp _ fun a H1 b1 q1 na ⟨vs, ev, rl, l⟩ => by
  rw [rl.strs fun _ _ h => h] at ev
  refine ⟨.inl ⟨rfl, _, SqL.of ev⟩, h2 H1 (b.trans b1) q1 _ fun v H2 b2 q2 rv => ?_⟩
  obtain rfl : v = V.str x := rv
  obtain ⟨f1, f2⟩ := idxS_ok e
  refine ⟨a, xs.map V.str, .str x, i, .str x, rfl, rfl, SqL.of (b2.1 a _ na ev), rfl, by rw [List.all_map]; exact List.all_eq_true.mpr fun _ _ => rfl, by rw [List.getElem?_map, f1]; rfl, by show (x == x) = true; simp, fun m z' hm hz => ?_, k _ H2 (b1.trans b2) q2 rfl⟩
  rw [List.getElem?_map] at hz
  obtain ⟨z, hz1, rfl⟩ := Option.map_eq_some_iff.mp hz
  show (z == x) = false
  exact beq_eq_false_iff_ne.mpr (f2 m z hm hz1)
/-! ### tuples that stand as globals -/
/-- the name x stands for a tuple of what xs are -/
structure GTup (K : PySem.W.Frag) (mg : Str → Option Value) (x : Str) (a : Addr) (vs : List V) : Prop where
  at_ : mg x = some (.ref a)
  sq : ∃ (o : Obj) (its : Array Value) (n : Nat), K.lookup a = some o ∧ o.cls = .type "tuple" ∧ o.data = .seq its n ∧ its.size ≤ sizeLine ∧ Vals vs its.toList
  pl : ∃ o, K.lookup a = some o ∧ o.cls = .type "tuple" ∧ o.dict = none
theorem GTup.sqT {mg : Str → Option Value} {y : Str} {a : Addr} {vs : List V} (g : GTup K mg y a vs) {H : Hp} : SqT K H a vs := .inr g.sq
theorem ex_gixI {mg : Str → Option Value} {y : Str} {a : Addr} {ns : List Int} {j z : Int} (g : GTup K mg y a (ns.map V.int)) (h : Ex B ms tb σ H0 p j q) (e : atI ns j = some z) : Ex B ms (tOp (rIxT K) (tC (.ref a)) tb) σ H0 p z q := fun H b hp Q k => h H b hp _ fun v H1 b1 q1 r1 => by
  obtain rfl : v = V.int j := r1
  obtain ⟨m, em, ex⟩ := Option.bind_eq_some_iff.mp e
  exact ⟨a, ns.map V.int, j, .int z, rfl, rfl, g.sqT, Option.bind_eq_some_iff.mpr ⟨m, by rw [List.length_map]; exact em, by rw [List.getElem?_map, ex]; rfl⟩, k _ H1 b1 q1 rfl⟩
theorem ex_gixS {mg : Str → Option Value} {y : Str} {a : Addr} {ns : List Str} {j : Int} {z : Str} (g : GTup K mg y a (ns.map V.str)) (h : Ex B ms tb σ H0 p j q) (e : atI ns j = some z) : Ex B ms (tOp (rIxT K) (tC (.ref a)) tb) σ H0 p z q := fun H b hp Q k => h H b hp _ fun v H1 b1 q1 r1 => by
  obtain rfl : v = V.int j := r1
  obtain ⟨m, em, ex⟩ := Option.bind_eq_some_iff.mp e
  exact ⟨a, ns.map V.str, j, .str z, rfl, rfl, g.sqT, Option.bind_eq_some_iff.mpr ⟨m, by rw [List.length_map]; exact em, by rw [List.getElem?_map, ex]; rfl⟩, k _ H1 b1 q1 rfl⟩
theorem ex_glen {mg : Str → Option Value} {y : Str} {a : Addr} {vs : List V} (g : GTup K mg y a vs) : Ex B ms (tCB (fun xs H Q => ∃ p ys, xs = [V.ref p] ∧ (SqL K H p ys ∨ SqT K H p ys) ∧ Q (.int ys.length) H) (tCons (tC (.ref a)) tNil)) σ H0 p ((vs.length : Nat) : Int) p := fun H b hp Q k =>
  ⟨a, vs, rfl, .inr g.sqT, k _ H (Bu.refl B H) hp rfl⟩
theorem ex_gidxS {mg : Str → Option Value} {y : Str} {a : Addr} {ns : List Str} (g : GTup K mg y a (ns.map V.str)) (hT : ∃ o, K.lookup a = some o ∧ o.cls = .type "tuple" ∧ o.dict = none) (h : Ex B ms tb σ H0 p x q) (e : idxS ns x = some i) :
    Ex B ms (tBM K "tuple" (fun x xs H Q => ∃ p, ∃ ys : List Str, ∃ z j, x = .ref p ∧ xs = [.str z] ∧ SqT K H p (ys.map V.str) ∧ ys[j]? = some z ∧ (∀ m, m < j → ys[m]? ≠ some z) ∧ Q (.int (j : Nat)) H) (tC (.ref a)) (tCons tb tNil)) σ H0 p (i : Int) q := fun H b hp Q k => by
  refine ⟨.inr (.inl ⟨rfl, hT⟩), h H b hp _ fun v H1 b1 q1 r1 => ?_⟩
  obtain rfl : v = V.str x := r1
  obtain ⟨f1, f2⟩ := idxS_ok e
  exact ⟨a, ns, x, i, rfl, rfl, g.sqT, f1, fun m hm e => f2 m x hm e rfl, k _ H1 b1 q1 rfl⟩
end
/-! ### e = xs.pop() -/
def popL {α : Type} (xs : List α) : Option (α × List α) := (xs[xs.length - 1]?).map fun y => (y, xs.dropLast)
theorem s_pop0 {α : Type} [Rp α] {K : PySem.W.Frag} {B ms : Ms} {σ : L2.St} {p : Hq} {H : Hp} {Q : VK} {i : Nat} {m : Addr} {xs ys : List α} {x : α} {T : String} (hT : T = "list") (W : Wd B ms H) (hs : σ[i]? = some (some (.ref m))) (l : Ls ms H m xs) (hm : m ∈ ms) (nB : m ∉ B) (hq : Sb B p) (hp : p ms H) (e : popL xs = some (x, ys))
    (k : ∀ v H', Bu (m :: B) H H' → p ms H' → Wd B ms H' → Mv ms H ms H' → Ls ms H' m ys → rp ms H' v x → Q v H') : tBM0 K T rPop (tVar i) σ H Q := by
  subst hT
  obtain ⟨vs, ev, rl, ll⟩ := l
  refine r_bm0 ⟨_, hs, ty_lst ev, ?_⟩
  obtain ⟨y, ey, e⟩ := Option.map_eq_some_iff.mp e
  obtain ⟨e2, e3⟩ := Prod.mk.inj e
  subst e2 e3
  obtain ⟨v, hv, rv⟩ := rl.get' ey
  have rd : RL (rp ms H) vs.dropLast xs.dropLast := by
    rw [List.dropLast_eq_take, List.dropLast_eq_take, rl.len]
    exact rl.take
  obtain ⟨c1, c2, c3, c4, c5, c6⟩ := chg W hm nB hq (Bu.refl B H) hp ev (us := vs.dropLast) (ys := xs.dropLast) rd (by rw [List.length_dropLast]; omega)
  exact ⟨m, vs, v, rfl, rfl, ev, by rw [rl.len]; exact hv, k _ _ c1 c2 c3 c4 c6 (Rp.mv rv c5)⟩
/-! ### x, *ys = t -/
def unV {α : Type} : VT α → Option (α × List α)
  | ⟨x :: xs⟩ => some (x, xs)
  | _ => none
theorem unV_ok {α : Type} {x : VT α} {w : α} {ns : List α} (h : unV x = some (w, ns)) : x.l = w :: ns := by
  match x, h with
  | ⟨_ :: _⟩, h => cases h; rfl
theorem r_star {α : Type} [Rp α] {K : PySem.W.Frag} {B ms : Ms} {σ : L2.St} {p : Hq} {H : Hp} {i j : Nat} {v : V} {x : VT α} {w : α} {ns : List α} {Q : L2.St → Hp → Prop} (W : Wd B ms H) (hq : Sb B p) (hp : p ms H) (rv : rp ms H v x) (e : unV x = some (w, ns))
    (k : ∀ v0 a H', Bu B H H' → H a = none → p (a :: ms) H' → Wd B (a :: ms) H' → Mv ms H (a :: ms) H' → rp (a :: ms) H' v0 w → Ls (a :: ms) H' a ns → Q ((σ.set i (some v0)).set j (some (.ref a))) H') : gStar K (gName i) (gName j) v σ H Q := by
  obtain ⟨a, vs, ev, n, eh, rl, l⟩ := rv
  rw [unV_ok e] at rl
  match vs, rl, l, eh with
  | v0 :: us, ⟨r0, rl⟩, l, eh =>
    refine ⟨a, v0, us, ev, SqT.of eh, fun t nt => ?_⟩
    have s := same_upd (o := .lst us) nt
    have M := mv_newB W (Bu.same s) nt
    exact k v0 t _ (Bu.same s) nt (hq.new nt s hp) (W.new (Bu.same s) (by rw [upd_same]; exact fun z => by cases z)) M (Rp.mv r0 M) (ls_new nt rl (Nat.le_of_succ_le l))
/-- xs.extend(e) -/
theorem s_ext {α : Type} [Rp α] {K : PySem.W.Frag} {B ms : Ms} {σ : L2.St} {p q : Hq} {H : Hp} {Q : VK} {i : Nat} {m : Addr} {xs ys zs : List α} {te : TE} {T : String} (hT : T = "list") (W : Wd B ms H) (hs : σ[i]? = some (some (.ref m))) (l : Ls ms H m xs) (hm : m ∈ ms) (nB : m ∉ B) (hq : Sb B q) (h : El B ms te σ H p zs q) (hp : p ms H) (e : catF xs zs = some ys)
    (k : ∀ H', Bu (m :: B) H H' → q ms H' → Wd B ms H' → Mv ms H ms H' → Ls ms H' m ys → Q .non H') : tBM K T rExtend (tVar i) (tCons te tNil) σ H Q := by
  subst hT
  obtain ⟨vs, ev, rl, ll⟩ := l
  refine r_bm ⟨_, hs, ty_lst ev, h H (Bu.refl B H) hp _ fun a H1 b1 q1 na l1 => ?_⟩
  obtain ⟨us, eu, ru, lu⟩ := l1
  unfold catF at e
  split at e
  · rename_i hl
    cases e
    have ev1 := b1.1 _ _ nB ev
    have rl1 : RL (rp ms H1) vs xs := rl.imp fun _ _ z => Rp.mv z (W.mv b1)
    have hl' : vs.length + us.length ≤ sizeLine := by rw [rl.len, ru.len]; exact hl
    obtain ⟨c1, c2, c3, c4, c5, c6⟩ := chg W hm nB hq b1 q1 ev (us := vs ++ us) (ys := xs ++ zs) (rl1.app ru) (by rw [List.length_append]; exact hl')
    exact ⟨m, a, vs, us, rfl, rfl, ev1, eu, hl', k _ c1 c2 c3 c4 c6⟩
  · cases e
theorem r_ifX {tc : TT} {ta tb : TE} {σ : L2.St} {H : Hp} {Q : VK} (h : tc σ H fun c H1 => if c = true then ta σ H1 Q else tb σ H1 Q) : tIf tc ta tb σ H Q := h
/-- what is behind a call's one argument -/
theorem r_sp1 {α β : Type} [Rp α] [Rp β] {B ms : Ms} {p : Hq} {H : Hp} {F : α × Unit → Option β} {v : V} {x : α} {y : β} {Q : VK} {E : XK} (W : Wd B ms H) (hq : Sb B p) (hp : p ms H) (rv : rp ms H v x) (e : F (x, ()) = some y)
    (k : ∀ u H', Bu B H H' → p ms H' → Wd B ms H' → Mv ms H ms H' → rp ms H' u y → Q u H') : tNil ([] : L2.St) H fun vs H1 => spP F (v :: vs) H1 Q E :=
  ⟨ms, (x, ()), y, W.al, ⟨v, [], rfl, rv, rfl⟩, e, fun u H' s r => k u H' (Bu.same s) (hq.same s hp) (W.bu (Bu.same s)) (Mv.same s) r⟩
theorem eds_starT {α : Type} [Rp α] [ToD α] {K : PySem.W.Frag} {B ms : Ms} {σ : L2.St} {H0 : Hp} {p q r : Hq} {te : TE} {ts : TA} {xs : List α} {ys : List PyData} (W : Wd B ms H0) (h1 : El B ms te σ H0 p xs q) (h2 : Eds B ms ts σ H0 q ys r) : Eds B ms (tStar K te ts) σ H0 p (xs.map ToD.toD ++ ys) r := fun H b hp Q k => h1 H b hp _ fun a H1 b1 q1 na l1 => by
  obtain ⟨vs, ev, rl, l⟩ := l1
  refine ⟨a, vs, rfl, .inl (SqL.of ev), h2 H1 (b.trans b1) q1 _ fun us H2 b2 q2 r2 => ?_⟩
  exact k _ H2 (b1.trans b2) q2 (RL.app (rpDs_iff.mp (toD_all (rl.imp fun _ _ z => Rp.mv z (Mv.bu W.hB b2)))) r2)
theorem pe_gint {X : Cx} {x : Str} {i : Int} {pos : Pos} (hg : Gl X x) (hm : ∃ t, X.mg x = some (.int i t)) (hd : (x == ("__debug__" : Str)) = false := by decide) : PE X (.Name x pos) (tC (.int i)) := by
  obtain ⟨t, e⟩ := hm
  exact pe_glob hg e ⟨t, rfl⟩ hd
theorem pe_gref {X : Cx} {x : Str} {a : Addr} {pos : Pos} (hg : Gl X x) (hm : X.mg x = some (.ref a)) (hd : (x == ("__debug__" : Str)) = false := by decide) : PE X (.Name x pos) (tC (.ref a)) := pe_glob (v := .ref a) hg hm (show Value.ref a = Value.ref a from rfl) hd
/-! ### range(a, b, c) -/
def rngC (lo c : Int) (n : Nat) : List Int := (List.range n).map fun i : Nat => lo + (i : Int) * c
def rng3 (lo hi c : Int) : Option (List Int) := if c ≠ 0 ∧ c.natAbs < 1073741824 ∧ Builtin.Range.small lo hi c = true ∧ 0 ≤ Builtin.Range.rangeSize lo hi c ∧ (Builtin.Range.rangeSize lo hi c).toNat ≤ sizeLine then some (rngC lo c (Builtin.Range.rangeSize lo hi c).toNat) else none
theorem itok_rng3 {lo c : Int} {n : Nat} : ItOk (Itc lo c n) Tr (rngC lo c n) := fun i ms H _ al => ⟨fun h => by
  have h' : n ≤ i := by simpa [rngC] using h
  exact h', fun x ex => by
  unfold rngC at ex
  rw [List.getElem?_map] at ex
  obtain ⟨j, ej, rfl⟩ := Option.map_eq_some_iff.mp ex
  obtain ⟨hj, e⟩ := List.getElem?_eq_some_iff.mp ej
  rw [List.getElem_range] at e
  rw [List.length_range] at hj
  subst e
  refine ⟨hj, fun u H' ⟨eH, h⟩ => ?_⟩
  subst eH
  exact ⟨fun _ _ z => z, h⟩⟩
theorem ei_rng3 {B ms : Ms} {σ : L2.St} {H0 : Hp} {p q : Hq} {ts : TA} {i j c : Int} {xs : List Int} (h : Ea B ms ts σ H0 p (i, j, c, ()) q) (e : rng3 i j c = some xs) : Ei B ms (iRng3 ts) σ H0 p xs q := fun H b hp R k => h H b hp _ fun vs H1 b1 q1 e1 => by
  obtain ⟨v1, _, rfl, r1, v2, _, rfl, r2, v3, _, rfl, r3, e0⟩ := e1
  have e0' : _ = [] := e0
  have r1' : v1 = .int i := r1
  have r2' : v2 = .int j := r2
  have r3' : v3 = .int c := r3
  subst e0' r1' r2' r3'
  unfold rng3 at e
  split at e
  · rename_i hl
    cases e
    exact ⟨i, j, c, _, rfl, ⟨hl.1, hl.2.1, hl.2.2.1, (Int.toNat_of_nonneg hl.2.2.2.1).symm⟩, k _ Tr H1 b1 q1 nst_tr trivial itok_rng3⟩
  · cases e
theorem ex_neS {B ms : Ms} {σ : L2.St} {H0 : Hp} {p q r : Hq} {ta tb : TE} {i j : Str} (ha : Ex B ms ta σ H0 p i q) (hb : Ex B ms tb σ H0 q j r) : Ex B ms (tOp rNe ta tb) σ H0 p (!decide (i = j)) r :=
  fun H b hp Q k => ha H b hp _ fun v H1 b1 q1 e1 => hb H1 (b.trans b1) q1 _ fun u H2 b2 q2 e2 => by
    have e1' : v = .str i := e1
    have e2' : u = .str j := e2
    subst e1' e2'
    refine ⟨rfl, ?_⟩
    rw [show decide (V.str i = V.str j) = decide (i = j) by simp]
    exact k _ H2 (b1.trans b2) q2 rfl
/-! ### repr(x) == repr(y) of data of any form -/
mutual
def sameP : PyData → PyData → Bool
  | .none, .none => true
  | .bool a, .bool b => a == b
  | .int a, .int b => a == b
  | .str a, .str b => decide (a = b)
  | .list xs, .list ys => samePs xs ys
  | .tuple xs, .tuple ys => samePs xs ys
  | _, _ => false
def samePs : List PyData → List PyData → Bool
  | [], [] => true
  | x :: xs, y :: ys => sameP x y && samePs xs ys
  | _, _ => false
end
mutual
theorem sameP_ok : ∀ (x y : PyData), sameP x y = true → x = y
  | .none, y, h => by cases y <;> simp [sameP] at h; rfl
  | .bool a, y, h => by cases y <;> simp [sameP] at h; rw [h]
  | .int a, y, h => by cases y <;> simp [sameP] at h; rw [h]
  | .str a, y, h => by cases y <;> simp [sameP] at h; rw [h]
  | .list xs, y, h => by cases y <;> simp [sameP] at h; rw [samePs_ok xs _ h]
  | .tuple xs, y, h => by cases y <;> simp [sameP] at h; rw [samePs_ok xs _ h]
  | .dict _, y, h => by cases y <;> simp [sameP] at h
theorem samePs_ok : ∀ (xs ys : List PyData), samePs xs ys = true → xs = ys
  | [], [], _ => rfl
  | [], _ :: _, h => by simp [samePs] at h
  | _ :: _, [], h => by simp [samePs] at h
  | x :: xs, y :: ys, h => by
    rw [samePs, Bool.and_eq_true] at h
    rw [sameP_ok x y h.1, samePs_ok xs ys h.2]
end
def sameT {α : Type} [Rp α] [ToD α] (x y : α) : Option Bool := if (sameP (ToD.toD x) (ToD.toD y) && shwB (ToD.toD x) && !(ToD.toD x).hasDict && decide ((ToD.toD x).depth ≤ 64)) = true then some true else none
theorem ex_sameT {α : Type} [Rp α] [ToD α] {K : PySem.W.Frag} {B ms : Ms} {σ : L2.St} {H0 : Hp} {p q : Hq} {x y : α} {t : Bool} {ts : TA} {E : XK} (W : Wd B ms H0) (h : Ea B ms ts σ H0 p (x, y, ()) q) (e : sameT x y = some t) :
    Ex B ms (tCall (sp_same K) [] E ts) σ H0 p t q := fun H b hp Q k => r_call (h H b hp _ fun vs H1 b1 q1 e1 => by
  obtain ⟨v1, _, rfl, r1, v2, _, rfl, r2, e0⟩ := e1
  have e0' : _ = [] := e0
  subst e0'
  unfold sameT at e
  split at e
  · rename_i c
    cases e
    simp only [Bool.and_eq_true, Bool.not_eq_true', decide_eq_true_iff] at c
    obtain ⟨⟨⟨c1, c2⟩, c3⟩, c4⟩ := c
    unfold shwB at c2
    rw [Bool.and_eq_true, decide_eq_true_iff] at c2
    have r2' : rpD _ _ _ _ := ToD.rpd r2
    rw [← sameP_ok _ _ c1] at r2'
    exact ⟨v1, v2, ToD.toD x, rfl, rpD_dp _ _ (ToD.rpd r1), rpD_dp _ _ r2', c3, c2.1, c2.2, c4, k _ H1 b1 q1 rfl⟩
  · cases e)
instance {α : Type} [Rp α] : RpO (VT α) := ⟨fun ⟨a, _, e, _⟩ => by subst e; exact fun z => by cases z⟩
theorem vals_nil : L2.Vals [] [] := .nil
theorem vals_str {x : Str} {t : Tok} {vs : List V} {us : List Value} (h : L2.Vals vs us) : L2.Vals (.str x :: vs) (.str x t :: us) := .cons (show ∃ t', Value.str x t = .str x t' from ⟨t, rfl⟩) h
theorem vals_int {x : Int} {t : Tok} {vs : List V} {us : List Value} (h : L2.Vals vs us) : L2.Vals (.int x :: vs) (.int x t :: us) := .cons (show ∃ t', Value.int x t = .int x t' from ⟨t, rfl⟩) h
end Pf

set_option maxHeartbeats 1000000
namespace Pf
open PySem PySem.W PySem.Spec PyProof.Rows L2
open Rp (rp)
open RpA (ra)
/-! ### while, left by break -/
inductive Fb (ρ s : Type) where
  | ret (r : ρ)
  | go (x : s)
  | brk (x : s)
def whlB {s ρ : Type} (c : s → Option Bool) (f : s → Option (Fb ρ s)) : Nat → s → Option (Fl ρ s)
  | 0, _ => none
  | n + 1, x => (c x).bind fun b => if b = true then (f x).bind fun y => match y with | .ret r => some (.ret r) | .go z => whlB c f n z | .brk z => some (.go z) else some (.go x)
theorem r_brk {D : Ends} {σ : L2.St} {H : Hp} (h : D.bk σ H) : tBreak D σ H := h
theorem wk_whileB {s ρ : Type} {σ : L2.St} {tc : TT} {tb : TS} {D : Ends} {H : Hp} {c : s → Option Bool} {f : s → Option (Fb ρ s)} {m : Nat} {x0 : s} {out : Fl ρ s} (hm : whlB c f m x0 = some out) (I : s → L2.St → Hp → Prop) (h0 : I x0 σ H)
    (ht : ∀ x t σ H, I x σ H → c x = some t → ∀ R : Bool → Hp → Prop, (∀ H', I x σ H' → R t H') → tc σ H R)
    (hs : ∀ x fl σ H, I x σ H → f x = some fl → (∀ r, fl = .ret r → out = .ret r) → (∀ x', fl = .brk x' → ∀ σ' H', I x' σ' H' → D.nx σ' H') → tb { D with nx := fun σ' H' => ∃ x', fl = .go x' ∧ I x' σ' H', ct := fun σ' H' => ∃ x', fl = .go x' ∧ I x' σ' H', bk := D.nx } σ H)
    (hd : ∀ x σ H, out = .go x → I x σ H → D.nx σ H) : tWhile tc tb D σ H := by
  refine ⟨fun n σ H => ∃ x, I x σ H ∧ whlB c f n x = some out, ⟨m, x0, h0, hm⟩, ?_⟩
  rintro n σ H ⟨x, hI, hw⟩
  cases n with
  | zero => cases hw
  | succ n =>
    obtain ⟨t, hc, hw⟩ := bind_inv hw
    refine ht x t σ H hI hc _ fun H' hI' => ?_
    cases t with
    | false =>
      rw [if_neg (by decide)] at hw ⊢
      exact hd x σ H' (Option.some.inj hw).symm hI'
    | true =>
      rw [if_pos rfl] at hw ⊢
      obtain ⟨fl, hf, hw⟩ := bind_inv hw
      refine ⟨_, ?_, hs x fl σ H' hI' hf (fun r e => ?_) fun x' e σ' H2 hI2 => ?_⟩
      · rintro σ' H2 ⟨x', rfl, hI2⟩
        exact ⟨n, Nat.lt_succ_self n, x', hI2, hw⟩
      · subst e
        exact (Option.some.inj hw).symm
      · subst e
        exact hd x' σ' H2 (Option.some.inj hw).symm hI2
/-! ### == of data of any form -/
def eqT {α : Type} [Rp α] [ToD α] (x y : α) : Option Bool := if (SeqAt.shaped (ToD.toD x) && SeqAt.shaped (ToD.toD y)) = true then some (PyData.eqv (ToD.toD x) (ToD.toD y)) else none
section
variable {α : Type} [Rp α] [ToD α] {K : PySem.W.Frag} {B ms : Ms} {σ : L2.St} {H0 : Hp} {p q r : Hq} {ta tb : TE} {x y : α} {t : Bool}
theorem ex_eqT (W : Wd B ms H0) (h1 : Ex B ms ta σ H0 p x q) (h2 : Ex B ms tb σ H0 q y r) (e : eqT x y = some t) : Ex B ms (tOp (rEqD K) ta tb) σ H0 p t r := fun H b hp Q k => h1 H b hp _ fun u H1 b1 q1 r1 => h2 H1 (b.trans b1) q1 _ fun v H2 b2 q2 r2 => by
  unfold eqT at e
  split at e
  · rename_i c
    cases e
    rw [Bool.and_eq_true] at c
    exact ⟨_, _, rpD_dp _ _ (ToD.rpd (Rp.mv r1 (Mv.bu W.hB b2))), rpD_dp _ _ (ToD.rpd r2), c.1, c.2, k _ H2 (b1.trans b2) q2 rfl⟩
  · cases e
theorem ex_neT (W : Wd B ms H0) (h1 : Ex B ms ta σ H0 p x q) (h2 : Ex B ms tb σ H0 q y r) (e : eqT x y = some t) : Ex B ms (tOp (rNeD K) ta tb) σ H0 p (!t) r := fun H b hp Q k => h1 H b hp _ fun u H1 b1 q1 r1 => h2 H1 (b.trans b1) q1 _ fun v H2 b2 q2 r2 => by
  unfold eqT at e
  split at e
  · rename_i c
    cases e
    rw [Bool.and_eq_true] at c
    exact ⟨_, _, rpD_dp _ _ (ToD.rpd (Rp.mv r1 (Mv.bu W.hB b2))), rpD_dp _ _ (ToD.rpd r2), c.1, c.2, k _ H2 (b1.trans b2) q2 rfl⟩
  · cases e
end
end Pf

namespace Pf
open PySem L2
local macro_rules | `(tactic| walk_at "rd1") => `(tactic| first
  | with_reducible refine r_seqA ?_
  | with_reducible refine r_seqD ?_
  | with_reducible refine r_seqF ?_
  | with_reducible refine r_seqN ?_
  | with_reducible refine r_asg ?_
  | with_reducible refine r_drop ?_
  | with_reducible refine r_ret ?_
  | with_reducible refine r_ifS ?_
  | ((with_reducible refine r_next ?_); try dsimp only)
  | ((with_reducible refine r_name ?_); try dsimp only [List.set_cons_succ, List.set_cons_zero, wipe])
  | ((with_reducible refine' r_var ?rdh ?_); (case rdh => rfl))
  | with_reducible refine r_c ?_
  | with_reducible refine r_op ?_
  | with_reducible refine r_un ?_
  | with_reducible refine r_I0 ?_
  | ((with_reducible refine r_I ?_ ?_); (· first | decide | exact Or.inl (by decide) | exact Or.inr (by decide) | (show _ ∧ _; constructor <;> decide) | (show (0:Int) < _; omega) | (show CDiv _ _; unfold CDiv; omega) ))
  | with_reducible refine r_U ?_
  | with_reducible refine r_eqI ?_
  | with_reducible refine r_neI ?_
  | with_reducible refine r_eqB ?_
  | with_reducible refine r_neB ?_
  | with_reducible refine r_test ?_
  | with_reducible refine r_B ?_
  | with_reducible refine r_bl ?_
  | with_reducible refine r_bl2 ?_
  | with_reducible refine r_yes ?_
  | with_reducible refine r_wipe (by rfl) ?_
  | with_reducible refine r_rfl ?_
  | ((with_reducible refine' r_eqA ?rdh ?_); (case rdh => rfl))
  | with_reducible refine r_and ?_
  | with_reducible refine r_or ?_
  | with_reducible refine r_not ?_
  | with_reducible refine r_andV ?_
  | with_reducible refine r_orV ?_
  | with_reducible refine r_notV ?_
  | with_reducible refine r_ifE ?_
  | with_reducible refine r_nil ?_
  | with_reducible refine r_cons ?_
  | with_reducible refine r_tup ?_
  | with_reducible refine r_lst ?_
  | with_reducible refine r_CB ?_
  | with_reducible refine r_call ?_
  | with_reducible refine r_bm ?_
  | with_reducible refine r_bm0 ?_
  | with_reducible refine r_int ?_
  | with_reducible refine r_i2 ?_
  | with_reducible refine r_i1 ?_
  | with_reducible refine r_gcons ?_
  | with_reducible refine r_gnil ?_
  | with_reducible refine r_gsub ?_
  | with_reducible refine iteT ?_
  | with_reducible refine iteF ?_
  | with_reducible refine ite_notT ?_
  | with_reducible refine ite_notF ?_
  | with_reducible refine r_isi_ib ?_
  | with_reducible refine r_isi_ii ?_
  | with_reducible refine r_isi_bb ?_
  | with_reducible refine r_isi_nb ?_
  | with_reducible refine r_isi_nt ?_
  | ((with_reducible refine' r_isi_ll ?rdh ?_); (case rdh => first | assumption | exact upd_same))
  | ((with_reducible refine' r_isi_tt ?rdh ?_); (case rdh => first | assumption | exact upd_same))
  | with_reducible refine r_sl ?_
  | with_reducible refine r_noPart ?_
  | with_reducible refine r_part ?_
  | with_reducible refine r_int1 ?_
  | with_reducible refine r_tru ?_
  | with_reducible refine r_ckw ?_
  | with_reducible refine r_lc ?_
  | with_reducible refine r_lc2 ?_
  | with_reducible refine r_forS ?_
  | with_reducible refine r_iR1 ?_
  | with_reducible refine r_iR2 ?_
  | with_reducible refine r_iL ?_
  | ((with_reducible refine' r_lenL ?rdh ?_); (case rdh => walk_at "sq"))
  | ((with_reducible refine' r_ixL ?rdh ?rda ?_); (case rdh => walk_at "sq"); (case rda => walk_at "at"))
  | ((with_reducible refine' r_ixT ?rdh ?rda ?_); (case rdh => walk_at "sq"); (case rda => walk_at "at")))
local macro_rules | `(tactic| walk_at "sq") => `(tactic| first
  | assumption
  | exact SqL.of (by assumption)
  | exact SqL.of upd_same
  | exact SqT.of (by assumption)
  | exact SqT.of upd_same)
local macro_rules | `(tactic| walk_at "sml") => `(tactic| (rw [sizeLine_eq]; simp))
local macro_rules | `(tactic| walk_at "at") => `(tactic| first | assumption | rfl)
local macro_rules | `(tactic| walk_at "rd") => `(tactic| repeat walk_at "rd1")
section
variable {w : World} {P : Program} {base : Heap} {K : PySem.W.Frag} {mg : Str → Option Value}
def topS (i : Nat) : Stmt := PySem.Challenge.pw_heapgame_k61_recovery_from_a_cut.main.body.getD i (.Pass ⟨0, 0, 0, 0⟩)
abbrev s_law_cell : Stmt := topS 13
theorem sc_law_cell : FnScope ["script", "k"] ["script", "k"] (defScope s_law_cell) := ⟨rfl, rfl, rfl, by decide +kernel, rfl, by decide +kernel, by decide +kernel⟩
abbrev s_law_row : Stmt := topS 14
theorem sc_law_row : FnScope ["cell", "k", "many", "row", "turn", "seed"] ["cell", "k", "many"] (defScope s_law_row) := ⟨rfl, rfl, rfl, by decide +kernel, rfl, by decide +kernel, by decide +kernel⟩
abbrev s_law_box : Stmt := topS 15
theorem sc_law_box : FnScope ["script", "first", "last", "row", "k"] ["script", "first", "last"] (defScope s_law_box) := ⟨rfl, rfl, rfl, by decide +kernel, rfl, by decide +kernel, by decide +kernel⟩
abbrev s_law_draw : Stmt := topS 16
theorem sc_law_draw : FnScope ["box", "many", "at"] ["box", "many"] (defScope s_law_draw) := ⟨rfl, rfl, rfl, by decide +kernel, rfl, by decide +kernel, by decide +kernel⟩
abbrev s_law_same : Stmt := topS 17
theorem sc_law_same : FnScope ["one", "other"] ["one", "other"] (defScope s_law_same) := ⟨rfl, rfl, rfl, by decide +kernel, rfl, by decide +kernel, by decide +kernel⟩
abbrev s_law_value : Stmt := topS 18
theorem sc_law_value : FnScope ["box", "most", "kind"] ["box", "most"] (defScope s_law_value) := ⟨rfl, rfl, rfl, by decide +kernel, rfl, by decide +kernel, by decide +kernel⟩
abbrev s_law_deed : Stmt := topS 19
theorem sc_law_deed : FnScope ["box", "most", "kind", "number"] ["box", "most"] (defScope s_law_deed) := ⟨rfl, rfl, rfl, by decide +kernel, rfl, by decide +kernel, by decide +kernel⟩
abbrev s_law_octets : Stmt := topS 20
theorem sc_law_octets : FnScope ["event", "words", "body", "numbers", "tail", "value", "number"] ["event"] (defScope s_law_octets) := ⟨rfl, rfl, rfl, by decide +kernel, rfl, by decide +kernel, by decide +kernel⟩
abbrev s_number_at : Stmt := topS 11
theorem sc_number_at : FnScope ["octets", "place"] ["octets", "place"] (defScope s_number_at) := ⟨rfl, rfl, rfl, by decide +kernel, rfl, by decide +kernel, by decide +kernel⟩
abbrev s_event_read : Stmt := topS 9
theorem sc_event_read : FnScope ["body", "word", "end", "numbers", "place", "kind", "value"] ["body"] (defScope s_event_read) := ⟨rfl, rfl, rfl, by decide +kernel, rfl, by decide +kernel, by decide +kernel⟩
abbrev s_recovered : Stmt := topS 10
theorem sc_recovered : FnScope ["octets", "changes", "taken", "end", "event"] ["octets"] (defScope s_recovered) := ⟨rfl, rfl, rfl, by decide +kernel, rfl, by decide +kernel, by decide +kernel⟩
abbrev s_law : Stmt := topS 21
theorem sc_law : FnScope ["script", "box", "events", "turn", "ends", "octets", "event", "cut", "many", "end", "spoilt", "at", "told", "whole", "before"] ["script"] (defScope s_law) := ⟨rfl, rfl, rfl, by decide +kernel, rfl, by decide +kernel, by decide +kernel⟩
structure Txt (mg : Str → Option Value) : Prop where
  END : ∃ t, mg "END" = some (.int 170 t)
  INTEGER : ∃ t, mg "INTEGER" = some (.int 1 t)
  NOTHING : ∃ t, mg "NOTHING" = some (.int 0 t)
  OBJECT : ∃ t, mg "OBJECT" = some (.str "object" t)
  REFERENCE : ∃ t, mg "REFERENCE" = some (.int 2 t)
  WRITE : ∃ t, mg "WRITE" = some (.str "write" t)
  int : mg "int" = none
  isinstance : mg "isinstance" = none
  len : mg "len" = none
  list : mg "list" = none
  range : mg "range" = none
  repr : mg "repr" = none
  tuple : mg "tuple" = none
def sp_cell (K : PySem.W.Frag) : Sp := fun vs H Q _ => ∃ (a : Addr) (ns : List Int) (k : Nat), vs = [.ref a, .int k] ∧ SqL K H a (ns.map V.int) ∧ ∀ c, Q (.int c) H
theorem mk_law_cell {f : Addr} {fd : FuncData} (T : Txt mg) (F : Fun K "_law_cell" "_law_cell" s_law_cell f fd) (m : mg "_law_cell" = some (.ref f)) (b : Binds K fd ["script", "k"] []) :
    Cal P w K mg base "_law_cell" 1 f fd ["script", "k"] (sp_cell K) := by
  refine ⟨F.ok sc_law_cell (fun vs H Q E h => ?_) (fun cdv A outer s H vs Q E hr h => ?_), m, F.kp, b⟩
  · rcases h with ⟨a, ns, k, rfl, _⟩
    rfl
  obtain ⟨a, ns, k, rfl, hS, q⟩ := h
  refine ⟨_, (pss_cons (ps_if (pt_cmpR op_lt (pv 1) (pe_callB (show CallR _ _ (fun xs H Q => ∃ p ys, xs = [V.ref p] ∧ (SqL K H p ys ∨ SqT K H p ys) ∧ Q (.int ys.length) H) from call_len_seq) (by rfl) T.len PySem.boot_len (pa_cons (pv 0) pa_nil)) (nomark _))
      (pss_one (ps_ret (pe_ix (show IxR _ (rIxL K) from ix_list) (pv 0) (pv 1) (fun _ _ => rfl))))
      pss_nil) (pss_one (ps_ret pe_int))), ?_⟩
  try dsimp only [cxOf, Cx.nox, Cx.wish]
  rw [show start ["script", "k"] [V.ref a, V.int k] = [some (V.ref a), some (V.int k)] from rfl]
  refine r_seq ?_
  walk_at "rd"
  refine r_ite (fun c => ?_) (fun c => ?_)
  · rw [List.length_map] at c
    walk_at "rd"
    refine r_ixL hS (at_int (by omega) (by omega)) ?_
    exact q _
  · walk_at "rd"
    exact q _
theorem mk_law_row {f : Addr} {fd : FuncData} (T : Txt mg) (F : Fun K "_law_row" "_law_row" s_law_row f fd) (m : mg "_law_row" = some (.ref f)) (b : Binds K fd ["cell", "k", "many"] []) :
    Cal P w K mg base "_law_row" 1 f fd ["cell", "k", "many"] sp_row := by
  refine ⟨F.ok sc_law_row (fun vs H Q E h => ?_) (fun cdv A outer s H vs Q E hr h => ?_), m, F.kp, b⟩
  · obtain ⟨c, k, m, rfl, _⟩ := h
    rfl
  obtain ⟨c, k, m, rfl, m0, m1, q⟩ := h
  refine ⟨_, (pss_cons (ps_set (i := 3) sc_law_row.nd rfl (Or.inl rfl) (pe_lst pa_nil)) (pss_cons (ps_if (pt_cmpR op_lt (pv 0) pe_int (nomark _))
      (pss_one (ps_set (i := 0) sc_law_row.nd rfl (Or.inl rfl) (pe_op op_sub pe_int (pe_op op_mul pe_int (pv 0)))))
      pss_nil) (pss_cons (ps_if (pt_cmpR op_ge (pv 0) (pe_op op_pow pe_int pe_int) (nomark _))
      (pss_cons (ps_for PassesOwn.never rfl (pi_range1 rfl T.range (pa_cons pe_int pa_nil)) (pg_name (i := 4) sc_law_row.nd rfl (Or.inl rfl))
      (pss_one (ps_if (PW.pt (pw_and (pt_cmpR op_gt (pv 0) pe_int (nomark _)) (pw_and1 (pt_cmpR op_lt (pe_callB (show CallR _ _ (fun xs H Q => ∃ p ys, xs = [V.ref p] ∧ (SqL K H p ys ∨ SqT K H p ys) ∧ Q (.int ys.length) H) from call_len_seq) (by rfl) T.len PySem.boot_len (pa_cons (pv 3) pa_nil)) (pv 2) (nomark _)))))
      (pss_cons (ps_expr (pe_bm PySem.F.plainAttrs_list PySem.F.slot_list_append PySem.F.type_list_append mt_append (pv 3) (pa_cons (pe_op op_mod (pe_callTy call_int1 (by rfl) T.int (by decide +kernel) (pa_cons (pv 0) pa_nil)) pe_int) pa_nil))) (pss_one (ps_set (i := 0) sc_law_row.nd rfl (Or.inl rfl) (pe_op op_fdiv (pv 0) pe_int))))
      pss_nil))) (pss_one (ps_ret (pv 3))))
      pss_nil) (pss_cons (ps_set (i := 5) sc_law_row.nd rfl (Or.inl rfl) (pe_op op_mod (pe_callTy call_int1 (by rfl) T.int (by decide +kernel) (pa_cons (pe_op op_add (pe_op op_add (pe_op op_mul (pv 0) pe_int) (pe_op op_mul (pv 1) pe_int)) pe_int) pa_nil)) pe_int)) (pss_cons (ps_for PassesOwn.never rfl (pi_range1 rfl T.range (pa_cons (pv 2) pa_nil)) (pg_name (i := 4) sc_law_row.nd rfl (Or.inl rfl))
      (pss_cons (ps_set (i := 5) sc_law_row.nd rfl (Or.inl rfl) (pe_op op_mod (pe_callTy call_int1 (by rfl) T.int (by decide +kernel) (pa_cons (pe_op op_add (pe_op op_add (pe_op op_mul (pv 5) pe_int) (pe_op op_mul pe_int (pv 4))) pe_int) pa_nil)) pe_int)) (pss_one (ps_expr (pe_bm PySem.F.plainAttrs_list PySem.F.slot_list_append PySem.F.type_list_append mt_append (pv 3) (pa_cons (pe_op op_mod (pe_callTy call_int1 (by rfl) T.int (by decide +kernel) (pa_cons (pe_op op_fdiv (pv 5) pe_int) pa_nil)) pe_int) pa_nil)))))) (pss_one (ps_ret (pv 3)))))))), ?_⟩
  try dsimp only [cxOf, Cx.nox, Cx.wish]
  rw [show start ["cell", "k", "many", "row", "turn", "seed"] [V.int c, V.int k, V.int m] = [some (V.int c), some (V.int k), some (V.int m), none, none, none] from rfl]
  walk_at "rd"
  refine ⟨by decide, fun p np => ?_⟩
  walk_at "rd"
  refine r_seqG fun R hR => ?_
  have key : ∀ c2 : Int, R [some (.int c2), some (.int k), some (.int m), some (.ref p), none, none] (upd H p (.lst [])) := by
    intro c2
    refine hR _ _ ?_
    refine r_seq ?_
    walk_at "rd"
    refine r_ite (fun c => ?_) (fun c => ?_)
    · walk_at "rd"
      refine ⟨by decide, by decide, ?_⟩
      refine for_range (lo := 0) (n := 60) (fun j σ H' => ∃ (y4 y5 : Option V) (es : List Int) (c3 : Int), σ = [some (.int c3), some (.int k), some (.int m), some (.ref p), y4, y5] ∧ Same H H' ∧ H' p = some (.lst (es.map V.int)) ∧ es.length ≤ j)
        ⟨none, none, [], c2, rfl, same_upd np, upd_same, by simp⟩ ?_ ?_
      · rintro j σ H2 hj ⟨y4, y5, es, c3, rfl, s2, hp2, he⟩
        walk_at "rd"
        refine r_ite (fun c => ?_) (fun c => ?_)
        · walk_at "rd"
          refine r_ite (fun c => ?_) (fun c => ?_)
          · walk_at "rd"
            refine ⟨ty_lst hp2, ?_⟩
            walk_at "rd"
            refine r_app hp2 (by rw [List.length_map, sizeLine_eq]; omega) fun H3 hp3 u3 => ?_
            walk_at "rd"
            exact ⟨_, _, es ++ [c3 % 1000], _, rfl, u3.new np s2, by rw [hp3, List.map_append]; rfl, by rw [List.length_append]; simp; omega⟩
          · walk_at "rd"
            exact ⟨_, _, es, c3, rfl, s2, hp2, by omega⟩
        · walk_at "rd"
          exact ⟨_, _, es, c3, rfl, s2, hp2, by omega⟩
      · rintro σ H2 ⟨y4, y5, es, c3, rfl, s2, hp2, he⟩
        walk_at "rd"
        exact q p es H2 np s2 hp2 (by omega)
    · walk_at "rd"
      refine ⟨by omega, by omega, ?_⟩
      refine for_range (lo := 0) (n := m.toNat) (fun j σ H' => ∃ (y4 : Option V) (es : List Int) (c3 : Int), σ = [some (.int c2), some (.int k), some (.int m), some (.ref p), y4, some (.int c3)] ∧ Same H H' ∧ H' p = some (.lst (es.map V.int)) ∧ es.length ≤ j)
        ⟨none, [], _, rfl, same_upd np, upd_same, by simp⟩ ?_ ?_
      · rintro j σ H2 hj ⟨y4, es, c3, rfl, s2, hp2, he⟩
        walk_at "rd"
        refine ⟨ty_lst hp2, ?_⟩
        walk_at "rd"
        refine r_app hp2 (by rw [List.length_map, sizeLine_eq]; omega) fun H3 hp3 u3 => ?_
        walk_at "rd"
        exact ⟨_, es ++ [_], _, rfl, u3.new np s2, by rw [hp3, List.map_append]; rfl, by rw [List.length_append]; simp; omega⟩
      · rintro σ H2 ⟨y4, es, c3, rfl, s2, hp2, he⟩
        walk_at "rd"
        exact q p es H2 np s2 hp2 (by omega)
  walk_at "rd"
  refine r_ite (fun c => ?_) (fun c => ?_)
  · walk_at "rd"
    exact key _
  · walk_at "rd"
    exact key _
theorem mk_law_box {f f1 f2 : Addr} {fd fd1 fd2 : FuncData} (T : Txt mg) (F : Fun K "_law_box" "_law_box" s_law_box f fd) (m : mg "_law_box" = some (.ref f)) (b : Binds K fd ["script", "first", "last"] [])
    (C_law_cell : Cal P w K mg base "_law_cell" 1 f1 fd1 ["script", "k"] (sp_cell K)) (C_law_row : Cal P w K mg base "_law_row" 1 f2 fd2 ["cell", "k", "many"] sp_row) :
    Cal P w K mg base "_law_box" 2 f fd ["script", "first", "last"] (sp_box K) := by
  refine ⟨F.ok sc_law_box (fun vs H Q E h => ?_) (fun cdv A outer s H vs Q E hr h => ?_), m, F.kp, b⟩
  · obtain ⟨a, ns, f, l, rfl, _⟩ := h
    rfl
  obtain ⟨a, ns, f, l, rfl, hS, hfl, hl, q⟩ := h
  refine ⟨_, (pss_cons (ps_set (i := 3) sc_law_box.nd rfl (Or.inl rfl) (pe_lst pa_nil)) (pss_cons (ps_for PassesOwn.never rfl (pi_range2 rfl T.range (pa_cons (pv 1) (pa_cons (pv 2) pa_nil))) (pg_name (i := 4) sc_law_box.nd rfl (Or.inl rfl))
      (pss_one (ps_set (i := 3) sc_law_box.nd rfl (Or.inl rfl) (pe_op op_cat (pv 3) (pe_call C_law_row.ok (hr.mono (by first | decide | omega)) rfl C_law_row.mg C_law_row.kp C_law_row.b .nil pass0 (pa_cons (pe_call C_law_cell.ok (hr.mono (by first | decide | omega)) rfl C_law_cell.mg C_law_cell.kp C_law_cell.b .nil pass0 (pa_cons (pv 0) (pa_cons (pv 4) pa_nil))) (pa_cons (pv 4) (pa_cons pe_int pa_nil)))))))) (pss_one (ps_ret (pe_lst (pa_cons (pv 3) (pa_cons pe_int pa_nil))))))), ?_⟩
  try dsimp only [cxOf, Cx.nox, Cx.wish]
  rw [show start ["script", "first", "last", "row", "k"] [V.ref a, V.int f, V.int l] = [some (V.ref a), some (V.int f), some (V.int l), none, none] from rfl]
  walk_at "rd"
  refine ⟨by decide, fun p np => ?_⟩
  walk_at "rd"
  refine ⟨by omega, ?_⟩
  refine for_range (lo := (f : Int)) (n := ((l : Int) - f).toNat) (fun i σ H' => ∃ (x4 : Option V) (p : Addr) (ds : List Int), σ = [some (.ref a), some (.int f), some (.int l), some (.ref p), x4] ∧ Same H H' ∧ H p = none ∧ H' p = some (.lst (ds.map V.int)) ∧ ds.length ≤ 1000 * i)
    ⟨none, p, [], rfl, same_upd np, np, upd_same, by simp⟩ ?_ ?_
  · rintro i σ H1 hi ⟨x4, p1, ds, rfl, s1, np1, hp, hd⟩
    walk_at "rd"
    refine ⟨a, ns, f + i, by simp, s1.seq hS, fun c => ?_⟩
    walk_at "rd"
    refine ⟨c, f + i, 12, rfl, by decide, by decide, fun p2 es H2 np2 s2 hp2 he => ?_⟩
    have hp12 := s2 _ _ hp
    walk_at "rd"
    refine r_cat hp12 hp2 (by rw [List.length_map, List.length_map, sizeLine_eq]; omega) fun p3 np3 => ?_
    walk_at "rd"
    have np3' : H p3 = none := by
      cases e : H p3 with
      | none => rfl
      | some o => rw [s2 _ _ (s1 _ _ e)] at np3; cases np3
    refine ⟨_, p3, ds ++ es, rfl, fun b o e => same_upd np3 b o (s2 b o (s1 b o e)), np3', by rw [upd_same, List.map_append], by rw [List.length_append]; omega⟩
  · rintro σ H1 ⟨x4, p1, ds, rfl, s1, np1, hp, hd⟩
    walk_at "rd"
    refine ⟨by walk_at "sml", fun b nb => ?_⟩
    refine q b p1 ds _ ?_ np1 (fun z => by rw [z, nb] at hp; cases hp) (fun x o e => same_upd nb x o (s1 x o e)) upd_same ?_
    · cases e : H b with
      | none => rfl
      | some o => rw [s1 _ _ e] at nb; cases nb
    · rw [upd_ne (fun z => by rw [z, nb] at hp; cases hp)]
      exact hp
theorem mk_law_draw {f : Addr} {fd : FuncData} (T : Txt mg) (F : Fun K "_law_draw" "_law_draw" s_law_draw f fd) (m : mg "_law_draw" = some (.ref f)) (b : Binds K fd ["box", "many"] []) :
    Cal P w K mg base "_law_draw" 1 f fd ["box", "many"] (spB (fun bx (i : Int × Unit) => drawG bx i.1)) := by
  refine ⟨F.ok sc_law_draw (fun vs H Q E h => ?_) (fun cdv A outer s H vs Q E hr h => ?_), m, F.kp, b⟩
  · obtain ⟨ms, b, us, bx0, bx', ⟨i, ⟨⟩⟩, r, rfl, _, _, _, ⟨v, _, rfl, f1, e0⟩, _⟩ := h
    cases e0
    rfl
  obtain ⟨ms, b, us, ⟨ds, k⟩, ⟨ds', k'⟩, ⟨i, ⟨⟩⟩, r, rfl, hbm, al, ⟨d, hb, nd, ndm, hd⟩, ⟨v, _, rfl, f1, e0⟩, hm, Q⟩ := h
  cases e0
  obtain rfl : v = V.int i := f1
  have hm : drawG (ds, k) i = some (r, (ds', k')) := hm
  unfold drawG at hm
  split at hm
  case isFalse => cases hm
  rename_i hi
  obtain ⟨e1, e2⟩ := Prod.mk.inj (Option.some.inj hm)
  obtain ⟨e3, e4⟩ := Prod.mk.inj e2
  subst e1 e3 e4
  dsimp only at hb hd
  refine ⟨_, (pss_cons (ps_set (i := 2) sc_law_draw.nd rfl (Or.inl rfl) (pe_ix (show IxR _ (rIxL K) from ix_list) (pv 0) pe_int (fun _ _ => rfl))) (pss_cons (ps_asg (pe_op op_add (pv 2) pe_int) (pg_sub (pv 0) pe_int set_list)) (pss_cons (ps_if (pt_cmpR op_lt (pv 2) (pe_callB (show CallR _ _ (fun xs H Q => ∃ p ys, xs = [V.ref p] ∧ (SqL K H p ys ∨ SqT K H p ys) ∧ Q (.int ys.length) H) from call_len_seq) (by rfl) T.len PySem.boot_len (pa_cons (pe_ix (show IxR _ (rIxL K) from ix_list) (pv 0) pe_int (fun _ _ => rfl)) pa_nil)) (nomark _))
      (pss_one (ps_ret (pe_op op_mod (pe_callTy call_int1 (by rfl) T.int (by decide +kernel) (pa_cons (pe_ix (show IxR _ (rIxL K) from ix_list) (pe_ix (show IxR _ (rIxL K) from ix_list) (pv 0) pe_int (fun _ _ => rfl)) (pv 2) (fun _ _ => rfl)) pa_nil)) (pv 1))))
      pss_nil) (pss_one (ps_ret (pe_op op_mod (pe_callTy call_int1 (by rfl) T.int (by decide +kernel) (pa_cons (pe_op op_add (pe_op op_mul (pv 2) pe_int) pe_int) pa_nil)) (pv 1))))))), ?_⟩
  try dsimp only [cxOf, Cx.nox, Cx.wish]
  rw [show start ["box", "many", "at"] [V.ref b, V.int i] = [some (V.ref b), some (V.int i), none] from rfl]
  walk_at "rd"
  refine r_setL hb (j := 1) rfl fun H1 hb1 u1 => ?_
  have hd1 := u1 _ _ nd hd
  have al1 := al.but u1 hb1
  have bu : Bu [b] H H1 := ⟨fun a o n e => u1 a o (fun z => n (by rw [z]; exact List.mem_cons_self)) e, fun a e => by
    by_cases q : a = b
    · rw [q, hb1]; exact fun z => by cases z
    · cases h' : H a with
      | none => exact absurd h' e
      | some o' => rw [u1 a o' q h']; exact fun z => by cases z⟩
  have hq1 : Bxs b (ds, k + 1) ms H1 := ⟨d, hb1, nd, ndm, hd1⟩
  refine r_seq ?_
  walk_at "rd"
  refine r_ite (fun c => ?_) (fun c => ?_)
  · rw [List.length_map] at c
    walk_at "rd"
    refine r_ixL (SqL.of hd1) (at_int (by omega) (by omega)) ?_
    walk_at "rd"
    refine Q _ _ bu hq1 ?_
    rw [if_pos (by dsimp only; omega)]
    rfl
  · walk_at "rd"
    refine Q _ _ bu hq1 ?_
    rw [List.length_map] at c
    rw [if_neg (by dsimp only; omega)]
    rfl
end
end Pf

namespace Pf
open PySem L2
local macro_rules | `(tactic| walk_at "rd1") => `(tactic| first
  | with_reducible refine r_seqA ?_
  | with_reducible refine r_seqD ?_
  | with_reducible refine r_seqF ?_
  | with_reducible refine r_seqN ?_
  | with_reducible refine r_asg ?_
  | with_reducible refine r_drop ?_
  | with_reducible refine r_ret ?_
  | with_reducible refine r_ifS ?_
  | ((with_reducible refine r_next ?_); try dsimp only)
  | ((with_reducible refine r_name ?_); try dsimp only [List.set_cons_succ, List.set_cons_zero, wipe])
  | ((with_reducible refine' r_var ?rdh ?_); (case rdh => rfl))
  | with_reducible refine r_c ?_
  | with_reducible refine r_op ?_
  | with_reducible refine r_un ?_
  | with_reducible refine r_I0 ?_
  | ((with_reducible refine r_I ?_ ?_); (· first | decide | exact Or.inl (by decide) | exact Or.inr (by decide) | (show _ ∧ _; constructor <;> decide) | (show (0:Int) < _; omega) | (show CDiv _ _; unfold CDiv; omega) ))
  | with_reducible refine r_U ?_
  | with_reducible refine r_eqI ?_
  | with_reducible refine r_neI ?_
  | with_reducible refine r_eqB ?_
  | with_reducible refine r_neB ?_
  | with_reducible refine r_test ?_
  | with_reducible refine r_B ?_
  | with_reducible refine r_bl ?_
  | with_reducible refine r_bl2 ?_
  | with_reducible refine r_yes ?_
  | with_reducible refine r_wipe (by rfl) ?_
  | with_reducible refine r_rfl ?_
  | ((with_reducible refine' r_eqA ?rdh ?_); (case rdh => rfl))
  | with_reducible refine r_and ?_
  | with_reducible refine r_or ?_
  | with_reducible refine r_not ?_
  | with_reducible refine r_andV ?_
  | with_reducible refine r_orV ?_
  | with_reducible refine r_notV ?_
  | with_reducible refine r_ifE ?_
  | with_reducible refine r_nil ?_
  | with_reducible refine r_cons ?_
  | with_reducible refine r_tup ?_
  | with_reducible refine r_lst ?_
  | with_reducible refine r_CB ?_
  | with_reducible refine r_call ?_
  | with_reducible refine r_bm ?_
  | with_reducible refine r_bm0 ?_
  | with_reducible refine r_int ?_
  | with_reducible refine r_i2 ?_
  | with_reducible refine r_i1 ?_
  | with_reducible refine r_gcons ?_
  | with_reducible refine r_gnil ?_
  | with_reducible refine r_gsub ?_
  | with_reducible refine iteT ?_
  | with_reducible refine iteF ?_
  | with_reducible refine ite_notT ?_
  | with_reducible refine ite_notF ?_
  | with_reducible refine r_isi_ib ?_
  | with_reducible refine r_isi_ii ?_
  | with_reducible refine r_isi_bb ?_
  | with_reducible refine r_isi_nb ?_
  | with_reducible refine r_isi_nt ?_
  | ((with_reducible refine' r_isi_ll ?rdh ?_); (case rdh => first | assumption | exact upd_same))
  | ((with_reducible refine' r_isi_tt ?rdh ?_); (case rdh => first | assumption | exact upd_same))
  | with_reducible refine r_sl ?_
  | with_reducible refine r_noPart ?_
  | with_reducible refine r_part ?_
  | with_reducible refine r_int1 ?_
  | with_reducible refine r_tru ?_
  | with_reducible refine r_ckw ?_
  | with_reducible refine r_lc ?_
  | with_reducible refine r_lc2 ?_
  | with_reducible refine r_forS ?_
  | with_reducible refine r_iR1 ?_
  | with_reducible refine r_iR2 ?_
  | with_reducible refine r_iL ?_
  | ((with_reducible refine' r_lenL ?rdh ?_); (case rdh => walk_at "sq"))
  | ((with_reducible refine' r_ixL ?rdh ?rda ?_); (case rdh => walk_at "sq"); (case rda => walk_at "at"))
  | ((with_reducible refine' r_ixT ?rdh ?rda ?_); (case rdh => walk_at "sq"); (case rda => walk_at "at")))
local macro_rules | `(tactic| walk_at "sq") => `(tactic| first
  | assumption
  | exact SqL.of (by assumption)
  | exact SqL.of upd_same
  | exact SqT.of (by assumption)
  | exact SqT.of upd_same)
local macro_rules | `(tactic| walk_at "sml") => `(tactic| (rw [sizeLine_eq]; simp))
local macro_rules | `(tactic| walk_at "at") => `(tactic| first | assumption | rfl)
local macro_rules | `(tactic| walk_at "rd") => `(tactic| repeat walk_at "rd1")
section
variable {w : World} {P : Program} {base : Heap} {K : PySem.W.Frag} {mg : Str → Option Value}
theorem mk_law_same {f : Addr} {fd : FuncData} (T : Txt mg) (F : Fun K "_law_same" "_law_same" s_law_same f fd) (m : mg "_law_same" = some (.ref f)) (b : Binds K fd ["one", "other"] []) :
    CalG P w K mg base "_law_same" 1 f fd ["one", "other"] (sp_same K) := by
  refine ⟨fnG_of F sc_law_same (fun vs H Q E h => ?_) (fun cdv A outer s H vs Q E hgd hr h => ?_), m, F.kp, b⟩
  · obtain ⟨u, v, d, rfl, _⟩ := h
    rfl
  obtain ⟨u, v, d, rfl, r1, r2, nod, sh, sz, dep, q⟩ := h
  refine ⟨_, (pss_one (ps_ret (pe_cmpR op_eq (pe_callB (show CallR _ _ (rRepr K) from cr_repr hgd (room66 hr)) (by rfl) T.repr (by decide +kernel) (pa_cons (pv 0) pa_nil)) (pe_callB (show CallR _ _ (rRepr K) from cr_repr hgd (room66 hr)) (by rfl) T.repr (by decide +kernel) (pa_cons (pv 1) pa_nil)) (nomark _)))), ?_⟩
  try dsimp only [cxOf, Cx.nox, Cx.wish]
  rw [show start ["one", "other"] [u, v] = [some (u), some (v)] from rfl]
  walk_at "rd"
  refine ⟨u, d, rfl, r1, nod, sh, sz, dep, ?_⟩
  walk_at "rd"
  refine ⟨v, d, rfl, r2, nod, sh, sz, dep, ?_⟩
  refine ⟨rfl, ?_⟩
  rw [decide_eq_true rfl]
  exact q
end
end Pf

namespace Pf
open PySem L2
local macro_rules | `(tactic| walk_at "rd1") => `(tactic| first
  | with_reducible refine r_seqA ?_
  | with_reducible refine r_seqD ?_
  | with_reducible refine r_seqF ?_
  | with_reducible refine r_seqN ?_
  | with_reducible refine r_asg ?_
  | with_reducible refine r_drop ?_
  | with_reducible refine r_ret ?_
  | with_reducible refine r_ifS ?_
  | ((with_reducible refine r_next ?_); try dsimp only)
  | ((with_reducible refine r_name ?_); try dsimp only [List.set_cons_succ, List.set_cons_zero, wipe])
  | ((with_reducible refine' r_var ?rdh ?_); (case rdh => rfl))
  | with_reducible refine r_c ?_
  | with_reducible refine r_op ?_
  | with_reducible refine r_un ?_
  | with_reducible refine r_I0 ?_
  | ((with_reducible refine r_I ?_ ?_); (· first | decide | exact Or.inl (by decide) | exact Or.inr (by decide) | (show _ ∧ _; constructor <;> decide) | (show (0:Int) < _; omega) | (show CDiv _ _; unfold CDiv; omega) ))
  | with_reducible refine r_U ?_
  | with_reducible refine r_eqI ?_
  | with_reducible refine r_neI ?_
  | with_reducible refine r_eqB ?_
  | with_reducible refine r_neB ?_
  | with_reducible refine r_test ?_
  | with_reducible refine r_B ?_
  | with_reducible refine r_bl ?_
  | with_reducible refine r_bl2 ?_
  | with_reducible refine r_yes ?_
  | with_reducible refine r_wipe (by rfl) ?_
  | with_reducible refine r_rfl ?_
  | ((with_reducible refine' r_eqA ?rdh ?_); (case rdh => rfl))
  | with_reducible refine r_and ?_
  | with_reducible refine r_or ?_
  | with_reducible refine r_not ?_
  | with_reducible refine r_andV ?_
  | with_reducible refine r_orV ?_
  | with_reducible refine r_notV ?_
  | with_reducible refine r_ifE ?_
  | with_reducible refine r_nil ?_
  | with_reducible refine r_cons ?_
  | with_reducible refine r_tup ?_
  | with_reducible refine r_lst ?_
  | with_reducible refine r_CB ?_
  | with_reducible refine r_call ?_
  | with_reducible refine r_bm ?_
  | with_reducible refine r_bm0 ?_
  | with_reducible refine r_int ?_
  | with_reducible refine r_i2 ?_
  | with_reducible refine r_i1 ?_
  | with_reducible refine r_gcons ?_
  | with_reducible refine r_gnil ?_
  | with_reducible refine r_gsub ?_
  | with_reducible refine iteT ?_
  | with_reducible refine iteF ?_
  | with_reducible refine ite_notT ?_
  | with_reducible refine ite_notF ?_
  | with_reducible refine r_isi_ib ?_
  | with_reducible refine r_isi_ii ?_
  | with_reducible refine r_isi_bb ?_
  | with_reducible refine r_isi_nb ?_
  | with_reducible refine r_isi_nt ?_
  | ((with_reducible refine' r_isi_ll ?rdh ?_); (case rdh => first | assumption | exact upd_same))
  | ((with_reducible refine' r_isi_tt ?rdh ?_); (case rdh => first | assumption | exact upd_same))
  | with_reducible refine r_sl ?_
  | with_reducible refine r_noPart ?_
  | with_reducible refine r_part ?_
  | with_reducible refine r_int1 ?_
  | with_reducible refine r_tru ?_
  | with_reducible refine r_ckw ?_
  | with_reducible refine r_lc ?_
  | with_reducible refine r_lc2 ?_
  | with_reducible refine r_forS ?_
  | with_reducible refine r_iR1 ?_
  | with_reducible refine r_iR2 ?_
  | with_reducible refine r_iL ?_
  | ((with_reducible refine' r_lenL ?rdh ?_); (case rdh => walk_at "sq"))
  | ((with_reducible refine' r_ixL ?rdh ?rda ?_); (case rdh => walk_at "sq"); (case rda => walk_at "at"))
  | ((with_reducible refine' r_ixT ?rdh ?rda ?_); (case rdh => walk_at "sq"); (case rda => walk_at "at")))
local macro_rules | `(tactic| walk_at "sq") => `(tactic| first
  | assumption
  | exact SqL.of (by assumption)
  | exact SqL.of upd_same
  | exact SqT.of (by assumption)
  | exact SqT.of upd_same)
local macro_rules | `(tactic| walk_at "sml") => `(tactic| (rw [sizeLine_eq]; simp))
local macro_rules | `(tactic| walk_at "at") => `(tactic| first | assumption | rfl)
local macro_rules | `(tactic| walk_at "rd") => `(tactic| repeat walk_at "rd1")
section
variable {w : World} {P : Program} {base : Heap} {K : PySem.W.Frag} {mg : Str → Option Value}
def law_valueM (bx0 : List Int × Nat) (p_most : Int) : Option (PyData × (List Int × Nat)) :=
  (drawG bx0 (4 : Int)).bind fun (t_1, bx_2) => bnd (t_1) fun kind_3 => if (decide (kind_3 = (0 : Int))) = true then (some (PyData.none, bx_2)) else (if (decide (kind_3 = (1 : Int))) = true then ((drawG bx_2 (1000 : Int)).bind fun (t_16, bx_17) => (mulF t_16 (65 : Int)).bind fun t_18 => (drawG bx_17 (600 : Int)).bind fun (t_19, bx_20) => some ((ToD.toD (t_18 + t_19)), bx_20)) else ((drawG bx_2 p_most).bind fun (t_22, bx_23) => some ((ToD.toD ((Str.ofString "object"), t_22)), bx_23)))
theorem mk_law_value {f f1 : Addr} {fd fd1 : FuncData} (T : Txt mg) (F : Fun K "_law_value" "_law_value" s_law_value f fd) (m : mg "_law_value" = some (.ref f)) (b : Binds K fd ["box", "most"] [])
    (C_law_draw : Cal P w K mg base "_law_draw" 1 f1 fd1 ["box", "many"] (spB (fun bx (i : Int × Unit) => drawG bx i.1))) :
    Cal P w K mg base "_law_value" 2 f fd ["box", "most"] (spB (fun bx (i : Int × Unit) => law_valueM bx i.1)) := by
  refine ⟨F.ok sc_law_value (fun vs H Q E h => ?_) (fun cdv A outer s H vs Q E hr h => ?_), m, F.kp, b⟩
  · obtain ⟨ms, b, us, bx0, bx', ⟨p_most, ⟨⟩⟩, r, rfl, _, _, _, ⟨v_p_most, _, rfl, f_p_most, e0⟩, _⟩ := h
    cases e0
    rfl
  obtain ⟨ms, b, us, bx0, bx', ⟨p_most, ⟨⟩⟩, r, rfl, hb, al, hq, ⟨v_p_most, _, rfl, f_p_most, e0⟩, hm, Q⟩ := h
  cases e0
  obtain rfl : v_p_most = V.int p_most := f_p_most
  refine ⟨_, (pss_cons (ps_set (i := 2) sc_law_value.nd rfl (Or.inl rfl) (pe_call C_law_draw.ok (hr.mono (by first | decide | omega)) rfl C_law_draw.mg C_law_draw.kp C_law_draw.b .nil pass0 (pa_cons (pv 0) (pa_cons pe_int pa_nil)))) (pss_cons (ps_if (pt_cmpR op_eq (pv 2) pe_int (nomark _))
      (pss_one (ps_ret pe_non))
      pss_nil) (pss_cons (ps_if (pt_cmpR op_eq (pv 2) pe_int (nomark _))
      (pss_one (ps_ret (pe_op op_add (pe_op op_mul (pe_call C_law_draw.ok (hr.mono (by first | decide | omega)) rfl C_law_draw.mg C_law_draw.kp C_law_draw.b .nil pass0 (pa_cons (pv 0) (pa_cons pe_int pa_nil))) pe_int) (pe_call C_law_draw.ok (hr.mono (by first | decide | omega)) rfl C_law_draw.mg C_law_draw.kp C_law_draw.b .nil pass0 (pa_cons (pv 0) (pa_cons pe_int pa_nil))))))
      pss_nil) (pss_one (ps_ret (pe_tup (pa_cons pe_str (pa_cons (pe_call C_law_draw.ok (hr.mono (by first | decide | omega)) rfl C_law_draw.mg C_law_draw.kp C_law_draw.b .nil pass0 (pa_cons (pv 0) (pa_cons (pv 1) pa_nil))) pa_nil)))))))), ?_⟩
  try dsimp only [cxOf, Cx.nox, Cx.wish]
  rw [show start ["box", "most", "kind"] [V.ref b, V.int p_most] = [some (V.ref b), some (V.int p_most), none] from rfl]
  have hB0 : ∀ a ∈ [b], a ∈ ms := fun a h => by rw [List.mem_singleton.mp h]; exact hb
  have W : Wd [b] ms H := ⟨hB0, al⟩
  have hm : law_valueM bx0 p_most = some (r, bx') := hm
  have u : Bu [b] H H := Bu.refl _ H
  unfold law_valueM at hm
  obtain ⟨⟨t_1, bx_2⟩, e_t_1, hm⟩ := bind_inv hm
  dsimp only at hm
  obtain ⟨kind_3, e_kind_3, hm⟩ := bnd_inv hm
  refine r_seqA ?_
  refine Ex.go W (ex_callB (i := ((4 : Int), ())) W (v := 0) rfl (ea_cons W (ex_int 4) ea_nil) e_t_1) hq fun v_5 H_4 bb hq W M rv => ?_
  rw [← e_kind_3] at rv
  have u := u.trans bb
  obtain rfl : v_5 = V.int kind_3 := rv
  refine (bnd_name : Bnd _ _ _ _ _) _ ?_
  dsimp only [List.set_cons_succ, List.set_cons_zero]
  refine r_seq ?_
  refine r_ifS ?_
  refine Et.go W (et_test (ex_eqI (ex_vi rfl) (ex_int 0))) hq fun H_6 bb hq W M => ?_
  have u := u.trans bb
  refine ite_by (fun hc => ?_) (fun hc => ?_)
  · have hm := (if_pos hc).symm.trans hm
    obtain ⟨hm1, hm2⟩ := Prod.mk.inj (Option.some.inj hm)
    subst hm1
    subst hm2
    refine r_ret' ?_
    refine Ex.go W (ex_nonD sb_bxs) hq fun v H_7 bb hq W M rv => ?_
    exact Q v _ (u.trans bb) (hq) (rv)
  · have hm := (if_neg hc).symm.trans hm
    refine r_next ?_
    try dsimp only
    refine r_seq ?_
    refine r_ifS ?_
    refine Et.go W (et_test (ex_eqI (ex_vi rfl) (ex_int 1))) hq fun H_8 bb hq W M => ?_
    have u := u.trans bb
    refine ite_by (fun hc => ?_) (fun hc => ?_)
    · have hm := (if_pos hc).symm.trans hm
      obtain ⟨⟨t_16, bx_17⟩, e_t_16, hm⟩ := bind_inv hm
      dsimp only at hm
      obtain ⟨t_18, e_t_18, hm⟩ := bind_inv hm
      obtain ⟨⟨t_19, bx_20⟩, e_t_19, hm⟩ := bind_inv hm
      dsimp only at hm
      obtain ⟨hm1, hm2⟩ := Prod.mk.inj (Option.some.inj hm)
      subst hm1
      subst hm2
      refine r_ret' ?_
      refine Ex.go W (ex_toD (ex_opI0 (z := (t_18 + t_19)) (fun _ _ => rfl) (ex_opI (z := t_18) (mulF_ok e_t_18).1 (fun _ _ => by rw [(mulF_ok e_t_18).2]; rfl) (ex_callB (i := ((1000 : Int), ())) W (v := 0) rfl (ea_cons W (ex_int 1000) ea_nil) e_t_16) (ex_int 65)) (ex_callB (i := ((600 : Int), ())) W (v := 0) rfl (ea_cons W (ex_int 600) ea_nil) e_t_19))) hq fun v H_21 bb hq W M rv => ?_
      exact Q v _ (u.trans bb) (hq) (rv)
    · have hm := (if_neg hc).symm.trans hm
      refine r_next ?_
      try dsimp only
      obtain ⟨⟨t_22, bx_23⟩, e_t_22, hm⟩ := bind_inv hm
      dsimp only at hm
      obtain ⟨hm1, hm2⟩ := Prod.mk.inj (Option.some.inj hm)
      subst hm1
      subst hm2
      refine r_ret' ?_
      refine Ex.go W (ex_toD (ex_tup2 W sb_bxs (u := ((Str.ofString "object"), t_22)) (ea_cons W (ex_str _) (ea_cons W (ex_callB (i := (p_most, ())) W (v := 0) rfl (ea_cons W (ex_vi rfl) ea_nil) e_t_22) ea_nil)))) hq fun v H_24 bb hq W M rv => ?_
      exact Q v _ (u.trans bb) (hq) (rv)
end
end Pf

namespace Pf
open PySem L2
local macro_rules | `(tactic| walk_at "rd1") => `(tactic| first
  | with_reducible refine r_seqA ?_
  | with_reducible refine r_seqD ?_
  | with_reducible refine r_seqF ?_
  | with_reducible refine r_seqN ?_
  | with_reducible refine r_asg ?_
  | with_reducible refine r_drop ?_
  | with_reducible refine r_ret ?_
  | with_reducible refine r_ifS ?_
  | ((with_reducible refine r_next ?_); try dsimp only)
  | ((with_reducible refine r_name ?_); try dsimp only [List.set_cons_succ, List.set_cons_zero, wipe])
  | ((with_reducible refine' r_var ?rdh ?_); (case rdh => rfl))
  | with_reducible refine r_c ?_
  | with_reducible refine r_op ?_
  | with_reducible refine r_un ?_
  | with_reducible refine r_I0 ?_
  | ((with_reducible refine r_I ?_ ?_); (· first | decide | exact Or.inl (by decide) | exact Or.inr (by decide) | (show _ ∧ _; constructor <;> decide) | (show (0:Int) < _; omega) | (show CDiv _ _; unfold CDiv; omega) ))
  | with_reducible refine r_U ?_
  | with_reducible refine r_eqI ?_
  | with_reducible refine r_neI ?_
  | with_reducible refine r_eqB ?_
  | with_reducible refine r_neB ?_
  | with_reducible refine r_test ?_
  | with_reducible refine r_B ?_
  | with_reducible refine r_bl ?_
  | with_reducible refine r_bl2 ?_
  | with_reducible refine r_yes ?_
  | with_reducible refine r_wipe (by rfl) ?_
  | with_reducible refine r_rfl ?_
  | ((with_reducible refine' r_eqA ?rdh ?_); (case rdh => rfl))
  | with_reducible refine r_and ?_
  | with_reducible refine r_or ?_
  | with_reducible refine r_not ?_
  | with_reducible refine r_andV ?_
  | with_reducible refine r_orV ?_
  | with_reducible refine r_notV ?_
  | with_reducible refine r_ifE ?_
  | with_reducible refine r_nil ?_
  | with_reducible refine r_cons ?_
  | with_reducible refine r_tup ?_
  | with_reducible refine r_lst ?_
  | with_reducible refine r_CB ?_
  | with_reducible refine r_call ?_
  | with_reducible refine r_bm ?_
  | with_reducible refine r_bm0 ?_
  | with_reducible refine r_int ?_
  | with_reducible refine r_i2 ?_
  | with_reducible refine r_i1 ?_
  | with_reducible refine r_gcons ?_
  | with_reducible refine r_gnil ?_
  | with_reducible refine r_gsub ?_
  | with_reducible refine iteT ?_
  | with_reducible refine iteF ?_
  | with_reducible refine ite_notT ?_
  | with_reducible refine ite_notF ?_
  | with_reducible refine r_isi_ib ?_
  | with_reducible refine r_isi_ii ?_
  | with_reducible refine r_isi_bb ?_
  | with_reducible refine r_isi_nb ?_
  | with_reducible refine r_isi_nt ?_
  | ((with_reducible refine' r_isi_ll ?rdh ?_); (case rdh => first | assumption | exact upd_same))
  | ((with_reducible refine' r_isi_tt ?rdh ?_); (case rdh => first | assumption | exact upd_same))
  | with_reducible refine r_sl ?_
  | with_reducible refine r_noPart ?_
  | with_reducible refine r_part ?_
  | with_reducible refine r_int1 ?_
  | with_reducible refine r_tru ?_
  | with_reducible refine r_ckw ?_
  | with_reducible refine r_lc ?_
  | with_reducible refine r_lc2 ?_
  | with_reducible refine r_forS ?_
  | with_reducible refine r_iR1 ?_
  | with_reducible refine r_iR2 ?_
  | with_reducible refine r_iL ?_
  | ((with_reducible refine' r_lenL ?rdh ?_); (case rdh => walk_at "sq"))
  | ((with_reducible refine' r_ixL ?rdh ?rda ?_); (case rdh => walk_at "sq"); (case rda => walk_at "at"))
  | ((with_reducible refine' r_ixT ?rdh ?rda ?_); (case rdh => walk_at "sq"); (case rda => walk_at "at")))
local macro_rules | `(tactic| walk_at "sq") => `(tactic| first
  | assumption
  | exact SqL.of (by assumption)
  | exact SqL.of upd_same
  | exact SqT.of (by assumption)
  | exact SqT.of upd_same)
local macro_rules | `(tactic| walk_at "sml") => `(tactic| (rw [sizeLine_eq]; simp))
local macro_rules | `(tactic| walk_at "at") => `(tactic| first | assumption | rfl)
local macro_rules | `(tactic| walk_at "rd") => `(tactic| repeat walk_at "rd1")
section
variable {w : World} {P : Program} {base : Heap} {K : PySem.W.Frag} {mg : Str → Option Value}
def law_deedM (bx0 : List Int × Nat) (p_most : Int) : Option ((VT PyData) × (List Int × Nat)) :=
  (drawG bx0 (16 : Int)).bind fun (t_25, bx_26) => bnd (t_25) fun kind_27 => (drawG bx_26 p_most).bind fun (t_30, bx_31) => bnd (t_30) fun number_32 => if (decide (kind_27 < (5 : Int))) = true then ((drawG bx_31 (3 : Int)).bind fun (t_36, bx_37) => (vtF (((ToD.toD (Str.ofString "allocate")) :: ((ToD.toD ((1 : Int) + t_36)) :: [])) : List PyData)).bind fun t_38 => some (t_38, bx_37)) else (if (decide (kind_27 < (9 : Int))) = true then ((drawG bx_31 (4 : Int)).bind fun (t_41, bx_42) => (law_valueM bx_42 p_most).bind fun (t_43, bx_44) => (vtF (((ToD.toD (Str.ofString "write")) :: ((ToD.toD number_32) :: ((ToD.toD t_41) :: (t_43 :: [])))) : List PyData)).bind fun t_45 => some (t_45, bx_44)) else (if (decide (kind_27 < (11 : Int))) = true then ((vtF (((ToD.toD (Str.ofString "addRoot")) :: ((ToD.toD number_32) :: [])) : List PyData)).bind fun t_48 => some (t_48, bx_31)) else ((vtF (((ToD.toD (Str.ofString "release")) :: ((ToD.toD number_32) :: [])) : List PyData)).bind fun t_50 => (vtF (((ToD.toD (Str.ofString "removeRoot")) :: ((ToD.toD number_32) :: [])) : List PyData)).bind fun t_51 => (vtF (((ToD.toD (Str.ofString "collect")) :: []) : List PyData)).bind fun t_52 => (vtF (((ToD.toD (Str.ofString "compact")) :: []) : List PyData)).bind fun t_53 => (drawG bx_31 (4 : Int)).bind fun (t_54, bx_55) => (vtF (((ToD.toD (Str.ofString "makeRoom")) :: ((ToD.toD ((1 : Int) + t_54)) :: [])) : List PyData)).bind fun t_56 => (vtF (((ToD.toD (Str.ofString "slide")) :: []) : List PyData)).bind fun t_57 => (drawG bx_55 (2 : Int)).bind fun (t_64, bx_65) => (atI [t_50, t_51, t_52, t_53, t_56, t_57] ((kind_27 + t_64) % (6 : Int))).bind fun t_66 => some (t_66, bx_65))))
theorem mk_law_deed {f f1 f2 : Addr} {fd fd1 fd2 : FuncData} (T : Txt mg) (F : Fun K "_law_deed" "_law_deed" s_law_deed f fd) (m : mg "_law_deed" = some (.ref f)) (b : Binds K fd ["box", "most"] [])
    (C_law_draw : Cal P w K mg base "_law_draw" 1 f1 fd1 ["box", "many"] (spB (fun bx (i : Int × Unit) => drawG bx i.1)))
    (C_law_value : Cal P w K mg base "_law_value" 2 f2 fd2 ["box", "most"] (spB (fun bx (i : Int × Unit) => law_valueM bx i.1))) :
    Cal P w K mg base "_law_deed" 3 f fd ["box", "most"] (spB (fun bx (i : Int × Unit) => law_deedM bx i.1)) := by
  refine ⟨F.ok sc_law_deed (fun vs H Q E h => ?_) (fun cdv A outer s H vs Q E hr h => ?_), m, F.kp, b⟩
  · obtain ⟨ms, b, us, bx0, bx', ⟨p_most, ⟨⟩⟩, r, rfl, _, _, _, ⟨v_p_most, _, rfl, f_p_most, e0⟩, _⟩ := h
    cases e0
    rfl
  obtain ⟨ms, b, us, bx0, bx', ⟨p_most, ⟨⟩⟩, r, rfl, hb, al, hq, ⟨v_p_most, _, rfl, f_p_most, e0⟩, hm, Q⟩ := h
  cases e0
  obtain rfl : v_p_most = V.int p_most := f_p_most
  refine ⟨_, (pss_cons (ps_set (i := 2) sc_law_deed.nd rfl (Or.inl rfl) (pe_call C_law_draw.ok (hr.mono (by first | decide | omega)) rfl C_law_draw.mg C_law_draw.kp C_law_draw.b .nil pass0 (pa_cons (pv 0) (pa_cons pe_int pa_nil)))) (pss_cons (ps_set (i := 3) sc_law_deed.nd rfl (Or.inl rfl) (pe_call C_law_draw.ok (hr.mono (by first | decide | omega)) rfl C_law_draw.mg C_law_draw.kp C_law_draw.b .nil pass0 (pa_cons (pv 0) (pa_cons (pv 1) pa_nil)))) (pss_cons (ps_if (pt_cmpR op_lt (pv 2) pe_int (nomark _))
      (pss_one (ps_ret (pe_tup (pa_cons pe_str (pa_cons (pe_op op_add pe_int (pe_call C_law_draw.ok (hr.mono (by first | decide | omega)) rfl C_law_draw.mg C_law_draw.kp C_law_draw.b .nil pass0 (pa_cons (pv 0) (pa_cons pe_int pa_nil)))) pa_nil)))))
      pss_nil) (pss_cons (ps_if (pt_cmpR op_lt (pv 2) pe_int (nomark _))
      (pss_one (ps_ret (pe_tup (pa_cons pe_str (pa_cons (pv 3) (pa_cons (pe_call C_law_draw.ok (hr.mono (by first | decide | omega)) rfl C_law_draw.mg C_law_draw.kp C_law_draw.b .nil pass0 (pa_cons (pv 0) (pa_cons pe_int pa_nil))) (pa_cons (pe_call C_law_value.ok (hr.mono (by first | decide | omega)) rfl C_law_value.mg C_law_value.kp C_law_value.b .nil pass0 (pa_cons (pv 0) (pa_cons (pv 1) pa_nil))) pa_nil)))))))
      pss_nil) (pss_cons (ps_if (pt_cmpR op_lt (pv 2) pe_int (nomark _))
      (pss_one (ps_ret (pe_tup (pa_cons pe_str (pa_cons (pv 3) pa_nil)))))
      pss_nil) (pss_one (ps_ret (pe_ix (show IxR _ (rIxL K) from ix_list) (pe_lst (pa_cons (pe_tup (pa_cons pe_str (pa_cons (pv 3) pa_nil))) (pa_cons (pe_tup (pa_cons pe_str (pa_cons (pv 3) pa_nil))) (pa_cons (pe_tup (pa_cons pe_str pa_nil)) (pa_cons (pe_tup (pa_cons pe_str pa_nil)) (pa_cons (pe_tup (pa_cons pe_str (pa_cons (pe_op op_add pe_int (pe_call C_law_draw.ok (hr.mono (by first | decide | omega)) rfl C_law_draw.mg C_law_draw.kp C_law_draw.b .nil pass0 (pa_cons (pv 0) (pa_cons pe_int pa_nil)))) pa_nil))) (pa_cons (pe_tup (pa_cons pe_str pa_nil)) pa_nil))))))) (pe_op op_mod (pe_callTy call_int1 (by rfl) T.int (by decide +kernel) (pa_cons (pe_op op_add (pv 2) (pe_call C_law_draw.ok (hr.mono (by first | decide | omega)) rfl C_law_draw.mg C_law_draw.kp C_law_draw.b .nil pass0 (pa_cons (pv 0) (pa_cons pe_int pa_nil)))) pa_nil)) pe_int) (fun _ _ => rfl))))))))), ?_⟩
  try dsimp only [cxOf, Cx.nox, Cx.wish]
  rw [show start ["box", "most", "kind", "number"] [V.ref b, V.int p_most] = [some (V.ref b), some (V.int p_most), none, none] from rfl]
  have hB0 : ∀ a ∈ [b], a ∈ ms := fun a h => by rw [List.mem_singleton.mp h]; exact hb
  have W : Wd [b] ms H := ⟨hB0, al⟩
  have hm : law_deedM bx0 p_most = some (r, bx') := hm
  have u : Bu [b] H H := Bu.refl _ H
  unfold law_deedM at hm
  obtain ⟨⟨t_25, bx_26⟩, e_t_25, hm⟩ := bind_inv hm
  dsimp only at hm
  obtain ⟨kind_27, e_kind_27, hm⟩ := bnd_inv hm
  refine r_seqA ?_
  refine Ex.go W (ex_callB (i := ((16 : Int), ())) W (v := 0) rfl (ea_cons W (ex_int 16) ea_nil) e_t_25) hq fun v_29 H_28 bb hq W M rv => ?_
  rw [← e_kind_27] at rv
  have u := u.trans bb
  obtain rfl : v_29 = V.int kind_27 := rv
  refine (bnd_name : Bnd _ _ _ _ _) _ ?_
  dsimp only [List.set_cons_succ, List.set_cons_zero]
  obtain ⟨⟨t_30, bx_31⟩, e_t_30, hm⟩ := bind_inv hm
  dsimp only at hm
  obtain ⟨number_32, e_number_32, hm⟩ := bnd_inv hm
  refine r_seqA ?_
  refine Ex.go W (ex_callB (i := (p_most, ())) W (v := 0) rfl (ea_cons W (ex_vi rfl) ea_nil) e_t_30) hq fun v_34 H_33 bb hq W M rv => ?_
  rw [← e_number_32] at rv
  have u := u.trans bb
  obtain rfl : v_34 = V.int number_32 := rv
  refine (bnd_name : Bnd _ _ _ _ _) _ ?_
  dsimp only [List.set_cons_succ, List.set_cons_zero]
  refine r_seq ?_
  refine r_ifS ?_
  refine Et.go W (et_test (ex_opI0 (z := (decide (kind_27 < (5 : Int)))) (fun _ _ => rfl) (ex_vi rfl) (ex_int 5))) hq fun H_35 bb hq W M => ?_
  have u := u.trans bb
  refine ite_by (fun hc => ?_) (fun hc => ?_)
  · have hm := (if_pos hc).symm.trans hm
    obtain ⟨⟨t_36, bx_37⟩, e_t_36, hm⟩ := bind_inv hm
    dsimp only at hm
    obtain ⟨t_38, e_t_38, hm⟩ := bind_inv hm
    obtain ⟨hm1, hm2⟩ := Prod.mk.inj (Option.some.inj hm)
    subst hm1
    subst hm2
    refine r_ret' ?_
    refine Ex.go W (ex_tupV W sb_bxs (eds_cons W (ex_toD (ex_str _)) (eds_cons W (ex_toD (ex_opI0 (z := ((1 : Int) + t_36)) (fun _ _ => rfl) (ex_int 1) (ex_callB (i := ((3 : Int), ())) W (v := 0) rfl (ea_cons W (ex_int 3) ea_nil) e_t_36))) eds_nil)) e_t_38) hq fun v H_39 bb hq W M rv => ?_
    exact Q v _ (u.trans bb) (hq) (rv)
  · have hm := (if_neg hc).symm.trans hm
    refine r_next ?_
    try dsimp only
    refine r_seq ?_
    refine r_ifS ?_
    refine Et.go W (et_test (ex_opI0 (z := (decide (kind_27 < (9 : Int)))) (fun _ _ => rfl) (ex_vi rfl) (ex_int 9))) hq fun H_40 bb hq W M => ?_
    have u := u.trans bb
    refine ite_by (fun hc => ?_) (fun hc => ?_)
    · have hm := (if_pos hc).symm.trans hm
      obtain ⟨⟨t_41, bx_42⟩, e_t_41, hm⟩ := bind_inv hm
      dsimp only at hm
      obtain ⟨⟨t_43, bx_44⟩, e_t_43, hm⟩ := bind_inv hm
      dsimp only at hm
      obtain ⟨t_45, e_t_45, hm⟩ := bind_inv hm
      obtain ⟨hm1, hm2⟩ := Prod.mk.inj (Option.some.inj hm)
      subst hm1
      subst hm2
      refine r_ret' ?_
      refine Ex.go W (ex_tupV W sb_bxs (eds_cons W (ex_toD (ex_str _)) (eds_cons W (ex_toD (ex_vi rfl)) (eds_cons W (ex_toD (ex_callB (i := ((4 : Int), ())) W (v := 0) rfl (ea_cons W (ex_int 4) ea_nil) e_t_41)) (eds_cons W (ex_callB (i := (p_most, ())) W (v := 0) rfl (ea_cons W (ex_vi rfl) ea_nil) e_t_43) eds_nil)))) e_t_45) hq fun v H_46 bb hq W M rv => ?_
      exact Q v _ (u.trans bb) (hq) (rv)
    · have hm := (if_neg hc).symm.trans hm
      refine r_next ?_
      try dsimp only
      refine r_seq ?_
      refine r_ifS ?_
      refine Et.go W (et_test (ex_opI0 (z := (decide (kind_27 < (11 : Int)))) (fun _ _ => rfl) (ex_vi rfl) (ex_int 11))) hq fun H_47 bb hq W M => ?_
      have u := u.trans bb
      refine ite_by (fun hc => ?_) (fun hc => ?_)
      · have hm := (if_pos hc).symm.trans hm
        obtain ⟨t_48, e_t_48, hm⟩ := bind_inv hm
        obtain ⟨hm1, hm2⟩ := Prod.mk.inj (Option.some.inj hm)
        subst hm1
        subst hm2
        refine r_ret' ?_
        refine Ex.go W (ex_tupV W sb_bxs (eds_cons W (ex_toD (ex_str _)) (eds_cons W (ex_toD (ex_vi rfl)) eds_nil)) e_t_48) hq fun v H_49 bb hq W M rv => ?_
        exact Q v _ (u.trans bb) (hq) (rv)
      · have hm := (if_neg hc).symm.trans hm
        refine r_next ?_
        try dsimp only
        obtain ⟨t_50, e_t_50, hm⟩ := bind_inv hm
        obtain ⟨t_51, e_t_51, hm⟩ := bind_inv hm
        obtain ⟨t_52, e_t_52, hm⟩ := bind_inv hm
        obtain ⟨t_53, e_t_53, hm⟩ := bind_inv hm
        obtain ⟨⟨t_54, bx_55⟩, e_t_54, hm⟩ := bind_inv hm
        dsimp only at hm
        obtain ⟨t_56, e_t_56, hm⟩ := bind_inv hm
        obtain ⟨t_57, e_t_57, hm⟩ := bind_inv hm
        obtain ⟨⟨t_64, bx_65⟩, e_t_64, hm⟩ := bind_inv hm
        dsimp only at hm
        obtain ⟨t_66, e_t_66, hm⟩ := bind_inv hm
        obtain ⟨hm1, hm2⟩ := Prod.mk.inj (Option.some.inj hm)
        subst hm1
        subst hm2
        refine r_ret' ?_
        refine Ex.go W (ex_ixL (el_of W.hB (En.ex sb_bxs (en_lst (xs := [t_50, t_51, t_52, t_53, t_56, t_57]) W sb_bxs (by simp) (es_cons W (ex_tupV W sb_bxs (eds_cons W (ex_toD (ex_str _)) (eds_cons W (ex_toD (ex_vi rfl)) eds_nil)) e_t_50) (es_cons W (ex_tupV W sb_bxs (eds_cons W (ex_toD (ex_str _)) (eds_cons W (ex_toD (ex_vi rfl)) eds_nil)) e_t_51) (es_cons W (ex_tupV W sb_bxs (eds_cons W (ex_toD (ex_str _)) eds_nil) e_t_52) (es_cons W (ex_tupV W sb_bxs (eds_cons W (ex_toD (ex_str _)) eds_nil) e_t_53) (es_cons W (ex_tupV W sb_bxs (eds_cons W (ex_toD (ex_str _)) (eds_cons W (ex_toD (ex_opI0 (z := ((1 : Int) + t_54)) (fun _ _ => rfl) (ex_int 1) (ex_callB (i := ((4 : Int), ())) W (v := 0) rfl (ea_cons W (ex_int 4) ea_nil) e_t_54))) eds_nil)) e_t_56) (es_cons W (ex_tupV W sb_bxs (eds_cons W (ex_toD (ex_str _)) eds_nil) e_t_57) es_nil))))))))) (ex_opI (z := ((kind_27 + t_64) % (6 : Int))) (by show (0 : Int) < _; decide) (fun _ _ => rfl) (ex_intI (ea_cons W (ex_opI0 (z := (kind_27 + t_64)) (fun _ _ => rfl) (ex_vi rfl) (ex_callB (i := ((2 : Int), ())) W (v := 0) rfl (ea_cons W (ex_int 2) ea_nil) e_t_64)) ea_nil)) (ex_int 6)) W e_t_66) hq fun v H_67 bb hq W M rv => ?_
        exact Q v _ (u.trans bb) (hq) (rv)
end
end Pf

namespace Pf
open PySem L2
local macro_rules | `(tactic| walk_at "rd1") => `(tactic| first
  | with_reducible refine r_seqA ?_
  | with_reducible refine r_seqD ?_
  | with_reducible refine r_seqF ?_
  | with_reducible refine r_seqN ?_
  | with_reducible refine r_asg ?_
  | with_reducible refine r_drop ?_
  | with_reducible refine r_ret ?_
  | with_reducible refine r_ifS ?_
  | ((with_reducible refine r_next ?_); try dsimp only)
  | ((with_reducible refine r_name ?_); try dsimp only [List.set_cons_succ, List.set_cons_zero, wipe])
  | ((with_reducible refine' r_var ?rdh ?_); (case rdh => rfl))
  | with_reducible refine r_c ?_
  | with_reducible refine r_op ?_
  | with_reducible refine r_un ?_
  | with_reducible refine r_I0 ?_
  | ((with_reducible refine r_I ?_ ?_); (· first | decide | exact Or.inl (by decide) | exact Or.inr (by decide) | (show _ ∧ _; constructor <;> decide) | (show (0:Int) < _; omega) | (show CDiv _ _; unfold CDiv; omega) ))
  | with_reducible refine r_U ?_
  | with_reducible refine r_eqI ?_
  | with_reducible refine r_neI ?_
  | with_reducible refine r_eqB ?_
  | with_reducible refine r_neB ?_
  | with_reducible refine r_test ?_
  | with_reducible refine r_B ?_
  | with_reducible refine r_bl ?_
  | with_reducible refine r_bl2 ?_
  | with_reducible refine r_yes ?_
  | with_reducible refine r_wipe (by rfl) ?_
  | with_reducible refine r_rfl ?_
  | ((with_reducible refine' r_eqA ?rdh ?_); (case rdh => rfl))
  | with_reducible refine r_and ?_
  | with_reducible refine r_or ?_
  | with_reducible refine r_not ?_
  | with_reducible refine r_andV ?_
  | with_reducible refine r_orV ?_
  | with_reducible refine r_notV ?_
  | with_reducible refine r_ifE ?_
  | with_reducible refine r_nil ?_
  | with_reducible refine r_cons ?_
  | with_reducible refine r_tup ?_
  | with_reducible refine r_lst ?_
  | with_reducible refine r_CB ?_
  | with_reducible refine r_call ?_
  | with_reducible refine r_bm ?_
  | with_reducible refine r_bm0 ?_
  | with_reducible refine r_int ?_
  | with_reducible refine r_i2 ?_
  | with_reducible refine r_i1 ?_
  | with_reducible refine r_gcons ?_
  | with_reducible refine r_gnil ?_
  | with_reducible refine r_gsub ?_
  | with_reducible refine iteT ?_
  | with_reducible refine iteF ?_
  | with_reducible refine ite_notT ?_
  | with_reducible refine ite_notF ?_
  | with_reducible refine r_isi_ib ?_
  | with_reducible refine r_isi_ii ?_
  | with_reducible refine r_isi_bb ?_
  | with_reducible refine r_isi_nb ?_
  | with_reducible refine r_isi_nt ?_
  | ((with_reducible refine' r_isi_ll ?rdh ?_); (case rdh => first | assumption | exact upd_same))
  | ((with_reducible refine' r_isi_tt ?rdh ?_); (case rdh => first | assumption | exact upd_same))
  | with_reducible refine r_sl ?_
  | with_reducible refine r_noPart ?_
  | with_reducible refine r_part ?_
  | with_reducible refine r_int1 ?_
  | with_reducible refine r_tru ?_
  | with_reducible refine r_ckw ?_
  | with_reducible refine r_lc ?_
  | with_reducible refine r_lc2 ?_
  | with_reducible refine r_forS ?_
  | with_reducible refine r_iR1 ?_
  | with_reducible refine r_iR2 ?_
  | with_reducible refine r_iL ?_
  | ((with_reducible refine' r_lenL ?rdh ?_); (case rdh => walk_at "sq"))
  | ((with_reducible refine' r_ixL ?rdh ?rda ?_); (case rdh => walk_at "sq"); (case rda => walk_at "at"))
  | ((with_reducible refine' r_ixT ?rdh ?rda ?_); (case rdh => walk_at "sq"); (case rda => walk_at "at")))
local macro_rules | `(tactic| walk_at "sq") => `(tactic| first
  | assumption
  | exact SqL.of (by assumption)
  | exact SqL.of upd_same
  | exact SqT.of (by assumption)
  | exact SqT.of upd_same)
local macro_rules | `(tactic| walk_at "sml") => `(tactic| (rw [sizeLine_eq]; simp))
local macro_rules | `(tactic| walk_at "at") => `(tactic| first | assumption | rfl)
local macro_rules | `(tactic| walk_at "rd") => `(tactic| repeat walk_at "rd1")
section
variable {w : World} {P : Program} {base : Heap} {K : PySem.W.Frag} {mg : Str → Option Value}
def law_octetsM (p_event : (VT PyData)) : Option (List Int) :=
  bnd ([(Str.ofString "allocate"), (Str.ofString "write"), (Str.ofString "release"), (Str.ofString "addRoot"), (Str.ofString "removeRoot"), (Str.ofString "collect"), (Str.ofString "compact"), (Str.ofString "makeRoom"), (Str.ofString "slide")]) fun words_68 => (atI p_event.l (0 : Int)).bind fun t_71 => (asS t_71).bind fun t_72 => (idxS words_68 t_72).bind fun t_73 => bnd ([(t_73 : Int)]) fun body_74 => (cutT p_event (some (1 : Int)) none).bind fun t_78 => bnd (t_78.l) fun numbers_79 => bnd (([] : List Int)) fun tail_81 => (atI p_event.l (0 : Int)).bind fun t_85 => (asS t_85).bind fun t_86 => (if (decide (t_86 = (Str.ofString "write"))) = true then ((popL numbers_79).bind fun (value_93, numbers_92) => bnd ([(0 : Int), (0 : Int), (0 : Int)]) fun tail_96 => if (isTD value_93) = true then ((asT value_93).bind fun t_107 => (atI t_107.l (1 : Int)).bind fun t_108 => (asI t_108).bind fun t_109 => (asT value_93).bind fun t_117 => (atI t_117.l (1 : Int)).bind fun t_118 => (asI t_118).bind fun t_119 => bnd ([(2 : Int), (t_109 / (256 : Int)), (t_119 % (256 : Int))]) fun tail_120 => some (numbers_92, tail_120)) else (if (!isND value_93) = true then ((asI value_93).bind fun t_125 => (asI value_93).bind fun t_127 => bnd ([(1 : Int), (t_125 / (256 : Int)), (t_127 % (256 : Int))]) fun tail_128 => some (numbers_92, tail_128)) else (some (numbers_92, tail_96)))) else (some (numbers_79, tail_81))).bind fun (numbers_88, tail_89) => (fold (fun (y_135 : PyData) (body_133 : (List Int)) => (asI y_135).bind fun t_145 => (asI y_135).bind fun t_147 => (catF body_133 [(t_145 / (256 : Int)), (t_147 % (256 : Int))]).bind fun t_148 => bnd (t_148) fun body_149 => some body_149 : PyData → (List Int) → Option (List Int)) numbers_88 body_74).bind fun body_133 => (catF body_133 tail_89).bind fun t_152 => bnd (t_152) fun body_153 => (catF [((body_153.length : Int) + (1 : Int))] body_153).bind fun t_158 => (catF t_158 [(170 : Int)]).bind fun t_159 => some t_159
theorem mk_law_octets {f  : Addr} {fd  : FuncData} (T : Txt mg) (F : Fun K "_law_octets" "_law_octets" s_law_octets f fd) (m : mg "_law_octets" = some (.ref f)) (b : Binds K fd ["event"] []) :
    Cal P w K mg base "_law_octets" 1 f fd ["event"] (spP (fun (i : (VT PyData) × Unit) => law_octetsM i.1)) := by
  refine ⟨F.ok sc_law_octets (fun vs H Q E h => ?_) (fun cdv A outer s H vs Q E hr h => ?_), m, F.kp, b⟩
  · obtain ⟨ms, ⟨p_event, ⟨⟩⟩, r, _, ⟨v_p_event, _, rfl, f_p_event, e0⟩, _⟩ := h
    cases e0
    rfl
  obtain ⟨ms, ⟨p_event, ⟨⟩⟩, r, al, ⟨v_p_event, _, rfl, f_p_event, e0⟩, hm, Q⟩ := h
  cases e0
  refine ⟨_, (pss_cons (ps_set (i := 1) sc_law_octets.nd rfl (Or.inl rfl) (pe_lst (pa_cons pe_str (pa_cons pe_str (pa_cons pe_str (pa_cons pe_str (pa_cons pe_str (pa_cons pe_str (pa_cons pe_str (pa_cons pe_str (pa_cons pe_str pa_nil))))))))))) (pss_cons (ps_set (i := 2) sc_law_octets.nd rfl (Or.inl rfl) (pe_lst (pa_cons (pe_bm PySem.F.plainAttrs_list PySem.F.slot_list_index PySem.F.type_list_index (show MtR _ _ (rIndex K) from mt_index) (pv 1) (pa_cons (pe_ix (show IxR _ (rIxT K) from ix_tup) (pv 0) pe_int (fun _ _ => rfl)) pa_nil)) pa_nil))) (pss_cons (ps_set (i := 3) sc_law_octets.nd rfl (Or.inl rfl) (pe_callTy (show CallR _ _ (fun xs H Q => ∃ p ys, xs = [V.ref p] ∧ (SqL K H p ys ∨ SqT K H p ys) ∧ ∀ l, H l = none → Q (.ref l) (upd H l (.lst ys))) from call_list_of) (by rfl) T.list (by decide +kernel) (pa_cons (pe_slice (show SlR _ (rSlT K) from sl_tup) (pv 0) (po_some pe_int) po_none) pa_nil))) (pss_cons (ps_set (i := 4) sc_law_octets.nd rfl (Or.inl rfl) (pe_lst pa_nil)) (pss_cons (ps_if (pt_cmpR op_eq (pe_ix (show IxR _ (rIxT K) from ix_tup) (pv 0) pe_int (fun _ _ => rfl)) pe_str (nomark _))
      (pss_cons (ps_set (i := 5) sc_law_octets.nd rfl (Or.inl rfl) (pe_bm0 PySem.F.plainAttrs_list PySem.F.slot_list_pop PySem.F.type_list_pop mt_pop (pv 3))) (pss_cons (ps_set (i := 4) sc_law_octets.nd rfl (Or.inl rfl) (pe_lst (pa_cons pe_int (pa_cons pe_int (pa_cons pe_int pa_nil))))) (pss_one (ps_if (pt_val (pe_callB (show CallR _ _ (rIsi K) from call_isi) (by rfl) T.isinstance (by decide +kernel) (pa_cons (pv 5) (pa_cons (pe_bltn (v := .ty "tuple") (u := .type "tuple") rfl T.tuple (by decide +kernel) rfl) pa_nil))))
      (pss_one (ps_set (i := 4) sc_law_octets.nd rfl (Or.inl rfl) (pe_lst (pa_cons pe_int (pa_cons (pe_callTy call_int1 (by rfl) T.int (by decide +kernel) (pa_cons (pe_op op_fdiv (pe_ix (show IxR _ (rIxT K) from ix_tup) (pv 5) pe_int (fun _ _ => rfl)) pe_int) pa_nil)) (pa_cons (pe_op op_mod (pe_callTy call_int1 (by rfl) T.int (by decide +kernel) (pa_cons (pe_ix (show IxR _ (rIxT K) from ix_tup) (pv 5) pe_int (fun _ _ => rfl)) pa_nil)) pe_int) pa_nil))))))
      (pss_one (ps_if (pt_cmpR op_notN (pv 5) pe_non (nomark _))
      (pss_one (ps_set (i := 4) sc_law_octets.nd rfl (Or.inl rfl) (pe_lst (pa_cons pe_int (pa_cons (pe_callTy call_int1 (by rfl) T.int (by decide +kernel) (pa_cons (pe_op op_fdiv (pv 5) pe_int) pa_nil)) (pa_cons (pe_op op_mod (pe_callTy call_int1 (by rfl) T.int (by decide +kernel) (pa_cons (pv 5) pa_nil)) pe_int) pa_nil))))))
      pss_nil))))))
      pss_nil) (pss_cons (ps_for PassesOwn.never rfl (pi_list (pv 3)) (pg_name (i := 6) sc_law_octets.nd rfl (Or.inl rfl))
      (pss_one (ps_set (i := 2) sc_law_octets.nd rfl (Or.inl rfl) (pe_op op_cat (pv 2) (pe_lst (pa_cons (pe_callTy call_int1 (by rfl) T.int (by decide +kernel) (pa_cons (pe_op op_fdiv (pv 6) pe_int) pa_nil)) (pa_cons (pe_op op_mod (pe_callTy call_int1 (by rfl) T.int (by decide +kernel) (pa_cons (pv 6) pa_nil)) pe_int) pa_nil))))))) (pss_cons (ps_set (i := 2) sc_law_octets.nd rfl (Or.inl rfl) (pe_op op_cat (pv 2) (pv 4))) (pss_one (ps_ret (pe_op op_cat (pe_op op_cat (pe_lst (pa_cons (pe_op op_add (pe_callB (show CallR _ _ (fun xs H Q => ∃ p ys, xs = [V.ref p] ∧ (SqL K H p ys ∨ SqT K H p ys) ∧ Q (.int ys.length) H) from call_len_seq) (by rfl) T.len PySem.boot_len (pa_cons (pv 2) pa_nil)) pe_int) pa_nil)) (pv 2)) (pe_lst (pa_cons pe_int pa_nil)))))))))))), ?_⟩
  try dsimp only [cxOf, Cx.nox, Cx.wish]
  rw [show start ["event", "words", "body", "numbers", "tail", "value", "number"] [v_p_event] = [some (v_p_event), none, none, none, none, none, none] from rfl]
  have W : Wd [] ms H := ⟨fun a h => (by cases h), al⟩
  have hq : Tr ms H := trivial
  have hm : law_octetsM p_event = some r := hm
  have u : Bu [] H H := Bu.refl _ H
  unfold law_octetsM at hm
  obtain ⟨words_68, e_words_68, hm⟩ := bnd_inv hm
  refine r_seqA ?_
  refine Ex.go W (En.ex (sb_tr (B := [])) (en_lst (xs := [(Str.ofString "allocate"), (Str.ofString "write"), (Str.ofString "release"), (Str.ofString "addRoot"), (Str.ofString "removeRoot"), (Str.ofString "collect"), (Str.ofString "compact"), (Str.ofString "makeRoom"), (Str.ofString "slide")]) W (sb_tr (B := [])) (by simp) (es_cons W (ex_str _) (es_cons W (ex_str _) (es_cons W (ex_str _) (es_cons W (ex_str _) (es_cons W (ex_str _) (es_cons W (ex_str _) (es_cons W (ex_str _) (es_cons W (ex_str _) (es_cons W (ex_str _) es_nil))))))))))) hq fun v_70 H_69 bb hq W M rv => ?_
  rw [← e_words_68] at rv
  have f_p_event := Rp.mv f_p_event M
  have u := u.trans bb
  have f_words_68 := rv
  refine (bnd_name : Bnd _ _ _ _ _) _ ?_
  dsimp only [List.set_cons_succ, List.set_cons_zero]
  obtain ⟨t_71, e_t_71, hm⟩ := bind_inv hm
  obtain ⟨t_72, e_t_72, hm⟩ := bind_inv hm
  obtain ⟨t_73, e_t_73, hm⟩ := bind_inv hm
  obtain ⟨body_74, e_body_74, hm⟩ := bnd_inv hm
  refine r_seqA ?_
  refine Ex.go W (En.ex (sb_tr (B := [])) (en_lst (xs := [(t_73 : Int)]) W (sb_tr (B := [])) (by simp) (es_cons W (ex_idxS W (el_of W.hB (ex_var W rfl f_words_68)) (ex_asS (ex_ixV W (ex_var W rfl f_p_event) (ex_int 0) e_t_71) e_t_72) e_t_73) es_nil))) hq fun v_76 H_75 bb hq W M rv => ?_
  rw [← e_body_74] at rv
  have f_p_event := Rp.mv f_p_event M
  have f_words_68 := Rp.mv f_words_68 M
  have u := u.trans bb
  have f_body_74 := rv
  refine (bnd_name : Bnd _ _ _ _ _) _ ?_
  dsimp only [List.set_cons_succ, List.set_cons_zero]
  obtain ⟨t_78, e_t_78, hm⟩ := bind_inv hm
  obtain ⟨numbers_79, e_numbers_79, hm⟩ := bnd_inv hm
  refine r_seqA ?_
  refine En.mk W (en_listV W (sb_tr (B := [])) (ex_slV W (sb_tr (B := [])) (ex_var W rfl f_p_event) (eo_some (ex_int 1)) eo_none e_t_78)) hq fun anumbers_79 H_80 bb na hq' W' M l_anumbers_79 => ?_
  rw [← e_numbers_79] at l_anumbers_79
  have o_anumbers_79 := W.al.not na
  have n_anumbers_79 : anumbers_79 ∉ [] := fun z => W.al.not na (W.hB _ z)
  have m_anumbers_79 : anumbers_79 ∈ anumbers_79 :: ms := List.mem_cons_self
  have h_anumbers_79 := u.none na
  have f_p_event := Rp.mv f_p_event M
  have f_words_68 := Rp.mv f_words_68 M
  have f_body_74 := Rp.mv f_body_74 M
  have u := u.trans bb
  have W := W'
  have hq := hq'
  refine r_name ?_
  dsimp only [List.set_cons_succ, List.set_cons_zero]
  obtain ⟨tail_81, e_tail_81, hm⟩ := bnd_inv hm
  refine r_seqA ?_
  refine Ex.go W (En.ex (sb_tr (B := [])) (en_lst (xs := ([] : List Int)) W (sb_tr (B := [])) (by simp) es_nil)) hq fun v_83 H_82 bb hq W M rv => ?_
  rw [← e_tail_81] at rv
  have f_p_event := Rp.mv f_p_event M
  have f_words_68 := Rp.mv f_words_68 M
  have f_body_74 := Rp.mv f_body_74 M
  have l_anumbers_79 := l_anumbers_79.step M fun o e => bb.1 _ o n_anumbers_79 e
  have u := u.trans bb
  have f_tail_81 := rv
  refine (bnd_name : Bnd _ _ _ _ _) _ ?_
  dsimp only [List.set_cons_succ, List.set_cons_zero]
  obtain ⟨t_85, e_t_85, hm⟩ := bind_inv hm
  obtain ⟨t_86, e_t_86, hm⟩ := bind_inv hm
  obtain ⟨j_91, e_j_91, hm⟩ := bind_inv hm
  obtain ⟨numbers_88, tail_89⟩ := j_91
  try dsimp only at hm
  refine r_seqG fun R hR => ?_
  have key : ∀ (vj_tail_89 : V), ∀ (xl_value : Option V), ∀ H_90, Bu [] H H_90 → Tr (anumbers_79 :: ms) H_90 → Wd [] (anumbers_79 :: ms) H_90 → Rp.rp (anumbers_79 :: ms) H_90 (v_p_event) p_event → Rp.rp (anumbers_79 :: ms) H_90 (v_70) words_68 → Rp.rp (anumbers_79 :: ms) H_90 (v_76) body_74 → Ls (anumbers_79 :: ms) H_90 anumbers_79 numbers_88 → Rp.rp (anumbers_79 :: ms) H_90 (vj_tail_89) tail_89 → R [some v_p_event, some v_70, some v_76, some (.ref anumbers_79), some vj_tail_89, xl_value, none] H_90 := by
    intro vj_tail_89 xl_value H_90 u hq W f_p_event f_words_68 f_body_74 l_anumbers_79 f_tail_89
    refine hR _ _ ?_
    have sub : ∀ a ∈ ms, a ∈ anumbers_79 :: ms := ((.cons _ (.refl _)) : List.Sublist (ms) (anumbers_79 :: ms)).subset
    have M : Mv (anumbers_79 :: ms) H_90 (ms) H_90 := Mv.less sub
    have hq := (sb_tr (B := [])) _ _ _ _ hq M fun _ _ _ e => e
    have W : Wd [] (ms) H_90 := ⟨fun a h => (by cases h), W.al.less sub⟩
    have f_p_event := Rp.mv f_p_event M
    have f_words_68 := Rp.mv f_words_68 M
    have f_body_74 := Rp.mv f_body_74 M
    have f_numbers_88 : Rp.rp (ms) H_90 (.ref anumbers_79) numbers_88 := ⟨anumbers_79, rfl, o_anumbers_79, l_anumbers_79.less sub⟩
    have f_tail_89 := Rp.mv f_tail_89 M
    refine r_seqF' ?_
    refine r_for W (ei_list (ex_var W rfl f_numbers_88)) hq fun J N_132 H_131 bb hq W M st_nN_132 nN_132 ok_N_132 => ?_
    have f_p_event := Rp.mv f_p_event M
    have f_words_68 := Rp.mv f_words_68 M
    have f_body_74 := Rp.mv f_body_74 M
    have f_numbers_88 := Rp.mv f_numbers_88 M
    have f_tail_89 := Rp.mv f_tail_89 M
    have u := u.trans bb
    obtain ⟨out_136, e_out_136, hm⟩ := bind_inv hm
    have hgoN_132 := hm
    clear hm
    refine wk_fold (ms := ms) ok_N_132 e_out_136 (fun body_133 σ H' => ∃ (vj_body_133 : V), ∃ (xl_number : Option V), σ = [some v_p_event, some v_70, some vj_body_133, some (.ref anumbers_79), some vj_tail_89, xl_value, xl_number] ∧ Bu [] H H' ∧ Tr (ms) H' ∧ Wd [] (ms) H' ∧ N_132 (ms) H' ∧ Rp.rp (ms) H' (v_p_event) p_event ∧ Rp.rp (ms) H' (v_70) words_68 ∧ Rp.rp (ms) H' (vj_body_133) body_133 ∧ Rp.rp (ms) H' ((.ref anumbers_79)) numbers_88 ∧ Rp.rp (ms) H' (vj_tail_89) tail_89) ⟨_, _, rfl, u, hq, W, nN_132, f_p_event, f_words_68, f_body_74, f_numbers_88, f_tail_89⟩ ?_ ?_ ?_
    · intro body_133 σ H' hI
      try dsimp only at hI
      obtain ⟨vj_body_133, xl_number, rfl, u, hq, W, nN_132, f_p_event, f_words_68, f_body_133, f_numbers_88, f_tail_89⟩ := hI
      exact ⟨nN_132, W.al⟩
    · intro y_135 v_139 body_133 x' σ H_137 H_138 hI s1 rv hf
      try dsimp only at hI
      obtain ⟨vj_body_133, xl_number, rfl, u, hq, W, nN_132, f_p_event, f_words_68, f_body_133, f_numbers_88, f_tail_89⟩ := hI
      have hm := hf
      try dsimp only at hm
      have bb : Bu [] H_137 H_138 := Bu.same s1
      have M : Mv (ms) H_137 (ms) H_138 := Mv.same s1
      have hq := (sb_tr (B := [])).same s1 hq
      have W := W.bu bb
      have f_p_event := Rp.mv f_p_event M
      have f_words_68 := Rp.mv f_words_68 M
      have f_body_133 := Rp.mv f_body_133 M
      have f_numbers_88 := Rp.mv f_numbers_88 M
      have f_tail_89 := Rp.mv f_tail_89 M
      have nN_132 := st_nN_132.mv nN_132 M
      have u := u.trans bb
      have f_y_135 := rv
      refine (bnd_name : Bnd _ _ _ _ _) _ ?_
      dsimp only [List.set_cons_succ, List.set_cons_zero]
      obtain ⟨t_145, e_t_145, hm⟩ := bind_inv hm
      obtain ⟨t_147, e_t_147, hm⟩ := bind_inv hm
      obtain ⟨t_148, e_t_148, hm⟩ := bind_inv hm
      obtain ⟨body_149, e_body_149, hm⟩ := bnd_inv hm
      refine r_asg ?_
      refine Ex.go W (En.ex (sb_tr (B := [])) (en_cat W (sb_tr (B := [])) (el_of W.hB (ex_var W rfl f_body_133)) (el_of W.hB (En.ex (sb_tr (B := [])) (en_lst (xs := [(t_145 / (256 : Int)), (t_147 % (256 : Int))]) W (sb_tr (B := [])) (by simp) (es_cons W (ex_intI (ea_cons W (ex_opI (z := (t_145 / (256 : Int))) (by refine ⟨?_, ?_⟩ <;> decide) (fun _ _ => rfl) (ex_asI (ex_var W rfl f_y_135) e_t_145) (ex_int 256)) ea_nil)) (es_cons W (ex_opI (z := (t_147 % (256 : Int))) (by show (0 : Int) < _; decide) (fun _ _ => rfl) (ex_intI (ea_cons W (ex_asI (ex_var W rfl f_y_135) e_t_147) ea_nil)) (ex_int 256)) es_nil))))) e_t_148)) hq fun v_151 H_150 bb hq W M rv => ?_
      rw [← e_body_149] at rv
      have f_p_event := Rp.mv f_p_event M
      have f_words_68 := Rp.mv f_words_68 M
      have f_body_133 := Rp.mv f_body_133 M
      have f_numbers_88 := Rp.mv f_numbers_88 M
      have f_tail_89 := Rp.mv f_tail_89 M
      have f_y_135 := Rp.mv f_y_135 M
      have nN_132 := st_nN_132.mv nN_132 M
      have u := u.trans bb
      have f_body_149 := rv
      refine (bnd_name : Bnd _ _ _ _ _) _ ?_
      dsimp only [List.set_cons_succ, List.set_cons_zero]
      try dsimp only
      try dsimp only
      cases hm
      exact ⟨_, _, rfl, u, hq, W, nN_132, f_p_event, f_words_68, f_body_149, f_numbers_88, f_tail_89⟩
    · intro σ H_134 hI
      obtain ⟨body_133, hE⟩ : ∃ z, z = out_136 := ⟨_, rfl⟩
      rw [← hE] at hI hgoN_132
      try dsimp only at hI
      obtain ⟨vj_body_133, xl_number, rfl, u, hq, W, nN_132, f_p_event, f_words_68, f_body_133, f_numbers_88, f_tail_89⟩ := hI
      have hm := hgoN_132
      try dsimp only at hm
      try dsimp only
      obtain ⟨t_152, e_t_152, hm⟩ := bind_inv hm
      obtain ⟨body_153, e_body_153, hm⟩ := bnd_inv hm
      refine r_seqA ?_
      refine Ex.go W (En.ex (sb_tr (B := [])) (en_cat W (sb_tr (B := [])) (el_of W.hB (ex_var W rfl f_body_133)) (el_of W.hB (ex_var W rfl f_tail_89)) e_t_152)) hq fun v_155 H_154 bb hq W M rv => ?_
      rw [← e_body_153] at rv
      have f_p_event := Rp.mv f_p_event M
      have f_words_68 := Rp.mv f_words_68 M
      have f_body_133 := Rp.mv f_body_133 M
      have f_numbers_88 := Rp.mv f_numbers_88 M
      have f_tail_89 := Rp.mv f_tail_89 M
      have u := u.trans bb
      have f_body_153 := rv
      refine (bnd_name : Bnd _ _ _ _ _) _ ?_
      dsimp only [List.set_cons_succ, List.set_cons_zero]
      obtain ⟨t_158, e_t_158, hm⟩ := bind_inv hm
      obtain ⟨t_159, e_t_159, hm⟩ := bind_inv hm
      have hm := Option.some.inj hm
      subst hm
      refine r_ret' ?_
      refine Ex.go W (En.ex (sb_tr (B := [])) (en_cat W (sb_tr (B := [])) (el_of W.hB (En.ex (sb_tr (B := [])) (en_cat W (sb_tr (B := [])) (el_of W.hB (En.ex (sb_tr (B := [])) (en_lst (xs := [((body_153.length : Int) + (1 : Int))]) W (sb_tr (B := [])) (by simp) (es_cons W (ex_opI0 (z := ((body_153.length : Int) + (1 : Int))) (fun _ _ => rfl) (ex_len (el_of W.hB (ex_var W rfl f_body_153))) (ex_int 1)) es_nil)))) (el_of W.hB (ex_var W rfl f_body_153)) e_t_158))) (el_of W.hB (En.ex (sb_tr (B := [])) (en_lst (xs := [(170 : Int)]) W (sb_tr (B := [])) (by simp) (es_cons W (ex_int 170) es_nil)))) e_t_159)) hq fun v H_160 bb hq W M rv => ?_
      exact Q v _ (Bu.to_same (u.trans bb)) (rv)
  clear hR
  have hm := e_j_91
  refine r_ifS ?_
  refine Et.go W (et_test (ex_eqS (ex_asS (ex_ixV W (ex_var W rfl f_p_event) (ex_int 0) e_t_85) e_t_86) (ex_str _))) hq fun H_87 bb hq W M => ?_
  have f_p_event := Rp.mv f_p_event M
  have f_words_68 := Rp.mv f_words_68 M
  have f_body_74 := Rp.mv f_body_74 M
  have l_anumbers_79 := l_anumbers_79.step M fun o e => bb.1 _ o n_anumbers_79 e
  have f_tail_81 := Rp.mv f_tail_81 M
  have u := u.trans bb
  refine ite_by (fun hc => ?_) (fun hc => ?_)
  · have hm := (if_pos hc).symm.trans hm
    obtain ⟨⟨value_93, numbers_92⟩, e_value_93, hm⟩ := bind_inv hm
    dsimp only at hm
    refine r_seqA ?_
    refine s_pop0 rfl W rfl l_anumbers_79 m_anumbers_79 n_anumbers_79 (sb_tr (B := [])) hq e_value_93 fun v_95 H_94 bb hq W M l_anumbers_79 rv => ?_
    have f_p_event := Rp.mv f_p_event M
    have f_words_68 := Rp.mv f_words_68 M
    have f_body_74 := Rp.mv f_body_74 M
    have f_tail_81 := Rp.mv f_tail_81 M
    have u := u.own2 h_anumbers_79 bb
    have f_value_93 := rv
    refine (bnd_name : Bnd _ _ _ _ _) _ ?_
    dsimp only [List.set_cons_succ, List.set_cons_zero]
    obtain ⟨tail_96, e_tail_96, hm⟩ := bnd_inv hm
    refine r_seqA ?_
    refine Ex.go W (En.ex (sb_tr (B := [])) (en_lst (xs := [(0 : Int), (0 : Int), (0 : Int)]) W (sb_tr (B := [])) (by simp) (es_cons W (ex_int 0) (es_cons W (ex_int 0) (es_cons W (ex_int 0) es_nil))))) hq fun v_98 H_97 bb hq W M rv => ?_
    rw [← e_tail_96] at rv
    have f_p_event := Rp.mv f_p_event M
    have f_words_68 := Rp.mv f_words_68 M
    have f_body_74 := Rp.mv f_body_74 M
    have l_anumbers_79 := l_anumbers_79.step M fun o e => bb.1 _ o n_anumbers_79 e
    have f_tail_81 := Rp.mv f_tail_81 M
    have f_value_93 := Rp.mv f_value_93 M
    have u := u.trans bb
    have f_tail_96 := rv
    refine (bnd_name : Bnd _ _ _ _ _) _ ?_
    dsimp only [List.set_cons_succ, List.set_cons_zero]
    refine r_ifS ?_
    refine Et.go W (et_val (ex_isiD (kit_tup value_93) (ex_var W rfl f_value_93))) hq fun H_99 bb hq W M => ?_
    have f_p_event := Rp.mv f_p_event M
    have f_words_68 := Rp.mv f_words_68 M
    have f_body_74 := Rp.mv f_body_74 M
    have l_anumbers_79 := l_anumbers_79.step M fun o e => bb.1 _ o n_anumbers_79 e
    have f_tail_96 := Rp.mv f_tail_96 M
    have f_value_93 := Rp.mv f_value_93 M
    have u := u.trans bb
    refine ite_by (fun hc => ?_) (fun hc => ?_)
    · have hm := (if_pos hc).symm.trans hm
      obtain ⟨t_107, e_t_107, hm⟩ := bind_inv hm
      obtain ⟨t_108, e_t_108, hm⟩ := bind_inv hm
      obtain ⟨t_109, e_t_109, hm⟩ := bind_inv hm
      obtain ⟨t_117, e_t_117, hm⟩ := bind_inv hm
      obtain ⟨t_118, e_t_118, hm⟩ := bind_inv hm
      obtain ⟨t_119, e_t_119, hm⟩ := bind_inv hm
      obtain ⟨tail_120, e_tail_120, hm⟩ := bnd_inv hm
      refine r_asg ?_
      refine Ex.go W (En.ex (sb_tr (B := [])) (en_lst (xs := [(2 : Int), (t_109 / (256 : Int)), (t_119 % (256 : Int))]) W (sb_tr (B := [])) (by simp) (es_cons W (ex_int 2) (es_cons W (ex_intI (ea_cons W (ex_opI (z := (t_109 / (256 : Int))) (by refine ⟨?_, ?_⟩ <;> decide) (fun _ _ => rfl) (ex_asI (ex_ixV W (ex_asT (ex_var W rfl f_value_93) e_t_107) (ex_int 1) e_t_108) e_t_109) (ex_int 256)) ea_nil)) (es_cons W (ex_opI (z := (t_119 % (256 : Int))) (by show (0 : Int) < _; decide) (fun _ _ => rfl) (ex_intI (ea_cons W (ex_asI (ex_ixV W (ex_asT (ex_var W rfl f_value_93) e_t_117) (ex_int 1) e_t_118) e_t_119) ea_nil)) (ex_int 256)) es_nil))))) hq fun v_122 H_121 bb hq W M rv => ?_
      rw [← e_tail_120] at rv
      have f_p_event := Rp.mv f_p_event M
      have f_words_68 := Rp.mv f_words_68 M
      have f_body_74 := Rp.mv f_body_74 M
      have l_anumbers_79 := l_anumbers_79.step M fun o e => bb.1 _ o n_anumbers_79 e
      have f_tail_96 := Rp.mv f_tail_96 M
      have f_value_93 := Rp.mv f_value_93 M
      have u := u.trans bb
      have f_tail_120 := rv
      refine (bnd_name : Bnd _ _ _ _ _) _ ?_
      dsimp only [List.set_cons_succ, List.set_cons_zero]
      try dsimp only
      try dsimp only
      try dsimp only
      cases hm
      exact key _ _ _ u hq W f_p_event f_words_68 f_body_74 l_anumbers_79 f_tail_120
    · have hm := (if_neg hc).symm.trans hm
      refine r_ifS ?_
      refine Et.go W (et_test (ex_notND (ex_var W rfl f_value_93))) hq fun H_123 bb hq W M => ?_
      have f_p_event := Rp.mv f_p_event M
      have f_words_68 := Rp.mv f_words_68 M
      have f_body_74 := Rp.mv f_body_74 M
      have l_anumbers_79 := l_anumbers_79.step M fun o e => bb.1 _ o n_anumbers_79 e
      have f_tail_96 := Rp.mv f_tail_96 M
      have f_value_93 := Rp.mv f_value_93 M
      have u := u.trans bb
      refine ite_by (fun hc => ?_) (fun hc => ?_)
      · have hm := (if_pos hc).symm.trans hm
        obtain ⟨t_125, e_t_125, hm⟩ := bind_inv hm
        obtain ⟨t_127, e_t_127, hm⟩ := bind_inv hm
        obtain ⟨tail_128, e_tail_128, hm⟩ := bnd_inv hm
        refine r_asg ?_
        refine Ex.go W (En.ex (sb_tr (B := [])) (en_lst (xs := [(1 : Int), (t_125 / (256 : Int)), (t_127 % (256 : Int))]) W (sb_tr (B := [])) (by simp) (es_cons W (ex_int 1) (es_cons W (ex_intI (ea_cons W (ex_opI (z := (t_125 / (256 : Int))) (by refine ⟨?_, ?_⟩ <;> decide) (fun _ _ => rfl) (ex_asI (ex_var W rfl f_value_93) e_t_125) (ex_int 256)) ea_nil)) (es_cons W (ex_opI (z := (t_127 % (256 : Int))) (by show (0 : Int) < _; decide) (fun _ _ => rfl) (ex_intI (ea_cons W (ex_asI (ex_var W rfl f_value_93) e_t_127) ea_nil)) (ex_int 256)) es_nil))))) hq fun v_130 H_129 bb hq W M rv => ?_
        rw [← e_tail_128] at rv
        have f_p_event := Rp.mv f_p_event M
        have f_words_68 := Rp.mv f_words_68 M
        have f_body_74 := Rp.mv f_body_74 M
        have l_anumbers_79 := l_anumbers_79.step M fun o e => bb.1 _ o n_anumbers_79 e
        have f_tail_96 := Rp.mv f_tail_96 M
        have f_value_93 := Rp.mv f_value_93 M
        have u := u.trans bb
        have f_tail_128 := rv
        refine (bnd_name : Bnd _ _ _ _ _) _ ?_
        dsimp only [List.set_cons_succ, List.set_cons_zero]
        try dsimp only
        try dsimp only
        try dsimp only
        try dsimp only
        cases hm
        exact key _ _ _ u hq W f_p_event f_words_68 f_body_74 l_anumbers_79 f_tail_128
      · have hm := (if_neg hc).symm.trans hm
        refine r_next ?_
        try dsimp only
        try dsimp only
        try dsimp only
        cases hm
        exact key _ _ _ u hq W f_p_event f_words_68 f_body_74 l_anumbers_79 f_tail_96
  · have hm := (if_neg hc).symm.trans hm
    refine r_next ?_
    try dsimp only
    cases hm
    exact key _ _ _ u hq W f_p_event f_words_68 f_body_74 l_anumbers_79 f_tail_81
end
end Pf

namespace Pf
open PySem L2
local macro_rules | `(tactic| walk_at "rd1") => `(tactic| first
  | with_reducible refine r_seqA ?_
  | with_reducible refine r_seqD ?_
  | with_reducible refine r_seqF ?_
  | with_reducible refine r_seqN ?_
  | with_reducible refine r_asg ?_
  | with_reducible refine r_drop ?_
  | with_reducible refine r_ret ?_
  | with_reducible refine r_ifS ?_
  | ((with_reducible refine r_next ?_); try dsimp only)
  | ((with_reducible refine r_name ?_); try dsimp only [List.set_cons_succ, List.set_cons_zero, wipe])
  | ((with_reducible refine' r_var ?rdh ?_); (case rdh => rfl))
  | with_reducible refine r_c ?_
  | with_reducible refine r_op ?_
  | with_reducible refine r_un ?_
  | with_reducible refine r_I0 ?_
  | ((with_reducible refine r_I ?_ ?_); (· first | decide | exact Or.inl (by decide) | exact Or.inr (by decide) | (show _ ∧ _; constructor <;> decide) | (show (0:Int) < _; omega) | (show CDiv _ _; unfold CDiv; omega) ))
  | with_reducible refine r_U ?_
  | with_reducible refine r_eqI ?_
  | with_reducible refine r_neI ?_
  | with_reducible refine r_eqB ?_
  | with_reducible refine r_neB ?_
  | with_reducible refine r_test ?_
  | with_reducible refine r_B ?_
  | with_reducible refine r_bl ?_
  | with_reducible refine r_bl2 ?_
  | with_reducible refine r_yes ?_
  | with_reducible refine r_wipe (by rfl) ?_
  | with_reducible refine r_rfl ?_
  | ((with_reducible refine' r_eqA ?rdh ?_); (case rdh => rfl))
  | with_reducible refine r_and ?_
  | with_reducible refine r_or ?_
  | with_reducible refine r_not ?_
  | with_reducible refine r_andV ?_
  | with_reducible refine r_orV ?_
  | with_reducible refine r_notV ?_
  | with_reducible refine r_ifE ?_
  | with_reducible refine r_nil ?_
  | with_reducible refine r_cons ?_
  | with_reducible refine r_tup ?_
  | with_reducible refine r_lst ?_
  | with_reducible refine r_CB ?_
  | with_reducible refine r_call ?_
  | with_reducible refine r_bm ?_
  | with_reducible refine r_bm0 ?_
  | with_reducible refine r_int ?_
  | with_reducible refine r_i2 ?_
  | with_reducible refine r_i1 ?_
  | with_reducible refine r_gcons ?_
  | with_reducible refine r_gnil ?_
  | with_reducible refine r_gsub ?_
  | with_reducible refine iteT ?_
  | with_reducible refine iteF ?_
  | with_reducible refine ite_notT ?_
  | with_reducible refine ite_notF ?_
  | with_reducible refine r_isi_ib ?_
  | with_reducible refine r_isi_ii ?_
  | with_reducible refine r_isi_bb ?_
  | with_reducible refine r_isi_nb ?_
  | with_reducible refine r_isi_nt ?_
  | ((with_reducible refine' r_isi_ll ?rdh ?_); (case rdh => first | assumption | exact upd_same))
  | ((with_reducible refine' r_isi_tt ?rdh ?_); (case rdh => first | assumption | exact upd_same))
  | with_reducible refine r_sl ?_
  | with_reducible refine r_noPart ?_
  | with_reducible refine r_part ?_
  | with_reducible refine r_int1 ?_
  | with_reducible refine r_tru ?_
  | with_reducible refine r_ckw ?_
  | with_reducible refine r_lc ?_
  | with_reducible refine r_lc2 ?_
  | with_reducible refine r_forS ?_
  | with_reducible refine r_iR1 ?_
  | with_reducible refine r_iR2 ?_
  | with_reducible refine r_iL ?_
  | ((with_reducible refine' r_lenL ?rdh ?_); (case rdh => walk_at "sq"))
  | ((with_reducible refine' r_ixL ?rdh ?rda ?_); (case rdh => walk_at "sq"); (case rda => walk_at "at"))
  | ((with_reducible refine' r_ixT ?rdh ?rda ?_); (case rdh => walk_at "sq"); (case rda => walk_at "at")))
local macro_rules | `(tactic| walk_at "sq") => `(tactic| first
  | assumption
  | exact SqL.of (by assumption)
  | exact SqL.of upd_same
  | exact SqT.of (by assumption)
  | exact SqT.of upd_same)
local macro_rules | `(tactic| walk_at "sml") => `(tactic| (rw [sizeLine_eq]; simp))
local macro_rules | `(tactic| walk_at "at") => `(tactic| first | assumption | rfl)
local macro_rules | `(tactic| walk_at "rd") => `(tactic| repeat walk_at "rd1")
section
variable {w : World} {P : Program} {base : Heap} {K : PySem.W.Frag} {mg : Str → Option Value}
def number_atM (p_octets : (List Int)) (p_place : Int) : Option Int :=
  (atI p_octets p_place).bind fun t_163 => (mulF (256 : Int) t_163).bind fun t_164 => (atI p_octets (p_place + (1 : Int))).bind fun t_165 => some (t_164 + t_165)
theorem mk_number_at {f  : Addr} {fd  : FuncData} (T : Txt mg) (F : Fun K "_number_at" "_number_at" s_number_at f fd) (m : mg "_number_at" = some (.ref f)) (b : Binds K fd ["octets", "place"] []) :
    Cal P w K mg base "_number_at" 1 f fd ["octets", "place"] (spP (fun (i : (List Int) × Int × Unit) => number_atM i.1 i.2.1)) := by
  refine ⟨F.ok sc_number_at (fun vs H Q E h => ?_) (fun cdv A outer s H vs Q E hr h => ?_), m, F.kp, b⟩
  · obtain ⟨ms, ⟨p_octets, p_place, ⟨⟩⟩, r, _, ⟨v_p_octets, _, rfl, f_p_octets, ⟨v_p_place, _, rfl, f_p_place, e0⟩⟩, _⟩ := h
    cases e0
    rfl
  obtain ⟨ms, ⟨p_octets, p_place, ⟨⟩⟩, r, al, ⟨v_p_octets, _, rfl, f_p_octets, ⟨v_p_place, _, rfl, f_p_place, e0⟩⟩, hm, Q⟩ := h
  cases e0
  obtain rfl : v_p_place = V.int p_place := f_p_place
  refine ⟨_, (pss_one (ps_ret (pe_op op_add (pe_op op_mul pe_int (pe_ix (show IxR _ (rIxL K) from ix_list) (pv 0) (pv 1) (fun _ _ => rfl))) (pe_ix (show IxR _ (rIxL K) from ix_list) (pv 0) (pe_op op_add (pv 1) pe_int) (fun _ _ => rfl))))), ?_⟩
  try dsimp only [cxOf, Cx.nox, Cx.wish]
  rw [show start ["octets", "place"] [v_p_octets, V.int p_place] = [some (v_p_octets), some (V.int p_place)] from rfl]
  have W : Wd [] ms H := ⟨fun a h => (by cases h), al⟩
  have hq : Tr ms H := trivial
  have hm : number_atM p_octets p_place = some r := hm
  have u : Bu [] H H := Bu.refl _ H
  unfold number_atM at hm
  obtain ⟨t_163, e_t_163, hm⟩ := bind_inv hm
  obtain ⟨t_164, e_t_164, hm⟩ := bind_inv hm
  obtain ⟨t_165, e_t_165, hm⟩ := bind_inv hm
  have hm := Option.some.inj hm
  subst hm
  refine r_ret' ?_
  refine Ex.go W (ex_opI0 (z := (t_164 + t_165)) (fun _ _ => rfl) (ex_opI (z := t_164) (mulF_ok e_t_164).1 (fun _ _ => by rw [(mulF_ok e_t_164).2]; rfl) (ex_int 256) (ex_ixL (el_of W.hB (ex_var W rfl f_p_octets)) (ex_vi rfl) W e_t_163)) (ex_ixL (el_of W.hB (ex_var W rfl f_p_octets)) (ex_opI0 (z := (p_place + (1 : Int))) (fun _ _ => rfl) (ex_vi rfl) (ex_int 1)) W e_t_165)) hq fun v H_166 bb hq W M rv => ?_
  exact Q v _ (Bu.to_same (u.trans bb)) (rv)
end
end Pf

namespace Pf
open PySem L2
local macro_rules | `(tactic| walk_at "rd1") => `(tactic| first
  | with_reducible refine r_seqA ?_
  | with_reducible refine r_seqD ?_
  | with_reducible refine r_seqF ?_
  | with_reducible refine r_seqN ?_
  | with_reducible refine r_asg ?_
  | with_reducible refine r_drop ?_
  | with_reducible refine r_ret ?_
  | with_reducible refine r_ifS ?_
  | ((with_reducible refine r_next ?_); try dsimp only)
  | ((with_reducible refine r_name ?_); try dsimp only [List.set_cons_succ, List.set_cons_zero, wipe])
  | ((with_reducible refine' r_var ?rdh ?_); (case rdh => rfl))
  | with_reducible refine r_c ?_
  | with_reducible refine r_op ?_
  | with_reducible refine r_un ?_
  | with_reducible refine r_I0 ?_
  | ((with_reducible refine r_I ?_ ?_); (· first | decide | exact Or.inl (by decide) | exact Or.inr (by decide) | (show _ ∧ _; constructor <;> decide) | (show (0:Int) < _; omega) | (show CDiv _ _; unfold CDiv; omega) ))
  | with_reducible refine r_U ?_
  | with_reducible refine r_eqI ?_
  | with_reducible refine r_neI ?_
  | with_reducible refine r_eqB ?_
  | with_reducible refine r_neB ?_
  | with_reducible refine r_test ?_
  | with_reducible refine r_B ?_
  | with_reducible refine r_bl ?_
  | with_reducible refine r_bl2 ?_
  | with_reducible refine r_yes ?_
  | with_reducible refine r_wipe (by rfl) ?_
  | with_reducible refine r_rfl ?_
  | ((with_reducible refine' r_eqA ?rdh ?_); (case rdh => rfl))
  | with_reducible refine r_and ?_
  | with_reducible refine r_or ?_
  | with_reducible refine r_not ?_
  | with_reducible refine r_andV ?_
  | with_reducible refine r_orV ?_
  | with_reducible refine r_notV ?_
  | with_reducible refine r_ifE ?_
  | with_reducible refine r_nil ?_
  | with_reducible refine r_cons ?_
  | with_reducible refine r_tup ?_
  | with_reducible refine r_lst ?_
  | with_reducible refine r_CB ?_
  | with_reducible refine r_call ?_
  | with_reducible refine r_bm ?_
  | with_reducible refine r_bm0 ?_
  | with_reducible refine r_int ?_
  | with_reducible refine r_i2 ?_
  | with_reducible refine r_i1 ?_
  | with_reducible refine r_gcons ?_
  | with_reducible refine r_gnil ?_
  | with_reducible refine r_gsub ?_
  | with_reducible refine iteT ?_
  | with_reducible refine iteF ?_
  | with_reducible refine ite_notT ?_
  | with_reducible refine ite_notF ?_
  | with_reducible refine r_isi_ib ?_
  | with_reducible refine r_isi_ii ?_
  | with_reducible refine r_isi_bb ?_
  | with_reducible refine r_isi_nb ?_
  | with_reducible refine r_isi_nt ?_
  | ((with_reducible refine' r_isi_ll ?rdh ?_); (case rdh => first | assumption | exact upd_same))
  | ((with_reducible refine' r_isi_tt ?rdh ?_); (case rdh => first | assumption | exact upd_same))
  | with_reducible refine r_sl ?_
  | with_reducible refine r_noPart ?_
  | with_reducible refine r_part ?_
  | with_reducible refine r_int1 ?_
  | with_reducible refine r_tru ?_
  | with_reducible refine r_ckw ?_
  | with_reducible refine r_lc ?_
  | with_reducible refine r_lc2 ?_
  | with_reducible refine r_forS ?_
  | with_reducible refine r_iR1 ?_
  | with_reducible refine r_iR2 ?_
  | with_reducible refine r_iL ?_
  | ((with_reducible refine' r_lenL ?rdh ?_); (case rdh => walk_at "sq"))
  | ((with_reducible refine' r_ixL ?rdh ?rda ?_); (case rdh => walk_at "sq"); (case rda => walk_at "at"))
  | ((with_reducible refine' r_ixT ?rdh ?rda ?_); (case rdh => walk_at "sq"); (case rda => walk_at "at")))
local macro_rules | `(tactic| walk_at "sq") => `(tactic| first
  | assumption
  | exact SqL.of (by assumption)
  | exact SqL.of upd_same
  | exact SqT.of (by assumption)
  | exact SqT.of upd_same)
local macro_rules | `(tactic| walk_at "sml") => `(tactic| (rw [sizeLine_eq]; simp))
local macro_rules | `(tactic| walk_at "at") => `(tactic| first | assumption | rfl)
local macro_rules | `(tactic| walk_at "rd") => `(tactic| repeat walk_at "rd1")
section
variable {w : World} {P : Program} {base : Heap} {K : PySem.W.Frag} {mg : Str → Option Value}
def event_readM (p_body : (List Int)) : Option (Option (VT PyData)) :=
  (if (!(!p_body.isEmpty)) = false then (atI p_body (0 : Int)).bind fun t_168 => some (decide ((9 : Int) ≤ t_168)) else some true).bind fun t_169 => if t_169 = true then (some (none : (Option (VT PyData)))) else ((atI p_body (0 : Int)).bind fun t_172 => (atI ([Str.ofString "allocate", Str.ofString "write", Str.ofString "release", Str.ofString "addRoot", Str.ofString "removeRoot", Str.ofString "collect", Str.ofString "compact", Str.ofString "makeRoom", Str.ofString "slide"]) t_172).bind fun t_173 => bnd (t_173) fun word_174 => (atI p_body (0 : Int)).bind fun t_177 => (atI ([(1 : Int), (2 : Int), (1 : Int), (1 : Int), (1 : Int), (0 : Int), (0 : Int), (1 : Int), (0 : Int)]) t_177).bind fun t_178 => (mulF (2 : Int) t_178).bind fun t_179 => bnd (((1 : Int) + t_179)) fun end_180 => (if (decide (word_174 = (Str.ofString "write"))) = true then some (3 : Int) else some (0 : Int)).bind fun t_184 => if (!decide ((p_body.length : Int) = (end_180 + t_184))) = true then (some (none : (Option (VT PyData)))) else ((rng3 (1 : Int) end_180 (2 : Int)).bind fun rg_187 => (colL (fun (y_188 : Int) => (number_atM p_body y_188).bind fun t_190 => some (some t_190)) rg_187).bind fun cs_189 => bnd (cs_189) fun numbers_191 => if (!decide (word_174 = (Str.ofString "write"))) = true then ((vtF (((ToD.toD word_174) :: ((List.map ToD.toD numbers_191) ++ [])) : List PyData)).bind fun t_195 => some (some t_195)) else ((atI p_body end_180).bind fun t_197 => bnd (t_197) fun kind_198 => (number_atM p_body (end_180 + (1 : Int))).bind fun t_201 => bnd (t_201) fun value_202 => if ((decide (kind_198 = (0 : Int))) && (decide (value_202 = (0 : Int)))) = true then ((vtF (((ToD.toD word_174) :: ((List.map ToD.toD numbers_191) ++ (PyData.none :: []))) : List PyData)).bind fun t_206 => some (some t_206)) else (if (decide (kind_198 = (1 : Int))) = true then ((vtF (((ToD.toD word_174) :: ((List.map ToD.toD numbers_191) ++ ((ToD.toD value_202) :: []))) : List PyData)).bind fun t_209 => some (some t_209)) else ((if (decide (kind_198 = (2 : Int))) = true then (vtF (((ToD.toD word_174) :: ((List.map ToD.toD numbers_191) ++ ((ToD.toD ((Str.ofString "object"), value_202)) :: []))) : List PyData)).bind fun t_211 => some (some t_211) else some (none : (Option (VT PyData)))).bind fun t_212 => some t_212)))))
theorem mk_event_read {f f1 g_WORDS g_NUMBERS : Addr} {fd fd1 : FuncData} (T : Txt mg) (F : Fun K "event_read" "event_read" s_event_read f fd) (m : mg "event_read" = some (.ref f)) (b : Binds K fd ["body"] [])
    (C_number_at : Cal P w K mg base "_number_at" 1 f1 fd1 ["octets", "place"] (spP (fun (i : (List Int) × Int × Unit) => number_atM i.1 i.2.1)))
    (G_WORDS : GTup K mg "WORDS" g_WORDS ([Str.ofString "allocate", Str.ofString "write", Str.ofString "release", Str.ofString "addRoot", Str.ofString "removeRoot", Str.ofString "collect", Str.ofString "compact", Str.ofString "makeRoom", Str.ofString "slide"].map V.str))
    (G_NUMBERS : GTup K mg "NUMBERS" g_NUMBERS ([(1 : Int), (2 : Int), (1 : Int), (1 : Int), (1 : Int), (0 : Int), (0 : Int), (1 : Int), (0 : Int)].map V.int)) :
    Cal P w K mg base "event_read" 2 f fd ["body"] (spP (fun (i : (List Int) × Unit) => event_readM i.1)) := by
  refine ⟨F.ok sc_event_read (fun vs H Q E h => ?_) (fun cdv A outer s H vs Q E hr h => ?_), m, F.kp, b⟩
  · obtain ⟨ms, ⟨p_body, ⟨⟩⟩, r, _, ⟨v_p_body, _, rfl, f_p_body, e0⟩, _⟩ := h
    cases e0
    rfl
  obtain ⟨ms, ⟨p_body, ⟨⟩⟩, r, al, ⟨v_p_body, _, rfl, f_p_body, e0⟩, hm, Q⟩ := h
  cases e0
  refine ⟨_, (pss_cons (ps_if (PW.pt (pw_or (pt_not (pt_truthN (pv 0))) (pw_or1 (pt_cmpR op_ge (pe_ix (show IxR _ (rIxL K) from ix_list) (pv 0) pe_int (fun _ _ => rfl)) (pe_callB (show CallR _ _ (fun xs H Q => ∃ p ys, xs = [V.ref p] ∧ (SqL K H p ys ∨ SqT K H p ys) ∧ Q (.int ys.length) H) from call_len_seq) (by rfl) T.len PySem.boot_len (pa_cons (pe_gref rfl G_WORDS.at_) pa_nil)) (nomark _)))))
      (pss_one (ps_ret pe_non))
      pss_nil) (pss_cons (ps_set (i := 1) sc_event_read.nd rfl (Or.inl rfl) (pe_ix (show IxR _ (rIxT K) from ix_tup) (pe_gref rfl G_WORDS.at_) (pe_ix (show IxR _ (rIxL K) from ix_list) (pv 0) pe_int (fun _ _ => rfl)) (fun _ _ => rfl))) (pss_cons (ps_set (i := 2) sc_event_read.nd rfl (Or.inl rfl) (pe_op op_add pe_int (pe_op op_mul pe_int (pe_ix (show IxR _ (rIxT K) from ix_tup) (pe_gref rfl G_NUMBERS.at_) (pe_ix (show IxR _ (rIxL K) from ix_list) (pv 0) pe_int (fun _ _ => rfl)) (fun _ _ => rfl))))) (pss_cons (ps_if (pt_cmpR op_ne (pe_callB (show CallR _ _ (fun xs H Q => ∃ p ys, xs = [V.ref p] ∧ (SqL K H p ys ∨ SqT K H p ys) ∧ Q (.int ys.length) H) from call_len_seq) (by rfl) T.len PySem.boot_len (pa_cons (pv 0) pa_nil)) (pe_op op_add (pv 2) (pe_ifExp (pt_cmpR op_eq (pv 1) (pe_gstr rfl T.WRITE) (nomark _)) pe_int pe_int)) (nomark _))
      (pss_one (ps_ret pe_non))
      pss_nil) (pss_cons (show PS _ _ (tAsg (tLc _ _ _ _ [4]) _) from ps_setLc (i := 3) (own := [("place", 4)]) (g := gName 4) (tt := tYes) rfl sc_event_read.nd rfl rfl (sw_true rfl rfl rfl (by decide +kernel)) (pi_range3 rfl T.range (pa_cons pe_int (pa_cons (pv 2) (pa_cons pe_int pa_nil)))) (blkOk_by (own := [("place", 4)]) (N := ["body", "word", "end", "numbers", "place", "kind", "value"]) (sc := defScope s_event_read) (by decide +kernel)) (fun _ _ _ _ _ => (pg_name (i := 4) sc_event_read.nd rfl (Or.inl rfl))) (fun _ _ _ _ _ => pts_nil) (fun _ _ _ _ _ => (pe_call C_number_at.ok (hr.mono (by first | decide | omega)) rfl C_number_at.mg C_number_at.kp C_number_at.b .nil pass0 (pa_cons (pv 0) (pa_cons (pv 4) pa_nil))))) (pss_cons (ps_if (pt_cmpR op_ne (pv 1) (pe_gstr rfl T.WRITE) (nomark _))
      (pss_one (ps_ret (pe_tup (pa_cons (pv 1) (pa_star (pv 3) pa_nil)))))
      pss_nil) (pss_cons (ps_set (i := 5) sc_event_read.nd rfl (Or.inl rfl) (pe_ix (show IxR _ (rIxL K) from ix_list) (pv 0) (pv 2) (fun _ _ => rfl))) (pss_cons (ps_set (i := 6) sc_event_read.nd rfl (Or.inl rfl) (pe_call C_number_at.ok (hr.mono (by first | decide | omega)) rfl C_number_at.mg C_number_at.kp C_number_at.b .nil pass0 (pa_cons (pv 0) (pa_cons (pe_op op_add (pv 2) pe_int) pa_nil)))) (pss_cons (ps_if (PW.pt (pw_and (pt_cmpR op_eq (pv 5) (pe_gint rfl T.NOTHING) (nomark _)) (pw_and1 (pt_cmpR op_eq (pv 6) pe_int (nomark _)))))
      (pss_one (ps_ret (pe_tup (pa_cons (pv 1) (pa_star (pv 3) (pa_cons pe_non pa_nil))))))
      pss_nil) (pss_cons (ps_if (pt_cmpR op_eq (pv 5) (pe_gint rfl T.INTEGER) (nomark _))
      (pss_one (ps_ret (pe_tup (pa_cons (pv 1) (pa_star (pv 3) (pa_cons (pv 6) pa_nil))))))
      pss_nil) (pss_one (ps_ret (pe_ifExp (pt_cmpR op_eq (pv 5) (pe_gint rfl T.REFERENCE) (nomark _)) (pe_tup (pa_cons (pv 1) (pa_star (pv 3) (pa_cons (pe_tup (pa_cons (pe_gstr rfl T.OBJECT) (pa_cons (pv 6) pa_nil))) pa_nil)))) pe_non))))))))))))), ?_⟩
  try dsimp only [cxOf, Cx.nox, Cx.wish]
  rw [show start ["body", "word", "end", "numbers", "place", "kind", "value"] [v_p_body] = [some (v_p_body), none, none, none, none, none, none] from rfl]
  have W : Wd [] ms H := ⟨fun a h => (by cases h), al⟩
  have hq : Tr ms H := trivial
  have hm : event_readM p_body = some r := hm
  have u : Bu [] H H := Bu.refl _ H
  unfold event_readM at hm
  obtain ⟨t_169, e_t_169, hm⟩ := bind_inv hm
  refine r_seq ?_
  refine r_ifS ?_
  refine Et.go W (et_or (d := t_169) (et_not (et_truL (el_of W.hB (ex_var W rfl f_p_body)))) (fun c => by
          have hm := (if_pos c).symm.trans e_t_169
          obtain ⟨t_168, e_t_168, hm⟩ := bind_inv hm
          rw [← Option.some.inj hm]
          exact (et_test (ex_opI0 (z := (decide ((9 : Int) ≤ t_168))) (fun _ _ => rfl) (ex_ixL (el_of W.hB (ex_var W rfl f_p_body)) (ex_int 0) W e_t_168) (ex_glen G_WORDS))))
          (fun c => by
          have hm := (if_neg (by rw [c]; decide)).symm.trans e_t_169
          cases hm
          exact ⟨rfl, fun _ h => h⟩)) hq fun H_170 bb hq W M => ?_
  have f_p_body := Rp.mv f_p_body M
  have u := u.trans bb
  refine ite_by (fun hc => ?_) (fun hc => ?_)
  · have hm := (if_pos hc).symm.trans hm
    have hm := Option.some.inj hm
    subst hm
    refine r_ret' ?_
    refine Ex.go W (ex_non (α := (VT PyData))) hq fun v H_171 bb hq W M rv => ?_
    exact Q v _ (Bu.to_same (u.trans bb)) (rv)
  · have hm := (if_neg hc).symm.trans hm
    refine r_next ?_
    try dsimp only
    obtain ⟨t_172, e_t_172, hm⟩ := bind_inv hm
    obtain ⟨t_173, e_t_173, hm⟩ := bind_inv hm
    obtain ⟨word_174, e_word_174, hm⟩ := bnd_inv hm
    refine r_seqA ?_
    refine Ex.go W (ex_gixS G_WORDS (ex_ixL (el_of W.hB (ex_var W rfl f_p_body)) (ex_int 0) W e_t_172) e_t_173) hq fun v_176 H_175 bb hq W M rv => ?_
    rw [← e_word_174] at rv
    have f_p_body := Rp.mv f_p_body M
    have u := u.trans bb
    obtain rfl : v_176 = V.str word_174 := rv
    refine (bnd_name : Bnd _ _ _ _ _) _ ?_
    dsimp only [List.set_cons_succ, List.set_cons_zero]
    obtain ⟨t_177, e_t_177, hm⟩ := bind_inv hm
    obtain ⟨t_178, e_t_178, hm⟩ := bind_inv hm
    obtain ⟨t_179, e_t_179, hm⟩ := bind_inv hm
    obtain ⟨end_180, e_end_180, hm⟩ := bnd_inv hm
    refine r_seqA ?_
    refine Ex.go W (ex_opI0 (z := ((1 : Int) + t_179)) (fun _ _ => rfl) (ex_int 1) (ex_opI (z := t_179) (mulF_ok e_t_179).1 (fun _ _ => by rw [(mulF_ok e_t_179).2]; rfl) (ex_int 2) (ex_gixI G_NUMBERS (ex_ixL (el_of W.hB (ex_var W rfl f_p_body)) (ex_int 0) W e_t_177) e_t_178))) hq fun v_182 H_181 bb hq W M rv => ?_
    rw [← e_end_180] at rv
    have f_p_body := Rp.mv f_p_body M
    have u := u.trans bb
    obtain rfl : v_182 = V.int end_180 := rv
    refine (bnd_name : Bnd _ _ _ _ _) _ ?_
    dsimp only [List.set_cons_succ, List.set_cons_zero]
    obtain ⟨t_184, e_t_184, hm⟩ := bind_inv hm
    refine r_seq ?_
    refine r_ifS ?_
    refine Et.go W (et_test (ex_neI (ex_len (el_of W.hB (ex_var W rfl f_p_body))) (ex_opI0 (z := (end_180 + t_184)) (fun _ _ => rfl) (ex_vi rfl) (ex_if (x := t_184) (et_test (ex_eqS (ex_vs rfl) (ex_str _))) (fun c => by
            have hm := (if_pos c).symm.trans e_t_184
            
            rw [← Option.some.inj hm]
            exact (ex_int 3))
            (fun c => by
            have hm := (if_neg (by rw [c]; decide)).symm.trans e_t_184
            
            rw [← Option.some.inj hm]
            exact (ex_int 0)))))) hq fun H_185 bb hq W M => ?_
    have f_p_body := Rp.mv f_p_body M
    have u := u.trans bb
    refine ite_by (fun hc => ?_) (fun hc => ?_)
    · have hm := (if_pos hc).symm.trans hm
      have hm := Option.some.inj hm
      subst hm
      refine r_ret' ?_
      refine Ex.go W (ex_non (α := (VT PyData))) hq fun v H_186 bb hq W M rv => ?_
      exact Q v _ (Bu.to_same (u.trans bb)) (rv)
    · have hm := (if_neg hc).symm.trans hm
      refine r_next ?_
      try dsimp only
      obtain ⟨rg_187, e_rg_187, hm⟩ := bind_inv hm
      obtain ⟨cs_189, e_cs_189, hm⟩ := bind_inv hm
      obtain ⟨numbers_191, e_numbers_191, hm⟩ := bnd_inv hm
      refine r_seqA ?_
      refine Ex.go W (En.ex (sb_tr (B := [])) (en_lcL (f := fun (y_188 : Int) => (number_atM p_body y_188).bind fun t_190 => some (some t_190)) W (sb_tr (B := [])) (Ei.ej (ei_rng3 (ea_cons W (ex_int 1) (ea_cons W (ex_vi rfl) (ea_cons W (ex_int 2) ea_nil))) e_rg_187)) e_cs_189 (fun ms' H' y_188 v r' L hq' rv hm => by
              have W := L.W
              have f_p_body := Rp.mv f_p_body L.M
              obtain rfl : v = V.int y_188 := rv
              obtain ⟨t_190, e_t_190, hm⟩ := bind_inv hm
              cases hm
              exact ⟨_, bnd_name, rfl, true, et_yes, fun h => (by cases h), fun _ => ⟨_, rfl, (ex_call (i := (p_body, y_188, ())) W (sb_tr (B := [])) (ea_cons W (ex_var W rfl f_p_body) (ea_cons W (ex_vi rfl) ea_nil)) e_t_190)⟩⟩))) hq fun v_193 H_192 bb hq W M rv => ?_
      rw [← e_numbers_191] at rv
      have f_p_body := Rp.mv f_p_body M
      have u := u.trans bb
      have f_numbers_191 := rv
      refine (bnd_name : Bnd _ _ _ _ _) _ ?_
      dsimp only [List.set_cons_succ, List.set_cons_zero]
      refine r_seq ?_
      refine r_ifS ?_
      refine Et.go W (et_test (ex_neS (ex_vs rfl) (ex_str _))) hq fun H_194 bb hq W M => ?_
      have f_p_body := Rp.mv f_p_body M
      have f_numbers_191 := Rp.mv f_numbers_191 M
      have u := u.trans bb
      refine ite_by (fun hc => ?_) (fun hc => ?_)
      · have hm := (if_pos hc).symm.trans hm
        obtain ⟨t_195, e_t_195, hm⟩ := bind_inv hm
        have hm := Option.some.inj hm
        subst hm
        refine r_ret' ?_
        refine Ex.go W (ex_some (ex_tupV W (sb_tr (B := [])) (eds_cons W (ex_toD (ex_vs rfl)) (eds_starT W (el_of W.hB (ex_var W rfl f_numbers_191)) eds_nil)) e_t_195)) hq fun v H_196 bb hq W M rv => ?_
        exact Q v _ (Bu.to_same (u.trans bb)) (rv)
      · have hm := (if_neg hc).symm.trans hm
        refine r_next ?_
        try dsimp only
        obtain ⟨t_197, e_t_197, hm⟩ := bind_inv hm
        obtain ⟨kind_198, e_kind_198, hm⟩ := bnd_inv hm
        refine r_seqA ?_
        refine Ex.go W (ex_ixL (el_of W.hB (ex_var W rfl f_p_body)) (ex_vi rfl) W e_t_197) hq fun v_200 H_199 bb hq W M rv => ?_
        rw [← e_kind_198] at rv
        have f_p_body := Rp.mv f_p_body M
        have f_numbers_191 := Rp.mv f_numbers_191 M
        have u := u.trans bb
        obtain rfl : v_200 = V.int kind_198 := rv
        refine (bnd_name : Bnd _ _ _ _ _) _ ?_
        dsimp only [List.set_cons_succ, List.set_cons_zero]
        obtain ⟨t_201, e_t_201, hm⟩ := bind_inv hm
        obtain ⟨value_202, e_value_202, hm⟩ := bnd_inv hm
        refine r_seqA ?_
        refine Ex.go W (ex_call (i := (p_body, (end_180 + (1 : Int)), ())) W (sb_tr (B := [])) (ea_cons W (ex_var W rfl f_p_body) (ea_cons W (ex_opI0 (z := (end_180 + (1 : Int))) (fun _ _ => rfl) (ex_vi rfl) (ex_int 1)) ea_nil)) e_t_201) hq fun v_204 H_203 bb hq W M rv => ?_
        rw [← e_value_202] at rv
        have f_p_body := Rp.mv f_p_body M
        have f_numbers_191 := Rp.mv f_numbers_191 M
        have u := u.trans bb
        obtain rfl : v_204 = V.int value_202 := rv
        refine (bnd_name : Bnd _ _ _ _ _) _ ?_
        dsimp only [List.set_cons_succ, List.set_cons_zero]
        refine r_seq ?_
        refine r_ifS ?_
        refine Et.go W (et_and' (et_test (ex_eqI (ex_vi rfl) (ex_int 0))) fun _ => (et_test (ex_eqI (ex_vi rfl) (ex_int 0)))) hq fun H_205 bb hq W M => ?_
        have f_p_body := Rp.mv f_p_body M
        have f_numbers_191 := Rp.mv f_numbers_191 M
        have u := u.trans bb
        refine ite_by (fun hc => ?_) (fun hc => ?_)
        · have hm := (if_pos hc).symm.trans hm
          obtain ⟨t_206, e_t_206, hm⟩ := bind_inv hm
          have hm := Option.some.inj hm
          subst hm
          refine r_ret' ?_
          refine Ex.go W (ex_some (ex_tupV W (sb_tr (B := [])) (eds_cons W (ex_toD (ex_vs rfl)) (eds_starT W (el_of W.hB (ex_var W rfl f_numbers_191)) (eds_cons W (ex_nonD (sb_tr (B := []))) eds_nil))) e_t_206)) hq fun v H_207 bb hq W M rv => ?_
          exact Q v _ (Bu.to_same (u.trans bb)) (rv)
        · have hm := (if_neg hc).symm.trans hm
          refine r_next ?_
          try dsimp only
          refine r_seq ?_
          refine r_ifS ?_
          refine Et.go W (et_test (ex_eqI (ex_vi rfl) (ex_int 1))) hq fun H_208 bb hq W M => ?_
          have f_p_body := Rp.mv f_p_body M
          have f_numbers_191 := Rp.mv f_numbers_191 M
          have u := u.trans bb
          refine ite_by (fun hc => ?_) (fun hc => ?_)
          · have hm := (if_pos hc).symm.trans hm
            obtain ⟨t_209, e_t_209, hm⟩ := bind_inv hm
            have hm := Option.some.inj hm
            subst hm
            refine r_ret' ?_
            refine Ex.go W (ex_some (ex_tupV W (sb_tr (B := [])) (eds_cons W (ex_toD (ex_vs rfl)) (eds_starT W (el_of W.hB (ex_var W rfl f_numbers_191)) (eds_cons W (ex_toD (ex_vi rfl)) eds_nil))) e_t_209)) hq fun v H_210 bb hq W M rv => ?_
            exact Q v _ (Bu.to_same (u.trans bb)) (rv)
          · have hm := (if_neg hc).symm.trans hm
            refine r_next ?_
            try dsimp only
            obtain ⟨t_212, e_t_212, hm⟩ := bind_inv hm
            have hm := Option.some.inj hm
            subst hm
            refine r_ret' ?_
            refine Ex.go W (ex_if (x := t_212) (et_test (ex_eqI (ex_vi rfl) (ex_int 2))) (fun c => by
                    have hm := (if_pos c).symm.trans e_t_212
                    obtain ⟨t_211, e_t_211, hm⟩ := bind_inv hm
                    rw [← Option.some.inj hm]
                    exact (ex_some (ex_tupV W (sb_tr (B := [])) (eds_cons W (ex_toD (ex_vs rfl)) (eds_starT W (el_of W.hB (ex_var W rfl f_numbers_191)) (eds_cons W (ex_toD (ex_tup2 W (sb_tr (B := [])) (u := ((Str.ofString "object"), value_202)) (ea_cons W (ex_str _) (ea_cons W (ex_vi rfl) ea_nil)))) eds_nil))) e_t_211)))
                    (fun c => by
                    have hm := (if_neg (by rw [c]; decide)).symm.trans e_t_212
                    
                    rw [← Option.some.inj hm]
                    exact (ex_non (α := (VT PyData))))) hq fun v H_213 bb hq W M rv => ?_
            exact Q v _ (Bu.to_same (u.trans bb)) (rv)
end
end Pf

namespace Pf
open PySem L2
local macro_rules | `(tactic| walk_at "rd1") => `(tactic| first
  | with_reducible refine r_seqA ?_
  | with_reducible refine r_seqD ?_
  | with_reducible refine r_seqF ?_
  | with_reducible refine r_seqN ?_
  | with_reducible refine r_asg ?_
  | with_reducible refine r_drop ?_
  | with_reducible refine r_ret ?_
  | with_reducible refine r_ifS ?_
  | ((with_reducible refine r_next ?_); try dsimp only)
  | ((with_reducible refine r_name ?_); try dsimp only [List.set_cons_succ, List.set_cons_zero, wipe])
  | ((with_reducible refine' r_var ?rdh ?_); (case rdh => rfl))
  | with_reducible refine r_c ?_
  | with_reducible refine r_op ?_
  | with_reducible refine r_un ?_
  | with_reducible refine r_I0 ?_
  | ((with_reducible refine r_I ?_ ?_); (· first | decide | exact Or.inl (by decide) | exact Or.inr (by decide) | (show _ ∧ _; constructor <;> decide) | (show (0:Int) < _; omega) | (show CDiv _ _; unfold CDiv; omega) ))
  | with_reducible refine r_U ?_
  | with_reducible refine r_eqI ?_
  | with_reducible refine r_neI ?_
  | with_reducible refine r_eqB ?_
  | with_reducible refine r_neB ?_
  | with_reducible refine r_test ?_
  | with_reducible refine r_B ?_
  | with_reducible refine r_bl ?_
  | with_reducible refine r_bl2 ?_
  | with_reducible refine r_yes ?_
  | with_reducible refine r_wipe (by rfl) ?_
  | with_reducible refine r_rfl ?_
  | ((with_reducible refine' r_eqA ?rdh ?_); (case rdh => rfl))
  | with_reducible refine r_and ?_
  | with_reducible refine r_or ?_
  | with_reducible refine r_not ?_
  | with_reducible refine r_andV ?_
  | with_reducible refine r_orV ?_
  | with_reducible refine r_notV ?_
  | with_reducible refine r_ifE ?_
  | with_reducible refine r_nil ?_
  | with_reducible refine r_cons ?_
  | with_reducible refine r_tup ?_
  | with_reducible refine r_lst ?_
  | with_reducible refine r_CB ?_
  | with_reducible refine r_call ?_
  | with_reducible refine r_bm ?_
  | with_reducible refine r_bm0 ?_
  | with_reducible refine r_int ?_
  | with_reducible refine r_i2 ?_
  | with_reducible refine r_i1 ?_
  | with_reducible refine r_gcons ?_
  | with_reducible refine r_gnil ?_
  | with_reducible refine r_gsub ?_
  | with_reducible refine iteT ?_
  | with_reducible refine iteF ?_
  | with_reducible refine ite_notT ?_
  | with_reducible refine ite_notF ?_
  | with_reducible refine r_isi_ib ?_
  | with_reducible refine r_isi_ii ?_
  | with_reducible refine r_isi_bb ?_
  | with_reducible refine r_isi_nb ?_
  | with_reducible refine r_isi_nt ?_
  | ((with_reducible refine' r_isi_ll ?rdh ?_); (case rdh => first | assumption | exact upd_same))
  | ((with_reducible refine' r_isi_tt ?rdh ?_); (case rdh => first | assumption | exact upd_same))
  | with_reducible refine r_sl ?_
  | with_reducible refine r_noPart ?_
  | with_reducible refine r_part ?_
  | with_reducible refine r_int1 ?_
  | with_reducible refine r_tru ?_
  | with_reducible refine r_ckw ?_
  | with_reducible refine r_lc ?_
  | with_reducible refine r_lc2 ?_
  | with_reducible refine r_forS ?_
  | with_reducible refine r_iR1 ?_
  | with_reducible refine r_iR2 ?_
  | with_reducible refine r_iL ?_
  | ((with_reducible refine' r_lenL ?rdh ?_); (case rdh => walk_at "sq"))
  | ((with_reducible refine' r_ixL ?rdh ?rda ?_); (case rdh => walk_at "sq"); (case rda => walk_at "at"))
  | ((with_reducible refine' r_ixT ?rdh ?rda ?_); (case rdh => walk_at "sq"); (case rda => walk_at "at")))
local macro_rules | `(tactic| walk_at "sq") => `(tactic| first
  | assumption
  | exact SqL.of (by assumption)
  | exact SqL.of upd_same
  | exact SqT.of (by assumption)
  | exact SqT.of upd_same)
local macro_rules | `(tactic| walk_at "sml") => `(tactic| (rw [sizeLine_eq]; simp))
local macro_rules | `(tactic| walk_at "at") => `(tactic| first | assumption | rfl)
local macro_rules | `(tactic| walk_at "rd") => `(tactic| repeat walk_at "rd1")
section
variable {w : World} {P : Program} {base : Heap} {K : PySem.W.Frag} {mg : Str → Option Value}
def recoveredM (p_octets : (List Int)) : Option ((List (VT PyData)) × Int) :=
  bnd (([] : List (VT PyData))) fun changes_214 => bnd ((0 : Int)) fun taken_216 => (whlB (fun (x : ((List (VT PyData)) × Int)) => match x with | (changes_219, taken_220) => some (decide (taken_220 < (p_octets.length : Int))) : ((List (VT PyData)) × Int) → Option Bool) (fun (x : ((List (VT PyData)) × Int)) => match x with | (changes_219, taken_220) => (atI p_octets taken_220).bind fun t_227 => bnd (((taken_220 + (1 : Int)) + t_227)) fun end_228 => (if (decide ((p_octets.length : Int) < end_228)) = false then (atI p_octets (end_228 - (1 : Int))).bind fun t_232 => some (!decide (t_232 = (170 : Int))) else some true).bind fun t_233 => if t_233 = true then (some (.brk (changes_219, taken_220))) else ((event_readM (cutF p_octets (some (taken_220 + (1 : Int))) (some (end_228 - (1 : Int))))).bind fun t_235 => bnd (t_235) fun event_236 => if event_236.isNone = true then (some (.brk (changes_219, taken_220))) else (event_236.bind fun event_240 => (appF changes_219 event_240).bind fun changes_241 => bnd (end_228) fun taken_243 => some (.go (changes_241, taken_243)))) : ((List (VT PyData)) × Int) → Option (Fb ((List (VT PyData)) × Int) ((List (VT PyData)) × Int))) 100000 (changes_214, taken_216)).bind fun fl => match fl with | .ret r' => some r' | .go x => match x with | (changes_219, taken_220) => some (changes_219, taken_220)
theorem mk_recovered {f f1 : Addr} {fd fd1 : FuncData} (T : Txt mg) (F : Fun K "recovered" "recovered" s_recovered f fd) (m : mg "recovered" = some (.ref f)) (b : Binds K fd ["octets"] [])
    (C_event_read : Cal P w K mg base "event_read" 2 f1 fd1 ["body"] (spP (fun (i : (List Int) × Unit) => event_readM i.1))) :
    Cal P w K mg base "recovered" 3 f fd ["octets"] (spP (fun (i : (List Int) × Unit) => recoveredM i.1)) := by
  refine ⟨F.ok sc_recovered (fun vs H Q E h => ?_) (fun cdv A outer s H vs Q E hr h => ?_), m, F.kp, b⟩
  · obtain ⟨ms, ⟨p_octets, ⟨⟩⟩, r, _, ⟨v_p_octets, _, rfl, f_p_octets, e0⟩, _⟩ := h
    cases e0
    rfl
  obtain ⟨ms, ⟨p_octets, ⟨⟩⟩, r, al, ⟨v_p_octets, _, rfl, f_p_octets, e0⟩, hm, Q⟩ := h
  cases e0
  refine ⟨_, (pss_cons (ps_set (i := 1) sc_recovered.nd rfl (Or.inl rfl) (pe_lst pa_nil)) (pss_cons (ps_set (i := 2) sc_recovered.nd rfl (Or.inl rfl) pe_int) (pss_cons (ps_while PassesOwn.never (pt_cmpR op_lt (pv 2) (pe_callB (show CallR _ _ (fun xs H Q => ∃ p ys, xs = [V.ref p] ∧ (SqL K H p ys ∨ SqT K H p ys) ∧ Q (.int ys.length) H) from call_len_seq) (by rfl) T.len PySem.boot_len (pa_cons (pv 0) pa_nil)) (nomark _))
      (pss_cons (ps_set (i := 3) sc_recovered.nd rfl (Or.inl rfl) (pe_op op_add (pe_op op_add (pv 2) pe_int) (pe_ix (show IxR _ (rIxL K) from ix_list) (pv 0) (pv 2) (fun _ _ => rfl)))) (pss_cons (ps_if (PW.pt (pw_or (pt_cmpR op_gt (pv 3) (pe_callB (show CallR _ _ (fun xs H Q => ∃ p ys, xs = [V.ref p] ∧ (SqL K H p ys ∨ SqT K H p ys) ∧ Q (.int ys.length) H) from call_len_seq) (by rfl) T.len PySem.boot_len (pa_cons (pv 0) pa_nil)) (nomark _)) (pw_or1 (pt_cmpR op_ne (pe_ix (show IxR _ (rIxL K) from ix_list) (pv 0) (pe_op op_sub (pv 3) pe_int) (fun _ _ => rfl)) (pe_gint rfl T.END) (nomark _)))))
      (pss_one ps_break)
      pss_nil) (pss_cons (ps_set (i := 4) sc_recovered.nd rfl (Or.inl rfl) (pe_call C_event_read.ok (hr.mono (by first | decide | omega)) rfl C_event_read.mg C_event_read.kp C_event_read.b .nil pass0 (pa_cons (pe_slice (show SlR _ (rSlL K) from sl_list) (pv 0) (po_some (pe_op op_add (pv 2) pe_int)) (po_some (pe_op op_sub (pv 3) pe_int))) pa_nil))) (pss_cons (ps_if (pt_cmpR op_isN (pv 4) pe_non (nomark _))
      (pss_one ps_break)
      pss_nil) (pss_cons (ps_expr (pe_bm PySem.F.plainAttrs_list PySem.F.slot_list_append PySem.F.type_list_append mt_append (pv 1) (pa_cons (pv 4) pa_nil))) (pss_one (ps_set (i := 2) sc_recovered.nd rfl (Or.inl rfl) (pv 3))))))))) (pss_one (ps_ret (pe_tup (pa_cons (pv 1) (pa_cons (pv 2) pa_nil)))))))), ?_⟩
  try dsimp only [cxOf, Cx.nox, Cx.wish]
  rw [show start ["octets", "changes", "taken", "end", "event"] [v_p_octets] = [some (v_p_octets), none, none, none, none] from rfl]
  have W : Wd [] ms H := ⟨fun a h => (by cases h), al⟩
  have hq : Tr ms H := trivial
  have hm : recoveredM p_octets = some r := hm
  have u : Bu [] H H := Bu.refl _ H
  unfold recoveredM at hm
  obtain ⟨changes_214, e_changes_214, hm⟩ := bnd_inv hm
  refine r_seqA ?_
  refine En.mk W (en_lst (xs := ([] : List (VT PyData))) W (sb_tr (B := [])) (by simp) es_nil) hq fun achanges_214 H_215 bb na hq' W' M l_achanges_214 => ?_
  rw [← e_changes_214] at l_achanges_214
  have o_achanges_214 := W.al.not na
  have n_achanges_214 : achanges_214 ∉ [] := fun z => W.al.not na (W.hB _ z)
  have m_achanges_214 : achanges_214 ∈ achanges_214 :: ms := List.mem_cons_self
  have h_achanges_214 := u.none na
  have f_p_octets := Rp.mv f_p_octets M
  have u := u.trans bb
  have W := W'
  have hq := hq'
  refine r_name ?_
  dsimp only [List.set_cons_succ, List.set_cons_zero]
  obtain ⟨taken_216, e_taken_216, hm⟩ := bnd_inv hm
  refine r_seqA ?_
  refine Ex.go W (ex_int 0) hq fun v_218 H_217 bb hq W M rv => ?_
  rw [← e_taken_216] at rv
  have f_p_octets := Rp.mv f_p_octets M
  have l_achanges_214 := l_achanges_214.step M fun o e => bb.1 _ o n_achanges_214 e
  have u := u.trans bb
  obtain rfl : v_218 = V.int taken_216 := rv
  refine (bnd_name : Bnd _ _ _ _ _) _ ?_
  dsimp only [List.set_cons_succ, List.set_cons_zero]
  refine r_seqU ?_
  obtain ⟨out_223, e_out_223, hm⟩ := bind_inv hm
  have hretN_222 : ∀ r', out_223 = .ret r' → some r' = some r := fun r' e => by
    rw [e] at hm
    exact hm
  have hgoN_222 := hm
  clear hm
  refine wk_whileB e_out_223 (fun x σ H' => match x with | (changes_219, taken_220) => ∃ (xl_end : Option V), ∃ (xl_event : Option V), σ = [some v_p_octets, some (.ref achanges_214), some (.int taken_220), xl_end, xl_event] ∧ Bu [] H H' ∧ Tr (achanges_214 :: ms) H' ∧ Wd [] (achanges_214 :: ms) H' ∧ Rp.rp (achanges_214 :: ms) H' (v_p_octets) p_octets ∧ Ls (achanges_214 :: ms) H' achanges_214 changes_219) ⟨_, _, rfl, u, hq, W, f_p_octets, l_achanges_214⟩ ?_ ?_ ?_
  · intro x t σ H_224 hI hc R k
    obtain ⟨changes_219, taken_220⟩ := x
    try dsimp only at hI
    obtain ⟨xl_end, xl_event, rfl, u, hq, W, f_p_octets, l_achanges_214⟩ := hI
    have hm := hc
    try dsimp only at hm
    rw [← Option.some.inj hm] at k
    refine Et.go W (et_test (ex_opI0 (z := (decide (taken_220 < (p_octets.length : Int)))) (fun _ _ => rfl) (ex_vi rfl) (ex_len (el_of W.hB (ex_var W rfl f_p_octets))))) hq fun H_225 bb hq W M => ?_
    have f_p_octets := Rp.mv f_p_octets M
    have l_achanges_214 := l_achanges_214.step M fun o e => bb.1 _ o n_achanges_214 e
    have u := u.trans bb
    exact k _ ⟨_, _, rfl, u, hq, W, f_p_octets, l_achanges_214⟩
  · intro x flN_222 σ H_226 hI hf hret hbkN_222
    obtain ⟨changes_219, taken_220⟩ := x
    try dsimp only at hI
    obtain ⟨xl_end, xl_event, rfl, u, hq, W, f_p_octets, l_achanges_214⟩ := hI
    have hm := hf
    try dsimp only at hm
    have hretN_222' := hret
    have hretN_222 := fun r' e => hretN_222 r' (hretN_222' r' e)
    obtain ⟨t_227, e_t_227, hm⟩ := bind_inv hm
    obtain ⟨end_228, e_end_228, hm⟩ := bnd_inv hm
    refine r_seqA ?_
    refine Ex.go W (ex_opI0 (z := ((taken_220 + (1 : Int)) + t_227)) (fun _ _ => rfl) (ex_opI0 (z := (taken_220 + (1 : Int))) (fun _ _ => rfl) (ex_vi rfl) (ex_int 1)) (ex_ixL (el_of W.hB (ex_var W rfl f_p_octets)) (ex_vi rfl) W e_t_227)) hq fun v_230 H_229 bb hq W M rv => ?_
    rw [← e_end_228] at rv
    have f_p_octets := Rp.mv f_p_octets M
    have l_achanges_214 := l_achanges_214.step M fun o e => bb.1 _ o n_achanges_214 e
    have u := u.trans bb
    obtain rfl : v_230 = V.int end_228 := rv
    refine (bnd_name : Bnd _ _ _ _ _) _ ?_
    dsimp only [List.set_cons_succ, List.set_cons_zero]
    obtain ⟨t_233, e_t_233, hm⟩ := bind_inv hm
    refine r_seq ?_
    refine r_ifS ?_
    refine Et.go W (et_or (d := t_233) (et_test (ex_opI0 (z := (decide ((p_octets.length : Int) < end_228))) (fun _ _ => rfl) (ex_vi rfl) (ex_len (el_of W.hB (ex_var W rfl f_p_octets))))) (fun c => by
            have hm := (if_pos c).symm.trans e_t_233
            obtain ⟨t_232, e_t_232, hm⟩ := bind_inv hm
            rw [← Option.some.inj hm]
            exact (et_test (ex_neI (ex_ixL (el_of W.hB (ex_var W rfl f_p_octets)) (ex_opI0 (z := (end_228 - (1 : Int))) (fun _ _ => rfl) (ex_vi rfl) (ex_int 1)) W e_t_232) (ex_int 170))))
            (fun c => by
            have hm := (if_neg (by rw [c]; decide)).symm.trans e_t_233
            cases hm
            exact ⟨rfl, fun _ h => h⟩)) hq fun H_234 bb hq W M => ?_
    have f_p_octets := Rp.mv f_p_octets M
    have l_achanges_214 := l_achanges_214.step M fun o e => bb.1 _ o n_achanges_214 e
    have u := u.trans bb
    refine ite_by (fun hc => ?_) (fun hc => ?_)
    · have hm := (if_pos hc).symm.trans hm
      refine r_brk ?_
      try dsimp only
      cases hm
      exact hbkN_222 _ rfl _ _ ⟨_, _, rfl, u, hq, W, f_p_octets, l_achanges_214⟩
    · have hm := (if_neg hc).symm.trans hm
      refine r_next ?_
      try dsimp only
      obtain ⟨t_235, e_t_235, hm⟩ := bind_inv hm
      obtain ⟨event_236, e_event_236, hm⟩ := bnd_inv hm
      refine r_seqA ?_
      refine Ex.go W (ex_call (i := ((cutF p_octets (some (taken_220 + (1 : Int))) (some (end_228 - (1 : Int)))), ())) W (sb_tr (B := [])) (ea_cons W (En.ex (sb_tr (B := [])) (en_slice W (sb_tr (B := [])) (el_of W.hB (ex_var W rfl f_p_octets)) (eo_some (ex_opI0 (z := (taken_220 + (1 : Int))) (fun _ _ => rfl) (ex_vi rfl) (ex_int 1))) (eo_some (ex_opI0 (z := (end_228 - (1 : Int))) (fun _ _ => rfl) (ex_vi rfl) (ex_int 1))))) ea_nil) e_t_235) hq fun v_238 H_237 bb hq W M rv => ?_
      rw [← e_event_236] at rv
      have f_p_octets := Rp.mv f_p_octets M
      have l_achanges_214 := l_achanges_214.step M fun o e => bb.1 _ o n_achanges_214 e
      have u := u.trans bb
      have f_event_236 := rv
      refine (bnd_name : Bnd _ _ _ _ _) _ ?_
      dsimp only [List.set_cons_succ, List.set_cons_zero]
      refine r_seq ?_
      refine r_ifS ?_
      refine Et.go W (et_test (ex_isN (ex_var W rfl f_event_236))) hq fun H_239 bb hq W M => ?_
      have f_p_octets := Rp.mv f_p_octets M
      have l_achanges_214 := l_achanges_214.step M fun o e => bb.1 _ o n_achanges_214 e
      have f_event_236 := Rp.mv f_event_236 M
      have u := u.trans bb
      refine ite_by (fun hc => ?_) (fun hc => ?_)
      · have hm := (if_pos hc).symm.trans hm
        refine r_brk ?_
        try dsimp only
        cases hm
        exact hbkN_222 _ rfl _ _ ⟨_, _, rfl, u, hq, W, f_p_octets, l_achanges_214⟩
      · have hm := (if_neg hc).symm.trans hm
        obtain ⟨event_240, e_event_240, hm⟩ := bind_inv hm
        have f_event_240 := rp_nar e_event_240 f_event_236
        refine r_next ?_
        try dsimp only
        obtain ⟨changes_241, e_changes_241, hm⟩ := bind_inv hm
        refine r_seqD ?_
        refine s_app rfl W rfl l_achanges_214 m_achanges_214 n_achanges_214 (sb_tr (B := [])) (ea_cons W (ex_var W rfl f_event_240) ea_nil) hq e_changes_241 fun H_242 bb hq W M l_achanges_214 => ?_
        have f_p_octets := Rp.mv f_p_octets M
        have f_event_240 := Rp.mv f_event_240 M
        have u := u.own2 h_achanges_214 bb
        obtain ⟨taken_243, e_taken_243, hm⟩ := bnd_inv hm
        refine r_asg ?_
        refine Ex.go W (ex_vi rfl) hq fun v_245 H_244 bb hq W M rv => ?_
        rw [← e_taken_243] at rv
        have f_p_octets := Rp.mv f_p_octets M
        have l_achanges_214 := l_achanges_214.step M fun o e => bb.1 _ o n_achanges_214 e
        have f_event_240 := Rp.mv f_event_240 M
        have u := u.trans bb
        obtain rfl : v_245 = V.int taken_243 := rv
        refine (bnd_name : Bnd _ _ _ _ _) _ ?_
        dsimp only [List.set_cons_succ, List.set_cons_zero]
        try dsimp only
        have f_event_236 := rp_unnar e_event_240 f_event_240
        try dsimp only
        cases hm
        exact ⟨_, rfl, ⟨_, _, rfl, u, hq, W, f_p_octets, l_achanges_214⟩⟩
  · intro x σ H_221 eo hI
    obtain ⟨changes_219, taken_220⟩ := x
    try dsimp only at hI
    obtain ⟨xl_end, xl_event, rfl, u, hq, W, f_p_octets, l_achanges_214⟩ := hI
    have hm := hgoN_222
    rw [eo] at hm
    try dsimp only at hm
    try dsimp only
    have sub : ∀ a ∈ ms, a ∈ achanges_214 :: ms := ((.cons _ (.refl _)) : List.Sublist (ms) (achanges_214 :: ms)).subset
    have M : Mv (achanges_214 :: ms) H_221 (ms) H_221 := Mv.less sub
    have hq := (sb_tr (B := [])) _ _ _ _ hq M fun _ _ _ e => e
    have W : Wd [] (ms) H_221 := ⟨fun a h => (by cases h), W.al.less sub⟩
    have f_p_octets := Rp.mv f_p_octets M
    have f_changes_219 : Rp.rp (ms) H_221 (.ref achanges_214) changes_219 := ⟨achanges_214, rfl, o_achanges_214, l_achanges_214.less sub⟩
    have hm := Option.some.inj hm
    subst hm
    refine r_ret' ?_
    refine Ex.go W (ex_tup2 W (sb_tr (B := [])) (u := (changes_219, taken_220)) (ea_cons W (ex_var W rfl f_changes_219) (ea_cons W (ex_vi rfl) ea_nil))) hq fun v H_246 bb hq W M rv => ?_
    exact Q v _ (Bu.to_same (u.trans bb)) (rv)
end
end Pf

namespace Pf
open PySem L2
local macro_rules | `(tactic| walk_at "rd1") => `(tactic| first
  | with_reducible refine r_seqA ?_
  | with_reducible refine r_seqD ?_
  | with_reducible refine r_seqF ?_
  | with_reducible refine r_seqN ?_
  | with_reducible refine r_asg ?_
  | with_reducible refine r_drop ?_
  | with_reducible refine r_ret ?_
  | with_reducible refine r_ifS ?_
  | ((with_reducible refine r_next ?_); try dsimp only)
  | ((with_reducible refine r_name ?_); try dsimp only [List.set_cons_succ, List.set_cons_zero, wipe])
  | ((with_reducible refine' r_var ?rdh ?_); (case rdh => rfl))
  | with_reducible refine r_c ?_
  | with_reducible refine r_op ?_
  | with_reducible refine r_un ?_
  | with_reducible refine r_I0 ?_
  | ((with_reducible refine r_I ?_ ?_); (· first | decide | exact Or.inl (by decide) | exact Or.inr (by decide) | (show _ ∧ _; constructor <;> decide) | (show (0:Int) < _; omega) | (show CDiv _ _; unfold CDiv; omega) ))
  | with_reducible refine r_U ?_
  | with_reducible refine r_eqI ?_
  | with_reducible refine r_neI ?_
  | with_reducible refine r_eqB ?_
  | with_reducible refine r_neB ?_
  | with_reducible refine r_test ?_
  | with_reducible refine r_B ?_
  | with_reducible refine r_bl ?_
  | with_reducible refine r_bl2 ?_
  | with_reducible refine r_yes ?_
  | with_reducible refine r_wipe (by rfl) ?_
  | with_reducible refine r_rfl ?_
  | ((with_reducible refine' r_eqA ?rdh ?_); (case rdh => rfl))
  | with_reducible refine r_and ?_
  | with_reducible refine r_or ?_
  | with_reducible refine r_not ?_
  | with_reducible refine r_andV ?_
  | with_reducible refine r_orV ?_
  | with_reducible refine r_notV ?_
  | with_reducible refine r_ifE ?_
  | with_reducible refine r_nil ?_
  | with_reducible refine r_cons ?_
  | with_reducible refine r_tup ?_
  | with_reducible refine r_lst ?_
  | with_reducible refine r_CB ?_
  | with_reducible refine r_call ?_
  | with_reducible refine r_bm ?_
  | with_reducible refine r_bm0 ?_
  | with_reducible refine r_int ?_
  | with_reducible refine r_i2 ?_
  | with_reducible refine r_i1 ?_
  | with_reducible refine r_gcons ?_
  | with_reducible refine r_gnil ?_
  | with_reducible refine r_gsub ?_
  | with_reducible refine iteT ?_
  | with_reducible refine iteF ?_
  | with_reducible refine ite_notT ?_
  | with_reducible refine ite_notF ?_
  | with_reducible refine r_isi_ib ?_
  | with_reducible refine r_isi_ii ?_
  | with_reducible refine r_isi_bb ?_
  | with_reducible refine r_isi_nb ?_
  | with_reducible refine r_isi_nt ?_
  | ((with_reducible refine' r_isi_ll ?rdh ?_); (case rdh => first | assumption | exact upd_same))
  | ((with_reducible refine' r_isi_tt ?rdh ?_); (case rdh => first | assumption | exact upd_same))
  | with_reducible refine r_sl ?_
  | with_reducible refine r_noPart ?_
  | with_reducible refine r_part ?_
  | with_reducible refine r_int1 ?_
  | with_reducible refine r_tru ?_
  | with_reducible refine r_ckw ?_
  | with_reducible refine r_lc ?_
  | with_reducible refine r_lc2 ?_
  | with_reducible refine r_forS ?_
  | with_reducible refine r_iR1 ?_
  | with_reducible refine r_iR2 ?_
  | with_reducible refine r_iL ?_
  | ((with_reducible refine' r_lenL ?rdh ?_); (case rdh => walk_at "sq"))
  | ((with_reducible refine' r_ixL ?rdh ?rda ?_); (case rdh => walk_at "sq"); (case rda => walk_at "at"))
  | ((with_reducible refine' r_ixT ?rdh ?rda ?_); (case rdh => walk_at "sq"); (case rda => walk_at "at")))
local macro_rules | `(tactic| walk_at "sq") => `(tactic| first
  | assumption
  | exact SqL.of (by assumption)
  | exact SqL.of upd_same
  | exact SqT.of (by assumption)
  | exact SqT.of upd_same)
local macro_rules | `(tactic| walk_at "sml") => `(tactic| (rw [sizeLine_eq]; simp))
local macro_rules | `(tactic| walk_at "at") => `(tactic| first | assumption | rfl)
local macro_rules | `(tactic| walk_at "rd") => `(tactic| repeat walk_at "rd1")
section
variable {w : World} {P : Program} {base : Heap} {K : PySem.W.Frag} {mg : Str → Option Value}
def lawK1 (events_256 : (List (VT PyData))) (ends_266 : (List Int)) (spoilt_357 : (List Int)) (at_330 : Int) (told_360 : ((List (VT PyData)) × Int)) (whole_368 : (List Int)) : Option Bool :=
  (colL (fun (y_388 : Int) => if (decide (y_388 ≤ at_330)) = true then some (some y_388) else some none) ends_266).bind fun cs_389 => bnd (((cs_389.length : Int) - (1 : Int))) fun before_390 => (if (!decide (whole_368 = (cutF spoilt_357 none (some told_360.2)))) = false then (if (!decide (told_360.2 = (whole_368.length : Int))) = false then (eqT (cutF told_360.1 none (some before_390)) (cutF events_256 none (some before_390))).bind fun t_393 => some (!t_393) else some true).bind fun t_394 => some t_394 else some true).bind fun t_395 => if t_395 = true then (some false) else (some true)
def lawK2 (events_256 : (List (VT PyData))) (ends_266 : (List Int)) (octets_267 : (List Int)) (bx_268 : (List Int × Nat)) : Option Bool :=
  (drawG bx_268 (900 : Int)).bind fun (t_289, bx_290) => (modF t_289 ((octets_267.length : Int) + (1 : Int))).bind fun t_291 => bnd (t_291) fun cut_292 => (colL (fun (y_301 : Int) => if (decide (y_301 ≤ cut_292)) = true then some (some y_301) else some none) ends_266).bind fun cs_302 => bnd (((cs_302.length : Int) - (1 : Int))) fun many_303 => (recoveredM (cutF octets_267 none (some cut_292))).bind fun t_313 => (atI ends_266 many_303).bind fun t_314 => (sameT (t_313 : ((List (VT PyData)) × Int)) ((cutF events_256 none (some many_303)), t_314)).bind fun t_315 => if (!t_315) = true then (some false) else (if (!octets_267.isEmpty) = true then (bnd (octets_267) fun spoilt_319 => (drawG bx_290 (900 : Int)).bind fun (t_327, bx_328) => (modF t_327 (spoilt_319.length : Int)).bind fun t_329 => bnd (t_329) fun at_330 => (atI spoilt_319 at_330).bind fun t_354 => (drawG bx_328 (255 : Int)).bind fun (t_355, bx_356) => (setF spoilt_319 at_330 (((t_354 + (1 : Int)) + t_355) % (256 : Int))).bind fun spoilt_357 => (recoveredM spoilt_357).bind fun t_359 => bnd (t_359) fun told_360 => bnd (([] : List Int)) fun whole_363 => (fold (fun (y_371 : (VT PyData)) (x : ((List Int) × (List Int × Nat))) => match x with | (whole_368, bx_369) => (law_octetsM y_371).bind fun t_377 => (catF whole_368 t_377).bind fun t_378 => bnd (t_378) fun whole_379 => some (whole_379, bx_369) : (VT PyData) → ((List Int) × (List Int × Nat)) → Option ((List Int) × (List Int × Nat))) told_360.1 (whole_363, bx_356)).bind fun x => match x with | (whole_368, bx_369) => lawK1 events_256 ends_266 spoilt_357 at_330 told_360 whole_368) else (some true))
def lawM (bx0 : List Int × Nat) : Option Bool :=
  (drawG bx0 (9 : Int)).bind fun (t_247, bx_248) => (rng1 t_247).bind fun rg_249 => (colS (fun (y_250 : Int) (bx_254 : List Int × Nat) => (law_deedM bx_254 (300 : Int)).bind fun (t_252, bx_253) => some (some t_252, bx_253)) rg_249 bx_248).bind fun (cs_251, bx_255) => bnd (cs_251) fun events_256 => bnd ([(0 : Int)]) fun ends_259 => bnd (([] : List Int)) fun octets_261 => (fold (fun (y_270 : (VT PyData)) (x : ((List Int) × (List Int) × (List Int × Nat))) => match x with | (ends_266, octets_267, bx_268) => (law_octetsM y_270).bind fun t_276 => (catF octets_267 t_276).bind fun t_277 => bnd (t_277) fun octets_278 => (appF ends_266 (octets_278.length : Int)).bind fun ends_281 => some (ends_281, octets_278, bx_268) : (VT PyData) → ((List Int) × (List Int) × (List Int × Nat)) → Option ((List Int) × (List Int) × (List Int × Nat))) events_256 (ends_259, octets_261, bx_255)).bind fun x => match x with | (ends_266, octets_267, bx_268) => lawK2 events_256 ends_266 octets_267 bx_268
/-! ### records of changes: what an event is, what its octets are -/
inductive Ev where
  | one (k : Nat) (n : Int)
  | zero (k : Nat)
  | wr0 (n m : Int)
  | wr1 (n m v : Int)
  | wr2 (n m v : Int)
def W9 : List String := ["allocate", "write", "release", "addRoot", "removeRoot", "collect", "compact", "makeRoom", "slide"]
def sW (k : Nat) : PyData := .str (Str.ofString (W9.getD k ""))
def Ev.t : Ev → VT PyData
  | .one k n => ⟨[sW k, .int n]⟩
  | .zero k => ⟨[sW k]⟩
  | .wr0 n m => ⟨[sW 1, .int n, .int m, .none]⟩
  | .wr1 n m v => ⟨[sW 1, .int n, .int m, .int v]⟩
  | .wr2 n m v => ⟨[sW 1, .int n, .int m, .tuple [.str (Str.ofString "object"), .int v]]⟩
def W16 (n : Int) : Prop := 0 ≤ n ∧ n < 65536
def Ev.ok : Ev → Prop
  | .one k n => k ∈ [0, 2, 3, 4, 7] ∧ W16 n
  | .zero k => k ∈ [5, 6, 8]
  | .wr0 n m => W16 n ∧ W16 m
  | .wr1 n m v => W16 n ∧ W16 m ∧ W16 v
  | .wr2 n m v => W16 n ∧ W16 m ∧ W16 v
/-- the octets between the first and the last -/
def Ev.o : Ev → List Int
  | .one k n => [(k : Int), n / 256, n % 256]
  | .zero k => [(k : Int)]
  | .wr0 n m => [1, n / 256, n % 256, m / 256, m % 256, 0, 0, 0]
  | .wr1 n m v => [1, n / 256, n % 256, m / 256, m % 256, 1, v / 256, v % 256]
  | .wr2 n m v => [1, n / 256, n % 256, m / 256, m % 256, 2, v / 256, v % 256]
def Ev.all (e : Ev) : List Int := ((e.o.length : Int) + 1) :: (e.o ++ [170])
theorem oc_0 (n : Int) : law_octetsM (Ev.one 0 n).t = some (Ev.one 0 n).all := by kernel_rfl
theorem rd_0 (a b : Int) : event_readM [0, a, b] = some (some (Ev.one 0 (256 * a + b)).t) := by kernel_rfl
theorem oc_2 (n : Int) : law_octetsM (Ev.one 2 n).t = some (Ev.one 2 n).all := by kernel_rfl
theorem rd_2 (a b : Int) : event_readM [2, a, b] = some (some (Ev.one 2 (256 * a + b)).t) := by kernel_rfl
theorem oc_3 (n : Int) : law_octetsM (Ev.one 3 n).t = some (Ev.one 3 n).all := by kernel_rfl
theorem rd_3 (a b : Int) : event_readM [3, a, b] = some (some (Ev.one 3 (256 * a + b)).t) := by kernel_rfl
theorem oc_4 (n : Int) : law_octetsM (Ev.one 4 n).t = some (Ev.one 4 n).all := by kernel_rfl
theorem rd_4 (a b : Int) : event_readM [4, a, b] = some (some (Ev.one 4 (256 * a + b)).t) := by kernel_rfl
theorem oc_7 (n : Int) : law_octetsM (Ev.one 7 n).t = some (Ev.one 7 n).all := by kernel_rfl
theorem rd_7 (a b : Int) : event_readM [7, a, b] = some (some (Ev.one 7 (256 * a + b)).t) := by kernel_rfl
theorem oc_5 : law_octetsM (Ev.zero 5).t = some (Ev.zero 5).all := by kernel_rfl
theorem rd_5 : event_readM [5] = some (some (Ev.zero 5).t) := by kernel_rfl
theorem oc_6 : law_octetsM (Ev.zero 6).t = some (Ev.zero 6).all := by kernel_rfl
theorem rd_6 : event_readM [6] = some (some (Ev.zero 6).t) := by kernel_rfl
theorem oc_8 : law_octetsM (Ev.zero 8).t = some (Ev.zero 8).all := by kernel_rfl
theorem rd_8 : event_readM [8] = some (some (Ev.zero 8).t) := by kernel_rfl
theorem oc_wr0 (n m : Int) : law_octetsM (Ev.wr0 n m).t = some (Ev.wr0 n m).all := by kernel_rfl
theorem oc_wr1 (n m v : Int) : law_octetsM (Ev.wr1 n m v).t = some (Ev.wr1 n m v).all := by kernel_rfl
theorem oc_wr2 (n m v : Int) : law_octetsM (Ev.wr2 n m v).t = some (Ev.wr2 n m v).all := by kernel_rfl
theorem rd_w (a b c d q e f : Int) : event_readM [1, a, b, c, d, q, e, f] = if ((decide (q = (0 : Int))) && (decide (256 * e + f = (0 : Int)))) = true then some (some (Ev.wr0 (256 * a + b) (256 * c + d)).t) else if (decide (q = (1 : Int))) = true then some (some (Ev.wr1 (256 * a + b) (256 * c + d) (256 * e + f)).t) else
    ((if (decide (q = (2 : Int))) = true then some (some (Ev.wr2 (256 * a + b) (256 * c + d) (256 * e + f)).t) else some none).bind fun t => some t) := by kernel_rfl
theorem mod16 {n : Int} (h : W16 n) : n / 256 % 256 = n / 256 := by
  obtain ⟨h1, h2⟩ := h
  omega
theorem div16 (n : Int) : 256 * (n / 256) + n % 256 = n := by omega
theorem oct_ok {e : Ev} (h : e.ok) : law_octetsM e.t = some e.all := by
  cases e with
  | one k n =>
    have hk := h.1
    simp only [List.mem_cons, List.not_mem_nil, or_false] at hk
    rcases hk with rfl | rfl | rfl | rfl | rfl
    · exact oc_0 n
    · exact oc_2 n
    · exact oc_3 n
    · exact oc_4 n
    · exact oc_7 n
  | zero k =>
    have hk : k ∈ [5, 6, 8] := h
    simp only [List.mem_cons, List.not_mem_nil, or_false] at hk
    rcases hk with rfl | rfl | rfl
    · exact oc_5
    · exact oc_6
    · exact oc_8
  | wr0 n m => exact oc_wr0 n m
  | wr1 n m v => exact oc_wr1 n m v
  | wr2 n m v => exact oc_wr2 n m v
theorem read_ok {e : Ev} (h : e.ok) : event_readM e.o = some (some e.t) := by
  cases e with
  | one k n =>
    have hk := h.1
    simp only [List.mem_cons, List.not_mem_nil, or_false] at hk
    rcases hk with rfl | rfl | rfl | rfl | rfl
    · exact (rd_0 _ _).trans (by rw [div16])
    · exact (rd_2 _ _).trans (by rw [div16])
    · exact (rd_3 _ _).trans (by rw [div16])
    · exact (rd_4 _ _).trans (by rw [div16])
    · exact (rd_7 _ _).trans (by rw [div16])
  | zero k =>
    have hk : k ∈ [5, 6, 8] := h
    simp only [List.mem_cons, List.not_mem_nil, or_false] at hk
    rcases hk with rfl | rfl | rfl
    · exact rd_5
    · exact rd_6
    · exact rd_8
  | wr0 n m => exact (rd_w _ _ _ _ _ _ _).trans (by rw [if_pos (by decide), div16, div16])
  | wr1 n m v => exact (rd_w _ _ _ _ _ _ _).trans (by rw [if_neg (by simp), if_pos (by decide), div16, div16, div16])
  | wr2 n m v => exact (rd_w _ _ _ _ _ _ _).trans (by rw [if_neg (by simp), if_neg (by decide), if_pos (by decide), div16, div16, div16]; rfl)
theorem rd_nil : event_readM [] = some none := by kernel_rfl
theorem rd_big {k : Int} {rest : List Int} (h : 9 ≤ k) : event_readM (k :: rest) = some none := by
  unfold event_readM
  refine bind_of (a := true) ((if_pos (by rfl)).trans (bind_of (at_ok (i := 0) rfl) (by rw [decide_eq_true h]))) ?_
  exact if_pos rfl
theorem nr_0_0 : event_readM [0] = some none := by kernel_rfl
theorem nr_0_1 (a : Int) : event_readM [0, a] = some none := by kernel_rfl
theorem nl_0 {rest : List Int} (h : rest.length ≠ 2) : event_readM (0 :: rest) = some none := by
  unfold event_readM
  refine bind_of (a := false) ((if_pos (by rfl)).trans (bind_of (at_ok (i := 0) rfl) rfl)) ?_
  refine else_of (by decide) ?_
  refine bind_of (at_ok (i := 0) rfl) ?_
  refine bind_of (a := Str.ofString "allocate") (by kernel_rfl) ?_
  refine bnd_of ?_
  refine bind_of (at_ok (i := 0) rfl) ?_
  refine bind_of (a := (1 : Int)) (by kernel_rfl) ?_
  refine bind_of (a := (2 : Int)) (by kernel_rfl) ?_
  refine bnd_of ?_
  refine bind_of (a := (0 : Int)) (by kernel_rfl) ?_
  refine if_of ?_ rfl
  simp only [List.length_cons, Bool.not_eq_true', decide_eq_false_iff_not]
  omega
theorem nl_1 {rest : List Int} (h : rest.length ≠ 7) : event_readM (1 :: rest) = some none := by
  unfold event_readM
  refine bind_of (a := false) ((if_pos (by rfl)).trans (bind_of (at_ok (i := 0) rfl) rfl)) ?_
  refine else_of (by decide) ?_
  refine bind_of (at_ok (i := 0) rfl) ?_
  refine bind_of (a := Str.ofString "write") (by kernel_rfl) ?_
  refine bnd_of ?_
  refine bind_of (at_ok (i := 0) rfl) ?_
  refine bind_of (a := (2 : Int)) (by kernel_rfl) ?_
  refine bind_of (a := (4 : Int)) (by kernel_rfl) ?_
  refine bnd_of ?_
  refine bind_of (a := (3 : Int)) (by kernel_rfl) ?_
  refine if_of ?_ rfl
  simp only [List.length_cons, Bool.not_eq_true', decide_eq_false_iff_not]
  omega
theorem nl_2 {rest : List Int} (h : rest.length ≠ 2) : event_readM (2 :: rest) = some none := by
  unfold event_readM
  refine bind_of (a := false) ((if_pos (by rfl)).trans (bind_of (at_ok (i := 0) rfl) rfl)) ?_
  refine else_of (by decide) ?_
  refine bind_of (at_ok (i := 0) rfl) ?_
  refine bind_of (a := Str.ofString "release") (by kernel_rfl) ?_
  refine bnd_of ?_
  refine bind_of (at_ok (i := 0) rfl) ?_
  refine bind_of (a := (1 : Int)) (by kernel_rfl) ?_
  refine bind_of (a := (2 : Int)) (by kernel_rfl) ?_
  refine bnd_of ?_
  refine bind_of (a := (0 : Int)) (by kernel_rfl) ?_
  refine if_of ?_ rfl
  simp only [List.length_cons, Bool.not_eq_true', decide_eq_false_iff_not]
  omega
theorem nl_3 {rest : List Int} (h : rest.length ≠ 2) : event_readM (3 :: rest) = some none := by
  unfold event_readM
  refine bind_of (a := false) ((if_pos (by rfl)).trans (bind_of (at_ok (i := 0) rfl) rfl)) ?_
  refine else_of (by decide) ?_
  refine bind_of (at_ok (i := 0) rfl) ?_
  refine bind_of (a := Str.ofString "addRoot") (by kernel_rfl) ?_
  refine bnd_of ?_
  refine bind_of (at_ok (i := 0) rfl) ?_
  refine bind_of (a := (1 : Int)) (by kernel_rfl) ?_
  refine bind_of (a := (2 : Int)) (by kernel_rfl) ?_
  refine bnd_of ?_
  refine bind_of (a := (0 : Int)) (by kernel_rfl) ?_
  refine if_of ?_ rfl
  simp only [List.length_cons, Bool.not_eq_true', decide_eq_false_iff_not]
  omega
theorem nl_4 {rest : List Int} (h : rest.length ≠ 2) : event_readM (4 :: rest) = some none := by
  unfold event_readM
  refine bind_of (a := false) ((if_pos (by rfl)).trans (bind_of (at_ok (i := 0) rfl) rfl)) ?_
  refine else_of (by decide) ?_
  refine bind_of (at_ok (i := 0) rfl) ?_
  refine bind_of (a := Str.ofString "removeRoot") (by kernel_rfl) ?_
  refine bnd_of ?_
  refine bind_of (at_ok (i := 0) rfl) ?_
  refine bind_of (a := (1 : Int)) (by kernel_rfl) ?_
  refine bind_of (a := (2 : Int)) (by kernel_rfl) ?_
  refine bnd_of ?_
  refine bind_of (a := (0 : Int)) (by kernel_rfl) ?_
  refine if_of ?_ rfl
  simp only [List.length_cons, Bool.not_eq_true', decide_eq_false_iff_not]
  omega
theorem nl_5 {rest : List Int} (h : rest.length ≠ 0) : event_readM (5 :: rest) = some none := by
  unfold event_readM
  refine bind_of (a := false) ((if_pos (by rfl)).trans (bind_of (at_ok (i := 0) rfl) rfl)) ?_
  refine else_of (by decide) ?_
  refine bind_of (at_ok (i := 0) rfl) ?_
  refine bind_of (a := Str.ofString "collect") (by kernel_rfl) ?_
  refine bnd_of ?_
  refine bind_of (at_ok (i := 0) rfl) ?_
  refine bind_of (a := (0 : Int)) (by kernel_rfl) ?_
  refine bind_of (a := (0 : Int)) (by kernel_rfl) ?_
  refine bnd_of ?_
  refine bind_of (a := (0 : Int)) (by kernel_rfl) ?_
  refine if_of ?_ rfl
  simp only [List.length_cons, Bool.not_eq_true', decide_eq_false_iff_not]
  omega
theorem nl_6 {rest : List Int} (h : rest.length ≠ 0) : event_readM (6 :: rest) = some none := by
  unfold event_readM
  refine bind_of (a := false) ((if_pos (by rfl)).trans (bind_of (at_ok (i := 0) rfl) rfl)) ?_
  refine else_of (by decide) ?_
  refine bind_of (at_ok (i := 0) rfl) ?_
  refine bind_of (a := Str.ofString "compact") (by kernel_rfl) ?_
  refine bnd_of ?_
  refine bind_of (at_ok (i := 0) rfl) ?_
  refine bind_of (a := (0 : Int)) (by kernel_rfl) ?_
  refine bind_of (a := (0 : Int)) (by kernel_rfl) ?_
  refine bnd_of ?_
  refine bind_of (a := (0 : Int)) (by kernel_rfl) ?_
  refine if_of ?_ rfl
  simp only [List.length_cons, Bool.not_eq_true', decide_eq_false_iff_not]
  omega
theorem nl_7 {rest : List Int} (h : rest.length ≠ 2) : event_readM (7 :: rest) = some none := by
  unfold event_readM
  refine bind_of (a := false) ((if_pos (by rfl)).trans (bind_of (at_ok (i := 0) rfl) rfl)) ?_
  refine else_of (by decide) ?_
  refine bind_of (at_ok (i := 0) rfl) ?_
  refine bind_of (a := Str.ofString "makeRoom") (by kernel_rfl) ?_
  refine bnd_of ?_
  refine bind_of (at_ok (i := 0) rfl) ?_
  refine bind_of (a := (1 : Int)) (by kernel_rfl) ?_
  refine bind_of (a := (2 : Int)) (by kernel_rfl) ?_
  refine bnd_of ?_
  refine bind_of (a := (0 : Int)) (by kernel_rfl) ?_
  refine if_of ?_ rfl
  simp only [List.length_cons, Bool.not_eq_true', decide_eq_false_iff_not]
  omega
theorem nl_8 {rest : List Int} (h : rest.length ≠ 0) : event_readM (8 :: rest) = some none := by
  unfold event_readM
  refine bind_of (a := false) ((if_pos (by rfl)).trans (bind_of (at_ok (i := 0) rfl) rfl)) ?_
  refine else_of (by decide) ?_
  refine bind_of (at_ok (i := 0) rfl) ?_
  refine bind_of (a := Str.ofString "slide") (by kernel_rfl) ?_
  refine bnd_of ?_
  refine bind_of (at_ok (i := 0) rfl) ?_
  refine bind_of (a := (0 : Int)) (by kernel_rfl) ?_
  refine bind_of (a := (0 : Int)) (by kernel_rfl) ?_
  refine bnd_of ?_
  refine bind_of (a := (0 : Int)) (by kernel_rfl) ?_
  refine if_of ?_ rfl
  simp only [List.length_cons, Bool.not_eq_true', decide_eq_false_iff_not]
  omega
theorem nr_0_3 (a b c : Int) (r : List Int) : event_readM (0 :: a :: b :: c :: r) = some none := nl_0 (by simp only [List.length_cons]; omega)
theorem nr_2_0 : event_readM [2] = some none := by kernel_rfl
theorem nr_2_1 (a : Int) : event_readM [2, a] = some none := by kernel_rfl
theorem nr_2_3 (a b c : Int) (r : List Int) : event_readM (2 :: a :: b :: c :: r) = some none := nl_2 (by simp only [List.length_cons]; omega)
theorem nr_3_0 : event_readM [3] = some none := by kernel_rfl
theorem nr_3_1 (a : Int) : event_readM [3, a] = some none := by kernel_rfl
theorem nr_3_3 (a b c : Int) (r : List Int) : event_readM (3 :: a :: b :: c :: r) = some none := nl_3 (by simp only [List.length_cons]; omega)
theorem nr_4_0 : event_readM [4] = some none := by kernel_rfl
theorem nr_4_1 (a : Int) : event_readM [4, a] = some none := by kernel_rfl
theorem nr_4_3 (a b c : Int) (r : List Int) : event_readM (4 :: a :: b :: c :: r) = some none := nl_4 (by simp only [List.length_cons]; omega)
theorem nr_7_0 : event_readM [7] = some none := by kernel_rfl
theorem nr_7_1 (a : Int) : event_readM [7, a] = some none := by kernel_rfl
theorem nr_7_3 (a b c : Int) (r : List Int) : event_readM (7 :: a :: b :: c :: r) = some none := nl_7 (by simp only [List.length_cons]; omega)
theorem nr_5_1 (a : Int) (r : List Int) : event_readM (5 :: a :: r) = some none := nl_5 (by simp only [List.length_cons]; omega)
theorem nr_6_1 (a : Int) (r : List Int) : event_readM (6 :: a :: r) = some none := nl_6 (by simp only [List.length_cons]; omega)
theorem nr_8_1 (a : Int) (r : List Int) : event_readM (8 :: a :: r) = some none := nl_8 (by simp only [List.length_cons]; omega)
theorem nr_1_0 : event_readM [1] = some none := by kernel_rfl
theorem nr_1_1 (a : Int) : event_readM [1, a] = some none := by kernel_rfl
theorem nr_1_2 (a b : Int) : event_readM [1, a, b] = some none := by kernel_rfl
theorem nr_1_3 (a b c : Int) : event_readM [1, a, b, c] = some none := by kernel_rfl
theorem nr_1_4 (a b c d : Int) : event_readM [1, a, b, c, d] = some none := by kernel_rfl
theorem nr_1_5 (a b c d e : Int) : event_readM [1, a, b, c, d, e] = some none := by kernel_rfl
theorem nr_1_6 (a b c d e f : Int) : event_readM [1, a, b, c, d, e, f] = some none := by kernel_rfl
theorem nr_1_8 (a b c d e f g h : Int) (r : List Int) : event_readM (1 :: a :: b :: c :: d :: e :: f :: g :: h :: r) = some none := nl_1 (by simp only [List.length_cons]; omega)
def Oct (xs : List Int) : Prop := ∀ x ∈ xs, 0 ≤ x ∧ x < 256
def Rd (body : List Int) (r : Option (VT PyData)) : Prop := ∀ ev, r = some ev → ∃ e : Ev, ev = e.t ∧ e.ok ∧ e.o = body
theorem rd_no {body : List Int} : Rd body none := fun ev h => by cases h
theorem two16 {a b : Int} (ha : 0 ≤ a ∧ a < 256) (hb : 0 ≤ b ∧ b < 256) : W16 (256 * a + b) ∧ (256 * a + b) / 256 = a ∧ (256 * a + b) % 256 = b := by
  unfold W16
  omega
theorem rd_yes {body : List Int} {e : Ev} (h : e.ok) (ho : e.o = body) : Rd body (some e.t) := fun ev z => ⟨e, by cases z; rfl, h, ho⟩
theorem read_any {body : List Int} (H : Oct body) : ∃ r, event_readM body = some r ∧ Rd body r := by
  match body, H with
  | [], _ => exact ⟨none, rd_nil, rd_no⟩
  | k :: rest, H =>
    by_cases hk : 9 ≤ k
    · exact ⟨none, rd_big hk, rd_no⟩
    have h0 := (H k List.mem_cons_self).1
    have hc : k = 0 ∨ k = 1 ∨ k = 2 ∨ k = 3 ∨ k = 4 ∨ k = 5 ∨ k = 6 ∨ k = 7 ∨ k = 8 := by omega
    have Hr : Oct rest := fun x hx => H x (List.mem_cons_of_mem _ hx)
    rcases hc with rfl | rfl | rfl | rfl | rfl | rfl | rfl | rfl | rfl
    · match rest, Hr with
      | [], _ => exact ⟨none, nr_0_0, rd_no⟩
      | [a], _ => exact ⟨none, nr_0_1 a, rd_no⟩
      | [a, b], Hr =>
        obtain ⟨w, d, m⟩ := two16 (Hr a (by simp)) (Hr b (by simp))
        exact ⟨_, rd_0 a b, rd_yes ⟨by simp, w⟩ (by show [((0 : Nat) : Int), _, _] = _; rw [d, m]; rfl)⟩
      | a :: b :: c :: r, _ => exact ⟨none, nr_0_3 a b c r, rd_no⟩
    · match rest, Hr with
      | [], _ => exact ⟨none, nr_1_0, rd_no⟩
      | [a], _ => exact ⟨none, nr_1_1 a, rd_no⟩
      | [a, b], _ => exact ⟨none, nr_1_2 a b, rd_no⟩
      | [a, b, c], _ => exact ⟨none, nr_1_3 a b c, rd_no⟩
      | [a, b, c, d], _ => exact ⟨none, nr_1_4 a b c d, rd_no⟩
      | [a, b, c, d, e], _ => exact ⟨none, nr_1_5 a b c d e, rd_no⟩
      | [a, b, c, d, e, f], _ => exact ⟨none, nr_1_6 a b c d e f, rd_no⟩
      | [a, b, c, d, q, e, f], Hr =>
        obtain ⟨w1, d1, m1⟩ := two16 (Hr a (by simp)) (Hr b (by simp))
        obtain ⟨w2, d2, m2⟩ := two16 (Hr c (by simp)) (Hr d (by simp))
        obtain ⟨w3, d3, m3⟩ := two16 (Hr e (by simp)) (Hr f (by simp))
        have he := Hr e (by simp)
        have hf := Hr f (by simp)
        rw [rd_w]
        by_cases c0 : q = 0 ∧ 256 * e + f = 0
        · obtain ⟨rfl, c2⟩ := c0
          have e0 : e = 0 := by omega
          have f0 : f = 0 := by omega
          subst e0 f0
          rw [if_pos (by simp)]
          exact ⟨_, rfl, rd_yes (e := .wr0 (256 * a + b) (256 * c + d)) ⟨w1, w2⟩ (by show [(1 : Int), _, _, _, _, 0, 0, 0] = _; rw [d1, m1, d2, m2])⟩
        · rw [if_neg (by simpa using c0)]
          by_cases c1 : q = 1
          · subst c1
            rw [if_pos (by decide)]
            exact ⟨_, rfl, rd_yes (e := .wr1 (256 * a + b) (256 * c + d) (256 * e + f)) ⟨w1, w2, w3⟩ (by show [(1 : Int), _, _, _, _, 1, _, _] = _; rw [d1, m1, d2, m2, d3, m3])⟩
          · rw [if_neg (by simpa using c1)]
            by_cases c2 : q = 2
            · subst c2
              rw [if_pos (by decide)]
              exact ⟨_, rfl, rd_yes (e := .wr2 (256 * a + b) (256 * c + d) (256 * e + f)) ⟨w1, w2, w3⟩ (by show [(1 : Int), _, _, _, _, 2, _, _] = _; rw [d1, m1, d2, m2, d3, m3])⟩
            · rw [if_neg (by simpa using c2)]
              exact ⟨none, rfl, rd_no⟩
      | a :: b :: c :: d :: e :: f :: g :: h :: r, _ => exact ⟨none, nr_1_8 a b c d e f g h r, rd_no⟩
    · match rest, Hr with
      | [], _ => exact ⟨none, nr_2_0, rd_no⟩
      | [a], _ => exact ⟨none, nr_2_1 a, rd_no⟩
      | [a, b], Hr =>
        obtain ⟨w, d, m⟩ := two16 (Hr a (by simp)) (Hr b (by simp))
        exact ⟨_, rd_2 a b, rd_yes ⟨by simp, w⟩ (by show [((2 : Nat) : Int), _, _] = _; rw [d, m]; rfl)⟩
      | a :: b :: c :: r, _ => exact ⟨none, nr_2_3 a b c r, rd_no⟩
    · match rest, Hr with
      | [], _ => exact ⟨none, nr_3_0, rd_no⟩
      | [a], _ => exact ⟨none, nr_3_1 a, rd_no⟩
      | [a, b], Hr =>
        obtain ⟨w, d, m⟩ := two16 (Hr a (by simp)) (Hr b (by simp))
        exact ⟨_, rd_3 a b, rd_yes ⟨by simp, w⟩ (by show [((3 : Nat) : Int), _, _] = _; rw [d, m]; rfl)⟩
      | a :: b :: c :: r, _ => exact ⟨none, nr_3_3 a b c r, rd_no⟩
    · match rest, Hr with
      | [], _ => exact ⟨none, nr_4_0, rd_no⟩
      | [a], _ => exact ⟨none, nr_4_1 a, rd_no⟩
      | [a, b], Hr =>
        obtain ⟨w, d, m⟩ := two16 (Hr a (by simp)) (Hr b (by simp))
        exact ⟨_, rd_4 a b, rd_yes ⟨by simp, w⟩ (by show [((4 : Nat) : Int), _, _] = _; rw [d, m]; rfl)⟩
      | a :: b :: c :: r, _ => exact ⟨none, nr_4_3 a b c r, rd_no⟩
    · match rest with
      | [] => exact ⟨_, rd_5, rd_yes (e := .zero 5) (show 5 ∈ [5, 6, 8] by simp) rfl⟩
      | a :: r => exact ⟨none, nr_5_1 a r, rd_no⟩
    · match rest with
      | [] => exact ⟨_, rd_6, rd_yes (e := .zero 6) (show 6 ∈ [5, 6, 8] by simp) rfl⟩
      | a :: r => exact ⟨none, nr_6_1 a r, rd_no⟩
    · match rest, Hr with
      | [], _ => exact ⟨none, nr_7_0, rd_no⟩
      | [a], _ => exact ⟨none, nr_7_1 a, rd_no⟩
      | [a, b], Hr =>
        obtain ⟨w, d, m⟩ := two16 (Hr a (by simp)) (Hr b (by simp))
        exact ⟨_, rd_7 a b, rd_yes ⟨by simp, w⟩ (by show [((7 : Nat) : Int), _, _] = _; rw [d, m]; rfl)⟩
      | a :: b :: c :: r, _ => exact ⟨none, nr_7_3 a b c r, rd_no⟩
    · match rest with
      | [] => exact ⟨_, rd_8, rd_yes (e := .zero 8) (show 8 ∈ [5, 6, 8] by simp) rfl⟩
      | a :: r => exact ⟨none, nr_8_1 a r, rd_no⟩
theorem okdAll {n : Nat} : ∀ {ds : List PyData}, (∀ d ∈ ds, Okd d n) → PyData.showableAll ds = true ∧ PyData.leavesShortAll 13 ds = true ∧ PyData.weightAll ds ≤ ds.length * (n + 1)
  | [], _ => by simp [PyData.showableAll, PyData.leavesShortAll, PyData.weightAll]
  | x :: xs, h => by
    obtain ⟨a, b, c⟩ := h x List.mem_cons_self
    obtain ⟨a', b', c'⟩ := okdAll (ds := xs) fun y hy => h y (List.mem_cons_of_mem _ hy)
    rw [PyData.showableAll, PyData.leavesShortAll, PyData.weightAll, a, a', b, b', List.length_cons, Nat.succ_mul]
    exact ⟨rfl, rfl, by omega⟩
theorem okdTup {n m : Nat} {ds : List PyData} (h : ∀ d ∈ ds, Okd d n) (hm : ds.length * (n + 1) ≤ m) : Okd (.tuple ds) m := by
  obtain ⟨a, b, c⟩ := okdAll h
  exact ⟨by rw [PyData.showable]; exact a, by rw [PyData.leavesShort]; exact b, by rw [PyData.weight]; omega⟩
theorem okdI {i : Int} (h : W16 i) : Okd (.int i) 66 := (okd_int (i := i) (k := 16) (by obtain ⟨h1, h2⟩ := h; show i.natAbs < 65536; omega)).le (by decide)
theorem okdN : Okd PyData.none 66 := ⟨by rw [PyData.showable], by rw [PyData.leavesShort], by rw [PyData.weight]; exact Nat.zero_le _⟩
theorem okdW {k : Nat} (h : k < 9) : Okd (sW k) 66 := by
  match k, h with
  | 0, _ => exact okd_str (by decide +kernel) (by decide +kernel)
  | 1, _ => exact okd_str (by decide +kernel) (by decide +kernel)
  | 2, _ => exact okd_str (by decide +kernel) (by decide +kernel)
  | 3, _ => exact okd_str (by decide +kernel) (by decide +kernel)
  | 4, _ => exact okd_str (by decide +kernel) (by decide +kernel)
  | 5, _ => exact okd_str (by decide +kernel) (by decide +kernel)
  | 6, _ => exact okd_str (by decide +kernel) (by decide +kernel)
  | 7, _ => exact okd_str (by decide +kernel) (by decide +kernel)
  | 8, _ => exact okd_str (by decide +kernel) (by decide +kernel)
theorem okdO {v : Int} (h : W16 v) : Okd (.tuple [.str (Str.ofString "object"), .int v]) 66 := by
  refine okdTup (n := 32) (fun d hd => ?_) (by simp)
  simp only [List.mem_cons, List.not_mem_nil, or_false] at hd
  rcases hd with rfl | rfl
  · exact okd_str (by decide +kernel) (by decide +kernel)
  · exact (okd_int (i := v) (k := 16) (by obtain ⟨h1, h2⟩ := h; show v.natAbs < 65536; omega)).le (by decide)
theorem okdT {e : Ev} (h : e.ok) : Okd (ToD.toD (some e.t)) 268 := by
  cases e with
  | one k n =>
    show Okd (.tuple [sW k, .int n]) 268
    refine okdTup (n := 66) (fun d hd => ?_) (by simp)
    simp only [List.mem_cons, List.not_mem_nil, or_false] at hd
    rcases hd with rfl | rfl
    · exact okdW (by have := h.1; simp only [List.mem_cons, List.not_mem_nil, or_false] at this; omega)
    · exact okdI h.2
  | zero k =>
    show Okd (.tuple [sW k]) 268
    refine okdTup (n := 66) (fun d hd => ?_) (by simp)
    simp only [List.mem_cons, List.not_mem_nil, or_false] at hd
    subst hd
    exact okdW (by have : k ∈ [5, 6, 8] := h; simp only [List.mem_cons, List.not_mem_nil, or_false] at this; omega)
  | wr0 n m =>
    show Okd (.tuple [sW 1, .int n, .int m, .none]) 268
    refine okdTup (n := 66) (fun d hd => ?_) (by simp)
    simp only [List.mem_cons, List.not_mem_nil, or_false] at hd
    rcases hd with rfl | rfl | rfl | rfl
    · exact okdW (by decide)
    · exact okdI h.1
    · exact okdI h.2
    · exact okdN
  | wr1 n m v =>
    show Okd (.tuple [sW 1, .int n, .int m, .int v]) 268
    refine okdTup (n := 66) (fun d hd => ?_) (by simp)
    simp only [List.mem_cons, List.not_mem_nil, or_false] at hd
    rcases hd with rfl | rfl | rfl | rfl
    · exact okdW (by decide)
    · exact okdI h.1
    · exact okdI h.2.1
    · exact okdI h.2.2
  | wr2 n m v =>
    show Okd (.tuple [sW 1, .int n, .int m, .tuple [.str (Str.ofString "object"), .int v]]) 268
    refine okdTup (n := 66) (fun d hd => ?_) (by simp)
    simp only [List.mem_cons, List.not_mem_nil, or_false] at hd
    rcases hd with rfl | rfl | rfl | rfl
    · exact okdW (by decide)
    · exact okdI h.1
    · exact okdI h.2.1
    · exact okdO h.2.2
theorem sameP_t (e : Ev) : sameP (ToD.toD (some e.t)) (ToD.toD (some e.t)) = true := by
  cases e <;> simp [Ev.t, ToD.toD, toDO, sW, sameP, samePs]
theorem flat_t (e : Ev) : (!(ToD.toD (some e.t)).hasDict && decide ((ToD.toD (some e.t)).depth ≤ 64)) = true := by
  cases e <;> kernel_rfl
theorem same_t {e : Ev} (h : e.ok) : sameT (some e.t) (some e.t) = some true := by
  unfold sameT
  refine if_pos ?_
  have f := flat_t e
  rw [Bool.and_eq_true] at f
  have o := okdT h
  have s : shwB (ToD.toD (some e.t)) = true := by
    unfold shwB
    rw [Bool.and_eq_true, decide_eq_true_iff]
    exact ⟨o.sh, PyData.shown_fits (by decide) (by decide) o.lf (Nat.le_trans o.wt (by omega))⟩
  rw [sameP_t, s, f.1, f.2]
  rfl
/-! what is drawn -/
theorem vt_ok {xs : List PyData} (h : xs.length ≤ 8) : vtF xs = some ⟨xs⟩ := if_pos (Nat.le_trans h (by rw [sizeLine_eq]; decide))
def Vok (v : PyData) : Prop := v = .none ∨ (∃ i, v = .int i ∧ W16 i) ∨ ∃ i, v = .tuple [.str (Str.ofString "object"), .int i] ∧ W16 i
theorem mul_ok {a m : Int} (h : -1000000000 < a ∧ a < 1000000000) : mulF a m = some (a * m) := if_pos ⟨by omega, by omega⟩
theorem value_ok (bx : List Int × Nat) : ∃ y, law_valueM bx 300 = some y ∧ (Vok y.1 ∧ y.2.1 = bx.1) := by
  unfold law_valueM
  obtain ⟨r1, n1, e1, h1, h1'⟩ := drawG_ok (bx := bx) (m := 4) (by decide)
  refine exb e1 ?_
  refine exb_bnd ?_
  by_cases c0 : r1 = 0
  · exact exb_if (decide_eq_true c0) ⟨_, rfl, .inl rfl, rfl⟩
  refine exb_else (by simpa using c0) ?_
  by_cases c1 : r1 = 1
  · refine exb_if (decide_eq_true c1) ?_
    obtain ⟨r2, n2, e2, h2, h2'⟩ := drawG_ok (bx := (bx.1, n1)) (m := 1000) (by decide)
    obtain ⟨r3, n3, e3, h3, h3'⟩ := drawG_ok (bx := (bx.1, n2)) (m := 600) (by decide)
    refine exb e2 ?_
    refine exb (mul_ok (by omega)) ?_
    refine exb e3 ?_
    exact ⟨_, rfl, .inr (.inl ⟨r2 * 65 + r3, rfl, by unfold W16; omega⟩), rfl⟩
  · refine exb_else (by simpa using c1) ?_
    obtain ⟨r2, n2, e2, h2, h2'⟩ := drawG_ok (bx := (bx.1, n1)) (m := 300) (by decide)
    refine exb e2 ?_
    exact ⟨_, rfl, .inr (.inr ⟨r2, rfl, by unfold W16; omega⟩), rfl⟩
theorem deed_ok (bx : List Int × Nat) : ∃ y, law_deedM bx 300 = some y ∧ (∃ e : Ev, y.1 = e.t ∧ e.ok) ∧ y.2.1 = bx.1 := by
  unfold law_deedM
  obtain ⟨r1, n1, e1, h1, h1'⟩ := drawG_ok (bx := bx) (m := 16) (by decide)
  obtain ⟨r2, n2, e2, h2, h2'⟩ := drawG_ok (bx := (bx.1, n1)) (m := 300) (by decide)
  have w2 : W16 r2 := by unfold W16; omega
  refine exb e1 (exb_bnd ?_)
  refine exb e2 (exb_bnd ?_)
  by_cases c1 : r1 < 5
  · refine exb_if (decide_eq_true c1) ?_
    obtain ⟨r3, n3, e3, h3, h3'⟩ := drawG_ok (bx := (bx.1, n2)) (m := 3) (by decide)
    refine exb e3 (exb (vt_ok (by simp)) ?_)
    exact ⟨_, rfl, ⟨.one 0 (1 + r3), rfl, by simp, by unfold W16; omega⟩, rfl⟩
  refine exb_else (by simpa using c1) ?_
  by_cases c2 : r1 < 9
  · refine exb_if (decide_eq_true c2) ?_
    obtain ⟨r3, n3, e3, h3, h3'⟩ := drawG_ok (bx := (bx.1, n2)) (m := 4) (by decide)
    have w3 : W16 r3 := by unfold W16; omega
    refine exb e3 ?_
    obtain ⟨⟨v, b4, k4⟩, e4, hv, q4⟩ := value_ok (bx.1, n3)
    cases q4
    refine exb e4 (exb (vt_ok (by simp)) ?_)
    rcases hv with z | ⟨i, z, wi⟩ | ⟨i, z, wi⟩
    · exact ⟨_, rfl, ⟨.wr0 r2 r3, by dsimp only at z; rw [z]; rfl, w2, w3⟩, rfl⟩
    · exact ⟨_, rfl, ⟨.wr1 r2 r3 i, by dsimp only at z; rw [z]; rfl, w2, w3, wi⟩, rfl⟩
    · exact ⟨_, rfl, ⟨.wr2 r2 r3 i, by dsimp only at z; rw [z]; rfl, w2, w3, wi⟩, rfl⟩
  refine exb_else (by simpa using c2) ?_
  by_cases c3 : r1 < 11
  · refine exb_if (decide_eq_true c3) ?_
    refine exb (vt_ok (by simp)) ?_
    exact ⟨_, rfl, ⟨.one 3 r2, rfl, by simp, w2⟩, rfl⟩
  refine exb_else (by simpa using c3) ?_
  obtain ⟨r3, n3, e3, h3, h3'⟩ := drawG_ok (bx := (bx.1, n2)) (m := 4) (by decide)
  obtain ⟨r4, n4, e4, h4, h4'⟩ := drawG_ok (bx := (bx.1, n3)) (m := 2) (by decide)
  refine exb (vt_ok (by simp)) (exb (vt_ok (by simp)) (exb (vt_ok (by simp)) (exb (vt_ok (by simp)) (exb e3 (exb (vt_ok (by simp)) (exb (vt_ok (by simp)) (exb e4 ?_)))))))
  have hj : ∃ j : Nat, j < 6 ∧ (r1 + r4) % 6 = (j : Int) := ⟨((r1 + r4) % 6).toNat, by omega, by omega⟩
  obtain ⟨j, hj, ej⟩ := hj
  dsimp only
  rw [ej]
  match j, hj with
  | 0, _ => exact exb (at_ok (i := 0) rfl) ⟨_, rfl, ⟨.one 2 r2, rfl, by simp, w2⟩, rfl⟩
  | 1, _ => exact exb (at_ok (i := 1) rfl) ⟨_, rfl, ⟨.one 4 r2, rfl, by simp, w2⟩, rfl⟩
  | 2, _ => exact exb (at_ok (i := 2) rfl) ⟨_, rfl, ⟨.zero 5, rfl, show 5 ∈ [5, 6, 8] by simp⟩, rfl⟩
  | 3, _ => exact exb (at_ok (i := 3) rfl) ⟨_, rfl, ⟨.zero 6, rfl, show 6 ∈ [5, 6, 8] by simp⟩, rfl⟩
  | 4, _ => exact exb (at_ok (i := 4) rfl) ⟨_, rfl, ⟨.one 7 (1 + r3), rfl, by simp, by unfold W16; omega⟩, rfl⟩
  | 5, _ => exact exb (at_ok (i := 5) rfl) ⟨_, rfl, ⟨.zero 8, rfl, show 8 ∈ [5, 6, 8] by simp⟩, rfl⟩
theorem oct_o {e : Ev} (h : e.ok) : Oct e.o := by
  have two : ∀ n, W16 n → (0 ≤ n / 256 ∧ n / 256 < 256) ∧ (0 ≤ n % 256 ∧ n % 256 < 256) := fun n ⟨h1, h2⟩ => by omega
  intro x hx
  cases e with
  | one k n =>
    have hk := h.1
    simp only [List.mem_cons, List.not_mem_nil, or_false] at hk
    have w := two n h.2
    simp only [Ev.o, List.mem_cons, List.not_mem_nil, or_false] at hx
    rcases hx with rfl | rfl | rfl
    · omega
    · exact w.1
    · exact w.2
  | zero k =>
    have hk : k ∈ [5, 6, 8] := h
    simp only [List.mem_cons, List.not_mem_nil, or_false] at hk
    simp only [Ev.o, List.mem_cons, List.not_mem_nil, or_false] at hx
    omega
  | wr0 n m =>
    have w1 := two n h.1
    have w2 := two m h.2
    simp only [Ev.o, List.mem_cons, List.not_mem_nil, or_false] at hx
    rcases hx with rfl | rfl | rfl | rfl | rfl | rfl | rfl | rfl <;> omega
  | wr1 n m v =>
    have w1 := two n h.1
    have w2 := two m h.2.1
    have w3 := two v h.2.2
    simp only [Ev.o, List.mem_cons, List.not_mem_nil, or_false] at hx
    rcases hx with rfl | rfl | rfl | rfl | rfl | rfl | rfl | rfl <;> omega
  | wr2 n m v =>
    have w1 := two n h.1
    have w2 := two m h.2.1
    have w3 := two v h.2.2
    simp only [Ev.o, List.mem_cons, List.not_mem_nil, or_false] at hx
    rcases hx with rfl | rfl | rfl | rfl | rfl | rfl | rfl | rfl <;> omega
theorem len_o (e : Ev) : 1 ≤ e.o.length ∧ e.o.length ≤ 8 := by cases e <;> simp [Ev.o]
theorem cut_mid (e : Ev) : cutF e.all (some (1 : Int)) (some (-1 : Int)) = e.o := by cases e <;> kernel_rfl
theorem cutF_len {α : Type} (xs : List α) (lo hi : Option Int) : (cutF xs lo hi).length ≤ xs.length := by
  unfold cutF
  rw [List.length_take, List.length_drop]
  omega
theorem cutF_mem {α : Type} {xs : List α} {lo hi : Option Int} {x : α} (h : x ∈ cutF xs lo hi) : x ∈ xs := List.mem_of_mem_drop (List.mem_of_mem_take h)
theorem cat8 {xs ys : List Int} (h : xs.length + ys.length ≤ 1000) : catF xs ys = some (xs ++ ys) := if_pos (by rw [sizeLine_eq]; omega)
theorem mod_of {a m : Int} (h : 0 < m) : modF a m = some (a % m) := if_pos h

/-! ### the octets of many events, one step of the reading -/
def J (es : List Ev) : List Int := es.flatMap Ev.all
theorem J_cons (e : Ev) (es : List Ev) : J (e :: es) = e.all ++ J es := rfl
theorem J_app (xs ys : List Ev) : J (xs ++ ys) = J xs ++ J ys := List.flatMap_append
theorem all_len (e : Ev) : e.all.length = e.o.length + 2 := by
  show (((e.o.length : Int) + 1) :: (e.o ++ [170])).length = _
  rw [List.length_cons, List.length_append, List.length_singleton]
theorem all_at0 (e : Ev) : e.all[0]? = some ((e.o.length : Int) + 1) := rfl
theorem all_last (e : Ev) : e.all[e.o.length + 1]? = some 170 := by
  show (((e.o.length : Int) + 1) :: (e.o ++ [170]))[e.o.length + 1]? = _
  rw [List.getElem?_cons_succ, List.getElem?_append_right (Nat.le_refl _), Nat.sub_self]
  rfl
theorem oct_all {e : Ev} (h : e.ok) : Oct e.all := fun x hx => by
  obtain q | q := List.mem_cons.mp hx
  · have := len_o e
    rw [q]; omega
  · obtain q | q := List.mem_append.mp q
    · exact oct_o h x q
    · rw [List.mem_singleton.mp q]; decide

def RC (xs : List Int) : ((List (VT PyData)) × Int) → Option Bool := fun (x : ((List (VT PyData)) × Int)) => match x with | (changes_219, taken_220) => some (decide (taken_220 < (xs.length : Int)))
def RB (xs : List Int) : ((List (VT PyData)) × Int) → Option (Fb ((List (VT PyData)) × Int) ((List (VT PyData)) × Int)) := fun (x : ((List (VT PyData)) × Int)) => match x with | (changes_219, taken_220) => (atI xs taken_220).bind fun t_227 => bnd (((taken_220 + (1 : Int)) + t_227)) fun end_228 => (if (decide ((xs.length : Int) < end_228)) = false then (atI xs (end_228 - (1 : Int))).bind fun t_232 => some (!decide (t_232 = (170 : Int))) else some true).bind fun t_233 => if t_233 = true then (some (.brk (changes_219, taken_220))) else ((event_readM (cutF xs (some (taken_220 + (1 : Int))) (some (end_228 - (1 : Int))))).bind fun t_235 => bnd (t_235) fun event_236 => if event_236.isNone = true then (some (.brk (changes_219, taken_220))) else (event_236.bind fun event_240 => (appF changes_219 event_240).bind fun changes_241 => bnd (end_228) fun taken_243 => some (.go (changes_241, taken_243))))
theorem cut_mm {xs : List Int} {i j : Nat} (h1 : i ≤ j) (h2 : j ≤ xs.length) : cutF xs (some (i : Int)) (some (j : Int)) = (xs.drop i).take (j - i) := by
  have a : HT.sIx xs.length 0 (some (i : Int)) = i := by rw [HT.sIx_nat, Nat.min_eq_left (by omega)]
  have b : HT.sIx xs.length xs.length (some (j : Int)) = j := by rw [HT.sIx_nat, Nat.min_eq_left (by omega)]
  unfold cutF
  rw [a, b]
theorem step_go {p r xs : List Int} {e : Ev} {ch : List (VT PyData)} (ok : e.ok) (hx : xs = p ++ (e.all ++ r)) (hc : ch.length ≤ 1000) : RB xs (ch, (p.length : Int)) = some (.go (ch ++ [e.t], ((p.length + e.all.length : Nat) : Int))) := by
  have hl := all_len e
  have lx : xs.length = p.length + (e.all.length + r.length) := by rw [hx, List.length_append, List.length_append]
  have at_ : ∀ k : Nat, k < e.all.length → xs[p.length + k]? = e.all[k]? := fun k hk => by
    rw [hx, List.getElem?_append_right (by omega), Nat.add_sub_cancel_left, List.getElem?_append_left hk]
  unfold RB
  refine bind_of (a := (e.o.length : Int) + 1) (at_ok (i := p.length) (by rw [← all_at0 e, ← at_ 0 (by omega)]; rfl)) ?_
  refine bnd_of ?_
  have e1 : ((p.length : Int) + 1 + ((e.o.length : Int) + 1)) = ((p.length + e.all.length : Nat) : Int) := by omega
  have e2 : ((p.length : Int) + 1 + ((e.o.length : Int) + 1)) - 1 = ((p.length + (e.o.length + 1) : Nat) : Int) := by omega
  have e3 : ((p.length : Int) + 1) = ((p.length + 1 : Nat) : Int) := by omega
  refine bind_of (a := false) (if_of (decide_eq_false (by omega)) (bind_of (a := 170) (by rw [e2]; exact at_ok (by rw [at_ _ (by omega)]; exact all_last e)) rfl)) ?_
  refine else_of (by decide) ?_
  have mid : cutF xs (some ((p.length : Int) + 1)) (some ((p.length : Int) + 1 + ((e.o.length : Int) + 1) - 1)) = e.o := by
    rw [e2, e3, cut_mm (by omega) (by omega), hx]
    rw [show p ++ (e.all ++ r) = (p ++ [(e.o.length : Int) + 1]) ++ (e.o ++ ([170] ++ r)) by show p ++ (((e.o.length : Int) + 1) :: (e.o ++ [170]) ++ r) = _; simp]
    rw [List.drop_left' (by simp)]
    rw [List.take_left' (by omega)]
  refine bind_of (a := some e.t) (by rw [mid]; exact read_ok ok) ?_
  refine bnd_of ?_
  refine else_of (by simp) ?_
  refine bind_of (a := e.t) rfl ?_
  refine bind_of (a := ch ++ [e.t]) (if_pos (by rw [sizeLine_eq]; omega)) ?_
  show some (Fb.go (ch ++ [e.t], ((p.length : Int) + 1 + ((e.o.length : Int) + 1)))) = _
  rw [e1]
theorem step_stop {p r xs q : List Int} {e : Ev} {ch : List (VT PyData)} (hx : xs = p ++ r) (hr : e.all = r ++ q) (h0 : r ≠ []) (hq : q ≠ []) : RB xs (ch, (p.length : Int)) = some (.brk (ch, (p.length : Int))) := by
  have hl := all_len e
  have l1 : r.length + q.length = e.all.length := by rw [hr, List.length_append]
  have l2 := List.length_pos_iff.mpr h0
  have l3 := List.length_pos_iff.mpr hq
  have lx : xs.length = p.length + r.length := by rw [hx, List.length_append]
  unfold RB
  refine bind_of (a := (e.o.length : Int) + 1) (at_ok (i := p.length) (by rw [hx, List.getElem?_append_right (Nat.le_refl _), Nat.sub_self, ← all_at0 e, hr, List.getElem?_append_left l2])) ?_
  refine bnd_of ?_
  refine bind_of (a := true) (else_of (by rw [decide_eq_true (by omega)]; decide) rfl) ?_
  exact if_pos rfl

theorem step_any {p s xs : List Int} {ch : List (VT PyData)} (hO : Oct xs) (hx : xs = p ++ s) (h0 : s ≠ []) (hc : ch.length ≤ 1000) : RB xs (ch, (p.length : Int)) = some (.brk (ch, (p.length : Int))) ∨ ∃ (e : Ev) (r : List Int), e.ok ∧ s = e.all ++ r ∧ RB xs (ch, (p.length : Int)) = some (.go (ch ++ [e.t], ((p.length + e.all.length : Nat) : Int))) := by
  cases s with
  | nil => exact absurd rfl h0
  | cons L s' =>
    have hs : Oct (L :: s') := fun x h => hO x (by rw [hx]; exact List.mem_append_right _ h)
    have hL := hs L List.mem_cons_self
    obtain ⟨l, rfl⟩ : ∃ l : Nat, L = l := ⟨L.toNat, by omega⟩
    have lx : xs.length = p.length + (s'.length + 1) := by rw [hx, List.length_append, List.length_cons]
    have a0 : atI xs (p.length : Int) = some (l : Int) := at_ok (i := p.length) (by rw [hx, List.getElem?_append_right (Nat.le_refl _), Nat.sub_self]; rfl)
    by_cases c1 : s'.length < l
    · left
      unfold RB
      refine bind_of a0 ?_
      refine bnd_of ?_
      refine bind_of (a := true) (else_of (by rw [decide_eq_true (by omega)]; decide) rfl) ?_
      exact if_pos rfl
    have e2 : ((p.length : Int) + 1 + (l : Int)) - 1 = ((p.length + l : Nat) : Int) := by omega
    obtain ⟨z, hz⟩ : ∃ z, ((l : Int) :: s')[l]? = some z := ⟨_, List.getElem?_eq_getElem (by rw [List.length_cons]; omega)⟩
    have a1 : atI xs ((p.length : Int) + 1 + (l : Int) - 1) = some z := by
      rw [e2]
      exact at_ok (by rw [hx, List.getElem?_append_right (by omega), Nat.add_sub_cancel_left]; exact hz)
    by_cases c2 : z = 170
    · subst c2
      cases l with
      | zero => simp at hz
      | succ l =>
        rw [List.getElem?_cons_succ] at hz
        have hl : l < s'.length := (List.getElem?_eq_some_iff.mp hz).1
        have e3 : ((p.length : Int) + 1) = ((p.length + 1 : Nat) : Int) := by omega
        have mid : cutF xs (some ((p.length : Int) + 1)) (some ((p.length : Int) + 1 + ((l + 1 : Nat) : Int) - 1)) = s'.take l := by
          rw [e2, e3, cut_mm (by omega) (by omega), hx]
          rw [show p ++ ((l + 1 : Nat) : Int) :: s' = (p ++ [((l + 1 : Nat) : Int)]) ++ s' by simp]
          rw [List.drop_left' (by simp)]
          rw [show p.length + (l + 1) - (p.length + 1) = l by omega]
        obtain ⟨rr, er, R⟩ := read_any (body := s'.take l) (fun x h => hs x (List.mem_cons_of_mem _ (List.mem_of_mem_take h)))
        cases rr with
        | none =>
          left
          unfold RB
          refine bind_of a0 ?_
          refine bnd_of ?_
          refine bind_of (a := false) (if_of (decide_eq_false (by omega)) (bind_of a1 rfl)) ?_
          refine else_of (by decide) ?_
          refine bind_of (a := none) (by rw [mid]; exact er) ?_
          refine bnd_of ?_
          exact if_pos rfl
        | some ev =>
          right
          obtain ⟨e, _, ok, ho⟩ := R ev rfl
          have hs' : ((l + 1 : Nat) : Int) :: s' = e.all ++ s'.drop (l + 1) := by
            show _ = (((e.o.length : Int) + 1) :: (e.o ++ [170])) ++ s'.drop (l + 1)
            have hlen : e.o.length = l := by rw [ho, List.length_take]; omega
            rw [List.cons_append, List.append_assoc, hlen, ho]
            have q : s'[l] = 170 := (List.getElem?_eq_some_iff.mp hz).2
            have d := List.drop_eq_getElem_cons hl
            rw [q] at d
            rw [show ([170] : List Int) ++ s'.drop (l + 1) = s'.drop l from d.symm, List.take_append_drop]
            rfl
          exact ⟨e, _, ok, hs', step_go ok (by rw [hx, hs']) hc⟩
    · left
      unfold RB
      refine bind_of a0 ?_
      refine bnd_of ?_
      refine bind_of (a := true) (if_of (decide_eq_false (by omega)) (bind_of a1 (by rw [decide_eq_false c2]; rfl))) ?_
      exact if_pos rfl
theorem J_snoc (es : List Ev) (e : Ev) : J (es ++ [e]) = J es ++ e.all := by rw [J_app]; simp [J]
theorem J_pos (e : Ev) : 3 ≤ e.all.length := by have := len_o e; have := all_len e; omega
/-- the run from behind the events pre: what is told -/
theorem run_any {xs : List Int} (hO : Oct xs) (hx3 : xs.length ≤ 1000) : ∀ (n : Nat) (pre : List Ev) (s : List Int), xs = J pre ++ s → s.length < n → 
    ∃ es : List Ev, (∀ e ∈ es, e.ok) ∧ (∃ r, s = J es ++ r) ∧ whlB (RC xs) (RB xs) n (pre.map Ev.t, ((J pre).length : Int)) = some (.go ((pre ++ es).map Ev.t, ((J (pre ++ es)).length : Int)))
  | 0, _, _, _, h => by omega
  | n + 1, pre, s, hx, hn => by
    have lx : xs.length = (J pre).length + s.length := by rw [hx, List.length_append]
    have hp : pre.length ≤ (J pre).length := by
      clear hx lx
      induction pre with
      | nil => exact Nat.le_refl _
      | cons e es ih => rw [J_cons, List.length_append, List.length_cons]; have := J_pos e; omega
    by_cases h0 : s = []
    · subst h0
      refine ⟨[], by simp, ⟨[], by simp [J]⟩, ?_⟩
      rw [List.append_nil]
      refine bind_of (a := false) ?_ rfl
      show some (decide (((J pre).length : Int) < (xs.length : Int))) = _
      rw [decide_eq_false (by rw [lx]; simp)]
    · have l0 := List.length_pos_iff.mpr h0
      have hc : RC xs (pre.map Ev.t, ((J pre).length : Int)) = some true := by
        show some (decide (((J pre).length : Int) < (xs.length : Int))) = _
        rw [decide_eq_true (by omega)]
      rcases step_any (ch := pre.map Ev.t) hO hx h0 (by rw [List.length_map]; omega) with hb | ⟨e, r, ok, hs, hg⟩
      · refine ⟨[], by simp, ⟨s, rfl⟩, ?_⟩
        rw [List.append_nil]
        exact bind_of hc ((if_pos rfl).trans (bind_of hb rfl))
      · have ls : s.length = e.all.length + r.length := by rw [hs, List.length_append]
        have := J_pos e
        obtain ⟨es, h1, ⟨r2, h2⟩, h3⟩ := run_any hO hx3 n (pre ++ [e]) r (by rw [J_snoc, hx, hs, List.append_assoc]) (by omega)
        refine ⟨e :: es, fun x h => ?_, ⟨r2, by rw [hs, J_cons, h2, List.append_assoc]⟩, ?_⟩
        · obtain q | q := List.mem_cons.mp h
          · rw [q]; exact ok
          · exact h1 x q
        · rw [show pre ++ e :: es = (pre ++ [e]) ++ es by simp, ← h3]
          refine bind_of hc ((if_pos rfl).trans (bind_of hg ?_))
          rw [List.map_append, J_snoc, List.length_append]
          rfl

theorem run_known {xs r : List Int} (hx3 : xs.length ≤ 1000) : ∀ (es pre : List Ev) (n : Nat), xs = J pre ++ (J es ++ r) → (∀ e ∈ es, e.ok) → (J es ++ r).length < n →
    ∃ m, r.length < m ∧ whlB (RC xs) (RB xs) n (pre.map Ev.t, ((J pre).length : Int)) = whlB (RC xs) (RB xs) m ((pre ++ es).map Ev.t, ((J (pre ++ es)).length : Int))
  | [], pre, n, hx, _, hn => ⟨n, by simpa [J] using hn, by rw [List.append_nil]⟩
  | e :: es, pre, 0, _, _, hn => by omega
  | e :: es, pre, n + 1, hx, hok, hn => by
    have hx' : xs = J pre ++ (e.all ++ (J es ++ r)) := by rw [hx, J_cons, List.append_assoc]
    have lx : xs.length = (J pre).length + (e.all.length + (J es ++ r).length) := by rw [hx', List.length_append, List.length_append]
    have lj := J_pos e
    have hp : pre.length ≤ (J pre).length := by
      clear hx hx' lx hn
      induction pre with
      | nil => exact Nat.le_refl _
      | cons a as ih => rw [J_cons, List.length_append, List.length_cons]; have := J_pos a; omega
    have hc : RC xs (pre.map Ev.t, ((J pre).length : Int)) = some true := by
      show some (decide (((J pre).length : Int) < (xs.length : Int))) = _
      rw [decide_eq_true (by omega)]
    have hg := step_go (ch := pre.map Ev.t) (hok e List.mem_cons_self) hx' (by rw [List.length_map]; omega)
    have ln : (J (e :: es) ++ r).length = e.all.length + (J es ++ r).length := by rw [J_cons, List.append_assoc, List.length_append]
    obtain ⟨m, h1, h2⟩ := run_known hx3 es (pre ++ [e]) n (by rw [J_snoc, hx', List.append_assoc]) (fun x h => hok x (List.mem_cons_of_mem _ h)) (by omega)
    refine ⟨m, h1, ?_⟩
    rw [show pre ++ e :: es = (pre ++ [e]) ++ es by simp, ← h2]
    refine bind_of hc ((if_pos rfl).trans (bind_of hg ?_))
    rw [List.map_append, J_snoc, List.length_append]
    rfl
theorem rec_of {xs : List Int} {z : (List (VT PyData)) × Int} (h : whlB (RC xs) (RB xs) 100000 ([], 0) = some (.go z)) : recoveredM xs = some z := by
  unfold recoveredM
  refine bnd_of (bnd_of ?_)
  exact bind_of h rfl
/-- a text cut within an event -/
theorem rec_cut {es : List Ev} {r : List Int} (hok : ∀ e ∈ es, e.ok) (hl : (J es ++ r).length ≤ 1000) (hr : r = [] ∨ ∃ (e : Ev) (q : List Int), e.all = r ++ q ∧ r ≠ [] ∧ q ≠ []) : recoveredM (J es ++ r) = some (es.map Ev.t, ((J es).length : Int)) := by
  refine rec_of ?_
  obtain ⟨m, h1, h2⟩ := run_known (xs := J es ++ r) (r := r) hl es [] 100000 rfl hok (by omega)
  refine h2.trans ?_
  rw [List.nil_append]
  cases m with
  | zero => omega
  | succ m =>
    rcases hr with rfl | ⟨e, q, ha, h0, hq⟩
    · refine bind_of (a := false) ?_ rfl
      show some (decide (((J es).length : Int) < ((J es ++ []).length : Int))) = _
      rw [decide_eq_false (by simp)]
    · have hc : RC (J es ++ r) (es.map Ev.t, ((J es).length : Int)) = some true := by
        show some (decide (((J es).length : Int) < ((J es ++ r).length : Int))) = _
        have := List.length_pos_iff.mpr h0
        rw [decide_eq_true (by rw [List.length_append]; omega)]
      exact bind_of hc ((if_pos rfl).trans (bind_of (step_stop rfl ha h0 hq) rfl))
/-- a text that begins with whole events -/
theorem rec_pre {es : List Ev} {s : List Int} (hok : ∀ e ∈ es, e.ok) (hO : Oct (J es ++ s)) (hl : (J es ++ s).length ≤ 1000) : ∃ fs : List Ev, (∀ e ∈ fs, e.ok) ∧ (∃ r, J es ++ s = J (es ++ fs) ++ r) ∧ recoveredM (J es ++ s) = some ((es ++ fs).map Ev.t, ((J (es ++ fs)).length : Int)) := by
  obtain ⟨m, h1, h2⟩ := run_known (xs := J es ++ s) (r := s) hl es [] 100000 rfl hok (by omega)
  obtain ⟨fs, a, ⟨r, b⟩, c⟩ := run_any hO hl m es s rfl h1
  exact ⟨fs, a, ⟨r, by rw [J_app, List.append_assoc, ← b]⟩, rec_of (h2.trans c)⟩
/-! the ends -/
def E' : Nat → List Ev → List Int
  | _, [] => []
  | b, e :: es => ((b + e.all.length : Nat) : Int) :: E' (b + e.all.length) es
theorem E'_gt : ∀ (es : List Ev) (b : Nat), ∀ x ∈ E' b es, (b : Int) < x
  | [], b, x, h => by cases h
  | e :: es, b, x, h => by
    have := J_pos e
    obtain q | q := List.mem_cons.mp h
    · rw [q]; omega
    · have := E'_gt es _ x q
      omega
theorem cutL : ∀ (es : List Ev) (b c : Nat), b ≤ c → ∃ (k : Nat) (r : List Int), ((E' b es).filter fun x => decide (x ≤ (c : Int))).length = k ∧ k ≤ es.length ∧ ((b : Int) :: E' b es)[k]? = some ((b + (J (es.take k)).length : Nat) : Int) ∧ (J es).take (c - b) = J (es.take k) ++ r ∧ (J (es.take k)).length ≤ c - b ∧ (r = [] ∨ ∃ (e : Ev) (q : List Int), e.all = r ++ q ∧ r ≠ [] ∧ q ≠ [])
  | [], b, c, _ => ⟨0, [], rfl, Nat.le_refl _, by simp [J], by simp [J], by simp [J], .inl rfl⟩
  | e :: es, b, c, hbc => by
    by_cases h : b + e.all.length ≤ c
    · obtain ⟨k, r, h1, h2, h3, h4, h5, h6⟩ := cutL es (b + e.all.length) c h
      refine ⟨k + 1, r, ?_, by rw [List.length_cons]; omega, ?_, ?_, ?_, h6⟩
      · show ((((b + e.all.length : Nat) : Int) :: E' (b + e.all.length) es).filter _).length = _
        rw [List.filter_cons_of_pos (by simpa using (by omega)), List.length_cons, h1]
      · show (((b + e.all.length : Nat) : Int) :: E' (b + e.all.length) es)[k]? = _
        rw [h3, List.take_succ_cons, J_cons, List.length_append, Nat.add_assoc]
      · rw [List.take_succ_cons, J_cons, J_cons, List.take_append, show c - b - e.all.length = c - (b + e.all.length) by omega, h4, List.take_of_length_le (by omega), List.append_assoc]
      · rw [List.take_succ_cons, J_cons, List.length_append]; omega
    · refine ⟨0, e.all.take (c - b), ?_, Nat.zero_le _, by simp [J], ?_, by simp [J], ?_⟩
      · rw [List.length_eq_zero_iff, List.filter_eq_nil_iff]
        intro x hx
        have : ((b + e.all.length : Nat) : Int) ≤ x := by
          obtain q | q := List.mem_cons.mp hx
          · rw [q]; exact Int.le_refl _
          · have := E'_gt es _ x q
            omega
        simp only [decide_eq_true_eq]
        omega
      · rw [J_cons, List.take_append, show c - b - e.all.length = 0 by omega, List.take_zero, List.append_nil]
        simp [J]
      · by_cases z : c - b = 0
        · left; rw [z]; rfl
        · right
          refine ⟨e, e.all.drop (c - b), (List.take_append_drop _ _).symm, fun q => ?_, fun q => ?_⟩
          · have := congrArg List.length q
            rw [List.length_take, List.length_nil] at this
            have := J_pos e
            omega
          · have := congrArg List.length q
            rw [List.length_drop, List.length_nil] at this
            omega
def F1 := (fun (y_270 : (VT PyData)) (x : ((List Int) × (List Int) × (List Int × Nat))) => match x with | (ends_266, octets_267, bx_268) => (law_octetsM y_270).bind fun t_276 => (catF octets_267 t_276).bind fun t_277 => bnd (t_277) fun octets_278 => (appF ends_266 (octets_278.length : Int)).bind fun ends_281 => some (ends_281, octets_278, bx_268) : (VT PyData) → ((List Int) × (List Int) × (List Int × Nat)) → Option ((List Int) × (List Int) × (List Int × Nat)))
def F2 := (fun (y_371 : (VT PyData)) (x : ((List Int) × (List Int × Nat))) => match x with | (whole_368, bx_369) => (law_octetsM y_371).bind fun t_377 => (catF whole_368 t_377).bind fun t_378 => bnd (t_378) fun whole_379 => some (whole_379, bx_369) : (VT PyData) → ((List Int) × (List Int × Nat)) → Option ((List Int) × (List Int × Nat)))
theorem fold_F1 (bx : List Int × Nat) : ∀ (es : List Ev) (en oc : List Int), (∀ e ∈ es, e.ok) → en.length + es.length ≤ 100 → oc.length + (J es).length ≤ 900 → fold F1 (es.map Ev.t) (en, oc, bx) = some (en ++ E' oc.length es, oc ++ J es, bx)
  | [], en, oc, _, _, _ => by show some _ = _; simp [E', J]
  | e :: es, en, oc, hok, h1, h2 => by
    rw [J_cons, List.length_append] at h2
    rw [List.length_cons] at h1
    have st : F1 e.t (en, oc, bx) = some (en ++ [((oc.length + e.all.length : Nat) : Int)], oc ++ e.all, bx) := by
      unfold F1
      refine bind_of (oct_ok (hok e List.mem_cons_self)) ?_
      refine bind_of (cat8 (by omega)) (bnd_of ?_)
      refine bind_of (a := en ++ [((oc.length + e.all.length : Nat) : Int)]) ?_ rfl
      rw [← List.length_append]
      exact if_pos (by rw [sizeLine_eq]; omega)
    show (F1 e.t (en, oc, bx)).bind (fun y => fold F1 (es.map Ev.t) y) = _
    rw [st]
    refine (fold_F1 bx es _ _ (fun x h => hok x (List.mem_cons_of_mem _ h)) (by rw [List.length_append, List.length_singleton]; omega) (by rw [List.length_append]; omega)).trans ?_
    rw [List.length_append, List.append_assoc, List.append_assoc, J_cons]
    rfl
theorem fold_F2 (bx : List Int × Nat) : ∀ (es : List Ev) (oc : List Int), (∀ e ∈ es, e.ok) → oc.length + (J es).length ≤ 900 → fold F2 (es.map Ev.t) (oc, bx) = some (oc ++ J es, bx)
  | [], oc, _, _ => by show some _ = _; simp [J]
  | e :: es, oc, hok, h2 => by
    rw [J_cons, List.length_append] at h2
    have st : F2 e.t (oc, bx) = some (oc ++ e.all, bx) := by
      unfold F2
      refine bind_of (oct_ok (hok e List.mem_cons_self)) ?_
      exact bind_of (cat8 (by omega)) rfl
    show (F2 e.t (oc, bx)).bind (fun y => fold F2 (es.map Ev.t) y) = _
    rw [st]
    refine (fold_F2 bx es _ (fun x h => hok x (List.mem_cons_of_mem _ h)) (by rw [List.length_append]; omega)).trans ?_
    rw [List.append_assoc, J_cons]

theorem J_len : ∀ es : List Ev, (J es).length ≤ es.length * 10
  | [] => Nat.le_refl _
  | e :: es => by
    have := J_len es
    have a := all_len e
    have b := len_o e
    rw [J_cons, List.length_append, List.length_cons]
    omega
theorem oct_J : ∀ {es : List Ev}, (∀ e ∈ es, e.ok) → Oct (J es)
  | [], _ => fun x h => by cases h
  | e :: es, h => fun x hx => by
    rw [J_cons] at hx
    obtain q | q := List.mem_append.mp hx
    · exact oct_all (h e List.mem_cons_self) x q
    · exact oct_J (fun y hy => h y (List.mem_cons_of_mem _ hy)) x q
def tD (e : Ev) : PyData := ToD.toD e.t
theorem tD_flat {e : Ev} (h : e.ok) : ((tD e).hasDict = false ∧ (tD e).canLay0 = true) ∧ decide ((tD e).depth ≤ 2) = true := by
  cases e with
  | one k n =>
    have hk := h.1
    simp only [List.mem_cons, List.not_mem_nil, or_false] at hk
    rcases hk with rfl | rfl | rfl | rfl | rfl <;> exact ⟨⟨by kernel_rfl, by kernel_rfl⟩, by kernel_rfl⟩
  | zero k =>
    have hk : k ∈ [5, 6, 8] := h
    simp only [List.mem_cons, List.not_mem_nil, or_false] at hk
    rcases hk with rfl | rfl | rfl <;> exact ⟨⟨by kernel_rfl, by kernel_rfl⟩, by kernel_rfl⟩
  | wr0 n m => exact ⟨⟨by kernel_rfl, by kernel_rfl⟩, by kernel_rfl⟩
  | wr1 n m v => exact ⟨⟨by kernel_rfl, by kernel_rfl⟩, by kernel_rfl⟩
  | wr2 n m v => exact ⟨⟨by kernel_rfl, by kernel_rfl⟩, by kernel_rfl⟩
theorem tD_same (e : Ev) : sameP (tD e) (tD e) = true := sameP_t e
theorem tD_okd {e : Ev} (h : e.ok) : Okd (tD e) 268 := okdT h
theorem map_tD (es : List Ev) : (es.map Ev.t).map (ToD.toD (α := VT PyData)) = es.map tD := by rw [List.map_map]; rfl
theorem same_all_t : ∀ es : List Ev, samePs (es.map tD) (es.map tD) = true
  | [] => rfl
  | e :: es => by rw [List.map_cons, samePs, tD_same, same_all_t es]; rfl
theorem flat_all : ∀ {es : List Ev}, (∀ e ∈ es, e.ok) → PyData.hasDictAll (es.map tD) = false ∧ PyData.canLayAll0 (es.map tD) = true ∧ PyData.depthAll (es.map tD) ≤ 3
  | [], _ => ⟨by rw [List.map_nil, PyData.hasDictAll], by rw [List.map_nil, PyData.canLayAll0], by rw [List.map_nil, PyData.depthAll]; exact Nat.zero_le _⟩
  | e :: es, h => by
    obtain ⟨a, b, c⟩ := flat_all (es := es) fun x hx => h x (List.mem_cons_of_mem _ hx)
    obtain ⟨⟨d1, d2⟩, d3⟩ := tD_flat (h e List.mem_cons_self)
    have d3 := of_decide_eq_true d3
    rw [List.map_cons, PyData.hasDictAll, PyData.canLayAll0, PyData.depthAll, a, b, d1, d2]
    exact ⟨rfl, rfl, by omega⟩
theorem same_pair {es : List Ev} {n : Int} (hok : ∀ e ∈ es, e.ok) (hl : es.length ≤ 9) (hn : W16 n) : sameT ((es.map Ev.t, n) : (List (VT PyData)) × Int) (es.map Ev.t, n) = some true := by
  have ed : ToD.toD ((es.map Ev.t, n) : (List (VT PyData)) × Int) = .tuple [.list (es.map tD), .int n] := by
    show PyData.tuple [.list ((es.map Ev.t).map ToD.toD), .int n] = _
    rw [map_tD]
  obtain ⟨f1, f2, f3⟩ := flat_all hok
  have ok : Okd (.tuple [.list (es.map tD), .int n]) 5000 := by
    refine okdTup (n := 2421) (fun d hd => ?_) (by simp)
    simp only [List.mem_cons, List.not_mem_nil, or_false] at hd
    rcases hd with rfl | rfl
    · obtain ⟨a, b, c⟩ := okdAll (n := 268) (ds := es.map tD) (fun d hd => by
        obtain ⟨e, he, rfl⟩ := List.mem_map.mp hd
        exact tD_okd (hok e he))
      exact ⟨by rw [PyData.showable]; exact a, by rw [PyData.leavesShort]; exact b, by rw [PyData.weight]; rw [List.length_map] at c; omega⟩
    · exact (okdI hn).le (by decide)
  unfold sameT
  refine if_pos ?_
  rw [ed]
  have s1 : sameP (.tuple [.list (es.map tD), .int n]) (.tuple [.list (es.map tD), .int n]) = true := by
    simp [sameP, samePs, same_all_t]
  have s2 : shwB (.tuple [.list (es.map tD), .int n]) = true := by
    unfold shwB
    rw [Bool.and_eq_true, decide_eq_true_iff]
    exact ⟨ok.sh, PyData.shown_fits (by decide) (by decide) ok.lf (Nat.le_trans ok.wt (by omega))⟩
  have s3 : (PyData.tuple [.list (es.map tD), .int n]).hasDict = false := by
    rw [PyData.hasDict, PyData.hasDictAll, PyData.hasDictAll, PyData.hasDictAll, PyData.hasDict, PyData.hasDict, f1]; rfl
  have s4 : (PyData.tuple [.list (es.map tD), .int n]).depth ≤ 64 := by
    rw [PyData.depth, PyData.depthAll, PyData.depthAll, PyData.depthAll, PyData.depth, PyData.depth]
    omega
  rw [s1, s2, s3, decide_eq_true s4]
  rfl
theorem eq_list {es : List Ev} (hok : ∀ e ∈ es, e.ok) : eqT (es.map Ev.t) (es.map Ev.t) = some true := by
  have ed : ToD.toD (es.map Ev.t) = .list (es.map tD) := by
    show PyData.list ((es.map Ev.t).map ToD.toD) = _
    rw [map_tD]
  obtain ⟨f1, f2, f3⟩ := flat_all hok
  have sh : SeqAt.shaped (.list (es.map tD)) = true := by
    show ((PyData.list (es.map tD)).canLay0 && decide ((PyData.list (es.map tD)).depth ≤ 64)) = true
    rw [PyData.canLay0, PyData.depth, f2, decide_eq_true (by omega)]
    rfl
  unfold eqT
  rw [ed, sh, if_pos (by rfl), SeqAt.eqv_refl _ (SeqAt.canLay_of_shaped sh)]
theorem E'_len : ∀ (es : List Ev) (b : Nat), (E' b es).length = es.length
  | [], _ => rfl
  | _ :: es, b => congrArg (· + 1) (E'_len es _)
theorem set_take {α : Type} : ∀ (xs : List α) (i n : Nat) (v : α), n ≤ i → (xs.set i v).take n = xs.take n
  | _, _, 0, _, _ => by simp
  | [], _, _ + 1, _, _ => by simp
  | x :: xs, i + 1, n + 1, v, h => by simp [set_take xs i n v (by omega)]
  | x :: xs, 0, n + 1, v, h => by omega
theorem k_ends {es : List Ev} {c : Nat} (hl : es.length ≤ 9) : ∃ (k : Nat) (r : List Int), colL (fun (y : Int) => if (decide (y ≤ (c : Int))) = true then some (some y) else some none) (0 :: E' 0 es) = some (0 :: ((E' 0 es).filter fun x => decide (x ≤ (c : Int)))) ∧ ((E' 0 es).filter fun x => decide (x ≤ (c : Int))).length = k ∧ k ≤ es.length ∧ atI (0 :: E' 0 es) (k : Int) = some ((J (es.take k)).length : Int) ∧ (J es).take c = J (es.take k) ++ r ∧ (J (es.take k)).length ≤ c ∧ (r = [] ∨ ∃ (e : Ev) (q : List Int), e.all = r ++ q ∧ r ≠ [] ∧ q ≠ []) := by
  obtain ⟨k, r, h1, h2, h3, h4, h5, h6⟩ := cutL es 0 c (Nat.zero_le _)
  refine ⟨k, r, ?_, h1, h2, at_ok (i := k) (by simpa using h3), h4, h5, h6⟩
  refine (colL_keep (p := fun x => decide (x ≤ (c : Int))) (by rw [List.length_cons, E'_len]; omega) fun x _ => by split <;> rfl).trans ?_
  rw [List.filter_cons_of_pos (by simp)]

theorem take_map {es : List Ev} (k : Nat) : (es.map Ev.t).take k = (es.take k).map Ev.t := (List.map_take ..).symm
theorem lawK1_ok {es fs : List Ev} {k at_ : Nat} {sp : List Int} (hok : ∀ e ∈ es, e.ok) (hl : es.length ≤ 9) (hk : ((E' 0 es).filter fun x => decide (x ≤ (at_ : Int))).length = k) (hke : k ≤ es.length) (hs : ∃ r, sp = J (es.take k ++ fs) ++ r) :
    lawK1 (es.map Ev.t) (0 :: E' 0 es) sp (at_ : Int) ((es.take k ++ fs).map Ev.t, ((J (es.take k ++ fs)).length : Int)) (J (es.take k ++ fs)) = some true := by
  obtain ⟨k', r', g1, g2, g3, g4, _⟩ := k_ends (c := at_) hl
  obtain rfl : k' = k := g2.symm.trans hk
  obtain ⟨r, hr⟩ := hs
  unfold lawK1
  refine bind_of g1 (bnd_of ?_)
  have lk : (((0 :: ((E' 0 es).filter fun x => decide (x ≤ (at_ : Int)))).length : Int) - (1 : Int)) = (k' : Int) := by
    rw [List.length_cons, hk]; omega
  have c1 : cutF sp none (some ((J (es.take k' ++ fs)).length : Int)) = J (es.take k' ++ fs) := by
    rw [cut_to _ (by rw [hr, List.length_append]; omega), hr, List.take_left' rfl]
  have ht : (es.take k').length = k' := by rw [List.length_take]; omega
  have c2 : cutF ((es.take k' ++ fs).map Ev.t) none (some (k' : Int)) = (es.take k').map Ev.t := by
    rw [cut_to _ (by rw [List.length_map, List.length_append]; omega), List.map_append, List.take_left' (by rw [List.length_map]; exact ht)]
  have c3 : cutF (es.map Ev.t) none (some (k' : Int)) = (es.take k').map Ev.t := by
    rw [cut_to _ (by rw [List.length_map]; omega), take_map]
  have hok' : ∀ e ∈ es.take k', e.ok := fun e h => hok e (List.mem_of_mem_take h)
  refine bind_of (a := false) (if_of (by rw [c1, decide_eq_true rfl]; rfl) (bind_of (a := false) (if_of (by rw [decide_eq_true rfl]; rfl) (bind_of (a := true) (by rw [lk, c2, c3]; exact eq_list hok') rfl)) rfl)) ?_
  exact if_neg (by decide)
theorem lawK2_ok {es : List Ev} (bx : List Int × Nat) (hok : ∀ e ∈ es, e.ok) (hl : es.length ≤ 9) : lawK2 (es.map Ev.t) (0 :: E' 0 es) (J es) bx = some true := by
  unfold lawK2
  have lJ := J_len es
  have oJ := oct_J hok
  obtain ⟨r1, n1, e1, h1, _⟩ := drawG_ok (bx := bx) (m := 900) (by decide)
  refine bind_of e1 ?_
  refine bind_of (mod_of (by omega)) (bnd_of ?_)
  obtain ⟨c, hc, hc'⟩ : ∃ c : Nat, r1 % ((J es).length + 1 : Int) = c ∧ c ≤ (J es).length := ⟨(r1 % ((J es).length + 1 : Int)).toNat, by have := Int.emod_nonneg r1 (show ((J es).length + 1 : Int) ≠ 0 by omega); omega, by have := Int.emod_lt_of_pos r1 (show (0 : Int) < ((J es).length + 1 : Int) by omega); omega⟩
  rw [hc]
  obtain ⟨k, r, g1, g2, g3, g4, g5, g6, g7⟩ := k_ends (c := c) hl
  refine bind_of g1 (bnd_of ?_)
  have lk : (((0 :: ((E' 0 es).filter fun x => decide (x ≤ (c : Int)))).length : Int) - (1 : Int)) = (k : Int) := by
    rw [List.length_cons, g2]; omega
  rw [lk]
  have hok' : ∀ e ∈ es.take k, e.ok := fun e h => hok e (List.mem_of_mem_take h)
  have c3 : cutF (es.map Ev.t) none (some (k : Int)) = (es.take k).map Ev.t := by
    rw [cut_to _ (by rw [List.length_map]; omega), take_map]
  have lt : (es.take k).length ≤ 9 := by rw [List.length_take]; omega
  refine bind_of (a := ((es.take k).map Ev.t, ((J (es.take k)).length : Int))) (by
    rw [cut_to _ hc', g5]
    exact rec_cut hok' (by rw [← g5, List.length_take]; omega) g7) ?_
  refine bind_of g4 ?_
  refine bind_of (a := true) (by rw [c3]; exact same_pair hok' lt (by unfold W16; omega)) ?_
  refine else_of (by decide) ?_
  by_cases hJ : J es = []
  · exact else_of (by rw [hJ]; decide) rfl
  have pJ := List.length_pos_iff.mpr hJ
  refine if_of (by cases q : J es with | nil => exact absurd q hJ | cons _ _ => rfl) (bnd_of ?_)
  obtain ⟨r2, n2, e2, h2, _⟩ := drawG_ok (bx := (bx.1, n1)) (m := 900) (by decide)
  refine bind_of e2 ?_
  refine bind_of (mod_of (by omega)) (bnd_of ?_)
  obtain ⟨a, ha, ha'⟩ : ∃ a : Nat, r2 % ((J es).length : Int) = a ∧ a < (J es).length := ⟨(r2 % ((J es).length : Int)).toNat, by have := Int.emod_nonneg r2 (show ((J es).length : Int) ≠ 0 by omega); omega, by have := Int.emod_lt_of_pos r2 (show (0 : Int) < ((J es).length : Int) by omega); omega⟩
  rw [ha]
  refine bind_of (at_ok (i := a) (List.getElem?_eq_getElem ha')) ?_
  obtain ⟨r3, n3, e3, h3, _⟩ := drawG_ok (bx := (bx.1, n2)) (m := 255) (by decide)
  refine bind_of e3 ?_
  refine bind_of (setF_ok ha') ?_
  obtain ⟨v, hv⟩ : ∃ v, v = ((J es)[a] + (1 : Int) + r3) % (256 : Int) := ⟨_, rfl⟩
  have hv' : 0 ≤ v ∧ v < 256 := by rw [hv]; omega
  rw [← hv]
  obtain ⟨k2, r', q1, q2, q3, q4, q5, q6, q7⟩ := k_ends (c := a) hl
  have hok2 : ∀ e ∈ es.take k2, e.ok := fun e h => hok e (List.mem_of_mem_take h)
  have sp : (J es).set a v = J (es.take k2) ++ ((J es).set a v).drop (J (es.take k2)).length := by
    have t1 : ((J es).set a v).take (J (es.take k2)).length = J (es.take k2) := by
      rw [set_take _ _ _ _ q6]
      have := congrArg (List.take (J (es.take k2)).length) q5
      rw [List.take_take, Nat.min_eq_left q6, List.take_left' rfl] at this
      exact this
    rw [← t1, List.length_take, t1]
    have : min (J (es.take k2)).length ((J es).set a v).length = (J (es.take k2)).length := by
      have := congrArg List.length t1
      rw [List.length_take] at this
      exact this
    rw [this]
    have := List.take_append_drop (J (es.take k2)).length ((J es).set a v)
    rw [t1] at this
    exact this.symm
  have oS : Oct ((J es).set a v) := fun x hx => by
    obtain q | q := List.mem_or_eq_of_mem_set hx
    · exact oJ x q
    · rw [q]; exact hv'
  have lS : ((J es).set a v).length = (J es).length := List.length_set ..
  obtain ⟨fs, f1, ⟨rr, f2⟩, f3⟩ := rec_pre (es := es.take k2) (s := ((J es).set a v).drop (J (es.take k2)).length) hok2 (by rw [← sp]; exact oS) (by rw [← sp, lS]; omega)
  rw [← sp] at f2 f3
  refine bind_of f3 (bnd_of (bnd_of ?_))
  have hall : ∀ e ∈ es.take k2 ++ fs, e.ok := fun e h => by
    obtain q | q := List.mem_append.mp h
    · exact hok2 e q
    · exact f1 e q
  have lq : (J (es.take k2 ++ fs)).length ≤ (J es).length := by
    have := congrArg List.length f2
    rw [lS, List.length_append] at this
    omega
  refine bind_of (a := (J (es.take k2 ++ fs), (bx.1, n3))) (fold_F2 (bx.1, n3) (es.take k2 ++ fs) [] hall (by rw [List.length_nil]; omega)) ?_
  exact lawK1_ok hok hl q2 q3 ⟨rr, f2⟩
theorem evs_of : ∀ {ys : List (VT PyData)}, (∀ y ∈ ys, ∃ e : Ev, y = e.t ∧ e.ok) → ∃ es : List Ev, ys = es.map Ev.t ∧ ∀ e ∈ es, e.ok
  | [], _ => ⟨[], rfl, by simp⟩
  | y :: ys, h => by
    obtain ⟨e, h1, h2⟩ := h y List.mem_cons_self
    obtain ⟨es, h3, h4⟩ := evs_of (ys := ys) fun z hz => h z (List.mem_cons_of_mem _ hz)
    refine ⟨e :: es, by rw [h1, h3]; rfl, fun x hx => ?_⟩
    obtain q | q := List.mem_cons.mp hx
    · rw [q]; exact h2
    · exact h4 x q
theorem law_true (ds : List Int) : lawM (ds, 0) = some true := by
  unfold lawM
  obtain ⟨r1, n1, e1, h1, h1'⟩ := drawG_ok (bx := (ds, 0)) (m := 9) (by decide)
  refine bind_of e1 ?_
  refine bind_of (rng1_ok (by omega)) ?_
  refine bind_ex (colS_all (P := fun y => ∃ e : Ev, y = e.t ∧ e.ok) (fun x b => ?_) (by simp [rngL]; omega) _) fun z hz => ?_
  · obtain ⟨⟨y, b'⟩, f1, f2, _⟩ := deed_ok b
    exact ⟨y, b', bind_of f1 rfl, f2⟩
  · obtain ⟨ys, b⟩ := z
    obtain ⟨es, h3, h4⟩ := evs_of hz.2
    have hl : es.length ≤ 9 := by
      have a := hz.1
      dsimp only at a h3
      rw [h3, List.length_map] at a
      rw [a]
      simp [rngL]
      omega
    dsimp only at h3
    subst h3
    have := J_len es
    refine bnd_of (bnd_of (bnd_of ?_))
    refine bind_of (a := ([0] ++ E' 0 es, [] ++ J es, b)) (fold_F1 b es [0] [] h4 (by rw [List.length_singleton]; omega) (by rw [List.length_nil]; omega)) ?_
    exact lawK2_ok b h4 hl
end
end Pf

namespace Pf
open PySem L2
local macro_rules | `(tactic| walk_at "rd1") => `(tactic| first
  | with_reducible refine r_seqA ?_
  | with_reducible refine r_seqD ?_
  | with_reducible refine r_seqF ?_
  | with_reducible refine r_seqN ?_
  | with_reducible refine r_asg ?_
  | with_reducible refine r_drop ?_
  | with_reducible refine r_ret ?_
  | with_reducible refine r_ifS ?_
  | ((with_reducible refine r_next ?_); try dsimp only)
  | ((with_reducible refine r_name ?_); try dsimp only [List.set_cons_succ, List.set_cons_zero, wipe])
  | ((with_reducible refine' r_var ?rdh ?_); (case rdh => rfl))
  | with_reducible refine r_c ?_
  | with_reducible refine r_op ?_
  | with_reducible refine r_un ?_
  | with_reducible refine r_I0 ?_
  | ((with_reducible refine r_I ?_ ?_); (· first | decide | exact Or.inl (by decide) | exact Or.inr (by decide) | (show _ ∧ _; constructor <;> decide) | (show (0:Int) < _; omega) | (show CDiv _ _; unfold CDiv; omega) ))
  | with_reducible refine r_U ?_
  | with_reducible refine r_eqI ?_
  | with_reducible refine r_neI ?_
  | with_reducible refine r_eqB ?_
  | with_reducible refine r_neB ?_
  | with_reducible refine r_test ?_
  | with_reducible refine r_B ?_
  | with_reducible refine r_bl ?_
  | with_reducible refine r_bl2 ?_
  | with_reducible refine r_yes ?_
  | with_reducible refine r_wipe (by rfl) ?_
  | with_reducible refine r_rfl ?_
  | ((with_reducible refine' r_eqA ?rdh ?_); (case rdh => rfl))
  | with_reducible refine r_and ?_
  | with_reducible refine r_or ?_
  | with_reducible refine r_not ?_
  | with_reducible refine r_andV ?_
  | with_reducible refine r_orV ?_
  | with_reducible refine r_notV ?_
  | with_reducible refine r_ifE ?_
  | with_reducible refine r_nil ?_
  | with_reducible refine r_cons ?_
  | with_reducible refine r_tup ?_
  | with_reducible refine r_lst ?_
  | with_reducible refine r_CB ?_
  | with_reducible refine r_call ?_
  | with_reducible refine r_bm ?_
  | with_reducible refine r_bm0 ?_
  | with_reducible refine r_int ?_
  | with_reducible refine r_i2 ?_
  | with_reducible refine r_i1 ?_
  | with_reducible refine r_gcons ?_
  | with_reducible refine r_gnil ?_
  | with_reducible refine r_gsub ?_
  | with_reducible refine iteT ?_
  | with_reducible refine iteF ?_
  | with_reducible refine ite_notT ?_
  | with_reducible refine ite_notF ?_
  | with_reducible refine r_isi_ib ?_
  | with_reducible refine r_isi_ii ?_
  | with_reducible refine r_isi_bb ?_
  | with_reducible refine r_isi_nb ?_
  | with_reducible refine r_isi_nt ?_
  | ((with_reducible refine' r_isi_ll ?rdh ?_); (case rdh => first | assumption | exact upd_same))
  | ((with_reducible refine' r_isi_tt ?rdh ?_); (case rdh => first | assumption | exact upd_same))
  | with_reducible refine r_sl ?_
  | with_reducible refine r_noPart ?_
  | with_reducible refine r_part ?_
  | with_reducible refine r_int1 ?_
  | with_reducible refine r_tru ?_
  | with_reducible refine r_ckw ?_
  | with_reducible refine r_lc ?_
  | with_reducible refine r_lc2 ?_
  | with_reducible refine r_forS ?_
  | with_reducible refine r_iR1 ?_
  | with_reducible refine r_iR2 ?_
  | with_reducible refine r_iL ?_
  | ((with_reducible refine' r_lenL ?rdh ?_); (case rdh => walk_at "sq"))
  | ((with_reducible refine' r_ixL ?rdh ?rda ?_); (case rdh => walk_at "sq"); (case rda => walk_at "at"))
  | ((with_reducible refine' r_ixT ?rdh ?rda ?_); (case rdh => walk_at "sq"); (case rda => walk_at "at")))
local macro_rules | `(tactic| walk_at "sq") => `(tactic| first
  | assumption
  | exact SqL.of (by assumption)
  | exact SqL.of upd_same
  | exact SqT.of (by assumption)
  | exact SqT.of upd_same)
local macro_rules | `(tactic| walk_at "sml") => `(tactic| (rw [sizeLine_eq]; simp))
local macro_rules | `(tactic| walk_at "at") => `(tactic| first | assumption | rfl)
local macro_rules | `(tactic| walk_at "rd") => `(tactic| repeat walk_at "rd1")
section
variable {w : World} {P : Program} {base : Heap} {K : PySem.W.Frag} {mg : Str → Option Value}
def sp_law (K : PySem.W.Frag) : Sp := fun vs H Q _ => ∃ (a : Addr) (ns : List Int), vs = [.ref a] ∧ SqL K H a (ns.map V.int) ∧ ns.length ≤ 63 ∧ ∀ H', Q (.bl true) H'
theorem mk_law {f f1 f2 f3 f4 f5 f6 : Addr} {fd fd1 fd2 fd3 fd4 fd5 fd6 : FuncData} (T : Txt mg) (F : Fun K "law" "law" s_law f fd)
    (C_law_box : Cal P w K mg base "_law_box" 2 f1 fd1 ["script", "first", "last"] (sp_box K))
    (C_law_draw : Cal P w K mg base "_law_draw" 1 f2 fd2 ["box", "many"] (spB (fun bx (i : Int × Unit) => drawG bx i.1)))
    (C_law_same : CalG P w K mg base "_law_same" 1 f3 fd3 ["one", "other"] (sp_same K))
    (C_law_deed : Cal P w K mg base "_law_deed" 3 f4 fd4 ["box", "most"] (spB (fun bx (i : Int × Unit) => law_deedM bx i.1)))
    (C_law_octets : Cal P w K mg base "_law_octets" 1 f5 fd5 ["event"] (spP (fun (i : (VT PyData) × Unit) => law_octetsM i.1)))
    (C_recovered : Cal P w K mg base "recovered" 3 f6 fd6 ["octets"] (spP (fun (i : (List Int) × Unit) => recoveredM i.1))) : FnG P w K mg base 4 f fd ["script"] (sp_law K) := by
  refine fnG_of F sc_law (fun vs H Q E h => ?_) (fun cdv A outer s H vs Q E hgd hr h => ?_)
  · obtain ⟨a, ns, rfl, _⟩ := h
    rfl
  rcases h with ⟨a, ns, rfl, hS, h63, Q⟩
  refine ⟨_, (pss_cons (ps_set (i := 1) sc_law.nd rfl (Or.inr rfl) (pe_call C_law_box.ok (hr.mono (by first | decide | omega)) rfl C_law_box.mg C_law_box.kp C_law_box.b .nil pass0 (pa_cons (pv 0) (pa_cons pe_int (pa_cons pe_int pa_nil))))) (pss_cons (show PS _ _ (tAsg (tLc _ _ _ _ [3]) _) from ps_setLc (i := 2) (own := [("turn", 3)]) (g := gName 3) (tt := tYes) rfl sc_law.nd rfl rfl (sw_true rfl rfl rfl (by decide +kernel)) (pi_range1 rfl T.range (pa_cons (pe_call C_law_draw.ok (hr.mono (by first | decide | omega)) rfl C_law_draw.mg C_law_draw.kp C_law_draw.b .nil pass0 (pa_cons (pv 1) (pa_cons pe_int pa_nil))) pa_nil)) (blkOk_by (own := [("turn", 3)]) (N := ["script", "box", "events", "turn", "ends", "octets", "event", "cut", "many", "end", "spoilt", "at", "told", "whole", "before"]) (sc := defScope s_law) (by decide +kernel)) (fun _ _ _ _ _ => (pg_name (i := 3) sc_law.nd rfl (Or.inl rfl))) (fun _ _ _ _ _ => pts_nil) (fun _ _ _ _ _ => (pe_call C_law_deed.ok (hr.mono (by first | decide | omega)) rfl C_law_deed.mg C_law_deed.kp C_law_deed.b .nil pass0 (pa_cons (pv 1) (pa_cons pe_int pa_nil))))) (pss_cons (ps_set (i := 4) sc_law.nd rfl (Or.inl rfl) (pe_lst (pa_cons pe_int pa_nil))) (pss_cons (ps_set (i := 5) sc_law.nd rfl (Or.inl rfl) (pe_lst pa_nil)) (pss_cons (ps_for PassesOwn.never rfl (pi_list (pv 2)) (pg_name (i := 6) sc_law.nd rfl (Or.inl rfl))
      (pss_cons (ps_set (i := 5) sc_law.nd rfl (Or.inl rfl) (pe_op op_cat (pv 5) (pe_call C_law_octets.ok (hr.mono (by first | decide | omega)) rfl C_law_octets.mg C_law_octets.kp C_law_octets.b .nil pass0 (pa_cons (pv 6) pa_nil)))) (pss_one (ps_expr (pe_bm PySem.F.plainAttrs_list PySem.F.slot_list_append PySem.F.type_list_append mt_append (pv 4) (pa_cons (pe_callB (show CallR _ _ (fun xs H Q => ∃ p ys, xs = [V.ref p] ∧ (SqL K H p ys ∨ SqT K H p ys) ∧ Q (.int ys.length) H) from call_len_seq) (by rfl) T.len PySem.boot_len (pa_cons (pv 5) pa_nil)) pa_nil)))))) (pss_cons (ps_set (i := 7) sc_law.nd rfl (Or.inr rfl) (pe_op op_mod (pe_callTy call_int1 (by rfl) T.int (by decide +kernel) (pa_cons (pe_call C_law_draw.ok (hr.mono (by first | decide | omega)) rfl C_law_draw.mg C_law_draw.kp C_law_draw.b .nil pass0 (pa_cons (pv 1) (pa_cons pe_int pa_nil))) pa_nil)) (pe_op op_add (pe_callB (show CallR _ _ (fun xs H Q => ∃ p ys, xs = [V.ref p] ∧ (SqL K H p ys ∨ SqT K H p ys) ∧ Q (.int ys.length) H) from call_len_seq) (by rfl) T.len PySem.boot_len (pa_cons (pv 5) pa_nil)) pe_int))) (pss_cons (ps_set (i := 8) sc_law.nd rfl (Or.inl rfl) (pe_op op_sub (pe_callB (show CallR _ _ (fun xs H Q => ∃ p ys, xs = [V.ref p] ∧ (SqL K H p ys ∨ SqT K H p ys) ∧ Q (.int ys.length) H) from call_len_seq) (by rfl) T.len PySem.boot_len (pa_cons (show PE _ _ (tLc _ _ _ _ [9]) from pe_lc (own := [("end", 9)]) (g := gName 9) rfl sc_law.nd (pi_list (pv 4)) (blkOk_by (own := [("end", 9)]) (N := ["script", "box", "events", "turn", "ends", "octets", "event", "cut", "many", "end", "spoilt", "at", "told", "whole", "before"]) (sc := defScope s_law) (by decide +kernel)) (fun _ _ _ _ _ => (pg_name (i := 9) sc_law.nd rfl (Or.inl rfl))) (fun _ _ _ _ _ => (pts_one (pt_cmpR op_le (pv 9) (pv 7) (nomark _)))) (fun _ _ _ _ _ => (pv 9))) pa_nil)) pe_int)) (pss_cons (ps_if (pt_not (pt_val (pe_callG hgd C_law_same.ok (hr.mono (by first | decide | omega)) rfl C_law_same.mg C_law_same.kp C_law_same.b (pa_cons (pe_call C_recovered.ok (hr.mono (by first | decide | omega)) rfl C_recovered.mg C_recovered.kp C_recovered.b .nil pass0 (pa_cons (pe_slice (show SlR _ (rSlL K) from sl_list) (pv 5) po_none (po_some (pv 7))) pa_nil)) (pa_cons (pe_tup (pa_cons (pe_slice (show SlR _ (rSlL K) from sl_list) (pv 2) po_none (po_some (pv 8))) (pa_cons (pe_ix (show IxR _ (rIxL K) from ix_list) (pv 4) (pv 8) (fun _ _ => rfl)) pa_nil))) pa_nil)))))
      (pss_one (ps_ret pe_bl))
      pss_nil) (pss_cons (ps_if (pt_truthN (pv 5))
      (pss_cons (ps_set (i := 10) sc_law.nd rfl (Or.inl rfl) (pe_callTy (show CallR _ _ (fun xs H Q => ∃ p ys, xs = [V.ref p] ∧ (SqL K H p ys ∨ SqT K H p ys) ∧ ∀ l, H l = none → Q (.ref l) (upd H l (.lst ys))) from call_list_of) (by rfl) T.list (by decide +kernel) (pa_cons (pv 5) pa_nil))) (pss_cons (ps_set (i := 11) sc_law.nd rfl (Or.inr rfl) (pe_op op_mod (pe_callTy call_int1 (by rfl) T.int (by decide +kernel) (pa_cons (pe_call C_law_draw.ok (hr.mono (by first | decide | omega)) rfl C_law_draw.mg C_law_draw.kp C_law_draw.b .nil pass0 (pa_cons (pv 1) (pa_cons pe_int pa_nil))) pa_nil)) (pe_callB (show CallR _ _ (fun xs H Q => ∃ p ys, xs = [V.ref p] ∧ (SqL K H p ys ∨ SqT K H p ys) ∧ Q (.int ys.length) H) from call_len_seq) (by rfl) T.len PySem.boot_len (pa_cons (pv 10) pa_nil)))) (pss_cons (ps_asg (pe_op op_mod (pe_callTy call_int1 (by rfl) T.int (by decide +kernel) (pa_cons (pe_op op_add (pe_op op_add (pe_ix (show IxR _ (rIxL K) from ix_list) (pv 10) (pv 11) (fun _ _ => rfl)) pe_int) (pe_call C_law_draw.ok (hr.mono (by first | decide | omega)) rfl C_law_draw.mg C_law_draw.kp C_law_draw.b .nil pass0 (pa_cons (pv 1) (pa_cons pe_int pa_nil)))) pa_nil)) pe_int) (pg_sub (pv 10) (pv 11) set_list)) (pss_cons (ps_set (i := 12) sc_law.nd rfl (Or.inl rfl) (pe_call C_recovered.ok (hr.mono (by first | decide | omega)) rfl C_recovered.mg C_recovered.kp C_recovered.b .nil pass0 (pa_cons (pv 10) pa_nil))) (pss_cons (ps_set (i := 13) sc_law.nd rfl (Or.inl rfl) (pe_lst pa_nil)) (pss_cons (ps_for PassesOwn.never rfl (pi_list (pe_ix (show IxR _ (rIxT K) from ix_tup) (pv 12) pe_int (fun _ _ => rfl))) (pg_name (i := 6) sc_law.nd rfl (Or.inl rfl))
      (pss_one (ps_set (i := 13) sc_law.nd rfl (Or.inl rfl) (pe_op op_cat (pv 13) (pe_call C_law_octets.ok (hr.mono (by first | decide | omega)) rfl C_law_octets.mg C_law_octets.kp C_law_octets.b .nil pass0 (pa_cons (pv 6) pa_nil)))))) (pss_cons (ps_set (i := 14) sc_law.nd rfl (Or.inl rfl) (pe_op op_sub (pe_callB (show CallR _ _ (fun xs H Q => ∃ p ys, xs = [V.ref p] ∧ (SqL K H p ys ∨ SqT K H p ys) ∧ Q (.int ys.length) H) from call_len_seq) (by rfl) T.len PySem.boot_len (pa_cons (show PE _ _ (tLc _ _ _ _ [9]) from pe_lc (own := [("end", 9)]) (g := gName 9) rfl sc_law.nd (pi_list (pv 4)) (blkOk_by (own := [("end", 9)]) (N := ["script", "box", "events", "turn", "ends", "octets", "event", "cut", "many", "end", "spoilt", "at", "told", "whole", "before"]) (sc := defScope s_law) (by decide +kernel)) (fun _ _ _ _ _ => (pg_name (i := 9) sc_law.nd rfl (Or.inl rfl))) (fun _ _ _ _ _ => (pts_one (pt_cmpR op_le (pv 9) (pv 11) (nomark _)))) (fun _ _ _ _ _ => (pv 9))) pa_nil)) pe_int)) (pss_one (ps_if (PW.pt (pw_or (pt_cmpR (show OpR _ _ (rNeD K) from op_neD hr.units) (pv 13) (pe_slice (show SlR _ (rSlL K) from sl_list) (pv 10) po_none (po_some (pe_ix (show IxR _ (rIxT K) from ix_tup) (pv 12) pe_int (fun _ _ => rfl)))) (nomark _)) (pw_or (pt_cmpR op_ne (pe_ix (show IxR _ (rIxT K) from ix_tup) (pv 12) pe_int (fun _ _ => rfl)) (pe_callB (show CallR _ _ (fun xs H Q => ∃ p ys, xs = [V.ref p] ∧ (SqL K H p ys ∨ SqT K H p ys) ∧ Q (.int ys.length) H) from call_len_seq) (by rfl) T.len PySem.boot_len (pa_cons (pv 13) pa_nil)) (nomark _)) (pw_or1 (pt_cmpR (show OpR _ _ (rNeD K) from op_neD hr.units) (pe_slice (show SlR _ (rSlL K) from sl_list) (pe_ix (show IxR _ (rIxT K) from ix_tup) (pv 12) pe_int (fun _ _ => rfl)) po_none (po_some (pv 14))) (pe_slice (show SlR _ (rSlL K) from sl_list) (pv 2) po_none (po_some (pv 14))) (nomark _))))))
      (pss_one (ps_ret pe_bl))
      pss_nil)))))))))
      pss_nil) (pss_one (ps_ret pe_bl))))))))))), ?_⟩
  try dsimp only [cxOf, Cx.nox, Cx.wish]
  rw [show start ["script", "box", "events", "turn", "ends", "octets", "event", "cut", "many", "end", "spoilt", "at", "told", "whole", "before"] [V.ref a] = [some (V.ref a), none, none, none, none, none, none, none, none, none, none, none, none, none, none] from rfl]
  walk_at "rd"
  refine ⟨a, ns, 0, 14, rfl, hS, by decide, by decide, fun b d ds H2 nb nd ndb s2 hb hd => ?_⟩
  generalize hms : [b] = ms
  have hbm : b ∈ ms := by rw [← hms]; exact List.mem_cons_self
  have hq : Bxs b (ds, 0) ms H2 := ⟨d, hb, ndb, by rw [← hms]; simp [ndb], hd⟩
  have hB0 : ∀ a ∈ [b], a ∈ ms := fun a h => by rw [List.mem_singleton.mp h]; exact hbm
  have W : Wd [b] ms H2 := ⟨hB0, fun c hc => by
    rw [← hms] at hc
    rw [List.mem_singleton.mp hc, hb]
    exact fun z => by cases z⟩
  obtain ⟨bx0, ebx⟩ : ∃ z : List Int × Nat, z = (ds, 0) := ⟨_, rfl⟩
  rw [← ebx] at hq
  have hm : lawM bx0 = some true := by rw [ebx]; exact law_true ds
  unfold lawM at hm
  refine r_name ?_
  dsimp only [List.set_cons_succ, List.set_cons_zero]
  obtain ⟨⟨t_247, bx_248⟩, e_t_247, hm⟩ := bind_inv hm
  dsimp only at hm
  obtain ⟨rg_249, e_rg_249, hm⟩ := bind_inv hm
  obtain ⟨⟨cs_251, bx_255⟩, e_cs_251, hm⟩ := bind_inv hm
  dsimp only at hm
  obtain ⟨events_256, e_events_256, hm⟩ := bnd_inv hm
  refine r_seqA ?_
  refine Ex.go W (En.ex sb_bxs (en_lcSL (P := fun x => Bxs b x) (f := fun (y_250 : Int) (bx_254 : List Int × Nat) => (law_deedM bx_254 (300 : Int)).bind fun (t_252, bx_253) => some (some t_252, bx_253)) W (fun _ => sb_bxs) (Ei.ej (ei_rng1 (ea_cons W (ex_callB (i := ((9 : Int), ())) W (v := 1) rfl (ea_cons W (ex_int 9) ea_nil) e_t_247) ea_nil) e_rg_249)) e_cs_251 (fun ms' H' y_250 v r' bx_254 bx' L hq' rv hm => by
          have W := L.W
          obtain rfl : v = V.int y_250 := rv
          obtain ⟨⟨t_252, bx_253⟩, e_t_252, hm⟩ := bind_inv hm
          dsimp only at hm
          cases hm
          exact ⟨_, bnd_name, rfl, true, _, et_yes, fun h => (by cases h), fun _ => ⟨_, rfl, (ex_callB (i := ((300 : Int), ())) W (v := 1) rfl (ea_cons W (ex_int 300) ea_nil) e_t_252)⟩⟩))) hq fun v_258 H_257 bb hq W M rv => ?_
  rw [← e_events_256] at rv
  have f_events_256 := rv
  refine (bnd_name : Bnd _ _ _ _ _) _ ?_
  dsimp only [List.set_cons_succ, List.set_cons_zero]
  obtain ⟨ends_259, e_ends_259, hm⟩ := bnd_inv hm
  refine r_seqA ?_
  refine En.mk W (en_lst (xs := [(0 : Int)]) W sb_bxs (by simp) (es_cons W (ex_int 0) es_nil)) hq fun aends_259 H_260 bb na hq' W' M l_aends_259 => ?_
  rw [← e_ends_259] at l_aends_259
  have o_aends_259 := W.al.not na
  have n_aends_259 : aends_259 ∉ [b] := fun z => W.al.not na (W.hB _ z)
  have m_aends_259 : aends_259 ∈ aends_259 :: ms := List.mem_cons_self
  have f_events_256 := Rp.mv f_events_256 M
  have W := W'
  have hq := hq'
  refine r_name ?_
  dsimp only [List.set_cons_succ, List.set_cons_zero]
  obtain ⟨octets_261, e_octets_261, hm⟩ := bnd_inv hm
  refine r_seqA ?_
  refine Ex.go W (En.ex sb_bxs (en_lst (xs := ([] : List Int)) W sb_bxs (by simp) es_nil)) hq fun v_263 H_262 bb hq W M rv => ?_
  rw [← e_octets_261] at rv
  have f_events_256 := Rp.mv f_events_256 M
  have l_aends_259 := l_aends_259.step M fun o e => bb.1 _ o n_aends_259 e
  have f_octets_261 := rv
  refine (bnd_name : Bnd _ _ _ _ _) _ ?_
  dsimp only [List.set_cons_succ, List.set_cons_zero]
  refine r_seqF' ?_
  refine r_for W (ei_list (ex_var W rfl f_events_256)) hq fun J N_265 H_264 bb hq W M st_nN_265 nN_265 ok_N_265 => ?_
  have f_events_256 := Rp.mv f_events_256 M
  have l_aends_259 := l_aends_259.step M fun o e => bb.1 _ o n_aends_259 e
  have f_octets_261 := Rp.mv f_octets_261 M
  obtain ⟨out_271, e_out_271, hm⟩ := bind_inv hm
  have hgoN_265 := hm
  clear hm
  refine wk_fold (ms := aends_259 :: ms) ok_N_265 e_out_271 (fun x σ H' => match x with | (ends_266, octets_267, bx_268) => ∃ (vj_octets_267 : V), ∃ (xl_event : Option V), σ = [some (.ref a), some (.ref b), some v_258, none, some (.ref aends_259), some vj_octets_267, xl_event, none, none, none, none, none, none, none, none] ∧ (Bxs b bx_268) (aends_259 :: ms) H' ∧ Wd [b] (aends_259 :: ms) H' ∧ N_265 (aends_259 :: ms) H' ∧ Rp.rp (aends_259 :: ms) H' (v_258) events_256 ∧ Ls (aends_259 :: ms) H' aends_259 ends_266 ∧ Rp.rp (aends_259 :: ms) H' (vj_octets_267) octets_267) ⟨_, _, rfl, hq, W, nN_265, f_events_256, l_aends_259, f_octets_261⟩ ?_ ?_ ?_
  · intro x σ H' hI
    obtain ⟨ends_266, octets_267, bx_268⟩ := x
    try dsimp only at hI
    obtain ⟨vj_octets_267, xl_event, rfl, hq, W, nN_265, f_events_256, l_aends_259, f_octets_267⟩ := hI
    exact ⟨nN_265, W.al⟩
  · intro y_270 v_274 x x' σ H_272 H_273 hI s1 rv hf
    obtain ⟨ends_266, octets_267, bx_268⟩ := x
    try dsimp only at hI
    obtain ⟨vj_octets_267, xl_event, rfl, hq, W, nN_265, f_events_256, l_aends_259, f_octets_267⟩ := hI
    have hm := hf
    try dsimp only at hm
    have bb : Bu [b] H_272 H_273 := Bu.same s1
    have M : Mv (aends_259 :: ms) H_272 (aends_259 :: ms) H_273 := Mv.same s1
    have hq := sb_bxs.same s1 hq
    have W := W.bu bb
    have f_events_256 := Rp.mv f_events_256 M
    have l_aends_259 := l_aends_259.step M fun o e => bb.1 _ o n_aends_259 e
    have f_octets_267 := Rp.mv f_octets_267 M
    have nN_265 := st_nN_265.mv nN_265 M
    have f_y_270 := rv
    refine (bnd_name : Bnd _ _ _ _ _) _ ?_
    dsimp only [List.set_cons_succ, List.set_cons_zero]
    obtain ⟨t_276, e_t_276, hm⟩ := bind_inv hm
    obtain ⟨t_277, e_t_277, hm⟩ := bind_inv hm
    obtain ⟨octets_278, e_octets_278, hm⟩ := bnd_inv hm
    refine r_seqA ?_
    refine Ex.go W (En.ex sb_bxs (en_cat W sb_bxs (el_of W.hB (ex_var W rfl f_octets_267)) (el_of W.hB (ex_call (i := (y_270, ())) W sb_bxs (ea_cons W (ex_var W rfl f_y_270) ea_nil) e_t_276)) e_t_277)) hq fun v_280 H_279 bb hq W M rv => ?_
    rw [← e_octets_278] at rv
    have f_events_256 := Rp.mv f_events_256 M
    have l_aends_259 := l_aends_259.step M fun o e => bb.1 _ o n_aends_259 e
    have f_octets_267 := Rp.mv f_octets_267 M
    have f_y_270 := Rp.mv f_y_270 M
    have nN_265 := st_nN_265.mv nN_265 M
    have f_octets_278 := rv
    refine (bnd_name : Bnd _ _ _ _ _) _ ?_
    dsimp only [List.set_cons_succ, List.set_cons_zero]
    obtain ⟨ends_281, e_ends_281, hm⟩ := bind_inv hm
    refine r_drop ?_
    refine s_app rfl W rfl l_aends_259 m_aends_259 n_aends_259 sb_bxs (ea_cons W (ex_len (el_of W.hB (ex_var W rfl f_octets_278))) ea_nil) hq e_ends_281 fun H_282 bb hq W M l_aends_259 => ?_
    have f_events_256 := Rp.mv f_events_256 M
    have f_octets_278 := Rp.mv f_octets_278 M
    have f_y_270 := Rp.mv f_y_270 M
    have nN_265 := st_nN_265.mv nN_265 M
    try dsimp only
    try dsimp only
    cases hm
    exact ⟨_, _, rfl, hq, W, nN_265, f_events_256, l_aends_259, f_octets_278⟩
  · intro σ H_269 hI
    obtain ⟨ends_266, octets_267, bx_268⟩ := out_271
    try dsimp only at hI
    obtain ⟨vj_octets_267, xl_event, rfl, hq, W, nN_265, f_events_256, l_aends_259, f_octets_267⟩ := hI
    have hm := hgoN_265
    try dsimp only at hm
    try dsimp only
    unfold lawK2 at hm
    obtain ⟨⟨t_289, bx_290⟩, e_t_289, hm⟩ := bind_inv hm
    dsimp only at hm
    obtain ⟨t_291, e_t_291, hm⟩ := bind_inv hm
    obtain ⟨cut_292, e_cut_292, hm⟩ := bnd_inv hm
    refine r_seqA ?_
    refine Ex.go W (ex_opI (z := t_291) (modF_ok e_t_291).1 (fun _ _ => by rw [(modF_ok e_t_291).2]; rfl) (ex_intI (ea_cons W (ex_callB (i := ((900 : Int), ())) W (v := 1) rfl (ea_cons W (ex_int 900) ea_nil) e_t_289) ea_nil)) (ex_opI0 (z := ((octets_267.length : Int) + (1 : Int))) (fun _ _ => rfl) (ex_len (el_of W.hB (ex_var W rfl f_octets_267))) (ex_int 1))) hq fun v_294 H_293 bb hq W M rv => ?_
    rw [← e_cut_292] at rv
    have f_events_256 := Rp.mv f_events_256 M
    have l_aends_259 := l_aends_259.step M fun o e => bb.1 _ o n_aends_259 e
    have f_octets_267 := Rp.mv f_octets_267 M
    obtain rfl : v_294 = V.int cut_292 := rv
    refine (bnd_name : Bnd _ _ _ _ _) _ ?_
    dsimp only [List.set_cons_succ, List.set_cons_zero]
    obtain ⟨cs_302, e_cs_302, hm⟩ := bind_inv hm
    obtain ⟨many_303, e_many_303, hm⟩ := bnd_inv hm
    refine r_seqA ?_
    refine Ex.go W (ex_opI0 (z := ((cs_302.length : Int) - (1 : Int))) (fun _ _ => rfl) (ex_len (el_of W.hB (En.ex sb_bxs (en_lcL (f := fun (y_301 : Int) => if (decide (y_301 ≤ cut_292)) = true then some (some y_301) else some none) W sb_bxs (ej_listM W rfl n_aends_259 l_aends_259) e_cs_302 (fun ms' H' y_301 v r' L hq' rv hm => by
            have W := L.W
            have f_events_256 := Rp.mv f_events_256 L.M
            have l_aends_259 := l_aends_259.lt n_aends_259 L
            have f_octets_267 := Rp.mv f_octets_267 L.M
            obtain rfl : v = V.int y_301 := rv
            refine ⟨_, bnd_name, rfl, _, (et_test (ex_opI0 (z := (decide (y_301 ≤ cut_292))) (fun _ _ => rfl) (ex_vi rfl) (ex_vi rfl))), fun c => ?_, fun c => ?_⟩
            · have hm := (if_neg (by rw [c]; decide)).symm.trans hm
              cases hm
              rfl
            · have hm := (if_pos c).symm.trans hm
              cases hm
              exact ⟨_, rfl, (ex_vi rfl)⟩))))) (ex_int 1)) hq fun v_305 H_304 bb hq W M rv => ?_
    rw [← e_many_303] at rv
    have f_events_256 := Rp.mv f_events_256 M
    have l_aends_259 := l_aends_259.step M fun o e => bb.1 _ o n_aends_259 e
    have f_octets_267 := Rp.mv f_octets_267 M
    obtain rfl : v_305 = V.int many_303 := rv
    refine (bnd_name : Bnd _ _ _ _ _) _ ?_
    dsimp only [List.set_cons_succ, List.set_cons_zero]
    obtain ⟨t_313, e_t_313, hm⟩ := bind_inv hm
    obtain ⟨t_314, e_t_314, hm⟩ := bind_inv hm
    obtain ⟨t_315, e_t_315, hm⟩ := bind_inv hm
    refine r_seq ?_
    refine r_ifS ?_
    refine Et.go W (et_not (et_val (ex_sameT (x := (t_313 : ((List (VT PyData)) × Int))) (y := ((cutF events_256 none (some many_303)), t_314)) W (ea_cons W (ex_call (i := ((cutF octets_267 none (some cut_292)), ())) W sb_bxs (ea_cons W (En.ex sb_bxs (en_slice W sb_bxs (el_of W.hB (ex_var W rfl f_octets_267)) eo_none (eo_some (ex_vi rfl)))) ea_nil) e_t_313) (ea_cons W (ex_tup2 W sb_bxs (u := ((cutF events_256 none (some many_303)), t_314)) (ea_cons W (En.ex sb_bxs (en_slice W sb_bxs (el_of W.hB (ex_var W rfl f_events_256)) eo_none (eo_some (ex_vi rfl)))) (ea_cons W (ex_ixL (el_var W rfl n_aends_259 l_aends_259) (ex_vi rfl) W e_t_314) ea_nil))) ea_nil)) e_t_315))) hq fun H_316 bb hq W M => ?_
    have f_events_256 := Rp.mv f_events_256 M
    have l_aends_259 := l_aends_259.step M fun o e => bb.1 _ o n_aends_259 e
    have f_octets_267 := Rp.mv f_octets_267 M
    refine ite_by (fun hc => ?_) (fun hc => ?_)
    · have hm := (if_pos hc).symm.trans hm
      have hm := Option.some.inj hm
      refine r_ret' ?_
      refine Ex.go W (ex_bl false) hq fun v H_317 bb hq W M rv => ?_
      have rv : v = V.bl (false) := rv
      rw [show (false) = true from hm] at rv
      rw [rv]
      exact Q _
    · have hm := (if_neg hc).symm.trans hm
      refine r_next ?_
      try dsimp only
      refine r_seq ?_
      refine r_ifS ?_
      refine Et.go W (et_truL (el_of W.hB (ex_var W rfl f_octets_267))) hq fun H_318 bb hq W M => ?_
      have f_events_256 := Rp.mv f_events_256 M
      have l_aends_259 := l_aends_259.step M fun o e => bb.1 _ o n_aends_259 e
      have f_octets_267 := Rp.mv f_octets_267 M
      refine ite_by (fun hc => ?_) (fun hc => ?_)
      · have hm := (if_pos hc).symm.trans hm
        obtain ⟨spoilt_319, e_spoilt_319, hm⟩ := bnd_inv hm
        refine r_seqA ?_
        refine En.mk W (en_listof W sb_bxs (el_of W.hB (ex_var W rfl f_octets_267))) hq fun aspoilt_319 H_320 bb na hq' W' M l_aspoilt_319 => ?_
        rw [← e_spoilt_319] at l_aspoilt_319
        have ne_aends_259_aspoilt_319 := l_aends_259.ne na
        have ne_aspoilt_319_aends_259 := ne_aends_259_aspoilt_319.symm
        have m_aends_259 := List.mem_cons_of_mem aspoilt_319 m_aends_259
        have o_aspoilt_319 := not_less (W.al.not na) (fun _ h => List.mem_cons_of_mem _ (h))
        have n_aspoilt_319 : aspoilt_319 ∉ [b] := fun z => W.al.not na (W.hB _ z)
        have m_aspoilt_319 : aspoilt_319 ∈ aspoilt_319 :: aends_259 :: ms := List.mem_cons_self
        have f_events_256 := Rp.mv f_events_256 M
        have l_aends_259 := l_aends_259.step M fun o e => bb.1 _ o n_aends_259 e
        have f_octets_267 := Rp.mv f_octets_267 M
        have W := W'
        have hq := hq'
        refine r_name ?_
        dsimp only [List.set_cons_succ, List.set_cons_zero]
        obtain ⟨⟨t_327, bx_328⟩, e_t_327, hm⟩ := bind_inv hm
        dsimp only at hm
        obtain ⟨t_329, e_t_329, hm⟩ := bind_inv hm
        obtain ⟨at_330, e_at_330, hm⟩ := bnd_inv hm
        refine r_seqA ?_
        refine Ex.go W (ex_opI (z := t_329) (modF_ok e_t_329).1 (fun _ _ => by rw [(modF_ok e_t_329).2]; rfl) (ex_intI (ea_cons W (ex_callB (i := ((900 : Int), ())) W (v := 1) rfl (ea_cons W (ex_int 900) ea_nil) e_t_327) ea_nil)) (ex_len (el_var W rfl n_aspoilt_319 l_aspoilt_319))) hq fun v_332 H_331 bb hq W M rv => ?_
        rw [← e_at_330] at rv
        have f_events_256 := Rp.mv f_events_256 M
        have l_aends_259 := l_aends_259.step M fun o e => bb.1 _ o n_aends_259 e
        have f_octets_267 := Rp.mv f_octets_267 M
        have l_aspoilt_319 := l_aspoilt_319.step M fun o e => bb.1 _ o n_aspoilt_319 e
        obtain rfl : v_332 = V.int at_330 := rv
        refine (bnd_name : Bnd _ _ _ _ _) _ ?_
        dsimp only [List.set_cons_succ, List.set_cons_zero]
        obtain ⟨t_354, e_t_354, hm⟩ := bind_inv hm
        obtain ⟨⟨t_355, bx_356⟩, e_t_355, hm⟩ := bind_inv hm
        dsimp only at hm
        obtain ⟨spoilt_357, e_spoilt_357, hm⟩ := bind_inv hm
        refine r_seqA ?_
        refine s_setix W rfl l_aspoilt_319 m_aspoilt_319 n_aspoilt_319 sb_bxs (ex_opI (z := (((t_354 + (1 : Int)) + t_355) % (256 : Int))) (by show (0 : Int) < _; decide) (fun _ _ => rfl) (ex_intI (ea_cons W (ex_opI0 (z := ((t_354 + (1 : Int)) + t_355)) (fun _ _ => rfl) (ex_opI0 (z := (t_354 + (1 : Int))) (fun _ _ => rfl) (ex_ixL (el_var W rfl n_aspoilt_319 l_aspoilt_319) (ex_vi rfl) W e_t_354) (ex_int 1)) (ex_callB (i := ((255 : Int), ())) W (v := 1) rfl (ea_cons W (ex_int 255) ea_nil) e_t_355)) ea_nil)) (ex_int 256)) (ex_vi rfl) hq e_spoilt_357 fun H_358 bb hq W M l_aspoilt_319 => ?_
        have f_events_256 := Rp.mv f_events_256 M
        have l_aends_259 := l_aends_259.step M fun o e => bb.1 _ o (nin ne_aends_259_aspoilt_319 n_aends_259) e
        have f_octets_267 := Rp.mv f_octets_267 M
        have sub : ∀ a ∈ aends_259 :: ms, a ∈ aspoilt_319 :: aends_259 :: ms := ((.cons _ (.cons_cons _ (.refl _))) : List.Sublist (aends_259 :: ms) (aspoilt_319 :: aends_259 :: ms)).subset
        have M : Mv (aspoilt_319 :: aends_259 :: ms) H_358 (aends_259 :: ms) H_358 := Mv.less sub
        have hq := sb_bxs _ _ _ _ hq M fun _ _ _ e => e
        have W : Wd [b] (aends_259 :: ms) H_358 := ⟨fun a h => List.mem_cons_of_mem _ (hB0 a h), W.al.less sub⟩
        have f_events_256 := Rp.mv f_events_256 M
        have l_aends_259 := l_aends_259.less sub
        have f_octets_267 := Rp.mv f_octets_267 M
        have f_spoilt_357 : Rp.rp (aends_259 :: ms) H_358 (.ref aspoilt_319) spoilt_357 := ⟨aspoilt_319, rfl, (nin ne_aspoilt_319_aends_259 o_aspoilt_319), l_aspoilt_319.less sub⟩
        have m_aends_259 : aends_259 ∈ aends_259 :: ms := List.mem_cons_self
        obtain ⟨t_359, e_t_359, hm⟩ := bind_inv hm
        obtain ⟨told_360, e_told_360, hm⟩ := bnd_inv hm
        refine r_seqA ?_
        refine Ex.go W (ex_call (i := (spoilt_357, ())) W sb_bxs (ea_cons W (ex_var W rfl f_spoilt_357) ea_nil) e_t_359) hq fun v_362 H_361 bb hq W M rv => ?_
        rw [← e_told_360] at rv
        have f_events_256 := Rp.mv f_events_256 M
        have l_aends_259 := l_aends_259.step M fun o e => bb.1 _ o n_aends_259 e
        have f_octets_267 := Rp.mv f_octets_267 M
        have f_spoilt_357 := Rp.mv f_spoilt_357 M
        have f_told_360 := rv
        refine (bnd_name : Bnd _ _ _ _ _) _ ?_
        dsimp only [List.set_cons_succ, List.set_cons_zero]
        obtain ⟨whole_363, e_whole_363, hm⟩ := bnd_inv hm
        refine r_seqA ?_
        refine Ex.go W (En.ex sb_bxs (en_lst (xs := ([] : List Int)) W sb_bxs (by simp) es_nil)) hq fun v_365 H_364 bb hq W M rv => ?_
        rw [← e_whole_363] at rv
        have f_events_256 := Rp.mv f_events_256 M
        have l_aends_259 := l_aends_259.step M fun o e => bb.1 _ o n_aends_259 e
        have f_octets_267 := Rp.mv f_octets_267 M
        have f_spoilt_357 := Rp.mv f_spoilt_357 M
        have f_told_360 := Rp.mv f_told_360 M
        have f_whole_363 := rv
        refine (bnd_name : Bnd _ _ _ _ _) _ ?_
        dsimp only [List.set_cons_succ, List.set_cons_zero]
        refine r_seqF' ?_
        refine r_for W (ei_list (ex_fst (u := told_360) (ex_var W rfl f_told_360))) hq fun J N_367 H_366 bb hq W M st_nN_367 nN_367 ok_N_367 => ?_
        have f_events_256 := Rp.mv f_events_256 M
        have l_aends_259 := l_aends_259.step M fun o e => bb.1 _ o n_aends_259 e
        have f_octets_267 := Rp.mv f_octets_267 M
        have f_spoilt_357 := Rp.mv f_spoilt_357 M
        have f_told_360 := Rp.mv f_told_360 M
        have f_whole_363 := Rp.mv f_whole_363 M
        obtain ⟨out_372, e_out_372, hm⟩ := bind_inv hm
        have hgoN_367 := hm
        clear hm
        refine wk_fold (ms := aends_259 :: ms) ok_N_367 e_out_372 (fun x σ H' => match x with | (whole_368, bx_369) => ∃ (xl_event : Option V), ∃ (vj_whole_368 : V), σ = [some (.ref a), some (.ref b), some v_258, none, some (.ref aends_259), some vj_octets_267, xl_event, some (.int cut_292), some (.int many_303), none, some (.ref aspoilt_319), some (.int at_330), some v_362, some vj_whole_368, none] ∧ (Bxs b bx_369) (aends_259 :: ms) H' ∧ Wd [b] (aends_259 :: ms) H' ∧ N_367 (aends_259 :: ms) H' ∧ Rp.rp (aends_259 :: ms) H' (v_258) events_256 ∧ Ls (aends_259 :: ms) H' aends_259 ends_266 ∧ Rp.rp (aends_259 :: ms) H' (vj_octets_267) octets_267 ∧ Rp.rp (aends_259 :: ms) H' ((.ref aspoilt_319)) spoilt_357 ∧ Rp.rp (aends_259 :: ms) H' (v_362) told_360 ∧ Rp.rp (aends_259 :: ms) H' (vj_whole_368) whole_368) ⟨_, _, rfl, hq, W, nN_367, f_events_256, l_aends_259, f_octets_267, f_spoilt_357, f_told_360, f_whole_363⟩ ?_ ?_ ?_
        · intro x σ H' hI
          obtain ⟨whole_368, bx_369⟩ := x
          try dsimp only at hI
          obtain ⟨xl_event, vj_whole_368, rfl, hq, W, nN_367, f_events_256, l_aends_259, f_octets_267, f_spoilt_357, f_told_360, f_whole_368⟩ := hI
          exact ⟨nN_367, W.al⟩
        · intro y_371 v_375 x x' σ H_373 H_374 hI s1 rv hf
          obtain ⟨whole_368, bx_369⟩ := x
          try dsimp only at hI
          obtain ⟨xl_event, vj_whole_368, rfl, hq, W, nN_367, f_events_256, l_aends_259, f_octets_267, f_spoilt_357, f_told_360, f_whole_368⟩ := hI
          have hm := hf
          try dsimp only at hm
          have bb : Bu [b] H_373 H_374 := Bu.same s1
          have M : Mv (aends_259 :: ms) H_373 (aends_259 :: ms) H_374 := Mv.same s1
          have hq := sb_bxs.same s1 hq
          have W := W.bu bb
          have f_events_256 := Rp.mv f_events_256 M
          have l_aends_259 := l_aends_259.step M fun o e => bb.1 _ o n_aends_259 e
          have f_octets_267 := Rp.mv f_octets_267 M
          have f_spoilt_357 := Rp.mv f_spoilt_357 M
          have f_told_360 := Rp.mv f_told_360 M
          have f_whole_368 := Rp.mv f_whole_368 M
          have nN_367 := st_nN_367.mv nN_367 M
          have f_y_371 := rv
          refine (bnd_name : Bnd _ _ _ _ _) _ ?_
          dsimp only [List.set_cons_succ, List.set_cons_zero]
          obtain ⟨t_377, e_t_377, hm⟩ := bind_inv hm
          obtain ⟨t_378, e_t_378, hm⟩ := bind_inv hm
          obtain ⟨whole_379, e_whole_379, hm⟩ := bnd_inv hm
          refine r_asg ?_
          refine Ex.go W (En.ex sb_bxs (en_cat W sb_bxs (el_of W.hB (ex_var W rfl f_whole_368)) (el_of W.hB (ex_call (i := (y_371, ())) W sb_bxs (ea_cons W (ex_var W rfl f_y_371) ea_nil) e_t_377)) e_t_378)) hq fun v_381 H_380 bb hq W M rv => ?_
          rw [← e_whole_379] at rv
          have f_events_256 := Rp.mv f_events_256 M
          have l_aends_259 := l_aends_259.step M fun o e => bb.1 _ o n_aends_259 e
          have f_octets_267 := Rp.mv f_octets_267 M
          have f_y_371 := Rp.mv f_y_371 M
          have f_spoilt_357 := Rp.mv f_spoilt_357 M
          have f_told_360 := Rp.mv f_told_360 M
          have f_whole_368 := Rp.mv f_whole_368 M
          have nN_367 := st_nN_367.mv nN_367 M
          have f_whole_379 := rv
          refine (bnd_name : Bnd _ _ _ _ _) _ ?_
          dsimp only [List.set_cons_succ, List.set_cons_zero]
          try dsimp only
          try dsimp only
          cases hm
          exact ⟨_, _, rfl, hq, W, nN_367, f_events_256, l_aends_259, f_octets_267, f_spoilt_357, f_told_360, f_whole_379⟩
        · intro σ H_370 hI
          obtain ⟨whole_368, bx_369⟩ := out_372
          try dsimp only at hI
          obtain ⟨xl_event, vj_whole_368, rfl, hq, W, nN_367, f_events_256, l_aends_259, f_octets_267, f_spoilt_357, f_told_360, f_whole_368⟩ := hI
          have hm := hgoN_367
          try dsimp only at hm
          try dsimp only
          unfold lawK1 at hm
          obtain ⟨cs_389, e_cs_389, hm⟩ := bind_inv hm
          obtain ⟨before_390, e_before_390, hm⟩ := bnd_inv hm
          refine r_seqA ?_
          refine Ex.go W (ex_opI0 (z := ((cs_389.length : Int) - (1 : Int))) (fun _ _ => rfl) (ex_len (el_of W.hB (En.ex sb_bxs (en_lcL (f := fun (y_388 : Int) => if (decide (y_388 ≤ at_330)) = true then some (some y_388) else some none) W sb_bxs (ej_listM W rfl n_aends_259 l_aends_259) e_cs_389 (fun ms' H' y_388 v r' L hq' rv hm => by
                  have W := L.W
                  have f_events_256 := Rp.mv f_events_256 L.M
                  have l_aends_259 := l_aends_259.lt n_aends_259 L
                  have f_octets_267 := Rp.mv f_octets_267 L.M
                  have f_spoilt_357 := Rp.mv f_spoilt_357 L.M
                  have f_told_360 := Rp.mv f_told_360 L.M
                  have f_whole_368 := Rp.mv f_whole_368 L.M
                  obtain rfl : v = V.int y_388 := rv
                  refine ⟨_, bnd_name, rfl, _, (et_test (ex_opI0 (z := (decide (y_388 ≤ at_330))) (fun _ _ => rfl) (ex_vi rfl) (ex_vi rfl))), fun c => ?_, fun c => ?_⟩
                  · have hm := (if_neg (by rw [c]; decide)).symm.trans hm
                    cases hm
                    rfl
                  · have hm := (if_pos c).symm.trans hm
                    cases hm
                    exact ⟨_, rfl, (ex_vi rfl)⟩))))) (ex_int 1)) hq fun v_392 H_391 bb hq W M rv => ?_
          rw [← e_before_390] at rv
          have f_events_256 := Rp.mv f_events_256 M
          have l_aends_259 := l_aends_259.step M fun o e => bb.1 _ o n_aends_259 e
          have f_octets_267 := Rp.mv f_octets_267 M
          have f_spoilt_357 := Rp.mv f_spoilt_357 M
          have f_told_360 := Rp.mv f_told_360 M
          have f_whole_368 := Rp.mv f_whole_368 M
          obtain rfl : v_392 = V.int before_390 := rv
          refine (bnd_name : Bnd _ _ _ _ _) _ ?_
          dsimp only [List.set_cons_succ, List.set_cons_zero]
          obtain ⟨t_395, e_t_395, hm⟩ := bind_inv hm
          refine r_ifS ?_
          refine Et.go W (et_or (d := t_395) (et_test (ex_neL W (by decide) (el_of W.hB (ex_var W rfl f_whole_368)) (el_of W.hB (En.ex sb_bxs (en_slice W sb_bxs (el_of W.hB (ex_var W rfl f_spoilt_357)) eo_none (eo_some (ex_snd (u := told_360) (ex_var W rfl f_told_360)))))))) (fun c => by
                  have hm := (if_pos c).symm.trans e_t_395
                  obtain ⟨t_394, e_t_394, hm⟩ := bind_inv hm
                  rw [← Option.some.inj hm]
                  exact (et_or (d := t_394) (et_test (ex_neI (ex_snd (u := told_360) (ex_var W rfl f_told_360)) (ex_len (el_of W.hB (ex_var W rfl f_whole_368))))) (fun c => by
                  have hm := (if_pos c).symm.trans e_t_394
                  obtain ⟨t_393, e_t_393, hm⟩ := bind_inv hm
                  rw [← Option.some.inj hm]
                  exact (et_test (ex_neT W (En.ex sb_bxs (en_slice W sb_bxs (el_of W.hB (ex_fst (u := told_360) (ex_var W rfl f_told_360))) eo_none (eo_some (ex_vi rfl)))) (En.ex sb_bxs (en_slice W sb_bxs (el_of W.hB (ex_var W rfl f_events_256)) eo_none (eo_some (ex_vi rfl)))) e_t_393)))
                  (fun c => by
                  have hm := (if_neg (by rw [c]; decide)).symm.trans e_t_394
                  cases hm
                  exact ⟨rfl, fun _ h => h⟩)))
                  (fun c => by
                  have hm := (if_neg (by rw [c]; decide)).symm.trans e_t_395
                  cases hm
                  exact ⟨rfl, fun _ h => h⟩)) hq fun H_396 bb hq W M => ?_
          have f_events_256 := Rp.mv f_events_256 M
          have l_aends_259 := l_aends_259.step M fun o e => bb.1 _ o n_aends_259 e
          have f_octets_267 := Rp.mv f_octets_267 M
          have f_spoilt_357 := Rp.mv f_spoilt_357 M
          have f_told_360 := Rp.mv f_told_360 M
          have f_whole_368 := Rp.mv f_whole_368 M
          refine ite_by (fun hc => ?_) (fun hc => ?_)
          · have hm := (if_pos hc).symm.trans hm
            have hm := Option.some.inj hm
            refine r_ret' ?_
            refine Ex.go W (ex_bl false) hq fun v H_397 bb hq W M rv => ?_
            have rv : v = V.bl (false) := rv
            rw [show (false) = true from hm] at rv
            rw [rv]
            exact Q _
          · have hm := (if_neg hc).symm.trans hm
            refine r_next ?_
            try dsimp only
            try dsimp only
            have hm := Option.some.inj hm
            refine r_ret' ?_
            refine Ex.go W (ex_bl true) hq fun v H_398 bb hq W M rv => ?_
            have rv : v = V.bl (true) := rv
            rw [show (true) = true from hm] at rv
            rw [rv]
            exact Q _
      · have hm := (if_neg hc).symm.trans hm
        refine r_next ?_
        try dsimp only
        have hm := Option.some.inj hm
        refine r_ret' ?_
        refine Ex.go W (ex_bl true) hq fun v H_399 bb hq W M rv => ?_
        have rv : v = V.bl (true) := rv
        rw [show (true) = true from hm] at rv
        rw [rv]
        exact Q _
end
set_option maxHeartbeats 0 in
theorem all_mk {l : PySem.W.OpenLaw} {w : World} {K : PySem.W.Frag} {h : Heap} {mg : Str → Option Value} {fa f1 f2 f3 f4 f5 f6 f7 f8 f9 f10 f11 f12 : Addr} (X : K.In h) (G : h.Ns mainGlobals mg) (hfa : mg "law" = some (.ref fa))
    {od1 an1 od2 an2 od3 an3 od4 an4 od5 an5 od6 an6 od7 an7 od8 an8 od9 an9 od10 an10 od11 an11 od12 an12 : Option Addr} {sl1 sl2 sl3 sl4 sl5 sl6 sl7 sl8 sl9 sl10 sl11 sl12 : Array (Option Value)} {oc1 kV1 dc1 pm1 ct1 cd1 oc2 kV2 dc2 pm2 ct2 cd2 oc3 kV3 dc3 pm3 ct3 cd3 oc4 kV4 dc4 pm4 ct4 cd4 oc5 kV5 dc5 pm5 ct5 cd5 oc6 kV6 dc6 pm6 ct6 cd6 oc7 kV7 dc7 pm7 ct7 cd7 oc8 kV8 dc8 pm8 ct8 cd8 oc9 kV9 dc9 pm9 ct9 cd9 oc10 kV10 dc10 pm10 ct10 cd10 oc11 kV11 dc11 pm11 ct11 cd11 oc12 kV12 dc12 pm12 ct12 cd12 : Value}
    (a1 : PySem.W.nsIn K mainGlobals "_law_cell" = some (some (.ref f1))) (l1 : K.lookup f1 = some ⟨oc1, od1, .func (PySem.W.fnOf "_law_cell" "_law_cell" (defArgs s_law_cell) (defBody s_law_cell) (defScope s_law_cell) .none kV1 dc1 pm1 an1 cd1 ct1), sl1⟩) (c1 : PySem.W.codeIn K cd1 "_law_cell" = true) (k1 : PySem.W.keepIn K (.ref f1) = true)
    (a2 : PySem.W.nsIn K mainGlobals "_law_row" = some (some (.ref f2))) (l2 : K.lookup f2 = some ⟨oc2, od2, .func (PySem.W.fnOf "_law_row" "_law_row" (defArgs s_law_row) (defBody s_law_row) (defScope s_law_row) .none kV2 dc2 pm2 an2 cd2 ct2), sl2⟩) (c2 : PySem.W.codeIn K cd2 "_law_row" = true) (k2 : PySem.W.keepIn K (.ref f2) = true)
    (a3 : PySem.W.nsIn K mainGlobals "_law_box" = some (some (.ref f3))) (l3 : K.lookup f3 = some ⟨oc3, od3, .func (PySem.W.fnOf "_law_box" "_law_box" (defArgs s_law_box) (defBody s_law_box) (defScope s_law_box) .none kV3 dc3 pm3 an3 cd3 ct3), sl3⟩) (c3 : PySem.W.codeIn K cd3 "_law_box" = true) (k3 : PySem.W.keepIn K (.ref f3) = true)
    (a4 : PySem.W.nsIn K mainGlobals "_law_draw" = some (some (.ref f4))) (l4 : K.lookup f4 = some ⟨oc4, od4, .func (PySem.W.fnOf "_law_draw" "_law_draw" (defArgs s_law_draw) (defBody s_law_draw) (defScope s_law_draw) .none kV4 dc4 pm4 an4 cd4 ct4), sl4⟩) (c4 : PySem.W.codeIn K cd4 "_law_draw" = true) (k4 : PySem.W.keepIn K (.ref f4) = true)
    (a5 : PySem.W.nsIn K mainGlobals "_law_same" = some (some (.ref f5))) (l5 : K.lookup f5 = some ⟨oc5, od5, .func (PySem.W.fnOf "_law_same" "_law_same" (defArgs s_law_same) (defBody s_law_same) (defScope s_law_same) .none kV5 dc5 pm5 an5 cd5 ct5), sl5⟩) (c5 : PySem.W.codeIn K cd5 "_law_same" = true) (k5 : PySem.W.keepIn K (.ref f5) = true)
    (a6 : PySem.W.nsIn K mainGlobals "_law_value" = some (some (.ref f6))) (l6 : K.lookup f6 = some ⟨oc6, od6, .func (PySem.W.fnOf "_law_value" "_law_value" (defArgs s_law_value) (defBody s_law_value) (defScope s_law_value) .none kV6 dc6 pm6 an6 cd6 ct6), sl6⟩) (c6 : PySem.W.codeIn K cd6 "_law_value" = true) (k6 : PySem.W.keepIn K (.ref f6) = true)
    (a7 : PySem.W.nsIn K mainGlobals "_law_deed" = some (some (.ref f7))) (l7 : K.lookup f7 = some ⟨oc7, od7, .func (PySem.W.fnOf "_law_deed" "_law_deed" (defArgs s_law_deed) (defBody s_law_deed) (defScope s_law_deed) .none kV7 dc7 pm7 an7 cd7 ct7), sl7⟩) (c7 : PySem.W.codeIn K cd7 "_law_deed" = true) (k7 : PySem.W.keepIn K (.ref f7) = true)
    (a8 : PySem.W.nsIn K mainGlobals "_law_octets" = some (some (.ref f8))) (l8 : K.lookup f8 = some ⟨oc8, od8, .func (PySem.W.fnOf "_law_octets" "_law_octets" (defArgs s_law_octets) (defBody s_law_octets) (defScope s_law_octets) .none kV8 dc8 pm8 an8 cd8 ct8), sl8⟩) (c8 : PySem.W.codeIn K cd8 "_law_octets" = true) (k8 : PySem.W.keepIn K (.ref f8) = true)
    (a9 : PySem.W.nsIn K mainGlobals "_number_at" = some (some (.ref f9))) (l9 : K.lookup f9 = some ⟨oc9, od9, .func (PySem.W.fnOf "_number_at" "_number_at" (defArgs s_number_at) (defBody s_number_at) (defScope s_number_at) .none kV9 dc9 pm9 an9 cd9 ct9), sl9⟩) (c9 : PySem.W.codeIn K cd9 "_number_at" = true) (k9 : PySem.W.keepIn K (.ref f9) = true)
    (a10 : PySem.W.nsIn K mainGlobals "event_read" = some (some (.ref f10))) (l10 : K.lookup f10 = some ⟨oc10, od10, .func (PySem.W.fnOf "event_read" "event_read" (defArgs s_event_read) (defBody s_event_read) (defScope s_event_read) .none kV10 dc10 pm10 an10 cd10 ct10), sl10⟩) (c10 : PySem.W.codeIn K cd10 "event_read" = true) (k10 : PySem.W.keepIn K (.ref f10) = true)
    (a11 : PySem.W.nsIn K mainGlobals "recovered" = some (some (.ref f11))) (l11 : K.lookup f11 = some ⟨oc11, od11, .func (PySem.W.fnOf "recovered" "recovered" (defArgs s_recovered) (defBody s_recovered) (defScope s_recovered) .none kV11 dc11 pm11 an11 cd11 ct11), sl11⟩) (c11 : PySem.W.codeIn K cd11 "recovered" = true) (k11 : PySem.W.keepIn K (.ref f11) = true)
    (a12 : PySem.W.nsIn K mainGlobals "law" = some (some (.ref f12))) (l12 : K.lookup f12 = some ⟨oc12, od12, .func (PySem.W.fnOf "law" "law" (defArgs s_law) (defBody s_law) (defScope s_law) .none kV12 dc12 pm12 an12 cd12 ct12), sl12⟩) (c12 : PySem.W.codeIn K cd12 "law" = true) (k12 : PySem.W.keepIn K (.ref f12) = true)
    {t_END : Tok} (z_END : PySem.W.nsIn K mainGlobals "END" = some (some (.int 170 t_END)))
    {t_INTEGER : Tok} (z_INTEGER : PySem.W.nsIn K mainGlobals "INTEGER" = some (some (.int 1 t_INTEGER)))
    {t_NOTHING : Tok} (z_NOTHING : PySem.W.nsIn K mainGlobals "NOTHING" = some (some (.int 0 t_NOTHING)))
    {t_OBJECT : Tok} (z_OBJECT : PySem.W.nsIn K mainGlobals "OBJECT" = some (some (.str "object" t_OBJECT)))
    {t_REFERENCE : Tok} (z_REFERENCE : PySem.W.nsIn K mainGlobals "REFERENCE" = some (some (.int 2 t_REFERENCE)))
    {t_WRITE : Tok} (z_WRITE : PySem.W.nsIn K mainGlobals "WRITE" = some (some (.str "write" t_WRITE)))
    (z_int : PySem.W.nsIn K mainGlobals "int" = some none)
    (z_isinstance : PySem.W.nsIn K mainGlobals "isinstance" = some none)
    (z_len : PySem.W.nsIn K mainGlobals "len" = some none)
    (z_list : PySem.W.nsIn K mainGlobals "list" = some none)
    (z_range : PySem.W.nsIn K mainGlobals "range" = some none)
    (z_repr : PySem.W.nsIn K mainGlobals "repr" = some none)
    (z_tuple : PySem.W.nsIn K mainGlobals "tuple" = some none)
    {g_WORDS : Addr} {gi_WORDS : Array Value} {gn_WORDS : Nat} {gs_WORDS : Array (Option Value)} (zg_WORDS : PySem.W.nsIn K mainGlobals "WORDS" = some (some (.ref g_WORDS))) (lg_WORDS : K.lookup g_WORDS = some ⟨.type "tuple", none, .seq gi_WORDS gn_WORDS, gs_WORDS⟩) (vg_WORDS : gi_WORDS.size ≤ sizeLine ∧ Vals ([Str.ofString "allocate", Str.ofString "write", Str.ofString "release", Str.ofString "addRoot", Str.ofString "removeRoot", Str.ofString "collect", Str.ofString "compact", Str.ofString "makeRoom", Str.ofString "slide"].map V.str) gi_WORDS.toList)
    {g_NUMBERS : Addr} {gi_NUMBERS : Array Value} {gn_NUMBERS : Nat} {gs_NUMBERS : Array (Option Value)} (zg_NUMBERS : PySem.W.nsIn K mainGlobals "NUMBERS" = some (some (.ref g_NUMBERS))) (lg_NUMBERS : K.lookup g_NUMBERS = some ⟨.type "tuple", none, .seq gi_NUMBERS gn_NUMBERS, gs_NUMBERS⟩) (vg_NUMBERS : gi_NUMBERS.size ≤ sizeLine ∧ Vals ([(1 : Int), (2 : Int), (1 : Int), (1 : Int), (1 : Int), (0 : Int), (0 : Int), (1 : Int), (0 : Int)].map V.int) gi_NUMBERS.toList)
    : ∃ fd : FuncData, (∀ (s : Shared) (v : Value), BindsTo s fd ⟨[v], []⟩ [("script", v)]) ∧ ∀ base : Heap, K.In base → base.Ns mainGlobals mg → FnG l.prog w K mg base 4 fa fd ["script"] (sp_law K) := by
  have e := hfa.symm.trans (PySem.W.mg_of X G a12)
  cases e
  have T : Txt mg := ⟨⟨_, PySem.W.mg_of X G z_END⟩, ⟨_, PySem.W.mg_of X G z_INTEGER⟩, ⟨_, PySem.W.mg_of X G z_NOTHING⟩, ⟨_, PySem.W.mg_of X G z_OBJECT⟩, ⟨_, PySem.W.mg_of X G z_REFERENCE⟩, ⟨_, PySem.W.mg_of X G z_WRITE⟩, PySem.W.mg_none_of X G z_int, PySem.W.mg_none_of X G z_isinstance, PySem.W.mg_none_of X G z_len, PySem.W.mg_none_of X G z_list, PySem.W.mg_none_of X G z_range, PySem.W.mg_none_of X G z_repr, PySem.W.mg_none_of X G z_tuple⟩
  have F_law_cell := fun_mk (st := s_law_cell) l1 c1 k1
  have B_law_cell := F_law_cell.binds (ps := ["script", "k"]) fun _ _ _ _ _ _ us hl => match us, hl with | [_, _], _ => rfl
  have F_law_row := fun_mk (st := s_law_row) l2 c2 k2
  have B_law_row := F_law_row.binds (ps := ["cell", "k", "many"]) fun _ _ _ _ _ _ us hl => match us, hl with | [_, _, _], _ => rfl
  have F_law_box := fun_mk (st := s_law_box) l3 c3 k3
  have B_law_box := F_law_box.binds (ps := ["script", "first", "last"]) fun _ _ _ _ _ _ us hl => match us, hl with | [_, _, _], _ => rfl
  have F_law_draw := fun_mk (st := s_law_draw) l4 c4 k4
  have B_law_draw := F_law_draw.binds (ps := ["box", "many"]) fun _ _ _ _ _ _ us hl => match us, hl with | [_, _], _ => rfl
  have F_law_same := fun_mk (st := s_law_same) l5 c5 k5
  have B_law_same := F_law_same.binds (ps := ["one", "other"]) fun _ _ _ _ _ _ us hl => match us, hl with | [_, _], _ => rfl
  have F_law_value := fun_mk (st := s_law_value) l6 c6 k6
  have B_law_value := F_law_value.binds (ps := ["box", "most"]) fun _ _ _ _ _ _ us hl => match us, hl with | [_, _], _ => rfl
  have F_law_deed := fun_mk (st := s_law_deed) l7 c7 k7
  have B_law_deed := F_law_deed.binds (ps := ["box", "most"]) fun _ _ _ _ _ _ us hl => match us, hl with | [_, _], _ => rfl
  have F_law_octets := fun_mk (st := s_law_octets) l8 c8 k8
  have B_law_octets := F_law_octets.binds (ps := ["event"]) fun _ _ _ _ _ _ us hl => match us, hl with | [_], _ => rfl
  have F_number_at := fun_mk (st := s_number_at) l9 c9 k9
  have B_number_at := F_number_at.binds (ps := ["octets", "place"]) fun _ _ _ _ _ _ us hl => match us, hl with | [_, _], _ => rfl
  have F_event_read := fun_mk (st := s_event_read) l10 c10 k10
  have B_event_read := F_event_read.binds (ps := ["body"]) fun _ _ _ _ _ _ us hl => match us, hl with | [_], _ => rfl
  have F_recovered := fun_mk (st := s_recovered) l11 c11 k11
  have B_recovered := F_recovered.binds (ps := ["octets"]) fun _ _ _ _ _ _ us hl => match us, hl with | [_], _ => rfl
  have F_law := fun_mk (st := s_law) l12 c12 k12
  refine ⟨PySem.W.fnOf "law" "law" (defArgs s_law) (defBody s_law) (defScope s_law) .none kV12 dc12 pm12 an12 cd12 ct12, fun s v => .of_eq rfl, fun base _ _ => ?_⟩
  have G_WORDS : GTup K mg "WORDS" g_WORDS ([Str.ofString "allocate", Str.ofString "write", Str.ofString "release", Str.ofString "addRoot", Str.ofString "removeRoot", Str.ofString "collect", Str.ofString "compact", Str.ofString "makeRoom", Str.ofString "slide"].map V.str) := ⟨PySem.W.mg_of X G zg_WORDS, ⟨_, _, _, lg_WORDS, rfl, rfl, vg_WORDS.1, vg_WORDS.2⟩, ⟨_, lg_WORDS, rfl, rfl⟩⟩
  have G_NUMBERS : GTup K mg "NUMBERS" g_NUMBERS ([(1 : Int), (2 : Int), (1 : Int), (1 : Int), (1 : Int), (0 : Int), (0 : Int), (1 : Int), (0 : Int)].map V.int) := ⟨PySem.W.mg_of X G zg_NUMBERS, ⟨_, _, _, lg_NUMBERS, rfl, rfl, vg_NUMBERS.1, vg_NUMBERS.2⟩, ⟨_, lg_NUMBERS, rfl, rfl⟩⟩
  have C_law_cell := mk_law_cell (P := l.prog) (w := w) (base := base) T F_law_cell (PySem.W.mg_of X G a1) B_law_cell
  have C_law_row := mk_law_row (P := l.prog) (w := w) (base := base) T F_law_row (PySem.W.mg_of X G a2) B_law_row
  have C_law_box := mk_law_box (P := l.prog) (w := w) (base := base) T F_law_box (PySem.W.mg_of X G a3) B_law_box C_law_cell C_law_row
  have C_law_draw := mk_law_draw (P := l.prog) (w := w) (base := base) T F_law_draw (PySem.W.mg_of X G a4) B_law_draw
  have C_law_same := mk_law_same (P := l.prog) (w := w) (base := base) T F_law_same (PySem.W.mg_of X G a5) B_law_same
  have C_law_value := mk_law_value (P := l.prog) (w := w) (base := base) T F_law_value (PySem.W.mg_of X G a6) B_law_value C_law_draw
  have C_law_deed := mk_law_deed (P := l.prog) (w := w) (base := base) T F_law_deed (PySem.W.mg_of X G a7) B_law_deed C_law_draw C_law_value
  have C_law_octets := mk_law_octets (P := l.prog) (w := w) (base := base) T F_law_octets (PySem.W.mg_of X G a8) B_law_octets
  have C_number_at := mk_number_at (P := l.prog) (w := w) (base := base) T F_number_at (PySem.W.mg_of X G a9) B_number_at
  have C_event_read := mk_event_read (P := l.prog) (w := w) (base := base) T F_event_read (PySem.W.mg_of X G a10) B_event_read C_number_at G_WORDS G_NUMBERS
  have C_recovered := mk_recovered (P := l.prog) (w := w) (base := base) T F_recovered (PySem.W.mg_of X G a11) B_recovered C_event_read
  exact mk_law T F_law C_law_box C_law_draw C_law_same C_law_deed C_law_octets C_recovered
end Pf
open PySem PySem.W PyProof.Rows
set_option maxRecDepth 100000 in
set_option maxHeartbeats 0 in
theorem PySem.Challenge.cw_heapgame_k61_recovery_from_a_cut_holds : PySem.Challenge.rw_heapgame_k61_recovery_from_a_cut.Holds := by
  w_on; o_law; k_head; (case hw => w_witness2)
  k_fill
  refine Pf.walkG (l := PySem.Challenge.rw_heapgame_k61_recovery_from_a_cut) (n := 63) (k := 4) (x := "script") (sp := Pf.sp_law) rfl (by decide) rfl ⟨rfl, by decide, by decide⟩ (fun w h Y => PySem.W.kIn_of Y) ?F (fun _ _ a ns hl hS => ⟨a, ns, rfl, hS, hl, fun _ => rfl⟩)
  case F =>
    intro w mg fa h KX G hmg
    refine' Pf.all_mk KX G hmg ?a1 ?l1 ?c1 ?k1 ?a2 ?l2 ?c2 ?k2 ?a3 ?l3 ?c3 ?k3 ?a4 ?l4 ?c4 ?k4 ?a5 ?l5 ?c5 ?k5 ?a6 ?l6 ?c6 ?k6 ?a7 ?l7 ?c7 ?k7 ?a8 ?l8 ?c8 ?k8 ?a9 ?l9 ?c9 ?k9 ?a10 ?l10 ?c10 ?k10 ?a11 ?l11 ?c11 ?k11 ?a12 ?l12 ?c12 ?k12 ?z_END ?z_INTEGER ?z_NOTHING ?z_OBJECT ?z_REFERENCE ?z_WRITE ?z_int ?z_isinstance ?z_len ?z_list ?z_range ?z_repr ?z_tuple ?zg_WORDS ?lg_WORDS ?vg_WORDS ?zg_NUMBERS ?lg_NUMBERS ?vg_NUMBERS
    (case a1 => k_is)
    (case l1 => k_is)
    (case c1 => k_is)
    (case k1 => k_is)
    (case a2 => k_is)
    (case l2 => k_is)
    (case c2 => k_is)
    (case k2 => k_is)
    (case a3 => k_is)
    (case l3 => k_is)
    (case c3 => k_is)
    (case k3 => k_is)
    (case a4 => k_is)
    (case l4 => k_is)
    (case c4 => k_is)
    (case k4 => k_is)
    (case a5 => k_is)
    (case l5 => k_is)
    (case c5 => k_is)
    (case k5 => k_is)
    (case a6 => k_is)
    (case l6 => k_is)
    (case c6 => k_is)
    (case k6 => k_is)
    (case a7 => k_is)
    (case l7 => k_is)
    (case c7 => k_is)
    (case k7 => k_is)
    (case a8 => k_is)
    (case l8 => k_is)
    (case c8 => k_is)
    (case k8 => k_is)
    (case a9 => k_is)
    (case l9 => k_is)
    (case c9 => k_is)
    (case k9 => k_is)
    (case a10 => k_is)
    (case l10 => k_is)
    (case c10 => k_is)
    (case k10 => k_is)
    (case a11 => k_is)
    (case l11 => k_is)
    (case c11 => k_is)
    (case k11 => k_is)
    (case a12 => k_is)
    (case l12 => k_is)
    (case c12 => k_is)
    (case k12 => k_is)
    (case z_END => k_is)
    (case z_INTEGER => k_is)
    (case z_NOTHING => k_is)
    (case z_OBJECT => k_is)
    (case z_REFERENCE => k_is)
    (case z_WRITE => k_is)
    (case z_int => k_is)
    (case z_isinstance => k_is)
    (case z_len => k_is)
    (case z_list => k_is)
    (case z_range => k_is)
    (case z_repr => k_is)
    (case z_tuple => k_is)
    (case zg_WORDS => k_is)
    (case lg_WORDS => k_is)
    (case vg_WORDS => exact ⟨by rw [sizeLine_eq]; decide, by simp only [List.map_cons, List.map_nil]; repeat (first | exact Pf.vals_nil | refine Pf.vals_str ?_ | refine Pf.vals_int ?_)⟩)
    (case zg_NUMBERS => k_is)
    (case lg_NUMBERS => k_is)
    (case vg_NUMBERS => exact ⟨by rw [sizeLine_eq]; decide, by simp only [List.map_cons, List.map_nil]; repeat (first | exact Pf.vals_nil | refine Pf.vals_str ?_ | refine Pf.vals_int ?_)⟩)
