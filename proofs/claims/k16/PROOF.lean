import PyProof.Rows.All
import Wide.All
import OpenK.AllK
import Wide.FinOn
import HandS.ForMost
import HandS.TupLe
import HandS.Gcd
import HandS.IsInst
import HandS.SortInts
import HandS.SortRule
import HandS.Deep
import HandS.SortKw
import KE.DataMinMax
import KE.KEqSeq
import HandS.ExcInit
import HandS.Nested
import KE.KSuper
import KE.KExcSuper
import HandS.FStr
import HandS.WordsExc
import HandS.ExcField
import HandS.ExcIs
import PyProof.Rows.StrDigits
import HandS.SetFor
import HandS.More
import HandS.Dict
import HandS.Iter
import HandS.MapSum
import KE.KDictSum
import PyProof.ReprRoads
import KE.SortData
import KE.KeyNested
import KE.KDictKeyed
import HandS.RevRange
import HandS.Conv
import PySem.Challenge.RW_heapgame_k16_cheapest_room
set_option Elab.async false
set_option linter.all false
set_option maxRecDepth 100000
namespace Pf
open PySem L2
/-! ### a def that may be called -/
structure Cal (P : Program) (w : World) (K : PySem.W.Frag) (mg : Str → Option Value) (base : Heap) (x : Str) (k : Nat) (f : Addr) (fd : FuncData) (ps : List Str) (sp : Sp) : Prop where
  ok : FnOk P w K mg base CX0 k f fd ps sp
  mg : mg x = some (.ref f)
  (kp : PySem.W.keepIn K (.ref f) = true)
  b : Binds K fd ps []
/-- an expression asked for its truth -/
def tTru (K : PySem.W.Frag) (ta : TE) : TT := fun σ H R => ta σ H fun v h => ∃ c, TruV K v h c ∧ R c h
theorem pt_truthN {X : Cx} {a : Expr} {ta : TE} (ha : PE X a ta) (he : ∀ whole, isTrue a X.env whole = (do let v ← whole; standAt a.pos; holding [v] (truthy v)) := by intro _; rfl) : PT X a (tTru X.K ta) := pt_truth ha he
theorem room65 {A : Around} {k : Nat} (hr : Room (k + 1) A) : A.units + 65 < cLine := by have := hr.un; omega
/-! ### the readings, one step each -/
section
variable {K : PySem.W.Frag} {σ : St} {H : Hp} {Q : VK} {D : Ends} {ta tb te : TE} {t u : TS} {c : TT}
theorem r_seq (h : t { D with nx := u D } σ H) : tSeq t u D σ H := h
theorem r_seqA {g : TG} (h : te σ H fun x H1 => g x σ H1 (u D)) : tSeq (tAsg te g) u D σ H := h
theorem r_seqD (h : te σ H fun _ H1 => u D σ H1) : tSeq (tDrop te) u D σ H := h
theorem r_seqF {wi : TI} {g : TG} {tb : TS} (h : tFor wi g tb { D with nx := u D } σ H) : tSeq (tFor wi g tb) u D σ H := h
theorem r_seqN (h : u D σ H) : tSeq tNext u D σ H := h
theorem r_seqG (h : ∀ R : St → Hp → Prop, (∀ σ H, u D σ H → R σ H) → t { D with nx := R } σ H) : tSeq t u D σ H := h (u D) fun _ _ x => x
theorem r_asg {g : TG} (h : te σ H fun x H1 => g x σ H1 D.nx) : tAsg te g D σ H := h
theorem r_drop (h : te σ H fun _ H1 => D.nx σ H1) : tDrop te D σ H := h
theorem r_ret (h : te σ H D.rt) : tRet te D σ H := h
theorem r_ifS (h : c σ H fun b H1 => if b = true then t D σ H1 else u D σ H1) : tIfS c t u D σ H := h
theorem r_next (h : D.nx σ H) : tNext D σ H := h
theorem r_cont (h : D.ct σ H) : tCont D σ H := h
theorem r_name {i : Nat} {v : V} {q : St → Hp → Prop} (h : q (σ.set i (some v)) H) : gName i v σ H q := h
theorem r_gnil {q : St → Hp → Prop} (h : q σ H) : gNil [] σ H q := ⟨rfl, h⟩
theorem r_gcons {t : TG} {u : TGs} {v : V} {vs : List V} {q : St → Hp → Prop} (h : t v σ H fun σ' H' => u vs σ' H' q) : gCons t u (v :: vs) σ H q := ⟨v, vs, rfl, h⟩
theorem r_gtup {n : Nat} {t : TGs} {a : Addr} {xs : List V} {q : St → Hp → Prop} (h1 : SqT K H a xs) (h2 : xs.length = n) (h : t xs σ H q) : gTup K n t (.ref a) σ H q := ⟨a, xs, rfl, h1, h2, h⟩
theorem r_gsub {to ti : TE} {t : TSet} {v : V} {q : St → Hp → Prop} (h : to σ H fun o H1 => ti σ H1 fun i H2 => t o i v H2 fun H3 => q σ H3) : gSub to ti t v σ H q := h
theorem r_setL0 {p : Addr} {xs : List V} {k : Int} {j : Nat} {v : V} {q : Hp → Prop} (h1 : H p = some (.lst xs)) (h2 : ixN xs.length k = some j) (h : q (upd H p (.lst (xs.set j v)))) : rSetL (.ref p) (.int k) v H q := ⟨p, xs, k, j, rfl, rfl, h1, h2, h⟩
theorem r_var {i : Nat} {v : V} (h : σ[i]? = some (some v)) (q : Q v H) : tVar i σ H Q := ⟨v, h, q⟩
theorem r_c {v : V} (q : Q v H) : tC v σ H Q := q
theorem r_op {r : R2} (h : ta σ H fun x H1 => tb σ H1 fun y H2 => r x y H2 Q) : tOp r ta tb σ H Q := h
theorem r_un {r : V → Hp → VK → Prop} (h : ta σ H fun x H1 => r x H1 Q) : tUn r ta σ H Q := h
theorem r_I0 {g : Int → Int → V} {i j : Int} (q : Q (g i j) H) : rI0 g (.int i) (.int j) H Q := ⟨i, j, rfl, rfl, q⟩
theorem r_I {C : Int → Int → Prop} {g : Int → Int → V} {i j : Int} (hc : C i j) (q : Q (g i j) H) : rI C g (.int i) (.int j) H Q := ⟨i, j, rfl, rfl, hc, q⟩
theorem r_U {g : Int → V} {i : Int} (q : Q (g i) H) : rU g (.int i) H Q := ⟨i, rfl, q⟩
theorem r_eqI {i j : Int} (q : Q (.bl (decide (i = j))) H) : rEq (.int i) (.int j) H Q := ⟨rfl, by rw [show decide (V.int i = V.int j) = decide (i = j) by simp]; exact q⟩
theorem r_neI {i j : Int} (q : Q (.bl (!decide (i = j))) H) : rNe (.int i) (.int j) H Q := ⟨rfl, by rw [show decide (V.int i = V.int j) = decide (i = j) by simp]; exact q⟩
theorem r_eqB {i j : Bool} (q : Q (.bl (decide (i = j))) H) : rEq (.bl i) (.bl j) H Q := ⟨rfl, by rw [show decide (V.bl i = V.bl j) = decide (i = j) by simp]; exact q⟩
theorem r_neB {i j : Bool} (q : Q (.bl (!decide (i = j))) H) : rNe (.bl i) (.bl j) H Q := ⟨rfl, by rw [show decide (V.bl i = V.bl j) = decide (i = j) by simp]; exact q⟩
theorem r_eq {x y : V} (hs : scal x y = true) (q : Q (.bl (decide (x = y))) H) : rEq x y H Q := ⟨hs, q⟩
theorem r_ne {x y : V} (hs : scal x y = true) (q : Q (.bl (!decide (x = y))) H) : rNe x y H Q := ⟨hs, q⟩
theorem r_test {q : Bool → Hp → Prop} (h : te σ H fun x H' => ∃ k, x = .bl k ∧ q k H') : tTest te σ H q := h
theorem r_B {q : Bool → Hp → Prop} (h : te σ H fun x H' => ∃ k, x = .bl k ∧ q k H') : tB te σ H q := h
theorem r_bl {b : Bool} {q : Bool → Prop} (h : q b) : ∃ k, V.bl b = .bl k ∧ q k := ⟨b, rfl, h⟩
theorem r_rfl {x : St} {A : Prop} (q : A) : x = x ∧ A := ⟨rfl, q⟩
theorem r_eqA {x y : St} {A : Prop} (h : x = y) (q : A) : x = y ∧ A := ⟨h, q⟩
theorem r_wipe {σ1 σ2 : St} {vs : List Nat} {A : Prop} (h : wipe σ1 vs = wipe σ2 vs) (q : A) : wipe σ1 vs = wipe σ2 vs ∧ A := ⟨h, q⟩
theorem r_bl2 {a b : Bool} {A : Bool → Bool → Prop} (h : A a b) : ∃ x y, V.bl a = .bl x ∧ V.bl b = .bl y ∧ A x y := ⟨a, b, rfl, rfl, h⟩
theorem r_yes {q : Bool → Hp → Prop} (h : q true H) : tYes σ H q := h
theorem r_and {a b : TT} {q : Bool → Hp → Prop} (h : a σ H fun c H1 => if c = true then b σ H1 q else q false H1) : L2.tAnd a b σ H q := h
theorem r_or {a b : TT} {q : Bool → Hp → Prop} (h : a σ H fun c H1 => if c = true then q true H1 else b σ H1 q) : L2.tOr a b σ H q := h
theorem r_not {a : TT} {q : Bool → Hp → Prop} (h : a σ H fun c H1 => q (!c) H1) : L2.tNot a σ H q := h
theorem r_andV {a b : TE} (h : a σ H fun x H1 => ∃ c, x = .bl c ∧ if c = true then b σ H1 Q else Q (.bl false) H1) : tAndV a b σ H Q := h
theorem r_orV {a b : TE} (h : a σ H fun x H1 => ∃ c, x = .bl c ∧ if c = true then Q (.bl true) H1 else b σ H1 Q) : tOrV a b σ H Q := h
theorem r_notV {a : TE} (h : a σ H fun x H1 => ∃ c, x = .bl c ∧ Q (.bl (!c)) H1) : tNotV a σ H Q := h
theorem r_ifE {c : TT} (h : c σ H fun b H1 => if b = true then ta σ H1 Q else tb σ H1 Q) : tIf c ta tb σ H Q := h
theorem r_nil {q : List V → Hp → Prop} (h : q [] H) : tNil σ H q := h
theorem r_cons {tr : TA} {q : List V → Hp → Prop} (h : ta σ H fun x H1 => tr σ H1 fun xs H2 => q (x :: xs) H2) : tCons ta tr σ H q := h
theorem r_tup {ts : TA} (h : ts σ H fun xs H1 => xs.length ≤ sizeLine ∧ ∀ p, H1 p = none → Q (.ref p) (upd H1 p (.tup xs))) : tTup ts σ H Q := h
theorem r_lst {ts : TA} (h : ts σ H fun xs H1 => xs.length ≤ sizeLine ∧ ∀ p, H1 p = none → Q (.ref p) (upd H1 p (.lst xs))) : tLst ts σ H Q := h
theorem r_small {xs : List V} {A : Prop} (h : A) (hs : xs.length ≤ sizeLine) : xs.length ≤ sizeLine ∧ A := ⟨hs, h⟩
theorem r_CB {r : List V → Hp → VK → Prop} {ts : TA} (h : ts σ H fun vs H1 => r vs H1 Q) : tCB r ts σ H Q := h
theorem r_call {sp : Sp} {E : XK} {ts : TA} (h : ts σ H fun vs H1 => sp vs H1 Q E) : tCall sp [] E ts σ H Q := by
  have e : (fun vs H1 => sp (vs ++ []) H1 Q E) = fun vs H1 => sp vs H1 Q E := by
    funext vs H1
    rw [List.append_nil]
  show ts σ H fun vs H1 => sp (vs ++ []) H1 Q E
  rw [e]
  exact h
theorem r_bm {T : String} {r : V → List V → Hp → VK → Prop} {ts : TA} (h : te σ H fun x H1 => tyV K T x H1 ∧ ts σ H1 fun xs H2 => r x xs H2 Q) : tBM K T r te ts σ H Q := h
theorem r_bm0 {T : String} {r : V → List V → Hp → VK → Prop} (h : te σ H fun x H1 => tyV K T x H1 ∧ r x [] H1 Q) : tBM0 K T r te σ H Q := h
theorem ty_lst {p : Addr} {xs : List V} (h : H p = some (.lst xs)) : tyV K "list" (.ref p) H := .inl ⟨rfl, _, .inl (.inl h)⟩
theorem r_app0 {p : Addr} {xs : List V} {y : V} (h : H p = some (.lst xs)) (hs : xs.length < sizeLine) (q : Q .non (upd H p (.lst (xs ++ [y])))) : rAppend (.ref p) [y] H Q := ⟨p, xs, y, rfl, rfl, h, hs, q⟩
theorem r_ixL {p : Addr} {xs : List V} {i : Int} {v : V} (h : SqL K H p xs) (ha : atI xs i = some v) (q : Q v H) : rIxL K (.ref p) (.int i) H Q := ⟨p, xs, i, v, rfl, rfl, h, ha, q⟩
theorem r_ixT {p : Addr} {xs : List V} {i : Int} {v : V} (h : SqT K H p xs) (ha : atI xs i = some v) (q : Q v H) : rIxT K (.ref p) (.int i) H Q := ⟨p, xs, i, v, rfl, rfl, h, ha, q⟩
theorem r_int {i : Int} {A : Int → Prop} {B : Prop} (q : A i) : (∃ j, [V.int i] = [V.int j] ∧ A j) ∨ B := .inl ⟨i, rfl, q⟩
theorem r_lenL {p : Addr} {xs : List V} {A : Addr → List V → Prop} (h : SqL K H p xs) (q : A p xs) : ∃ p' ys, [V.ref p] = [V.ref p'] ∧ (SqL K H p' ys ∨ SqT K H p' ys) ∧ A p' ys := ⟨p, xs, rfl, .inl h, q⟩
theorem r_lenT {p : Addr} {xs : List V} {A : Addr → List V → Prop} (h : SqT K H p xs) (q : A p xs) : ∃ p' ys, [V.ref p] = [V.ref p'] ∧ (SqL K H p' ys ∨ SqT K H p' ys) ∧ A p' ys := ⟨p, xs, rfl, .inr h, q⟩
theorem r_i2 {i j : Int} {A : Int → Int → Prop} (q : A i j) : ∃ i' j', [V.int i, V.int j] = [V.int i', V.int j'] ∧ A i' j' := ⟨i, j, rfl, q⟩
theorem r_i1 {i : Int} {A : Int → Prop} (q : A i) : ∃ i', [V.int i] = [V.int i'] ∧ A i' := ⟨i, rfl, q⟩
theorem r_ite {p A B : Prop} [Decidable p] (h1 : p → A) (h2 : ¬ p → B) : if decide p = true then A else B := by
  by_cases h : p
  · rw [if_pos (decide_eq_true h)]
    exact h1 h
  · rw [if_neg (by simp [h])]
    exact h2 h
theorem r_iteN {p A B : Prop} [Decidable p] (h1 : ¬ p → A) (h2 : p → B) : if (!decide p) = true then A else B := by
  by_cases h : p
  · rw [if_neg (by simp [h])]
    exact h2 h
  · rw [if_pos (by simp [h])]
    exact h1 h
theorem r_iteB {b : Bool} {A B : Prop} (h1 : b = true → A) (h2 : b = false → B) : if b = true then A else B := by
  cases b
  · exact h2 rfl
  · exact h1 rfl
/-! ### loops -/
theorem r_rng1 {j : Int} {A : Int → Prop} (h1 : -(2 ^ 62) ≤ j) (h2 : j < 2 ^ 62) (h : A j) : ∃ j' : Int, [V.int j] = [V.int j'] ∧ -(2 ^ 62) ≤ j' ∧ j' < 2 ^ 62 ∧ A j' := ⟨j, rfl, h1, h2, h⟩
theorem r_rng2 {i j : Int} {A : Int → Int → Prop} (h1 : -(2 ^ 62) ≤ i ∧ i < 2 ^ 62 ∧ -(2 ^ 62) ≤ j ∧ j < 2 ^ 62) (h : A i j) : ∃ i' j' : Int, [V.int i, V.int j] = [V.int i', V.int j'] ∧ (-(2 ^ 62) ≤ i' ∧ i' < 2 ^ 62 ∧ -(2 ^ 62) ≤ j' ∧ j' < 2 ^ 62) ∧ A i' j' := ⟨i, j, rfl, h1, h⟩
theorem r_sl {r : V → Option Int → Option Int → Hp → VK → Prop} {tl th : TO} (h : te σ H fun x H1 => tl σ H1 fun l H2 => th σ H2 fun u H3 => r x l u H3 Q) : tSl r te tl th σ H Q := h
theorem r_noPart {q : Option Int → Hp → Prop} (h : q none H) : tNoPart σ H q := h
theorem r_part {q : Option Int → Hp → Prop} (h : te σ H fun x H1 => ∃ i, x = .int i ∧ q (some i) H1) : tPart te σ H q := h
theorem r_int1 {i : Int} {A : Int → Prop} (h : A i) : ∃ j, V.int i = .int j ∧ A j := ⟨i, rfl, h⟩
theorem r_slT {a : Addr} {xs : List V} {lo hi : Option Int} (h : SqT K H a xs) (hn : ¬ (HT.sIx xs.length 0 lo = 0 ∧ HT.sIx xs.length xs.length hi = xs.length)) (q : ∀ p, H p = none → Q (.ref p) (upd H p (.tup (cutV xs lo hi)))) : rSlT K (.ref a) lo hi H Q := ⟨a, xs, rfl, h, hn, q⟩
theorem r_slL {a : Addr} {xs : List V} {lo hi : Option Int} (h : SqL K H a xs) (q : ∀ p, H p = none → Q (.ref p) (upd H p (.lst (cutV xs lo hi)))) : rSlL K (.ref a) lo hi H Q := ⟨a, xs, rfl, h, q⟩
theorem r_tru {K : PySem.W.Frag} {q : Bool → Hp → Prop} (h : te σ H fun x H' => ∃ k, TruV K x H' k ∧ q k H') : tTru K te σ H q := h
theorem r_truL {p : Addr} {xs : List V} {q : Bool → Prop} (h : SqL K H p xs) (a : q (!xs.isEmpty)) : ∃ k, TruV K (.ref p) H k ∧ q k := ⟨_, .inl ⟨xs, h, rfl⟩, a⟩
/-- a walk: each turn leads on or there is none left; R goes down in its second place -/
def WkH (J : It) (Fin : Hp → Prop) (Turns : V → Hp → (Hp → Prop) → Prop) (h₀ : Hp) : Prop :=
  ∃ R : Nat → Nat → Hp → Prop, (∃ c, R 0 c h₀) ∧ ∀ i c h, R i c h → (J.stop i h ∧ Fin h) ∨ (J.go i h ∧ ∃ B : Hp → Prop, (∀ h', B h' → ∃ c', c' < c ∧ R (i + 1) c' h') ∧ ∀ y h', J.yld i h y h' → Turns y h' B)
/-- the same, with slots -/
def WkS (J : It) (Fin : St → Hp → Prop) (Turns : V → St → Hp → (St → Hp → Prop) → Prop) (s₀ : St) (h₀ : Hp) : Prop :=
  ∃ R : Nat → Nat → St → Hp → Prop, (∃ c, R 0 c s₀ h₀) ∧ ∀ i c s h, R i c s h → (J.stop i h ∧ Fin s h) ∨ (J.go i h ∧ ∃ B : St → Hp → Prop, (∀ s' h', B s' h' → ∃ c', c' < c ∧ R (i + 1) c' s' h') ∧ ∀ y h', J.yld i h y h' → Turns y s h' B)
/-- a walk of n turns: P i holds ahead of the i-th one -/
theorem walkH {J : It} {n : Nat} {h₀ : Hp} {Fin : Hp → Prop} {Turns : V → Hp → (Hp → Prop) → Prop} (P : Nat → Hp → Prop) (start : P 0 h₀) (last : ∀ h, P n h → J.stop n h ∧ Fin h)
    (next : ∀ i h, i < n → P i h → J.go i h ∧ ∀ y h', J.yld i h y h' → Turns y h' (P (i + 1))) : WkH J Fin Turns h₀ := by
  refine ⟨fun i c h => i ≤ n ∧ i + c = n ∧ P i h, ⟨n, Nat.zero_le n, Nat.zero_add n, start⟩, ?_⟩
  rintro i c h ⟨le, sum, p⟩
  rcases Nat.lt_or_ge i n with lt | ge
  · obtain ⟨g, turns⟩ := next i h lt p
    exact Or.inr ⟨g, P (i + 1), fun h' p' => ⟨c - 1, by omega, lt, by omega, p'⟩, turns⟩
  · obtain rfl : i = n := by omega
    exact Or.inl (last h p)
theorem walkS {J : It} {n : Nat} {s₀ : St} {h₀ : Hp} {Fin : St → Hp → Prop} {Turns : V → St → Hp → (St → Hp → Prop) → Prop} (P : Nat → St → Hp → Prop) (start : P 0 s₀ h₀) (last : ∀ s h, P n s h → J.stop n h ∧ Fin s h)
    (next : ∀ i s h, i < n → P i s h → J.go i h ∧ ∀ y h', J.yld i h y h' → Turns y s h' (P (i + 1))) : WkS J Fin Turns s₀ h₀ := by
  refine ⟨fun i c s h => i ≤ n ∧ i + c = n ∧ P i s h, ⟨n, Nat.zero_le n, Nat.zero_add n, start⟩, ?_⟩
  rintro i c s h ⟨le, sum, p⟩
  rcases Nat.lt_or_ge i n with lt | ge
  · obtain ⟨g, turns⟩ := next i s h lt p
    exact Or.inr ⟨g, P (i + 1), fun s' h' p' => ⟨c - 1, by omega, lt, by omega, p'⟩, turns⟩
  · obtain rfl : i = n := by omega
    exact Or.inl (last s h p)
/-- over a range -/
theorem w_range {lo : Int} {n : Nat} {H0 : Hp} {Qd : Hp → Prop} {Body : V → Hp → (Hp → Prop) → Prop} (P : Nat → Hp → Prop) (start : P 0 H0) (hs : ∀ i H, i < n → P i H → Body (.int (lo + i)) H (P (i + 1))) (hd : ∀ H, P n H → Qd H) : WkH (Itr lo n) Qd Body H0 :=
  walkH P start (fun h p => And.intro (Nat.le_refl n) (hd h p)) fun i h lt p => And.intro lt fun y h' yl => by
    rcases yl with ⟨ey, eh⟩
    rw [ey, eh]
    exact hs i h lt p
/-- over a list -/
theorem w_list {K : PySem.W.Frag} {a : Addr} {xs : List V} {H0 : Hp} {Qd : Hp → Prop} {Body : V → Hp → (Hp → Prop) → Prop} (P : Nat → Hp → Prop) (start : P 0 H0) (hl : ∀ i H, i ≤ xs.length → P i H → SqL K H a xs) (hs : ∀ i x H, xs[i]? = some x → P i H → Body x H (P (i + 1))) (hd : ∀ H, P xs.length H → Qd H) : WkH (Itl K a) Qd Body H0 :=
  walkH P start (fun h p => And.intro ⟨xs, hl _ h (Nat.le_refl _) p, Nat.le_refl _⟩ (hd h p)) fun i h lt p => And.intro ⟨xs, xs[i], hl i h (Nat.le_of_lt lt) p, List.getElem?_eq_getElem lt⟩ fun y h' yl => by
    rcases yl with ⟨eh, at_⟩
    rw [eh]
    exact hs i y h (at_ xs (hl i h (Nat.le_of_lt lt) p)) p
theorem r_forS {wi : TI} {g : TG} {tb : TS} (h : wi σ H fun J h1 => WkS J D.nx (fun y s h2 B => g y s h2 (tb { D with nx := B, ct := B, bk := D.nx })) σ h1) : tFor wi g tb D σ H := h
theorem r_lc {wi : TI} {g : TG} {tt : TT} {vs : List Nat} (h : wi σ H fun J h1 => ∀ D, h1 D = none → WkH J (fun h2 => Q (.ref D) h2) (fun y h2 B => g y (wipe σ vs) h2 fun s h3 => wipe s vs = wipe σ vs ∧ tt s h3 fun b h4 => if b = true then te s h4 fun z h5 => ∃ acc, h5 D = some (.lst acc) ∧ acc.length < sizeLine ∧ B (upd h5 D (.lst (acc ++ [z]))) else B h4) (upd h1 D (.lst []))) :
    tLc wi g tt te vs σ H Q := h
theorem r_lc2 {wi : TI} {g : TG} {tt : TT} {wi1 : TI} {g1 : TG} {tt1 : TT} {vs vs1 : List Nat} (h : wi σ H fun J h1 => ∀ D, h1 D = none → WkH J (fun h2 => Q (.ref D) h2) (fun y h2 B => g y (wipe σ vs) h2 fun s h3 => wipe s vs = wipe σ vs ∧ tt s h3 fun b h4 =>
      if b = true then wi1 s h4 fun J1 h5 => WkH J1 B (fun y1 h6 B1 => g1 y1 (wipe s vs1) h6 fun s1 h7 => wipe s1 vs1 = wipe s vs1 ∧ tt1 s1 h7 fun b1 h8 => if b1 = true then te s1 h8 fun z h9 => ∃ acc, h9 D = some (.lst acc) ∧ acc.length < sizeLine ∧ B1 (upd h9 D (.lst (acc ++ [z]))) else B1 h8) h5 else B h4) (upd h1 D (.lst []))) :
    tLc2 wi g tt wi1 g1 tt1 te vs vs1 σ H Q := h
theorem r_ckw {r : List V → List V → Hp → VK → Prop} {ts tk : TA} (h : ts σ H fun vs H1 => tk σ H1 fun zs H2 => r vs zs H2 Q) : tCKw r ts tk σ H Q := h
theorem r_iR1 {tA : TA} {R : It → Hp → Prop} (h : tA σ H fun vs H1 => ∃ j : Int, vs = [V.int j] ∧ -(2 ^ 62) ≤ j ∧ j < 2 ^ 62 ∧ R (Itr 0 j.toNat) H1) : iRng1 tA σ H R := h
theorem r_iR2 {tA : TA} {R : It → Hp → Prop} (h : tA σ H fun vs H1 => ∃ i j : Int, vs = [V.int i, V.int j] ∧ (-(2 ^ 62) ≤ i ∧ i < 2 ^ 62 ∧ -(2 ^ 62) ≤ j ∧ j < 2 ^ 62) ∧ R (Itr i (j - i).toNat) H1) : iRng2 tA σ H R := h
theorem r_iL {tl : TE} {R : It → Hp → Prop} (h : tl σ H fun x H1 => ∃ a, x = V.ref a ∧ (∃ xs, SqL K H1 a xs) ∧ R (Itl K a) H1) : iList K tl σ H R := h
theorem r_iL2 {a : Addr} {xs : List V} {A : Addr → Prop} (h : SqL K H a xs) (q : A a) : ∃ a', V.ref a = V.ref a' ∧ (∃ xs, SqL K H a' xs) ∧ A a' := ⟨a, rfl, ⟨xs, h⟩, q⟩
end
theorem at_int {ns : List Int} {i : Int} (h0 : 0 ≤ i) (h1 : i < (ns.length : Int)) : atI (ns.map V.int) i = some (.int (ns.getD i.toNat 0)) := by
  obtain ⟨j, rfl⟩ : ∃ j : Nat, i = (j : Int) := ⟨i.toNat, by omega⟩
  have hj : j < ns.length := by omega
  refine atI_nat ?_
  rw [List.getElem?_map, List.getElem?_eq_getElem hj, Int.toNat_natCast, List.getD_eq_getElem?_getD, List.getElem?_eq_getElem hj]
  rfl
/-! ### heaps -/
theorem same_upd {H : Hp} {p : Addr} {o : HO} (new : H p = none) : Same H (upd H p o) := fun a u at_ => (upd_ne (ne_of_none at_ new)).trans at_
/-- all that is tracked is as it was, but what stands at b -/
def But (b : Addr) (H H' : Hp) : Prop := ∀ a o, a ≠ b → H a = some o → H' a = some o
theorem But.refl (b : Addr) (H : Hp) : But b H H := fun _ _ _ h => h
theorem But.trans {b : Addr} {H H1 H2 : Hp} (x : But b H H1) (y : But b H1 H2) : But b H H2 := fun a o n e => y a o n (x a o n e)
theorem But.of {b : Addr} {H H' : Hp} (x : Same H H') : But b H H' := fun a o _ e => x a o e
theorem But.upd {b : Addr} {H : Hp} {o : HO} : But b H (upd H b o) := fun a u n e => by rw [upd_ne n]; exact e
theorem But.same {b : Addr} {H H' : Hp} {o : HO} (x : But b H H') (h : H b = some o) (h' : H' b = some o) : Same H H' := fun a u e => by
  by_cases q : a = b
  · rw [q, h] at e
    rw [q, h']
    exact e
  · exact x a u q e
/-- from outside, what is made and then changed was never there -/
theorem But.new {b : Addr} {H0 H H' : Hp} (x : But b H H') (n : H0 b = none) (s : Same H0 H) : Same H0 H' := fun a u e => x a u (ne_of_none e n) (s a u e)
theorem But.seq {K : PySem.W.Frag} {b : Addr} {H H' : Hp} {a : Addr} {xs : List V} (e : But b H H') (n : a ≠ b) (h : SqL K H a xs) : SqL K H' a xs := by
  rcases h with (z | ⟨u, z⟩) | z
  · exact .inl (.inl (e _ _ n z))
  · exact .inl (.inr ⟨u, e _ _ n z⟩)
  · exact .inr z
theorem But.free {b : Addr} {H H' : Hp} {o : HO} (e : But b H H') (hb : H' b = some o) {l : Addr} (h : H' l = Option.none) : H l = Option.none := by
  cases q : H l with
  | none => rfl
  | some u =>
    by_cases n : l = b
    · rw [n, hb] at h
      cases h
    · rw [e l u n q] at h
      cases h
/-! ### the box of draws: [digits, the next one's place] -/
def Bx (H : Hp) (b d : Addr) : Prop := ∃ (ds : List Int) (at_ : Nat), H b = some (.lst [.ref d, .int at_]) ∧ H d = some (.lst (ds.map V.int)) ∧ d ≠ b
section
variable {H H' : Hp} {b d a p : Addr}
theorem Bx.same (h : Bx H b d) (s : Same H H') : Bx H' b d := let ⟨ds, k, e1, e2, n⟩ := h; ⟨ds, k, s _ _ e1, s _ _ e2, n⟩
theorem Bx.but (h : Bx H b d) (s : But p H H') (nb : p ≠ b) (nd : p ≠ d) : Bx H' b d := let ⟨ds, k, e1, e2, n⟩ := h; ⟨ds, k, s _ _ nb.symm e1, s _ _ nd.symm e2, n⟩
theorem Bx.ne (h : Bx H b d) (n : H a = none) : a ≠ b := let ⟨_, _, e, _⟩ := h; fun q => by rw [q, e] at n; cases n
theorem Bx.neD (h : Bx H b d) (n : H a = none) : a ≠ d := let ⟨_, _, _, e, _⟩ := h; fun q => by rw [q, e] at n; cases n
theorem Bx.neT {xs : List V} (h : Bx H b d) (n : H a = some (.tup xs)) : a ≠ b := let ⟨_, _, e, _⟩ := h; fun q => by rw [q, e] at n; cases n
theorem Bx.free (h : Bx H' b d) (e : But b H H') (n : H' a = none) : H a = none := let ⟨_, _, q, _⟩ := h; e.free q n
end
/-! ### the rules that change the heap, the new heap a letter -/
section
variable {K : PySem.W.Frag} {σ : St} {H : Hp} {Q : VK}
theorem r_setL {p : Addr} {xs : List V} {k : Int} {j : Nat} {v : V} {q : Hp → Prop} (h1 : H p = some (.lst xs)) (h2 : ixN xs.length k = some j) (h : ∀ H', H' p = some (.lst (xs.set j v)) → But p H H' → q H') : rSetL (.ref p) (.int k) v H q :=
  ⟨p, xs, k, j, rfl, rfl, h1, h2, h _ upd_same But.upd⟩
theorem r_app {p : Addr} {xs : List V} {y : V} (h : H p = some (.lst xs)) (hs : xs.length < sizeLine) (q : ∀ H', H' p = some (.lst (xs ++ [y])) → But p H H' → Q .non H') : rAppend (.ref p) [y] H Q := ⟨p, xs, y, rfl, rfl, h, hs, q _ upd_same But.upd⟩
@[elab_as_elim] theorem upd_new {p : Addr} {o : HO} {motive : Hp → Prop} (np : H p = none) (h : ∀ H', H' p = some o → Same H H' → motive H') : motive (upd H p o) := h _ upd_same (same_upd np)
end
theorem drop_get {α : Type} {xs : List α} {i : Nat} {x : α} (h : xs[i]? = some x) : xs.drop i = x :: xs.drop (i + 1) := by
  obtain ⟨hi, rfl⟩ := List.getElem?_eq_some_iff.mp h
  exact List.drop_eq_getElem_cons hi
theorem r_cat {H : Hp} {Q : VK} {l b : Addr} {xs zs : List V} (h1 : H l = some (.lst xs)) (h2 : H b = some (.lst zs)) (hs : xs.length + zs.length ≤ sizeLine) (q : ∀ p, H p = none → Q (.ref p) (upd H p (.lst (xs ++ zs)))) : rCat (.ref l) (.ref b) H Q :=
  ⟨l, b, xs, zs, rfl, rfl, h1, h2, hs, q⟩
/-! ### lists of tuples -/
section
variable {α : Type}
/-- at ts stand tuples, f of the xs -/
def TL (f : α → List V) (H : Hp) (ts : List Addr) (xs : List α) : Prop := ts.length = xs.length ∧ ∀ (i : Nat) (t : Addr), ts[i]? = some t → ∃ x, xs[i]? = some x ∧ H t = some (.tup (f x))
/-- at a stands a list of tuples, f of the xs -/
def LT (f : α → List V) (H : Hp) (a : Addr) (xs : List α) : Prop := ∃ ts : List Addr, H a = some (.lst (ts.map V.ref)) ∧ TL f H ts xs
variable {f : α → List V} {H H' : Hp} {ts : List Addr} {xs : List α} {a b : Addr}
theorem TL.nil : TL f H [] ([] : List α) := ⟨rfl, fun i t h => by simp at h⟩
theorem TL.same (h : TL f H ts xs) (s : Same H H') : TL f H' ts xs := ⟨h.1, fun i t e => let ⟨x, e1, e2⟩ := h.2 i t e; ⟨x, e1, s _ _ e2⟩⟩
theorem TL.but {o : List V} (h : TL f H ts xs) (s : But b H H') (hb : H b = some (.lst o)) : TL f H' ts xs := ⟨h.1, fun i t e => let ⟨x, e1, e2⟩ := h.2 i t e; ⟨x, e1, s _ _ (ne_of e2 hb (by intro z; cases z)) e2⟩⟩
theorem TL.snoc {t : Addr} {x : α} (h : TL f H ts xs) (ht : H t = some (.tup (f x))) : TL f H (ts ++ [t]) (xs ++ [x]) := by
  refine ⟨by rw [List.length_append, List.length_append, h.1]; rfl, fun i u e => ?_⟩
  by_cases hi : i < ts.length
  · rw [List.getElem?_append_left hi] at e
    obtain ⟨y, e1, e2⟩ := h.2 i u e
    exact ⟨y, by rw [List.getElem?_append_left (by rw [← h.1]; exact hi)]; exact e1, e2⟩
  · rw [List.getElem?_append_right (by omega)] at e
    have hi0 : i - ts.length = 0 := by
      by_cases q : i - ts.length = 0
      · exact q
      · rw [List.getElem?_eq_none (by simp; omega)] at e
        cases e
    rw [hi0] at e
    have e' : t = u := Option.some.inj e
    subst e'
    exact ⟨x, by rw [List.getElem?_append_right (by rw [← h.1]; omega), ← h.1, hi0]; rfl, ht⟩
theorem TL.get (h : TL f H ts xs) {i : Nat} {x : α} (e : xs[i]? = some x) : ∃ t, ts[i]? = some t ∧ H t = some (.tup (f x)) := by
  have hi : i < ts.length := by rw [h.1]; exact (List.getElem?_eq_some_iff.mp e).1
  obtain ⟨y, e1, e2⟩ := h.2 i _ (List.getElem?_eq_getElem hi)
  rw [e] at e1
  cases e1
  exact ⟨_, List.getElem?_eq_getElem hi, e2⟩
/-- an item of the list, read -/
theorem TL.at (h : TL f H ts xs) {i : Int} (h0 : 0 ≤ i) (h1 : i < (xs.length : Int)) : ∃ x t, xs[i.toNat]? = some x ∧ atI (ts.map V.ref) i = some (.ref t) ∧ H t = some (.tup (f x)) := by
  have hi : i.toNat < xs.length := by omega
  obtain ⟨t, e1, e2⟩ := h.get (List.getElem?_eq_getElem hi)
  refine ⟨_, t, List.getElem?_eq_getElem hi, ?_, e2⟩
  have e : i = ((i.toNat : Nat) : Int) := by omega
  rw [e]
  refine atI_nat ?_
  rw [List.getElem?_map, e1]
  rfl
theorem snoc_of {β : Type} : ∀ {l : List β}, l ≠ [] → ∃ G g, l = G ++ [g]
  | [], h => absurd rfl h
  | [x], _ => ⟨[], x, rfl⟩
  | x :: y :: r, _ => by
    obtain ⟨G, g, e⟩ := snoc_of (l := y :: r) (by simp)
    exact ⟨x :: G, g, by rw [e]; rfl⟩
theorem TL.unsnoc {ys : List α} {y : α} (h : TL f H ts (ys ++ [y])) : ∃ (ts0 : List Addr) (tl : Addr), ts = ts0 ++ [tl] ∧ TL f H ts0 ys ∧ H tl = some (.tup (f y)) := by
  have hl := h.1
  simp only [List.length_append, List.length_cons, List.length_nil] at hl
  obtain ⟨ts0, tl, rfl⟩ : ∃ ts0 tl, ts = ts0 ++ [tl] := by
    have hne : ts ≠ [] := by intro e; rw [e] at hl; simp at hl
    exact snoc_of hne
  simp only [List.length_append, List.length_cons, List.length_nil] at hl
  have hl' : ts0.length = ys.length := by omega
  refine ⟨ts0, tl, rfl, ⟨hl', fun i t e => ?_⟩, ?_⟩
  · have hi := (List.getElem?_eq_some_iff.mp e).1
    obtain ⟨x, e1, e2⟩ := h.2 i t (by rw [List.getElem?_append_left hi]; exact e)
    rw [List.getElem?_append_left (by omega)] at e1
    exact ⟨x, e1, e2⟩
  · obtain ⟨x, e1, e2⟩ := h.2 ts0.length tl (by rw [List.getElem?_append_right (Nat.le_refl _), Nat.sub_self]; rfl)
    rw [hl', List.getElem?_append_right (Nat.le_refl _), Nat.sub_self] at e1
    have e1' : y = x := Option.some.inj e1
    rw [e1']
    exact e2
theorem ixN_last (n : Nat) : ixN (n + 1) (-1) = some n := by
  unfold ixN
  rw [if_neg (by omega), if_pos (by omega)]
  congr 1
  omega
theorem set_last (ts : List Addr) (a b : Addr) : ((ts ++ [a]).map V.ref).set ts.length (V.ref b) = (ts ++ [b]).map V.ref := by
  rw [List.map_append, List.map_append, List.set_append_right _ _ (by rw [List.length_map]; exact Nat.le_refl _), List.length_map, Nat.sub_self]
  rfl
theorem TL.len (h : TL f H ts xs) : (ts.map V.ref).length = xs.length := by rw [List.length_map, h.1]
theorem LT.same (h : LT f H a xs) (s : Same H H') : LT f H' a xs := let ⟨ts, e, q⟩ := h; ⟨ts, s _ _ e, q.same s⟩
theorem LT.but {o : List V} (h : LT f H a xs) (s : But b H H') (hb : H b = some (.lst o)) (n : a ≠ b) : LT f H' a xs := let ⟨ts, e, q⟩ := h; ⟨ts, s _ _ n e, q.but s hb⟩
theorem TL.box (h : TL f H ts xs) (s : But b H H') {d : Addr} (B : Bx H b d) : TL f H' ts xs := let ⟨_, _, e, _⟩ := B; h.but s e
theorem LT.box (h : LT f H a xs) (s : But b H H') {d : Addr} (B : Bx H b d) (n : a ≠ b) : LT f H' a xs := let ⟨_, _, e, _⟩ := B; h.but s e n
end
/-- a block -/
@[reducible] def bV (b : Int × Int) : List V := [.int b.1, .int b.2]
theorem menu {ns : List Int} {r : Int} (h0 : 0 ≤ r) (h1 : r < (ns.length : Int)) : ∃ v, v ∈ ns ∧ atI (ns.map V.int) r = some (.int v) := by
  refine ⟨ns.getD r.toNat 0, ?_, at_int h0 h1⟩
  have hi : r.toNat < ns.length := by omega
  simp only [List.getD_eq_getElem?_getD]
  rw [List.getElem?_eq_getElem hi]
  exact List.getElem_mem hi
/-! ### isinstance -/
section
variable {K : PySem.W.Frag} {H : Hp} {Q : VK}
theorem r_isi {x : V} {t T : String} {b : Bool} (ty : TyOf K H x (.type t)) (e : kitB t T = some b) (q : Q (.bl b) H) : rIsi K [x, .ty T] H Q := ⟨x, _, _, _, b, rfl, .ty T, .base ty, kit_ty e, q⟩
theorem kit_bb : kitB "bool" "bool" = some true := by decide +kernel
theorem kit_ii : kitB "int" "int" = some true := by decide +kernel
theorem kit_ib : kitB "int" "bool" = some false := by decide +kernel
theorem kit_bi : kitB "bool" "int" = some true := by decide +kernel
theorem kit_nb : kitB "NoneType" "bool" = some false := by decide +kernel
theorem kit_nt : kitB "NoneType" "tuple" = some false := by decide +kernel
theorem kit_ll : kitB "list" "list" = some true := by decide +kernel
theorem kit_tt : kitB "tuple" "tuple" = some true := by decide +kernel
theorem kit_ss : kitB "str" "str" = some true := by decide +kernel
theorem kit_lt : kitB "list" "tuple" = some false := by decide +kernel
theorem kit_tl : kitB "tuple" "list" = some false := by decide +kernel
theorem r_isi_ib {i : Int} (q : Q (.bl false) H) : rIsi K [.int i, .ty "bool"] H Q := r_isi (.int i) kit_ib q
theorem r_isi_ii {i : Int} (q : Q (.bl true) H) : rIsi K [.int i, .ty "int"] H Q := r_isi (.int i) kit_ii q
theorem r_isi_bb {i : Bool} (q : Q (.bl true) H) : rIsi K [.bl i, .ty "bool"] H Q := r_isi (.bl i) kit_bb q
theorem r_isi_nb (q : Q (.bl false) H) : rIsi K [.non, .ty "bool"] H Q := r_isi .non kit_nb q
theorem r_isi_nt (q : Q (.bl false) H) : rIsi K [.non, .ty "tuple"] H Q := r_isi .non kit_nt q
theorem r_isi_ll {a : Addr} {xs : List V} (e : H a = some (.lst xs)) (q : Q (.bl true) H) : rIsi K [.ref a, .ty "list"] H Q := r_isi (.lst e) kit_ll q
theorem r_isi_tt {a : Addr} {xs : List V} (e : H a = some (.tup xs)) (q : Q (.bl true) H) : rIsi K [.ref a, .ty "tuple"] H Q := r_isi (.tup e) kit_tt q
end
theorem ite_notT {A B : Prop} (h : B) : if (!true) = true then A else B := h
theorem ite_notF {A B : Prop} (h : A) : if (!false) = true then A else B := h
/-! ### data at any depth -/
class Enc (α : Type) [DecidableEq α] where
  enc : α → PyData
  dep : Nat
  lay : ∀ x, (enc x).canLay0 = true
  dle : ∀ x, (enc x).depth ≤ dep
  eqv : ∀ x y, PyData.eqv (enc x) (enc y) = decide (x = y)
open Enc (enc)
instance encInt : Enc Int := ⟨.int, 0, fun _ => rfl, fun _ => Nat.le_refl _, fun x y => by rw [PyData.eqv]; exact Bool.beq_eq_decide_eq x y⟩
instance encBool : Enc Bool := ⟨.bool, 0, fun _ => rfl, fun _ => Nat.le_refl _, fun x y => by rw [PyData.eqv]; exact Bool.beq_eq_decide_eq x y⟩
theorem layAll {α : Type} [DecidableEq α] [Enc α] : ∀ xs : List α, PyData.canLayAll0 (xs.map enc) = true
  | [] => rfl
  | x :: xs => by rw [List.map_cons, PyData.canLayAll0, Enc.lay x, layAll xs]; rfl
theorem depAll {α : Type} [DecidableEq α] [Enc α] : ∀ xs : List α, PyData.depthAll (xs.map enc) ≤ Enc.dep α
  | [] => by rw [List.map_nil, PyData.depthAll]; exact Nat.zero_le _
  | x :: xs => by
    have h1 := depAll xs
    have h2 := Enc.dle x
    rw [List.map_cons]
    rw [PyData.depthAll]
    omega
theorem eqvAll {α : Type} [DecidableEq α] [Enc α] : ∀ xs ys : List α, PyData.eqvAll (xs.map enc) (ys.map enc) = decide (xs = ys)
  | .nil, .nil => by rw [List.map_nil, PyData.eqvAll]; exact (decide_eq_true rfl).symm
  | .nil, .cons b m => by simp [PyData.eqvAll, List.map_cons]
  | .cons a l, .nil => by simp [PyData.eqvAll, List.map_cons]
  | x :: xs, y :: ys => by
    rw [List.map_cons, List.map_cons, PyData.eqvAll, Enc.eqv, eqvAll xs ys]
    by_cases h : x = y <;> by_cases h' : xs = ys <;> simp [h, h']
instance encList {α : Type} [DecidableEq α] [Enc α] : Enc (List α) := ⟨fun xs => .list (xs.map enc), Enc.dep α + 1, fun xs => by rw [PyData.canLay0]; exact layAll xs,
  fun xs => by have := depAll xs; rw [PyData.depth]; omega, fun xs ys => by rw [PyData.eqv]; exact eqvAll xs ys⟩
instance encPair {α β : Type} [DecidableEq α] [DecidableEq β] [Enc α] [Enc β] : Enc (α × β) := ⟨fun x => .tuple [enc x.1, enc x.2], max (Enc.dep α) (Enc.dep β) + 1,
  fun x => by rw [PyData.canLay0, PyData.canLayAll0, PyData.canLayAll0, PyData.canLayAll0, Enc.lay, Enc.lay]; rfl,
  fun x => by
    have h1 := Enc.dle x.1
    have h2 := Enc.dle x.2
    rw [PyData.depth, PyData.depthAll, PyData.depthAll, PyData.depthAll]
    omega,
  fun x y => by
    rw [PyData.eqv, PyData.eqvAll, PyData.eqvAll, PyData.eqvAll, Enc.eqv, Enc.eqv]
    obtain ⟨a, b⟩ := x
    obtain ⟨c, d⟩ := y
    by_cases h : a = c <;> by_cases h' : b = d <;> simp [h, h']⟩
theorem shapedE {α : Type} [DecidableEq α] [Enc α] (hd : Enc.dep α ≤ 64) (x : α) : SeqAt.shaped (enc x) = true := by
  have h := Enc.dle x
  show ((enc x).canLay0 && decide ((enc x).depth ≤ 64)) = true
  rw [Bool.and_eq_true]
  exact ⟨Enc.lay x, decide_eq_true (by omega)⟩
theorem Same.sqT {K : PySem.W.Frag} {H H' : Hp} {a : Addr} {xs : List V} (e : Same H H') (h : SqT K H a xs) : SqT K H' a xs := by
  rcases h with (z | ⟨u, z⟩) | z
  · exact .inl (.inl (e _ _ z))
  · exact .inl (.inr ⟨u, e _ _ z⟩)
  · exact .inr z
mutual
theorem Dp.same {K : PySem.W.Frag} {H H' : Hp} (s : Same H H') : ∀ (d : PyData) (v : V), Dp K H v d → Dp K H' v d
  | .none, _, h => by cases h; exact .non
  | .bool b, _, h => by cases h; exact .bl b
  | .int i, _, h => by cases h; exact .int i
  | .str x, _, h => by cases h; exact .str x
  | .list ds, _, h => by
    cases h with
    | lst a b => exact .lst (s.seq a) (DpAll.same s ds _ b)
  | .tuple ds, _, h => by
    cases h with
    | tup a b => exact .tup (Same.sqT s a) (DpAll.same s ds _ b)
  | .dict _, _, h => by cases h
theorem DpAll.same {K : PySem.W.Frag} {H H' : Hp} (s : Same H H') : ∀ (ds : List PyData) (vs : List V), DpAll K H vs ds → DpAll K H' vs ds
  | [], _, h => by cases h; exact .nil
  | d :: ds, _, h => by
    cases h with
    | cons a b => exact .cons (Dp.same s d _ a) (DpAll.same s ds _ b)
end
/-- the value v is the datum x -/
def Is {α : Type} [DecidableEq α] [Enc α] (K : PySem.W.Frag) (H : Hp) (v : V) (x : α) : Prop := Dp K H v (enc x)
section
variable {K : PySem.W.Frag} {H H' : Hp} {Q : VK}
theorem Is.same {α : Type} [DecidableEq α] [Enc α] {v : V} {x : α} (h : Is K H v x) (s : Same H H') : Is K H' v x := Dp.same s _ _ h
theorem is_int {i : Int} : Is K H (.int i) i := .int i
theorem is_bl {i : Bool} : Is K H (.bl i) i := .bl i
theorem dpAll_ints : ∀ ns : List Int, DpAll K H (ns.map V.int) (ns.map enc)
  | [] => .nil
  | n :: ns => .cons (.int n) (dpAll_ints ns)
theorem is_ints {a : Addr} {ns : List Int} (h : SqL K H a (ns.map V.int)) : Is K H (.ref a) ns := .lst h (dpAll_ints ns)
theorem is_pair {α β : Type} [DecidableEq α] [DecidableEq β] [Enc α] [Enc β] {a : Addr} {u v : V} {x : α} {y : β} (h : SqT K H a [u, v]) (h1 : Is K H u x) (h2 : Is K H v y) : Is K H (.ref a) (x, y) := .tup h (.cons h1 (.cons h2 .nil))
theorem TL.dp : ∀ {ts : List Addr} {bs : List (Int × Int)}, TL bV H ts bs → DpAll K H (ts.map V.ref) (bs.map enc)
  | [], [], _ => .nil
  | [], _ :: _, h => by have := h.1; simp at this
  | _ :: _, [], h => by have := h.1; simp at this
  | t :: ts, b :: bs, h => by
    obtain ⟨x, e1, e2⟩ := h.2 0 t rfl
    have e1' : b = x := Option.some.inj e1
    subst e1'
    refine .cons (is_pair (SqT.of e2) is_int is_int) (TL.dp ⟨by have := h.1; simpa using this, fun i t' e => ?_⟩)
    obtain ⟨x, e3, e4⟩ := h.2 (i + 1) t' (by simpa using e)
    exact ⟨x, by simpa using e3, e4⟩
theorem LT.is {a : Addr} {bs : List (Int × Int)} (h : LT bV H a bs) : Is K H (.ref a) bs := let ⟨_, e, t⟩ := h; .lst (SqL.of e) t.dp
theorem r_neE {α : Type} [DecidableEq α] [Enc α] {u v : V} {x y : α} (h1 : Is K H u x) (h2 : Is K H v y) (hd : Enc.dep α ≤ 64) (q : Q (.bl (!decide (x = y))) H) : rNeD K u v H Q :=
  ⟨_, _, h1, h2, shapedE hd x, shapedE hd y, by rw [Enc.eqv]; exact q⟩
theorem r_neSame {u v : V} {d : PyData} (h1 : Dp K H u d) (h2 : Dp K H v d) (hs : SeqAt.shaped d = true) (q : Q (.bl false) H) : rNeD K u v H Q :=
  ⟨_, _, h1, h2, hs, hs, by rw [SeqAt.eqv_refl d (SeqAt.canLay_of_shaped hs)]; exact q⟩
theorem r_eqSame {u v : V} {d : PyData} (h1 : Dp K H u d) (h2 : Dp K H v d) (hs : SeqAt.shaped d = true) (q : Q (.bl true) H) : rEqD K u v H Q :=
  ⟨_, _, h1, h2, hs, hs, by rw [SeqAt.eqv_refl d (SeqAt.canLay_of_shaped hs)]; exact q⟩
theorem first_at {β : Type} {x : β} : ∀ {xs : List β}, x ∈ xs → ∃ j : Nat, xs[j]? = some x ∧ ∀ m : Nat, m < j → xs[m]? ≠ some x
  | y :: xs, h => by
    by_cases e : y = x
    · exact ⟨0, by rw [e]; rfl, fun m hm => by omega⟩
    · obtain h | h := List.mem_cons.mp h
      · exact absurd h.symm e
      · obtain ⟨j, h1, h2⟩ := first_at h
        refine ⟨j + 1, by simpa using h1, fun m hm => ?_⟩
        cases m with
        | zero => intro q; exact e (Option.some.inj q)
        | succ m => have := h2 m (by omega); simpa using this
theorem r_indexE {α : Type} [DecidableEq α] [Enc α] {a : Addr} {y : V} {xs : List α} {x : α} (h1 : Is K H (.ref a) xs) (h2 : Is K H y x) (hd : Enc.dep α + 1 ≤ 64) (hm : x ∈ xs) (q : ∀ j : Nat, xs[j]? = some x → Q (.int j) H) : rIndexD K (.ref a) [y] H Q := by
  obtain ⟨j, e1, e2⟩ := first_at hm
  refine ⟨a, y, enc x, xs.map enc, j, enc x, rfl, rfl, h1, h2, shapedE (α := List α) hd xs, shapedE (by omega) x, by rw [List.getElem?_map, e1]; rfl, by rw [Enc.eqv]; simp, fun m z' hm' hz => ?_, q j e1⟩
  rw [List.getElem?_map] at hz
  obtain ⟨u, hu, rfl⟩ := Option.map_eq_some_iff.mp hz
  rw [Enc.eqv]
  exact decide_eq_false fun e => e2 m hm' (by rw [hu, e])
theorem r_eqE {α : Type} [DecidableEq α] [Enc α] {u v : V} {x y : α} (h1 : Is K H u x) (h2 : Is K H v y) (hd : Enc.dep α ≤ 64) (q : Q (.bl (decide (x = y))) H) : rEqD K u v H Q :=
  ⟨_, _, h1, h2, shapedE hd x, shapedE hd y, by rw [Enc.eqv]; exact q⟩
end
/-! ### valid layouts -/
def VL (size : Int) : Int → List (Int × Int) → Prop
  | e, [] => e ≤ size
  | e, (s, l) :: r => e ≤ s ∧ 1 ≤ l ∧ VL size (s + l) r
def endOf : Int → List (Int × Int) → Int
  | e, [] => e
  | _, (s, l) :: r => endOf (s + l) r
theorem VL.snoc {size s l : Int} : ∀ {bs : List (Int × Int)} {e : Int}, VL size e bs → endOf e bs ≤ s → 1 ≤ l → s + l ≤ size → VL size e (bs ++ [(s, l)])
  | [], e, h, h1, h2, h3 => ⟨h1, h2, h3⟩
  | (a, c) :: r, e, h, h1, h2, h3 => ⟨h.1, h.2.1, VL.snoc h.2.2 h1 h2 h3⟩
theorem endOf_snoc {s l : Int} : ∀ (bs : List (Int × Int)) (e : Int), endOf e (bs ++ [(s, l)]) = s + l
  | [], _ => rfl
  | (a, c) :: r, _ => endOf_snoc r (a + c)
theorem VL.end_le {size : Int} : ∀ {bs : List (Int × Int)} {e : Int}, VL size e bs → endOf e bs ≤ size
  | [], _, h => h
  | (s, l) :: r, _, h => VL.end_le (bs := r) (e := s + l) h.2.2
theorem VL.le_size {size : Int} : ∀ {bs : List (Int × Int)} {e : Int}, VL size e bs → e ≤ size
  | [], _, h => h
  | (s, l) :: r, e, h => by
    have := VL.le_size h.2.2
    have := h.1
    have := h.2.1
    omega
theorem VL.mem {size : Int} : ∀ {bs : List (Int × Int)} {e : Int}, VL size e bs → ∀ x ∈ bs, e ≤ x.1 ∧ 1 ≤ x.2 ∧ x.1 + x.2 ≤ size
  | (s, l) :: r, e, h, x, hx => by
    obtain rfl | hx := List.mem_cons.mp hx
    · exact ⟨h.1, h.2.1, h.2.2.le_size⟩
    · have := VL.mem h.2.2 x hx
      have h1 := h.1
      have h2 := h.2.1
      omega
theorem VL.pw {size : Int} : ∀ {bs : List (Int × Int)} {e : Int}, VL size e bs → bs.Pairwise (fun a b => a.1 + a.2 ≤ b.1)
  | [], _, _ => .nil
  | (s, l) :: r, e, h => List.pairwise_cons.mpr ⟨fun x hx => (VL.mem h.2.2 x hx).1, VL.pw h.2.2⟩
/-- the cell's value: one more than the index of its block, or 0 -/
def cellOf (at_ : Int) : Int → List (Int × Int) → Int
  | _, [] => 0
  | k, (s, l) :: r => if s ≤ at_ ∧ at_ < s + l then k + 1 else cellOf at_ (k + 1) r
def Covers (bs : List (Int × Int)) (at_ : Int) : Prop := ∃ x ∈ bs, x.1 ≤ at_ ∧ at_ < x.1 + x.2
theorem cellOf_zero {at_ : Int} : ∀ {bs : List (Int × Int)} {k : Int}, 0 ≤ k → (cellOf at_ k bs = 0 ↔ ¬ Covers bs at_)
  | [], k, _ => by simp [cellOf, Covers]
  | (s, l) :: r, k, hk => by
    unfold cellOf
    by_cases c : s ≤ at_ ∧ at_ < s + l
    · rw [if_pos c]
      constructor
      · intro h; omega
      · intro h; exact absurd ⟨(s, l), List.mem_cons_self, c⟩ h
    · rw [if_neg c, cellOf_zero (bs := r) (by omega)]
      constructor
      · rintro h ⟨x, hx, hc⟩
        obtain rfl | hx := List.mem_cons.mp hx
        · exact c hc
        · exact h ⟨x, hx, hc⟩
      · rintro h ⟨x, hx, hc⟩
        exact h ⟨x, List.mem_cons_of_mem _ hx, hc⟩
theorem cellOf_take {at_ : Int} {size : Int} : ∀ {bs : List (Int × Int)} {e k : Int} {j : Nat} {x : Int × Int}, VL size e bs → bs[j]? = some x → (x.1 ≤ at_ ∧ at_ < x.1 + x.2) → cellOf at_ k bs = k + j + 1
  | (s, l) :: r, e, k, 0, x, h, ex, hc => by
    have e' : (s, l) = x := Option.some.inj ex
    subst e'
    unfold cellOf
    rw [if_pos hc]
    simp
  | (s, l) :: r, e, k, j + 1, x, h, ex, hc => by
    have ex' : r[j]? = some x := by simpa using ex
    have hm := VL.mem h.2.2 x (List.mem_of_getElem? ex')
    unfold cellOf
    rw [if_neg (by omega), cellOf_take h.2.2 ex' hc]
    omega
theorem cellOf_snoc {at_ : Int} {size : Int} : ∀ {bs : List (Int × Int)} {e c : Int} {k : Nat} {x : Int × Int}, VL size e bs → bs[k]? = some x → cellOf at_ c (bs.take (k + 1)) = if x.1 ≤ at_ ∧ at_ < x.1 + x.2 then c + k + 1 else cellOf at_ c (bs.take k)
  | (s, l) :: r, e, c, 0, x, h, ex => by
    have e' : (s, l) = x := Option.some.inj ex
    subst e'
    show cellOf at_ c [(s, l)] = _
    unfold cellOf
    simp only [List.take_zero, cellOf]
    simp
  | (s, l) :: r, e, c, k + 1, x, h, ex => by
    have ex' : r[k]? = some x := by simpa using ex
    have hm := VL.mem h.2.2 x (List.mem_of_getElem? ex')
    have ih := cellOf_snoc (at_ := at_) (c := c + 1) h.2.2 ex'
    rw [List.take_succ_cons, List.take_succ_cons, cellOf, cellOf, ih]
    by_cases q : s ≤ at_ ∧ at_ < s + l
    · rw [if_pos q, if_pos q, if_neg (by omega)]
    · rw [if_neg q, if_neg q]
      by_cases q2 : x.1 ≤ at_ ∧ at_ < x.1 + x.2
      · rw [if_pos q2, if_pos q2]; omega
      · rw [if_neg q2, if_neg q2]
def CellsOf (size : Int) (bs : List (Int × Int)) (cs : List Int) : Prop := (cs.length : Int) = size ∧ ∀ i, i < cs.length → cs[i]? = some (cellOf i 0 bs)
/-! ### maximal rows of zeros -/
def runsTo (c : Nat → Int) : Nat → List (Int × Int)
  | 0 => []
  | i + 1 => if c i = 0 then (if 0 < i ∧ c (i - 1) = 0 then (runsTo c i).dropLast ++ [(((runsTo c i).getLastD (0, 0)).1, ((runsTo c i).getLastD (0, 0)).2 + 1)] else runsTo c i ++ [((i : Int), 1)]) else runsTo c i
theorem runsTo_ne {c : Nat → Int} : ∀ {i : Nat}, 0 < i → c (i - 1) = 0 → runsTo c i ≠ []
  | i + 1, _, h => by
    rw [Nat.add_sub_cancel] at h
    rw [runsTo, if_pos h]
    split <;> simp
theorem runsTo_len {c : Nat → Int} : ∀ i : Nat, (runsTo c i).length ≤ i
  | 0 => Nat.le_refl _
  | i + 1 => by
    have ih := runsTo_len (c := c) i
    rw [runsTo]
    split
    · split
      · rename_i h
        have := runsTo_ne h.1 h.2
        have : 0 < (runsTo c i).length := List.length_pos_iff.mpr this
        simp
        omega
      · simp
        omega
    · omega
def gapsF (size : Int) : Int → List (Int × Int) → List (Int × Int)
  | e, [] => if size > e then [(e, size - e)] else []
  | e, (s, l) :: r => if s > e then (e, s - e) :: gapsF size (s + l) r else gapsF size (s + l) r
theorem runs_free {c : Nat → Int} {e : Nat} {G : List (Int × Int)} (h0 : runsTo c e = G) (hp : e = 0 ∨ c (e - 1) ≠ 0) : ∀ m : Nat, (∀ i, e ≤ i → i < e + m → c i = 0) → runsTo c (e + m) = if 0 < m then G ++ [((e : Int), (m : Int))] else G
  | 0, _ => by simpa using h0
  | m + 1, h => by
    have ih := runs_free h0 hp m (fun i h1 h2 => h i h1 (by omega))
    have hc : c (e + m) = 0 := h _ (by omega) (by omega)
    show runsTo c ((e + m) + 1) = _
    rw [runsTo, if_pos hc, ih]
    by_cases hm : 0 < m
    · have h1 : c (e + m - 1) = 0 := h _ (by omega) (by omega)
      rw [if_pos ⟨by omega, h1⟩, if_pos hm, if_pos (Nat.succ_pos _)]
      simp
    · have hm0 : m = 0 := by omega
      subst hm0
      rw [if_neg hm, if_pos (Nat.succ_pos _), if_neg (by
        rintro ⟨h1, h2⟩
        rcases hp with h3 | h3
        · omega
        · exact h3 h2)]
      simp
theorem runs_used {c : Nat → Int} {s : Nat} : ∀ m : Nat, (∀ i, s ≤ i → i < s + m → c i ≠ 0) → runsTo c (s + m) = runsTo c s
  | 0, _ => rfl
  | m + 1, h => by
    show runsTo c ((s + m) + 1) = _
    rw [runsTo, if_neg (h _ (by omega) (by omega))]
    exact runs_used m (fun i h1 h2 => h i h1 (by omega))
theorem runs_gaps {c : Nat → Int} {n : Nat} : ∀ {bs : List (Int × Int)} {e : Nat} {G : List (Int × Int)}, VL n e bs → (∀ i : Nat, e ≤ i → i < n → (c i = 0 ↔ ¬ Covers bs i)) → runsTo c e = G → (e = 0 ∨ c (e - 1) ≠ 0) → runsTo c n = G ++ gapsF n e bs
  | [], e, G, h, hc, h0, hp => by
    have h' : e ≤ n := by have : (e : Int) ≤ n := h; omega
    obtain ⟨m, rfl⟩ : ∃ m, n = e + m := ⟨n - e, by omega⟩
    rw [runs_free h0 hp m (fun i h1 h2 => (hc i h1 h2).mpr (by simp [Covers])), gapsF]
    by_cases hm : 0 < m
    · rw [if_pos hm, if_pos (by omega)]
      congr 3
      omega
    · rw [if_neg hm, if_neg (by omega)]
      simp
  | (s, l) :: r, e, G, h, hc, h0, hp => by
    obtain ⟨h1, h2, h3⟩ := h
    have h4 := h3.le_size
    obtain ⟨s', rfl⟩ : ∃ s' : Nat, s = s' := ⟨s.toNat, by omega⟩
    obtain ⟨l', rfl⟩ : ∃ l' : Nat, l = l' := ⟨l.toNat, by omega⟩
    obtain ⟨m, rfl⟩ : ∃ m, s' = e + m := ⟨s' - e, by omega⟩
    have nc : ∀ i : Nat, i < e + m → ¬ Covers ((((e + m : Nat) : Int), (l' : Int)) :: r) i := by
      rintro i hi ⟨x, hx, hcx⟩
      obtain rfl | hx := List.mem_cons.mp hx
      · simp only at hcx; omega
      · have := VL.mem h3 x hx
        omega
    have a1 := runs_free h0 hp m (fun i q1 q2 => (hc i q1 (by omega)).mpr (nc i q2))
    have a2 := runs_used (c := c) (s := e + m) l' (fun i q1 q2 q3 => (hc i (by omega) (by omega)).mp q3 ⟨_, List.mem_cons_self, by simp only; omega⟩)
    rw [a1] at a2
    have a3 := runs_gaps (c := c) (n := n) (bs := r) (e := e + m + l') (by rw [Int.natCast_add]; exact h3) (fun i q1 q2 => by
      rw [hc i (by omega) q2]
      constructor
      · rintro q3 ⟨x, hx, hcx⟩
        exact q3 ⟨x, List.mem_cons_of_mem _ hx, hcx⟩
      · rintro q3 ⟨x, hx, hcx⟩
        obtain rfl | hx := List.mem_cons.mp hx
        · simp only at hcx; omega
        · exact q3 ⟨x, hx, hcx⟩) a2 (.inr (fun q => (hc (e + m + l' - 1) (by omega) (by omega)).mp q ⟨_, List.mem_cons_self, by simp only; omega⟩))
    rw [a3, gapsF, Int.natCast_add (e + m) l']
    by_cases hm : 0 < m
    · rw [if_pos hm, if_pos (by omega)]
      simp
      omega
    · rw [if_neg hm, if_neg (by omega)]
/-! ### max(xs, default=d) -/
def rMaxD (K : PySem.W.Frag) : List V → List V → Hp → VK → Prop := fun vs zs H Q => ∃ (a : Addr) (ns : List Int) (d : Int), vs = [V.ref a] ∧ zs = [V.int d] ∧ SqL K H a (ns.map V.int) ∧
  Q (.int (match ns with | [] => d | n :: r => r.foldl max n)) H
theorem alike_ints (ns : List Int) : PySem.W.AlikeAll (ns.map PyData.int) := by
  refine ⟨fun x hx y hy => ?_, fun x hx => ?_⟩
  · obtain ⟨i, _, rfl⟩ := List.mem_map.mp hx
    obtain ⟨j, _, rfl⟩ := List.mem_map.mp hy
    rfl
  · obtain ⟨i, _, rfl⟩ := List.mem_map.mp hx
    intro h
    cases h
theorem cr_maxD {X : Cx} {k : Nat} (hc : X.calm = true) (hr : Room k X.A) : CallRK X (.builtin "max") [Str.ofString "default"] (rMaxD X.K) := by
  rintro pins s σ H vs zs us ws Q I r rz ⟨a, ns, d, rfl, rfl, hs, q⟩
  obtain rfl := Vals.ref1 r
  obtain ⟨w1, rfl, td, rfl⟩ := vals1 rz
  rcases I.list hs with ⟨its, rv, hl, -⟩
  obtain ⟨as, hra⟩ := Dp.readsAll I (ns.map PyData.int) _ its (dpAll_ints ns) rv
  have hu := hr.units
  refine PySem.W.max_list_default (I.ok.hd hc) hl.isList hra (alike_ints ns) (by rw [PySem.W.ke_depthAll]; omega) (fun e h' tk hk => ?_) (fun y ys i v h' tk bs e hv hrd hk => ?_)
  · cases ns with
    | nil => exact ⟨.int d, H, I.kept hk, ⟨_, rfl⟩, q⟩
    | cons n r => cases e
  · cases ns with
    | nil => cases e
    | cons n r =>
      rw [List.map_cons] at e
      injection e with e1 e2
      subst e1 e2
      rw [PySem.W.maxD_ints] at hrd
      cases hrd with
      | int i t => exact ⟨.int _, H, I.kept hk, ⟨_, rfl⟩, q⟩
/-! ### slices -/
theorem cut_take {xs : List V} {i : Nat} (h : i ≤ xs.length) : cutV xs none (some (i : Int)) = xs.take i := by
  unfold cutV
  rw [HT.sIx_none, HT.sIx_nat, List.drop_zero, Nat.sub_zero, Nat.min_eq_left h]
theorem cut_drop {xs : List V} {i : Nat} (h : i ≤ xs.length) : cutV xs (some (i : Int)) none = xs.drop i := by
  unfold cutV
  rw [HT.sIx_none, HT.sIx_nat, Nat.min_eq_left h, List.take_of_length_le]
  rw [List.length_drop]
  exact Nat.le_refl _
theorem TL.take {α : Type} {f : α → List V} {H : Hp} {ts : List Addr} {xs : List α} (h : TL f H ts xs) (n : Nat) : TL f H (ts.take n) (xs.take n) := by
  refine ⟨by rw [List.length_take, List.length_take, h.1], fun i t e => ?_⟩
  rw [List.getElem?_take] at e
  split at e
  · rename_i hi
    obtain ⟨x, e1, e2⟩ := h.2 i t e
    exact ⟨x, by rw [List.getElem?_take, if_pos hi]; exact e1, e2⟩
  · cases e
theorem TL.drop {α : Type} {f : α → List V} {H : Hp} {ts : List Addr} {xs : List α} (h : TL f H ts xs) (n : Nat) : TL f H (ts.drop n) (xs.drop n) := by
  refine ⟨by rw [List.length_drop, List.length_drop, h.1], fun i t e => ?_⟩
  rw [List.getElem?_drop] at e ⊢
  exact h.2 _ t e
theorem TL.append {α : Type} {f : α → List V} {H : Hp} {ts us : List Addr} {xs ys : List α} (h : TL f H ts xs) (h' : TL f H us ys) : TL f H (ts ++ us) (xs ++ ys) := by
  refine ⟨by rw [List.length_append, List.length_append, h.1, h'.1], fun i t e => ?_⟩
  by_cases hi : i < ts.length
  · rw [List.getElem?_append_left hi] at e
    obtain ⟨x, e1, e2⟩ := h.2 i t e
    exact ⟨x, by rw [List.getElem?_append_left (by rw [← h.1]; exact hi)]; exact e1, e2⟩
  · rw [List.getElem?_append_right (by omega)] at e
    obtain ⟨x, e1, e2⟩ := h'.2 _ t e
    exact ⟨x, by rw [List.getElem?_append_right (by rw [← h.1]; omega), ← h.1]; exact e1, e2⟩
/-! ### lists of ints that rise -/
theorem inc_ext : ∀ {l m : List Int}, l.Pairwise (· < ·) → m.Pairwise (· < ·) → (∀ x, x ∈ l ↔ x ∈ m) → l = m
  | [], [], _, _, _ => rfl
  | [], y :: m, _, _, h => absurd ((h y).mpr List.mem_cons_self) (by simp)
  | x :: l, [], _, _, h => absurd ((h x).mp List.mem_cons_self) (by simp)
  | .cons x l, .cons y m, hl, hm, h => by
    obtain ⟨l1, l2⟩ := List.pairwise_cons.mp hl
    obtain ⟨m1, m2⟩ := List.pairwise_cons.mp hm
    have e : x = y := by
      have a1 := (h x).mp List.mem_cons_self
      have a2 := (h y).mpr List.mem_cons_self
      obtain a1 | a1 := List.mem_cons.mp a1
      · exact a1
      · obtain a2 | a2 := List.mem_cons.mp a2
        · exact a2.symm
        · have := m1 x a1
          have := l1 y a2
          omega
    subst e
    rw [inc_ext l2 m2 fun z => ?_]
    constructor
    · intro hz
      rcases List.mem_cons.mp ((h z).mp (List.mem_cons_of_mem _ hz)) with e | q
      · have := l1 z hz
        omega
      · exact q
    · intro hz
      rcases List.mem_cons.mp ((h z).mpr (List.mem_cons_of_mem _ hz)) with e | q
      · have := m1 z hz
        omega
      · exact q
/-- the same in the order of pairs -/
def LexLe (a b : Int × Int) : Prop := a.1 < b.1 ∨ (a.1 = b.1 ∧ a.2 ≤ b.2)
theorem lex_uniq {l m : List (Int × Int)} (hl : l.Pairwise LexLe) (hm : m.Pairwise LexLe) (h : l.Perm m) : l = m := by
  refine List.Perm.eq_of_pairwise (le := LexLe) (fun a b _ _ h1 h2 => ?_) hl hm h
  unfold LexLe at h1 h2
  obtain ⟨a1, a2⟩ := a
  obtain ⟨b1, b2⟩ := b
  simp only at h1 h2
  rw [Prod.mk.injEq]
  omega
theorem VL.lex {size e : Int} {bs : List (Int × Int)} (h : VL size e bs) : bs.Pairwise LexLe := by
  have hm := h.mem
  refine (List.Pairwise.and_mem.mp h.pw).imp fun {a b} q => ?_
  have := hm a q.1
  unfold LexLe
  omega
end Pf

set_option maxHeartbeats 3000000
namespace Pf
open L2 PySem PySem.Spec PyProof.Rows
/-! own exceptions whose __init__ calls super().__init__ over ValueError's -/
/-- what is written of the class at C, its method's cell of the class at cc -/
structure OwnX (K : PySem.W.Frag) (C cc : Addr) : Prop where
  T : OexC K C
  cell : ∃ cl cld csl, K.lookup cc = some ⟨cl, cld, .cell (some (.ref C)), csl⟩
  sub : PySem.W.mroIn K C (.ref C) = some true
  sup : PySem.W.ks_superIn K C C "__init__" = some (some (.builtin "ValueError.__init__"))
  ve : PySem.W.subIn K (.ref C) (.type "ValueError") = some true
  no : PySem.W.nsIn K PySem.cStatics "thirdparty.any" = some none
section
variable {X : Cx} {pins : List (Addr × Obj)} {σ : L2.St} {H : Hp} {s : Shared} {a C : Addr}
/-- the bound __init__ of ValueError, called -/
theorem wrapper_ok {A : Around} {u : Addr} {us : List Value} {Q : Value → Shared → Prop} {E : Value → Shared → Prop} (T : OexC X.K C) (I : Inv X pins σ H s) (hu : s.heap.get? u = some (PySem.W.kxs_mw "ValueError.__init__" a)) (e : H a = some (exo a C none)) (hz : us.length ≤ sizeLine)
    (h : ∀ s', Inv X pins σ H s' → Q .none s') : wpAny (model X.prog X.w) A (call (.ref u) us) Q E s := by
  rcases T.cls with ⟨_, _, _, _, bm, _, _, _, _, _, _, _, _, _, _, hC, -⟩
  obtain ⟨t0, ho⟩ := exo_at I.hok e
  have hC' := I.kIn _ _ hC
  rcases s with ⟨hp, gs, dr, tk, os⟩
  refine wpAny_call ?_
  refine codeAny_of_tree ?_
  show wpAny _ A.in1 (callAny (.ref u) ⟨us, []⟩) _ _ _
  simp only [callAny]
  refine wpAny_bind ?_
  refine wpAny_load hu ?_
  simp only [PySem.W.kxs_mw, show (Value.type "method-wrapper" == Value.type "method" || Value.type "method-wrapper" == Value.type "builtin_function_or_method" || Value.type "method-wrapper" == Value.type "method-wrapper") = true by decide, if_true]
  refine PySem.W.KFB.if_so (hc := by decide) ?_
  refine wpAny_bind (PySem.W.check_bound_init F.excBase_ValueError.toExcCallFacts hC' ho rfl ?_)
  refine wpAny_bind (wpAny_pure (wpAny_pure (And.intro (plainId_quiet F.excBase_ValueError.init.plain _) (codeAny_builtin F.excBase_ValueError.initEntry ?_))))
  refine PySem.W.exc_init_tree (cls := .ref C) (t0 := t0) (dv := none) (c2 := .none) (c3 := .none) (b4 := .bool false) ho hz fun h' k hx _ => ?_
  have J := I.write (t' := tk) (x := a) (e := a) (o := exo a C none) (by rw [e]; exact True.intro) (.inl rfl) k ⟨_, hx⟩ (exo_ok hx)
  rw [show upd H a (exo a C none) = H from funext fun b => if hb : b = a then (by rw [hb, upd_same, e]) else upd_ne hb] at J
  exact h _ J
end
section
variable {CX : CXT} {P : Program} {w : World} {K : PySem.W.Frag} {mg : Str → Option Value} {base : Heap} {k : Nat} {f C cc cda : Addr} {name qual self : Str} {params : Arguments} {body rest : List Stmt} {scope : Scope} {dV kV doc pm ct oc ccl : Value} {an od cdd : Option Addr}
  {osl ccs : Array (Option Value)} {vs0 : Array Value} {N ps ps' : List Str} {sp : Sp} {p0 p1 ap pos epos : Pos} {e : Expr} {ar : Arg} {file : Str} {tf : Tok} {pl : Env → Sem Bool}
/-- the words of the method as a function with the captured cell -/
abbrev nfX (name qual : Str) (params : Arguments) (body : List Stmt) (scope : Scope) (cc cda : Addr) : NdefX.NF := ⟨name, qual, params, body, scope, [("__class__", cc)], cda⟩
theorem fn_sup (O : OwnX K C cc) (lk : K.lookup f = some ⟨oc, od, .func (PySem.W.ksFn name qual params body scope dV kV doc pm an (.ref cda) ct cc), osl⟩) (hcd : PySem.W.codeIn K (.ref cda) qual = true)
    (hrec : K.lookup cda = some ⟨ccl, cdd, .fields vs0, ccs⟩) (hvs : vs0[2]? = some (.str file tf)) (hfile : ((P.main.file : Str) == file) = true) (htop : (P.main.scope.names.lookup ("super" : Str)).isSome = false) (hmg : mg "super" = none)
    (hbd : body = .Expr (.Call (.Attribute (.Call (.Name "super" p0) [] [] p1) "__init__" ap) [e] [] pos) epos :: rest)
    (S : NdefX.NScope N ps ["__class__"] scope) (hps : ps = self :: ps') (hks : scope.names.lookup ("super" : Str) = some NameKind.globalImplicit) (hp : (params.posonlyargs ++ params.args).head? = some ar) (har : ar.arg = self)
    (hhe : ∀ env : Env, eval (.Call (.Attribute (.Call (.Name "super" p0) [] [] p1) "__init__" ap) [e] [] pos) env = (do
      let ov ← attributeBase (.Call (.Name "super" p0) [] [] p1) "__init__" env (eval (.Call (.Name "super" p0) [] [] p1) env)
      standAt ap.atName
      let (f, first) ← holding [ov] (getMethod ov "__init__" (pl env))
      callWith pos f first (backTo pos (starEach [e] env)) []))
    (hst : ∀ env : Env, starEach [e] env = [(false, eval e env)])
    (hsw : ∀ (env : Env) (l : Nat), swapsWith (.Call (.Attribute (.Call (.Name "super" p0) [] [] p1) "__init__" ap) [e] [] pos) none l env = pure false)
    (hin : ∀ (s : Shared) , interactive (PySem.W.ksEnv qual scope s.heap.objs.size f (.ref cda) cc) = false)
    (len : ∀ us h Q E, sp us h Q E → us.length = ps.length)
    (hbody : ∀ (A : Around) (outer : List Env) (s : Shared) (H : Hp) (vs : List V) (Q : VK) (E : XK), Room k (A.deeper (NdefX.envF (nfX name qual params body scope cc cda) f s.heap.objs.size)) → sp vs H Q E →
      ∃ (a : Addr) (ws : List V) (ta : TA) (t : TS), vs = .ref a :: ws ∧ H a = some (exo a C none) ∧ PA (NdefX.ncx CX P w K mg base N (nfX name qual params body scope cc cda) f A outer s H E) [e] ta ∧ PSs (NdefX.ncx CX P w K mg base N (nfX name qual params body scope cc cda) f A outer s H E) rest t ∧
        ta (NdefX.startF N vs [none]) H fun us H1 => H1 a = some (exo a C none) ∧ us.length ≤ 1000 ∧ t { nx := fun _ H' => Q .non H', rt := Q } (NdefX.startF N vs [none]) H1) :
    FnOk P w K mg base CX (k + 1) f (PySem.W.ksFn name qual params body scope dV kV doc pm an (.ref cda) ct cc) ps sp := by
  refine FnOk.mk len ?_
  intro A outer s H args us vs Q E hr e0 hb r hsp
  have hl := len _ _ _ _ hsp
  have stay : ∀ b o, base.get? b = some o → s.heap.get? b = some o := fun b o z => And.left (e0.bs b o z)
  have KX := e0.mod.kin.keeps stay
  have lim := e0.mod.nolimit.keeps stay
  obtain ⟨cl, cld, csl, hcell⟩ := O.cell
  have hH : H cc = none := (e0.bs _ _ (e0.mod.kin _ _ hcell)).2
  have C1 : NdefX.CellsAt (nfX name qual params body scope cc cda).cl ["__class__"] [none] s.heap H := by
    have key : ∀ y c, [(("__class__" : Str), cc)].lookup y = some c → y = "__class__" ∧ c = cc := fun y c q => by
      have m := PySem.mem_of_lookup q
      rcases List.mem_cons.mp m with z | z
      · cases z
        exact ⟨rfl, rfl⟩
      · cases z
    refine ⟨rfl, fun y c q => ?_, fun x y c h1 h2 => ?_, fun i y hi => ?_⟩
    · obtain ⟨_, rfl⟩ := key y c q
      exact ⟨hH, _, ⟨_, KX _ _ hcell, rfl⟩⟩
    · exact (key _ _ h1).1.trans (key _ _ h2).1.symm
    · match i, hi with
      | 0, hi =>
        cases hi
        refine ⟨cc, rfl, fun v hv => ?_⟩
        cases hv
  refine ks_codeAny_call_defAt (fd := PySem.W.ksFn name qual params body scope dV kV doc pm an (.ref cda) ct cc) (body := body) (binds := ps.zip us) hr.depth (KX _ _ lk) rfl lim (PySem.W.codeRec_of KX hcd) rfl hb S.nocell
    (fun y hy => S.par y.1 (List.of_mem_zip (show (y.1, y.2) ∈ ps.zip us from hy)).1) (fun h₁ hns kp => ?_) S.co S.gen S.kind
  obtain ⟨a, ws, ta, t, rfl, ha, hta, ht, hq⟩ := hbody A outer s H vs Q E (hr.deeper _) hsp
  have I : Inv (NdefX.ncx CX P w K mg base N (nfX name qual params body scope cc cda) f A outer s H E) [] (NdefX.startF N (.ref a :: ws) [none]) H { s with heap := h₁, toks := s.toks + (ps.zip us).length } :=
    NdefX.inv_startN S hr.hd e0 hl r C1 hns kp
  have fin : ∀ {σ' : L2.St} {H' : Hp} {s' : Shared} {v : V} {u : Value}, Inv (NdefX.ncx CX P w K mg base N (nfX name qual params body scope cc cda) f A outer s H E) [] σ' H' s' → L2.RelV v u → Q v H' → CE outer P w H s Q u s' :=
    fun {σ' H' s' v u} J rv q => ⟨v, H', J.os, J.bare, J.base, J.hok, rv, q⟩
  subst hbd
  subst hps
  cases r with
  | @cons _ u0 _ ur ra rr =>
  obtain rfl := (show u0 = Value.ref a from ra)
  have hself : scope.names.lookup self = some NameKind.local := S.par self List.mem_cons_self
  have henv : (NdefX.ncx CX P w K mg base N (nfX name qual params (.Expr (.Call (.Attribute (.Call (.Name "super" p0) [] [] p1) "__init__" ap) [e] [] pos) epos :: rest) scope cc cda) f A outer s H E).env = PySem.W.ksEnv qual scope s.heap.objs.size f (.ref cda) cc := rfl
  refine ks_wpAt_execs_cons (ks_wpAt_Expr_any (ks_wpAt_MethodCall (pl := pl (PySem.W.ksEnv qual scope s.heap.objs.size f (.ref cda) cc)) ?_ (hhe _)) (hin s) (hsw _ _))
  obtain ⟨cdD, hcls⟩ : ∃ cdD, PySem.W.clsIn K C = some cdD := by
    obtain ⟨nm, q, N, bs, bm, sn, sub, ab, col, dd, k0, k1, k2, k3, k5, hC, hbm⟩ := O.T.cls
    exact ⟨_, by unfold PySem.W.clsIn; rw [hC] <;> rfl⟩
  obtain ⟨oD, hD0, hD2⟩ : ∃ oD, K.lookup C = some oD ∧ oD.data = .cls cdD := by
    unfold PySem.W.clsIn at hcls
    split at hcls
    · rename_i c d cd' sl ho
      cases hcls
      exact ⟨_, ho, rfl⟩
    · cases hcls
  have KI := I.kIn
  have hD1 := KI _ _ hD0
  refine PySem.ks_wpAt_super_base (env := PySem.W.ksEnv qual scope s.heap.objs.size f (.ref cda) cc) (f := f) (cc := cda) hks (S.frk _ List.mem_cons_self) rfl rfl (KI _ _ lk) rfl hp rfl (KI _ _ hrec) rfl hvs hfile htop ?_
  rcases I.mod.blt with ⟨mb, h1, h2⟩
  refine PySem.W.ks_loadName_global S.kind hks (Calls.loadGlobal_builtin (env := PySem.W.ksEnv qual scope s.heap.objs.size f (.ref cda) cc) (I.mod.glob.keeps I.bk) hmg (h1.keeps I.bk) ((h2 "super" (by decide)).trans (by decide +kernel : bootBuiltins "super" = some (.type "super"))) ⟨rfl, ?_⟩)
  refine wpAny_loadName_free S.kind (S.frk _ List.mem_cons_self) rfl ⟨_, KI _ _ hcell, rfl⟩ ?_
  refine wpAny_loadName_local (v := .ref a) S.kind (by rw [har]; exact hself) hns ?_ ?_
  · have ndP : (self :: ps').Nodup := by
      have q := S.nd.sublist (List.take_sublist ((self :: ps').length + [("__class__" : Str)].length) N)
      rw [S.pre] at q
      exact And.left (List.nodup_append.mp q)
    rw [har]
    exact NdefX.zip_look (i := 0) ndP rfl rfl
  refine ks_wpAny_isType_cls hD1 hD2 (And.intro rfl ?_)
  obtain ⟨t0, hoa⟩ := exo_at I.hok ha
  refine ks_wpAny_call_super hD1 hD2 hoa rfl (fun c => by intro z; cases z) (PySem.W.looks_mroIn KI O.sub) (fun h' hso kk => ?_)
  have I2 := I.kept (t' := s.toks + ((self :: ps').zip (Value.ref a :: ur)).length) kk
  have KI2 := I2.kIn
  have hoa2 := kk _ _ hoa
  have hsup := O.sup
  unfold PySem.W.ks_superIn at hsup
  rw [hcls] at hsup
  have hty : PySem.W.InstAt h' a _ C none := ⟨hoa2, rfl, rfl, trivial⟩
  have hne : a ≠ C := PySem.W.ks_ne KI2 hty hcls
  refine PySem.W.kxs_getMethod PySem.W.kxs_ValueError hso (PySem.W.looks_opaque KI2 O.no) (l₀ := cdD.mro) (fun A Q E s k q => wpAny_bind ((PySem.W.looks_clsIn KI2 hcls) A _ E s k (wpAny_pure q))) rfl KI2 hsup (hty.type.andThen (PySem.W.looks_subIn KI2 O.ve)) hne (by decide) ?_
  have hmw : (h'.push (PySem.W.kxs_mw "ValueError.__init__" a)).get? h'.objs.size = some (PySem.W.kxs_mw "ValueError.__init__" a) := Heap.get?_push_size _ rfl
  have nH : H h'.objs.size = none := I2.hok.fresh (Nat.le_refl _)
  have I3 := I2.kept (h' := h'.push (PySem.W.kxs_mw "ValueError.__init__" a)) (t' := s.toks + ((self :: ps').zip (Value.ref a :: ur)).length + 1) (fun b u z => Heap.get?_push_of_some _ z)
  have I4 : Inv (NdefX.ncx CX P w K mg base N (nfX name qual params (.Expr (.Call (.Attribute (.Call (.Name "super" p0) [] [] p1) "__init__" ap) [e] [] pos) epos :: rest) scope cc cda) f A outer s H E) [(h'.objs.size, PySem.W.kxs_mw "ValueError.__init__" a)] (NdefX.startF N (.ref a :: ws) [none]) H
      { heap := h'.push (PySem.W.kxs_mw "ValueError.__init__" a), gens := s.gens, drawn := s.drawn, toks := s.toks + ((self :: ps').zip (Value.ref a :: ur)).length + 1, os := s.os } := I3.pins_of fun p hp => by
    rcases List.mem_cons.mp hp with z | z
    · subst z
      refine ⟨hmw, nH, ?_, fun z => ?_, fun v z => by cases z⟩
      · exact Nat.ne_of_gt (Nat.lt_of_lt_of_le I2.lt (Nat.le_refl _))
      · exact I2.nofs (Nat.le_refl _) z
    · cases z
  show wpAny _ _ (callWith pos (.ref h'.objs.size) [] (backTo pos (starEach [e] _)) []) _ _ _
  refine PySem.W.kxs_callWith (i := "ValueError.__init__") (x := a) (by rw [hst]; rfl) ?_
  rw [hst]
  refine PySem.Calls.evalArgs_plain ?_
  show wpAny _ _ (spliced (backTo pos [(false, eval e (PySem.W.ksEnv qual scope s.heap.objs.size f (.ref cda) cc))])) _ _ _
  rw [← hst (PySem.W.ksEnv qual scope s.heap.objs.size f (.ref cda) cc)]
  refine thn (hta.run pos _ _ _ H _ I4 hq) fun us2 s2 ⟨vs2, H2, I5, r2, ha2, hl2, hq2⟩ => ?_
  have hp2 := (I5.pin _ (List.mem_append_right _ List.mem_cons_self)).1
  refine ⟨hp2, ?_⟩
  show wpAny _ _ (call (.ref h'.objs.size) us2) _ _ _
  refine wrapper_ok O.T I5 hp2 ha2 (by rw [← Paired.length r2, sizeLine_eq]; omega) fun s3 I6 => ?_
  have I7 := I6.pins_of (pins' := []) (fun p hp => absurd (show p ∈ ([] : List (Addr × Obj)) from hp) (by simp))
  refine wpAt_of_wpAny (wpAny_mono (ht.run [] _ _ H2 _ I7 hq2) (fun fl s' hs => ?_) fun e s' hs => hs)
  cases fl with
  | ret u =>
    rcases hs with ⟨v, slots, h2, J, rv, q⟩
    exact fin J rv q
  | next =>
    obtain ⟨σ', H', J, q⟩ := hs
    exact fin (u := Value.none) (v := V.non) J rfl q
  | brk =>
    obtain ⟨_, _, _, q⟩ := hs
    exact False.elim q
  | cont =>
    obtain ⟨_, _, _, q⟩ := hs
    exact False.elim q
end

/-! ### enumerate over a text -/
/-- the turns of enumerate over the text x: each gives a new pair -/
def ItES (x : Str) : It where
  go := fun n _ => n < x.cps.size
  yld := fun n h v h' => ∃ p c, v = .ref p ∧ h p = none ∧ h' = upd h p (.tup [.int (n : Nat), .str ⟨#[c]⟩]) ∧ x.cps[n]? = some c
  stop := fun n _ => x.cps.size ≤ n
/-- the signs, drawn one by one -/
theorem drawsStr {prog : Program} {w : World} {A : Around} (free : A.handled = none) (q : Addr) (x : Str) (t : Tok) :
    Draws prog w A q [q] x.cps.size (fun n v => ∃ c u, x.cps[n]? = some c ∧ v = .str ⟨#[c]⟩ u) fun n h => h.IsStrIter q (strIterType x) x t n := by
  by_cases ascii : x.cps.all (· < 128) = true
  · rw [show strIterType x = "str_ascii_iterator" from if_pos ascii]
    exact Draws.strAscii free q x t
  · rw [show strIterType x = "str_iterator" from if_neg ascii]
    exact Draws.strWide free q x t
/-- behind the last sign -/
theorem drawsEnd {prog : Program} {w : World} {A : Around} (free : A.handled = none) (q : Addr) (x : Str) (t : Tok) (n : Nat) (none_ : x.cps[n]? = none) :
    Draws prog w A q [q] n (fun _ _ => True) fun m h => m = n ∧ h.IsStrIter q (strIterType x) x t m where
  live := by
    rintro m h ⟨-, o, at_, -⟩
    exact ⟨o, at_⟩
  frame := by
    rintro m h h' ⟨rfl, o, at_, rest⟩ same
    exact ⟨rfl, o, same q List.mem_cons_self o at_, rest⟩
  item := fun m s Q E lt st _ => absurd st.1 (Nat.ne_of_lt lt)
  done := by
    rintro s Q E ⟨-, st⟩ out
    by_cases ascii : x.cps.all (· < 128) = true
    · rw [show strIterType x = "str_ascii_iterator" from if_pos ascii] at st
      exact wpAny_nextOf_ascii_end free st none_ out
    · rw [show strIterType x = "str_iterator" from if_neg ascii] at st
      exact wpAny_nextOf_wide_end free st none_ out
/-- the enumerate object at e over the walk at q, ahead of its n-th turn -/
structure EnS (x : Str) (t : Tok) (e q : Addr) (n : Nat) (h : Heap) : Prop where
  en : ∃ last, IsEnum h e q ((n : Nat) : Int) last
  walk : h.IsStrIter q (strIterType x) x t n
  two : e ≠ q
section
variable {x : Str} {t : Tok} {e q : Addr} {n : Nat} {h h' : Heap}
theorem EnS.at_ (p : EnS x t e q n h) : ∀ b ∈ [e, q], ∃ o, h.get? b = some o ∧ ∀ v, o.data ≠ .cell v := by
  intro b mem
  rcases List.mem_cons.mp mem with rfl | mem2
  · obtain ⟨last, z⟩ := p.en
    exact ⟨_, z, fun v => by intro y; cases y⟩
  · obtain rfl := List.mem_singleton.mp mem2
    obtain ⟨o, z, -, dat⟩ := p.walk
    exact ⟨o, z, fun v y => by rw [dat] at y; cases y⟩
theorem EnS.stay (p : EnS x t e q n h) (same : ∀ b ∈ [e, q], ∀ o, h.get? b = some o → h'.get? b = some o) : EnS x t e q n h' := by
  obtain ⟨last, z⟩ := p.en
  obtain ⟨o, y, rest⟩ := p.walk
  exact ⟨⟨last, same e List.mem_cons_self _ z⟩, ⟨o, same q (List.mem_cons_of_mem _ List.mem_cons_self) _ y, rest⟩, p.two⟩
theorem EnS.lt (p : EnS x t e q n h) : ∀ b ∈ [e, q], b < h.objs.size := fun b mem => let ⟨_, z, _⟩ := p.at_ b mem; Heap.lt_size z
end
theorem turn_enumS {P : Program} {w : World} {K : PySem.W.Frag} {elts : List Expr} {kk : Nat} {tpos : Pos} (x : Str) (t : Tok) (e q : Addr) : Turn P w K (.Tuple elts kk tpos) (ItES x) [e, q] e (EnS x t e q) where
  mem := List.mem_cons_self
  obj := fun _ _ p => p.at_
  keep := fun _ _ _ p same => p.stay same
  self := fun A n s Q E p out => by
    obtain ⟨last, z⟩ := p.en
    exact wpAny_pyIter_enum z out
  item := by
    intro X eP ew eK calm n pins s σ H E inv own p lt
    subst eP ew eK
    obtain ⟨last, z⟩ := p.en
    have fresh : H s.heap.objs.size = none := inv.hok.fresh (Nat.le_refl _)
    have apart : ∀ b ∈ [e, q], b ≠ s.heap.objs.size := fun b mem => Nat.ne_of_lt (p.lt b mem)
    have memE : e ∈ [e, q] := List.mem_cons_self
    have memQ : q ∈ [e, q] := List.mem_cons_of_mem _ List.mem_cons_self
    refine wpAny_pyNext_enum_itemD (drawsStr (A := X.A.in1) (inv.ok.hd calm) q x t) z p.walk lt p.two (fun y => p.two (List.mem_singleton.mp y)) ?_
    rintro _ g tk ⟨c, u, sign, rfl⟩ given walked pair - rest
    refine ⟨_, rfl, wpAny_letOwnedTupleGo_enum (s := { s with heap := g, toks := tk + 1 }) given fun g2 again but => ?_⟩
    have pair2 := (but.2 _ (apart e memE).symm).trans pair
    have laid : ObjOk X.prog X.w (upd H s.heap.objs.size (.tup [.int (n : Nat), .str ⟨#[c]⟩])) g2 s.heap.objs.size (.tup [.int (n : Nat), .str ⟨#[c]⟩]) :=
      ⟨by show 2 ≤ sizeLine; rw [sizeLine_eq]; omega, _, Paired.cons ⟨tk, rfl⟩ (Paired.cons ⟨u, rfl⟩ Paired.nil), ⟨_, pair2, rfl, _, rfl⟩⟩
    have inv2 := Inv.turnedNew (t' := tk + 1) (h' := g2) inv (fun b o out at_ => by
      have be : b ≠ e := fun y => out (y ▸ memE)
      have bq : b ≠ q := fun y => out (y ▸ memQ)
      exact (but.2 b be).trans (rest b o be bq at_)) own (Nat.le_refl _) laid
    refine ⟨.ref s.heap.objs.size, _, inv2, rfl, ⟨_, c, rfl, fresh, rfl, sign⟩, ⟨⟨_, by simpa using again⟩, ?_, p.two⟩, fun b mem => ?_⟩
    · obtain ⟨o, at_, more⟩ := walked
      exact ⟨o, (but.2 q p.two.symm).trans at_, more⟩
    · exact (upd_ne (apart b mem)).trans (own b mem).1
  done := by
    intro X eP ew eK calm n pins s σ H E inv own p ge
    subst eP ew eK
    obtain ⟨last, z⟩ := p.en
    obtain ⟨a0, a1, a2, a3, a4, a5⟩ := own q (List.mem_cons_of_mem _ List.mem_cons_self)
    exact wpAny_pyNext_enum_endD (drawsEnd (A := X.A.in1) (inv.ok.hd calm) q x t n (Array.getElem?_eq_none ge)) z ⟨rfl, p.walk⟩ fun g but => And.intro rfl (inv.turned (t' := s.toks) (fun b o ne at_ => but b o ne at_) a0 a1 a3 a4 a5)
def iEnumS (ta : TA) : TI := fun σ H R => ta σ H fun vs h => ∃ x, vs = [.str x] ∧ R (ItES x) h
/-- for i, c in enumerate(text) -/
theorem pi_enumS {X : Cx} {e : Expr} {ta : TA} {p pos tpos : Pos} {elts : List Expr} {kk : Nat} (hg : Gl X "enumerate") (hm : X.mg "enumerate" = none) (arg : PA X [e] ta) (one : starEach [e] X.env = [(false, eval e X.env)] := by rfl) :
    PI X (.Tuple elts kk tpos) (.Call (.Name "enumerate" p) [e] [] pos) (iEnumS ta) where
  run := by
    intro pins s σ H R inv wish
    refine Call_ (ld_blt inv hg hm boot_enumerate (PyProof.Rows.callWith_type1 (thn (arg.run pos pins s σ H _ inv wish) ?_) one rfl))
    rintro us s1 ⟨_, h1, inv1, vals, x, rfl, ends⟩
    rcases vals with _ | ⟨⟨t, rfl⟩, nil_⟩
    cases nil_
    refine call_enumerate_str fun g made walk _ same => wpAny_pyIter_enum made ?_
    have big : ∀ b ∈ [s1.heap.objs.size + 1, s1.heap.objs.size], s1.heap.objs.size ≤ b := fun b mem => by
      rcases List.mem_cons.mp mem with rfl | mem2
      · omega
      · rw [List.mem_singleton.mp mem2]; exact Nat.le_refl _
    exact ⟨_, [s1.heap.objs.size + 1, s1.heap.objs.size], _, _, h1, rfl, inv1.kept (t' := s1.toks) same, turn_enumS x t _ _, ⟨⟨_, made⟩, walk, Nat.succ_ne_self _⟩, fun b mem => inv1.fpOk (big b mem) (inv1.hok.fresh (big b mem)), ends⟩
/-! ### texts as lists of signs -/
/-- the text of signs -/
abbrev S (signs : List Nat) : Str := ⟨signs.toArray⟩
theorem S_len (l : List Nat) : (S l).length = l.length := by
  show l.toArray.size = _
  simp
theorem S_append (l m : List Nat) : S l ++ S m = S (l ++ m) := by
  show (⟨l.toArray ++ m.toArray⟩ : Str) = ⟨(l ++ m).toArray⟩
  simp
theorem S_inj {l m : List Nat} : S l = S m ↔ l = m := ⟨fun h => by
  have := congrArg (fun z : Str => z.cps.toList) h
  simpa using this, fun h => by rw [h]⟩
theorem S_mul (c : Nat) (n : Int) : Txt.mul (S [c]) n = S (List.replicate n.toNat c) := by
  unfold Txt.mul
  by_cases h : n < 1
  · rw [if_pos h]
    have : n.toNat = 0 := by omega
    rw [this]; rfl
  · rw [if_neg h]
    by_cases h1 : n = 1
    · subst h1; rfl
    · have e : (n == 1 || (S [c]).length == 0) = false := by simp [h1, S_len]
      rw [if_neg (by rw [e]; decide)]
      have key : ∀ (k : Nat) (a : Array Nat), (List.replicate k (S [c]).cps).foldl (· ++ ·) a = a ++ (List.replicate k c).toArray := by
        intro k
        induction k with
        | zero => intro a; simp
        | succ k ih =>
          intro a
          rw [List.replicate_succ, List.foldl_cons, ih, List.replicate_succ]
          apply Array.ext'
          simp
      rw [key]
      simp
/-- one sign, many times -/
def rMulS : V → V → Hp → VK → Prop := fun x y H Q => ∃ (c : Nat) (n : Int), x = .str (S [c]) ∧ y = .int n ∧ -(2 ^ 31) ≤ n ∧ n ≤ 2 ^ 20 ∧ Q (.str (S (List.replicate n.toNat c))) H
theorem op_mulS {X : Cx} : OpR X (binaryOp .Mult) rMulS := by
  intro pins s σ H x y v u Q I rx ry wish
  obtain ⟨c, n, rfl, rfl, h0, h1, q⟩ := wish
  obtain ⟨t, rfl⟩ := rx
  obtain ⟨t', rfl⟩ := ry
  refine SB.mul ⟨by simp; omega, fun z _ => ?_, fun _ _ => ?_⟩ fun t2 k => ⟨.str (S (List.replicate n.toNat c)), H, I.tok _, ⟨_, by rw [S_mul]⟩, q⟩
  · rw [S_len]
    have hn : 1 ≤ n := by omega
    have : (1 : Int) ≤ (2 ^ 63 - 1) / n := by
      rw [Int.le_ediv_iff_mul_le (by omega)]
      omega
    exact Int.not_lt.mpr this
  · rw [S_len]
    show decide ([c].length * n.toNat > sizeLine) = false
    rw [sizeLine_eq]
    simp only [List.length_singleton, Nat.one_mul, decide_eq_false_iff_not]
    omega
/-! ### the caught exception -/
theorem is_exact {a C : Addr} {oe : Obj} (hc : oe.cls = .ref C) : Answers (fun s => s.heap.get? a = some oe) (.ref a) (.ref C) true := by
  intro dep tk prog w A R s ⟨p, hq⟩
  rcases s with ⟨h0, gs, dr, tt, os⟩
  unfold PySem.Builtin.«isinstance.nested»
  have L : PySem.W.Looks (model prog w) h0 (typeOf (.ref a)) (.ref C) := hc ▸ (PySem.W.Looks.ld p).andThen .now
  refine wpAny_bind (L.at ?_)
  rw [if_pos (by simp)]
  exact wpAny_bind (wpAny_rule (wpAny_pure (hq tt)))
/-- isinstance(e, C), e the caught exception, whose class is C -/
def rIsX (C a : Addr) (cls : Value) : List V → Hp → VK → Prop := fun xs H Q => xs = [.ref a, .ref C] ∧ cls = .ref C ∧ Q (.bl true) H
theorem call_isX {X : Cx} {a C : Addr} {oe : Obj} {cls : Value} {d : Option Addr} {pn : List (Addr × Obj)} (hz : Zc cls d oe) : CallR (X.suite a ((a, oe) :: pn)) (.builtin "isinstance") (rIsX C a cls) := by
  rintro pins s σ H xs us Q I r ⟨rfl, rfl, q⟩
  cases r with
  | cons rx rr =>
    cases rr with
    | cons rt rr =>
      cases rr
      cases rx
      cases rt
      have hget := And.left (I.pin (a, oe) (List.mem_append_left _ List.mem_cons_self))
      exact call_isinstance (S := fun _ R s => s.heap.get? a = some oe ∧ ∀ tk, R (.ok (.ret (.bool true))) { s with toks := tk })
        (fun prog w A R s hs => isinstance_outer (is_exact hz.1 0 _ prog w A R s hs) (by intro z; cases z)) ⟨hget, fun tk => ⟨.bl true, H, I.kept (t' := tk) fun _ _ z => z, rfl, q⟩⟩
/-! ### an own exception that may be made -/
structure XCal (P : Program) (w : World) (K : PySem.W.Frag) (mg : Str → Option Value) (base : Heap) (x : Str) (C : Addr) (k : Nat) (f : Addr) (fd : FuncData) (ps : List Str) (sp : Sp) : Prop where
  ok : FnOk P w K mg base CX0 k f fd ps sp
  T : OexC K C
  iC : PySem.W.findIn K (.ref C) "__init__" = some (some (.ref f))
  tI : PySem.W.typeIn K (.ref f) = some (.type "function")
  b : Binds K fd ps []
  m : mg x = some (.ref C)
/-- X(y), the field f holding y -/
def sp_exc1 (C : Addr) (f : Str) : Sp := fun vs H Q _ => ∃ (a : Addr) (i : Nat), vs = [.ref a, .int i] ∧ i ≤ 1000 ∧ H a = some (exo a C none) ∧ ∀ dx, H dx = none → dx ≠ a → Q .non (upd (upd H dx (exd dx [(f, .int i)])) a (exo a C (some dx)))
theorem exc1_out {C : Addr} {f : Str} {H : Hp} {W : XK} {i : Nat} (hi : i ≤ 1000) (h : ∀ (d : Addr) (H' : Hp), Same H H' → H d = none → H' d = some (.xd [(f, .int i)]) → W (.ref C) (some d) H') :
    ([V.int i].length ≤ 1000 ∧ ∀ a, H a = none → sp_exc1 C f (.ref a :: ([V.int i] ++ [])) (upd H a (exo a C none))
      (fun v H2 => v = .non ∧ ∃ (d : Addr) (fs : List (Str × V)), H2 a = some (exo a C (some d)) ∧ H2 d = some (exd d fs) ∧ H d = none ∧ W (.ref C) (some d) (upd (del H2 a) d (.xd fs))) (fun _ _ _ => False)) := by
  refine ⟨by simp, fun a na => ⟨a, i, rfl, hi, upd_same, fun dx nd nda => ⟨rfl, dx, [(f, .int i)], upd_same, by rw [upd_ne nda, upd_same], by rwa [upd_ne nda] at nd, ?_⟩⟩⟩
  rw [upd_ne nda] at nd
  refine h dx _ (fun b o e => ?_) nd upd_same
  have hb : b ≠ dx := ne_of_none e nd
  have ha : b ≠ a := ne_of_none e na
  rw [upd_ne hb, del_ne ha, upd_ne ha, upd_ne hb, upd_ne ha]
  exact e
/-! ### walks -/
section
variable {D : Ends} {σ : L2.St} {H : Hp} {g : TG} {tb : TS}
theorem for_enumL {K : PySem.W.Frag} {a : Addr} {xs : List V} {D : Ends} {σ : L2.St} {H : Hp} {g : TG} {tb : TS} (P : Nat → L2.St → Hp → Prop) (start : P 0 σ H) (hl : ∀ i s h, i ≤ xs.length → P i s h → SqL K h a xs)
    (hs : ∀ i x s h p, xs[i]? = some x → P i s h → h p = none → g (.ref p) s (upd h p (.tup [.int (i : Nat), x])) (tb { D with nx := P (i + 1), ct := P (i + 1), bk := D.nx })) (hd : ∀ s h, P xs.length s h → D.nx s h) :
    WkS (Ite K a) D.nx (fun y s h B => g y s h (tb { D with nx := B, ct := B, bk := D.nx })) σ H :=
  walkS P start (fun s h p => And.intro ⟨xs, hl _ s h (Nat.le_refl _) p, Nat.le_refl _⟩ (hd s h p)) fun i s h lt p => And.intro ⟨xs, xs[i], hl i s h (Nat.le_of_lt lt) p, List.getElem?_eq_getElem lt⟩ (by
    rintro _ _ ⟨b, x, rfl, free, rfl, at_⟩
    exact hs i x s h b (at_ xs (hl i s h (Nat.le_of_lt lt) p)) p free)
theorem for_enumS {x : Str} {D : Ends} {σ : L2.St} {H : Hp} {g : TG} {tb : TS} (P : Nat → L2.St → Hp → Prop) (start : P 0 σ H)
    (hs : ∀ i c s h p, x.cps[i]? = some c → P i s h → h p = none → g (.ref p) s (upd h p (.tup [.int (i : Nat), .str ⟨#[c]⟩])) (tb { D with nx := P (i + 1), ct := P (i + 1), bk := D.nx })) (hd : ∀ s h, P x.cps.size s h → D.nx s h) :
    WkS (ItES x) D.nx (fun y s h B => g y s h (tb { D with nx := B, ct := B, bk := D.nx })) σ H :=
  walkS P start (fun s h p => And.intro (Nat.le_refl _) (hd s h p)) fun i s h lt p => And.intro lt (by
    rintro _ _ ⟨b, c, rfl, free, rfl, at_⟩
    exact hs i c s h b at_ p free)
theorem r_iES {tA : TA} {R : It → Hp → Prop} (h : tA σ H fun vs H1 => ∃ x, vs = [.str x] ∧ R (ItES x) H1) : iEnumS tA σ H R := h
theorem r_iES1 {x : Str} {A : Str → Prop} (q : A x) : ∃ y, [V.str x] = [.str y] ∧ A y := ⟨x, rfl, q⟩
theorem r_iEL {K : PySem.W.Frag} {tA : TA} {R : It → Hp → Prop} (h : tA σ H fun vs H1 => ∃ a xs, vs = [.ref a] ∧ SqL K H1 a xs ∧ R (Ite K a) H1) : iEnum K tA σ H R := h
theorem r_iEL1 {K : PySem.W.Frag} {a : Addr} {xs : List V} {A : Addr → Prop} (h : SqL K H a xs) (q : A a) : ∃ b ys, [V.ref a] = [.ref b] ∧ SqL K H b ys ∧ A b := ⟨a, xs, rfl, h, q⟩
end
/-! ### readings of texts -/
section
variable {H : Hp} {Q : VK}
theorem r_addS {a b : Str} {A : Str → Str → Prop} (h : A a b) : ∃ i j, V.str a = .str i ∧ V.str b = .str j ∧ A i j := ⟨a, b, rfl, rfl, h⟩
theorem r_ixS {z : Str} {i : Int} {c : Nat} (ha : atI z.cps.toList i = some c) (hz : z.length ≤ sizeLine) (q : Q (.str ⟨#[c]⟩) H) : rIxS (.str z) (.int i) H Q := ⟨z, i, c, rfl, rfl, hz, ha, q⟩
theorem r_lenS {a : Str} {A : Str → Prop} (h : A a) : ∃ z, [V.str a] = [.str z] ∧ A z := ⟨a, rfl, h⟩
theorem r_eqS {a b : Str} (q : Q (.bl (decide (a = b))) H) : rEq (.str a) (.str b) H Q := ⟨rfl, by rw [show decide (V.str a = V.str b) = decide (a = b) by simp]; exact q⟩
theorem r_neS {a b : Str} (q : Q (.bl (!decide (a = b))) H) : rNe (.str a) (.str b) H Q := ⟨rfl, by rw [show decide (V.str a = V.str b) = decide (a = b) by simp]; exact q⟩
theorem r_slS {z : Str} {lo hi : Option Int} (hz : z.length ≤ sizeLine) (q : Q (.str (cutS z lo hi)) H) : rSlS (.str z) lo hi H Q := ⟨z, rfl, hz, q⟩
theorem r_mulS {c : Nat} {n : Int} (h0 : -(2 ^ 31) ≤ n) (h1 : n ≤ 2 ^ 20) (q : Q (.str (S (List.replicate n.toNat c))) H) : rMulS (.str (S [c])) (.int n) H Q := ⟨c, n, rfl, rfl, h0, h1, q⟩
end
theorem at_nat {α : Type} {xs : List α} {i : Nat} {x : α} (h : xs[i]? = some x) : atI xs (i : Int) = some x := by
  have hl : i < xs.length := by
    by_cases q : i < xs.length
    · exact q
    · rw [List.getElem?_eq_none (by omega)] at h; cases h
  unfold atI ixN
  rw [if_pos (show (0 : Int) ≤ i by omega), if_pos (by omega)]
  simpa using h
theorem cutS_take {t : List Nat} {i : Nat} (h : i ≤ t.length) : cutS (S t) none (some (i : Int)) = S (t.take i) := by
  unfold cutS
  rw [HT.sIx_nat, HT.sIx_none, S_len, Nat.min_eq_left h]
  simp
theorem cutS_drop {t : List Nat} {i : Nat} : cutS (S t) (some (i : Int)) none = S (t.drop i) := by
  unfold cutS
  rw [HT.sIx_nat, HT.sIx_none, S_len]
  by_cases h : i ≤ t.length
  · rw [Nat.min_eq_left h]
    rw [List.take_of_length_le (i := t.length - i) (by simp)]
  · rw [Nat.min_eq_right (by omega), List.drop_of_length_le (i := i) (by omega)]
    simp
theorem pe_gstr {X : Cx} {x y : Str} {pos : Pos} (hg : Gl X x) (hm : ∃ t, X.mg x = some (.str y t)) (hd : (x == ("__debug__" : Str)) = false := by decide) : PE X (.Name x pos) (tC (.str y)) :=
  let ⟨t, h⟩ := hm
  pe_glob hg h ⟨t, rfl⟩ hd
/-- a def that may raise -/
structure CalX (P : Program) (w : World) (K : PySem.W.Frag) (mg : Str → Option Value) (base : Heap) (x : Str) (k : Nat) (f : Addr) (fd : FuncData) (ps : List Str) (sp : Sp) : Prop where
  ok : FnOk P w K mg base (L2.CX P w) k f fd ps sp
  mg : mg x = some (.ref f)
  (kp : PySem.W.keepIn K (.ref f) = true)
  b : Binds K fd ps []
/-- the class at C, caught by the name of the class at B; its field f -/
structure ExF (K : PySem.W.Frag) (mg : Str → Option Value) (C B : Addr) (b f : Str) : Prop where
  m : mg b = some (.ref B)
  by_ : PySem.W.exmOne K (.ref C) (.ref B) = some true
  xf : XfC K C
  no : PySem.W.findIn K (.ref C) f = some none
section
variable {σ : L2.St} {H : Hp} {Q : Str → Hp → Prop} {ts : List TE} {n : Nat}
theorem str_len_app (a b : Str) : (a ++ b).length = a.length + b.length := by
  simp only [Str.length, HAppend.hAppend, Append.append]
  exact Array.size_append
theorem js_start (h : ∀ acc : Str, acc.length ≤ 0 → tJs ts acc σ H Q) : tJs ts Str.empty σ H Q := h Str.empty (Nat.le_refl _)
theorem js_nil (h : ∀ out, Q out H) : ∀ acc : Str, acc.length ≤ n → tJs [] acc σ H Q := fun acc _ => h acc
theorem js_str {y : Str} (hy : y.length ≤ 1000) (hn : n ≤ 10000) (h : ∀ acc : Str, acc.length ≤ n + 1000 → tJs ts acc σ H Q) : ∀ acc : Str, acc.length ≤ n → tJs (tC (.str y) :: ts) acc σ H Q := fun acc ha =>
  ⟨y, rfl, by rw [str_len_app, sizeLine_eq]; omega, h _ (by rw [str_len_app]; omega)⟩
theorem js_fmt {i k : Nat} (hv : σ[k]? = some (some (.int (i : Int)))) (hi : i ≤ 1000) (hn : n ≤ 10000) (h : ∀ acc : Str, acc.length ≤ n + 1010 → tJs ts acc σ H Q) : ∀ acc : Str, acc.length ≤ n → tJs (tFmt (tVar k) :: ts) acc σ H Q := fun acc ha => by
  have hl : ((Str.ofString (toString (i : Int))).length : Int) ≤ 1002 := by
    have := PyProof.Rows.len_str_of_int (i : Int)
    rw [Int.natAbs_natCast] at this
    omega
  refine ⟨.int i, hv, .inr ⟨i, rfl, ?_, ⟨_, rfl, ?_, h _ ?_⟩⟩⟩
  · rw [Int.natAbs_natCast]
    exact Nat.lt_of_le_of_lt (Nat.log2_le_self i) (by omega)
  · rw [str_len_app, sizeLine_eq]; omega
  · rw [str_len_app]; omega
end
theorem r_mk1 {C : Addr} {f : Str} {σ : L2.St} {H : Hp} {W : XK} {i k : Nat} (hv : σ[k]? = some (some (.int (i : Int)))) (hi : i ≤ 1000) (h : ∀ (d : Addr) (H' : Hp), Same H H' → H d = none → H' d = some (.xd [(f, .int (i : Int))]) → W (.ref C) (some d) H') :
    tMkO C (sp_exc1 C f) [] (tCons (tVar k) tNil) σ H W := ⟨.int i, hv, exc1_out hi h⟩
end Pf

namespace Pf
open PySem L2
/-! ### programs as functions: what a def's model says, its run over the heap does -/
/-- addresses of objects that may still change -/
abbrev Ms := List Addr
/-- what stands frozen (outside ms) in H stands frozen (outside ms') in H' -/
def Mv (ms : Ms) (H : Hp) (ms' : Ms) (H' : Hp) : Prop := ∀ a o, a ∉ ms → H a = some o → a ∉ ms' ∧ H' a = some o
/-- all but what stands at B is as it was, and what was there is there -/
def Bu (B : Ms) (H H' : Hp) : Prop := (∀ a o, a ∉ B → H a = some o → H' a = some o) ∧ ∀ a, H a ≠ none → H' a ≠ none
/-- these addresses are taken -/
def Al (ms : Ms) (H : Hp) : Prop := ∀ a ∈ ms, H a ≠ none
section
variable {B ms ms' ms'' : Ms} {H H' H'' : Hp} {p m : Addr} {o : HO}
theorem Bu.refl (B : Ms) (H : Hp) : Bu B H H := ⟨fun _ _ _ e => e, fun _ e => e⟩
theorem Bu.trans (x : Bu B H H') (y : Bu B H' H'') : Bu B H H'' := ⟨fun a o n e => y.1 a o n (x.1 a o n e), fun a e => y.2 a (x.2 a e)⟩
theorem Bu.same (s : Same H H') : Bu B H H' := ⟨fun a o _ e => s a o e, fun a e => by
  cases h : H a with
  | none => exact absurd h e
  | some o => rw [s a o h]; exact fun z => by cases z⟩
theorem Bu.to_same (x : Bu [] H H') : Same H H' := fun a o e => x.1 a o (by simp) e
theorem Mv.refl : Mv ms H ms H := fun _ _ n e => ⟨n, e⟩
theorem Mv.trans (x : Mv ms H ms' H') (y : Mv ms' H' ms'' H'') : Mv ms H ms'' H'' := fun a o n e => let ⟨n1, e1⟩ := x a o n e; y a o n1 e1
theorem Mv.same (s : Same H H') : Mv ms H ms H' := fun a o n e => ⟨n, s a o e⟩
theorem Mv.bu (hB : ∀ a ∈ B, a ∈ ms) (x : Bu B H H') : Mv ms H ms H' := fun a o n e => ⟨n, x.1 a o (fun z => n (hB a z)) e⟩
theorem Mv.but (hm : m ∈ ms) (s : But m H H') : Mv ms H ms H' := fun a o n e => ⟨n, s a o (fun z => n (z ▸ hm)) e⟩
theorem Mv.new (np : H p = none) (s : Same H H') : Mv ms H (p :: ms) H' := fun a o n e => ⟨fun z => by
  obtain z | z := List.mem_cons.mp z
  · rw [z, np] at e; cases e
  · exact n z, s a o e⟩
theorem Mv.less (h : ∀ a ∈ ms', a ∈ ms) : Mv ms H ms' H := fun a o n e => ⟨fun z => n (h a z), e⟩
theorem Al.bu (h : Al ms H) (x : Bu B H H') : Al ms H' := fun a m => x.2 a (h a m)
theorem Al.same (h : Al ms H) (s : Same H H') : Al ms H' := h.bu (B := []) (Bu.same s)
theorem Al.not (h : Al ms H) (np : H p = none) : p ∉ ms := fun m => h p m np
theorem Al.but (h : Al ms H) (s : But m H H') (e : H' m = some o) : Al ms H' := fun a ha => by
  by_cases q : a = m
  · rw [q, e]; exact fun z => by cases z
  · cases h' : H a with
    | none => exact absurd h' (h a ha)
    | some o' => rw [s a o' q h']; exact fun z => by cases z
theorem Al.cons (h : Al ms H) (e : H p = some o) : Al (p :: ms) H := fun a ha => by
  obtain z | z := List.mem_cons.mp ha
  · rw [z, e]; exact fun z => by cases z
  · exact h a z
theorem Al.less (h : Al ms H) (l : ∀ a ∈ ms', a ∈ ms) : Al ms' H := fun a ha => h a (l a ha)
/-- a list of one's own, changed: seen from the entry nothing has changed -/
theorem Bu.own (x : Bu B H H') (n : H p = none) (s : But p H' H'') (e : H'' p = some o) : Bu B H H'' := ⟨fun a o na ea => s a o (fun z => by rw [z, n] at ea; cases ea) (x.1 a o na ea), fun a ea => by
  by_cases q : a = p
  · rw [q] at ea; exact absurd n ea
  · have := x.2 a ea
    cases h' : H' a with
    | none => exact absurd h' this
    | some o' => rw [s a o' q h']; exact fun z => by cases z⟩
theorem Bu.none (x : Bu B H H') (n : H' p = Option.none) : H p = Option.none := by
  cases h : H p with
  | none => rfl
  | some o => exact absurd n (x.2 p (by rw [h]; exact fun z => by cases z))
end
theorem notc {a m : Addr} {B : Ms} (n : a ∉ m :: B) : a ≠ m ∧ a ∉ B := ⟨fun z => n (z ▸ List.mem_cons_self), fun z => n (List.mem_cons_of_mem _ z)⟩
theorem nin {a m : Addr} {B : Ms} (h : a ≠ m) (n : a ∉ B) : a ∉ m :: B := fun z => by
  obtain z | z := List.mem_cons.mp z
  · exact h z
  · exact n z
theorem nab {a D : Addr} {B : Ms} (h : a ∈ B) (n : D ∉ B) : a ≠ D := fun z => n (z ▸ h)
/-- how a value stands for a datum -/
class Rp (α : Type) where
  rp : Ms → Hp → V → α → Prop
  mv : ∀ {ms ms' : Ms} {H H' : Hp} {v : V} {x : α}, rp ms H v x → Mv ms H ms' H' → rp ms' H' v x
open Rp (rp)
/-- item by item -/
def RL {α : Type} (r : V → α → Prop) : List V → List α → Prop
  | [], [] => True
  | v :: vs, x :: xs => r v x ∧ RL r vs xs
  | _, _ => False
theorem RL.imp {α : Type} {r r' : V → α → Prop} (h : ∀ v x, r v x → r' v x) : ∀ {vs : List V} {xs : List α}, RL r vs xs → RL r' vs xs
  | [], [], _ => trivial
  | _ :: _, _ :: _, ⟨a, b⟩ => ⟨h _ _ a, RL.imp h b⟩
theorem RL.len {α : Type} {r : V → α → Prop} : ∀ {vs : List V} {xs : List α}, RL r vs xs → vs.length = xs.length
  | [], [], _ => rfl
  | _ :: _, _ :: _, ⟨_, b⟩ => by rw [List.length_cons, List.length_cons, RL.len b]
theorem RL.get {α : Type} {r : V → α → Prop} : ∀ {vs : List V} {xs : List α} {i : Nat} {v : V}, RL r vs xs → vs[i]? = some v → ∃ x, xs[i]? = some x ∧ r v x
  | [], _us, _, _, _, e => by simp at e
  | _ :: _, _ :: _, 0, _, ⟨a, _⟩, e => ⟨_, rfl, by cases e; exact a⟩
  | _ :: _, _ :: _, i + 1, _, ⟨_, b⟩, e => by
    obtain ⟨x, e1, e2⟩ := RL.get b (i := i) (by simpa using e)
    exact ⟨x, by simpa using e1, e2⟩
theorem RL.get' {α : Type} {r : V → α → Prop} : ∀ {vs : List V} {xs : List α} {i : Nat} {x : α}, RL r vs xs → xs[i]? = some x → ∃ v, vs[i]? = some v ∧ r v x
  | _us, [], _, _, _, e => by simp at e
  | _ :: _, _ :: _, 0, _, ⟨a, _⟩, e => ⟨_, rfl, by cases e; exact a⟩
  | _ :: _, _ :: _, i + 1, _, ⟨_, b⟩, e => by
    obtain ⟨x, e1, e2⟩ := RL.get' b (i := i) (by simpa using e)
    exact ⟨x, by simpa using e1, e2⟩
theorem RL.app {α : Type} {r : V → α → Prop} : ∀ {vs : List V} {xs : List α} {us : List V} {ys : List α}, RL r vs xs → RL r us ys → RL r (vs ++ us) (xs ++ ys)
  | [], [], _, _, _, h => h
  | _ :: _, _ :: _, _, _, ⟨a, b⟩, h => ⟨a, RL.app b h⟩
theorem RL.snoc {α : Type} {r : V → α → Prop} {vs : List V} {xs : List α} {v : V} {x : α} (h : RL r vs xs) (e : r v x) : RL r (vs ++ [v]) (xs ++ [x]) := h.app ⟨e, trivial⟩
theorem RL.set {α : Type} {r : V → α → Prop} : ∀ {vs : List V} {xs : List α} {i : Nat} {v : V} {x : α}, RL r vs xs → r v x → RL r (vs.set i v) (xs.set i x)
  | [], [], _, _, _, _, _ => trivial
  | _ :: _, _ :: _, 0, _, _, ⟨_, b⟩, e => ⟨e, b⟩
  | _ :: _, _ :: _, i + 1, _, _, ⟨a, b⟩, e => ⟨a, RL.set b e⟩
theorem RL.erase {α : Type} {r : V → α → Prop} : ∀ {vs : List V} {xs : List α} {i : Nat}, RL r vs xs → RL r (vs.eraseIdx i) (xs.eraseIdx i)
  | [], [], _, _ => trivial
  | _ :: _, _ :: _, 0, ⟨_, b⟩ => b
  | _ :: _, _ :: _, i + 1, ⟨a, b⟩ => ⟨a, RL.erase b⟩
theorem RL.take {α : Type} {r : V → α → Prop} : ∀ {vs : List V} {xs : List α} {i : Nat}, RL r vs xs → RL r (vs.take i) (xs.take i)
  | _, _, 0, _ => by rw [List.take_zero, List.take_zero]; trivial
  | [], [], _ + 1, _ => trivial
  | _ :: _, _ :: _, i + 1, ⟨a, b⟩ => ⟨a, RL.take b⟩
theorem RL.drop {α : Type} {r : V → α → Prop} : ∀ {vs : List V} {xs : List α} {i : Nat}, RL r vs xs → RL r (vs.drop i) (xs.drop i)
  | _, _, 0, h => h
  | [], [], _ + 1, _ => trivial
  | v :: vs, x :: xs, i + 1, h => by
    show RL r (vs.drop i) (xs.drop i)
    exact RL.drop h.2
theorem RL.ints {r : V → Int → Prop} (h : ∀ v x, r v x → v = .int x) : ∀ {vs : List V} {xs : List Int}, RL r vs xs → vs = xs.map V.int
  | [], [], _ => rfl
  | _ :: _, _ :: _, ⟨a, b⟩ => by rw [h _ _ a, RL.ints h b]; rfl
theorem RL.bools {r : V → Bool → Prop} (h : ∀ v x, r v x → v = .bl x) : ∀ {vs : List V} {xs : List Bool}, RL r vs xs → vs = xs.map V.bl
  | [], [], _ => rfl
  | _ :: _, _ :: _, ⟨a, b⟩ => by rw [h _ _ a, RL.bools h b]; rfl
theorem RL.of_map {β : Type} {r : V → β → Prop} {f : β → V} (h : ∀ x, r (f x) x) : ∀ xs : List β, RL r (xs.map f) xs
  | [] => trivial
  | x :: xs => ⟨h x, RL.of_map h xs⟩
instance : Rp Int := ⟨fun _ _ v x => v = .int x, fun h _ => h⟩
instance : Rp Bool := ⟨fun _ _ v x => v = .bl x, fun h _ => h⟩
instance : Rp Str := ⟨fun _ _ v x => v = .str x, fun h _ => h⟩
instance : Rp Unit := ⟨fun _ _ v _ => v = .non, fun h _ => h⟩
instance {α : Type} [Rp α] : Rp (Option α) := ⟨fun ms H v x => match x with | none => v = .non | some y => rp ms H v y, fun {ms ms' H H' v x} h M => by
  cases x with
  | none => exact h
  | some y => exact Rp.mv h M⟩
/-- a list stands at a -/
def Ls {α : Type} [Rp α] (ms : Ms) (H : Hp) (a : Addr) (xs : List α) : Prop := ∃ vs, H a = some (.lst vs) ∧ RL (rp ms H) vs xs ∧ vs.length ≤ sizeLine
theorem Ls.step {α : Type} [Rp α] {ms ms' : Ms} {H H' : Hp} {a : Addr} {xs : List α} (h : Ls ms H a xs) (M : Mv ms H ms' H') (e : ∀ o, H a = some o → H' a = some o) : Ls ms' H' a xs :=
  let ⟨vs, e1, r, l⟩ := h; ⟨vs, e _ e1, r.imp fun _ _ z => Rp.mv z M, l⟩
theorem Ls.same {α : Type} [Rp α] {ms : Ms} {H H' : Hp} {a : Addr} {xs : List α} (h : Ls ms H a xs) (s : Same H H') : Ls ms H' a xs := h.step (Mv.same s) fun o e => s a o e
theorem Ls.but {α : Type} [Rp α] {ms : Ms} {H H' : Hp} {a m : Addr} {xs : List α} (h : Ls ms H a xs) (hm : m ∈ ms) (n : a ≠ m) (s : But m H H') : Ls ms H' a xs := h.step (Mv.but hm s) fun o e => s a o n e
theorem Ls.bu {α : Type} [Rp α] {B ms : Ms} {H H' : Hp} {a : Addr} {xs : List α} (h : Ls ms H a xs) (hB : ∀ a ∈ B, a ∈ ms) (n : a ∉ B) (s : Bu B H H') : Ls ms H' a xs := h.step (Mv.bu hB s) fun o e => s.1 a o n e
theorem Ls.new {α : Type} [Rp α] {ms : Ms} {H H' : Hp} {a p : Addr} {xs : List α} (h : Ls ms H a xs) (np : H p = none) (s : Same H H') : Ls (p :: ms) H' a xs := h.step (Mv.new np s) fun o e => s a o e
theorem Ls.less {α : Type} [Rp α] {ms ms' : Ms} {H : Hp} {a : Addr} {xs : List α} (h : Ls ms H a xs) (l : ∀ a ∈ ms', a ∈ ms) : Ls ms' H a xs := h.step (Mv.less l) fun o e => e
theorem Ls.len {α : Type} [Rp α] {ms : Ms} {H : Hp} {a : Addr} {xs : List α} (h : Ls ms H a xs) : xs.length ≤ sizeLine := by obtain ⟨vs, _, r, l⟩ := h; rw [← r.len]; exact l
theorem Ls.alive {α : Type} [Rp α] {ms : Ms} {H : Hp} {a : Addr} {xs : List α} (h : Ls ms H a xs) : H a ≠ none := by obtain ⟨vs, e, _⟩ := h; rw [e]; exact fun z => by cases z
theorem Ls.ne {α : Type} [Rp α] {ms : Ms} {H : Hp} {a p : Addr} {xs : List α} (h : Ls ms H a xs) (np : H p = none) : a ≠ p := fun z => h.alive (z ▸ np)
instance instRpList {α : Type} [Rp α] : Rp (List α) := ⟨fun ms H v xs => ∃ a, v = .ref a ∧ a ∉ ms ∧ Ls ms H a xs, fun {ms ms' H H' v x} h M => by
  obtain ⟨a, rfl, n, vs, e, r, l⟩ := h
  obtain ⟨n', e'⟩ := M a _ n e
  exact ⟨a, rfl, n', vs, e', r.imp fun _ _ z => Rp.mv z M, l⟩⟩
instance instRpProd {α β : Type} [Rp α] [Rp β] : Rp (α × β) := ⟨fun ms H v x => ∃ a u w, v = .ref a ∧ a ∉ ms ∧ H a = some (.tup [u, w]) ∧ rp ms H u x.1 ∧ rp ms H w x.2, fun {ms ms' H H' v x} h M => by
  obtain ⟨a, u, w, rfl, n, e, r1, r2⟩ := h
  obtain ⟨n', e'⟩ := M a _ n e
  exact ⟨a, u, w, rfl, n', e', Rp.mv r1 M, Rp.mv r2 M⟩⟩
/-- a tuple of three -/
structure T3 (α β γ : Type) : Type where
  a : α
  b : β
  c : γ
deriving DecidableEq
instance instRpT3 {α β γ : Type} [Rp α] [Rp β] [Rp γ] : Rp (T3 α β γ) := ⟨fun ms H v x => ∃ a u w y, v = .ref a ∧ a ∉ ms ∧ H a = some (.tup [u, w, y]) ∧ rp ms H u x.a ∧ rp ms H w x.b ∧ rp ms H y x.c, fun {ms ms' H H' v x} h M => by
  obtain ⟨a, u, w, y, rfl, n, e, r1, r2, r3⟩ := h
  obtain ⟨n', e'⟩ := M a _ n e
  exact ⟨a, u, w, y, rfl, n', e', Rp.mv r1 M, Rp.mv r2 M, Rp.mv r3 M⟩⟩
/-- a list of two unlike items -/
structure L2P (α β : Type) : Type where
  a : α
  b : β
deriving DecidableEq
instance instRpL2P {α β : Type} [Rp α] [Rp β] : Rp (L2P α β) := ⟨fun ms H v x => ∃ a u w, v = .ref a ∧ a ∉ ms ∧ H a = some (.lst [u, w]) ∧ rp ms H u x.a ∧ rp ms H w x.b, fun {ms ms' H H' v x} h M => by
  obtain ⟨a, u, w, rfl, n, e, r1, r2⟩ := h
  obtain ⟨n', e'⟩ := M a _ n e
  exact ⟨a, u, w, rfl, n', e', Rp.mv r1 M, Rp.mv r2 M⟩⟩
/-- the arguments of a def -/
class RpA (ι : Type) where
  ra : Ms → Hp → List V → ι → Prop
  mv : ∀ {ms ms' : Ms} {H H' : Hp} {vs : List V} {x : ι}, ra ms H vs x → Mv ms H ms' H' → ra ms' H' vs x
open RpA (ra)
instance instRpANil : RpA Unit := ⟨fun _ _ vs _ => vs = [], fun h _ => h⟩
instance instRpACons {α ι : Type} [Rp α] [RpA ι] : RpA (α × ι) := ⟨fun ms H vs x => ∃ v us, vs = v :: us ∧ rp ms H v x.1 ∧ ra ms H us x.2, fun {ms ms' H H' v x} h M => by
  obtain ⟨v, us, rfl, r1, r2⟩ := h
  exact ⟨v, us, rfl, Rp.mv r1 M, RpA.mv r2 M⟩⟩
/-! ### the model's words -/
def bnd {α β : Type} (x : α) (k : α → Option β) : Option β := k x
theorem bnd_inv {α β : Type} {x : α} {k : α → Option β} {r : β} (h : bnd x k = some r) : ∃ y, y = x ∧ k y = some r := ⟨_, rfl, h⟩
theorem bind_inv {α β : Type} {x : Option α} {k : α → Option β} {r : β} (h : x.bind k = some r) : ∃ y, x = some y ∧ k y = some r := by
  cases x with
  | none => cases h
  | some y => exact ⟨y, rfl, h⟩
/-- a turn: on, or out with an answer -/
inductive Fl (ρ s : Type) where
  | ret (r : ρ)
  | go (x : s)
def fold {α s : Type} (f : α → s → Option s) : List α → s → Option s
  | [], x => some x
  | a :: as, x => (f a x).bind fun y => fold f as y
def loop {α s ρ : Type} (f : α → s → Option (Fl ρ s)) : List α → s → Option (Fl ρ s)
  | [], x => some (.go x)
  | a :: as, x => (f a x).bind fun y => match y with | .ret r => some (.ret r) | .go z => loop f as z
/-- a comprehension: what is kept, in order -/
def coll {α β s : Type} (f : α → s → Option (Option β × s)) : List α → s → Option (List β × s)
  | [], x => some ([], x)
  | a :: as, x => (f a x).bind fun y => (coll f as y.2).bind fun z => some (y.1.toList ++ z.1, z.2)
/-- a comprehension that draws nothing -/
def colP {α β : Type} (f : α → Option (Option β)) : List α → Option (List β)
  | [] => some []
  | a :: as => (f a).bind fun y => (colP f as).bind fun z => some (y.toList ++ z)
def appF {α : Type} (xs : List α) (x : α) : Option (List α) := if xs.length < sizeLine then some (xs ++ [x]) else none
def catF {α : Type} (xs ys : List α) : Option (List α) := if xs.length + ys.length ≤ sizeLine then some (xs ++ ys) else none
def rngL (lo : Int) (n : Nat) : List Int := (List.range n).map fun i : Nat => lo + (i : Int)
def rng2 (lo hi : Int) : Option (List Int) := if -(2 ^ 62) ≤ lo ∧ lo < 2 ^ 62 ∧ -(2 ^ 62) ≤ hi ∧ hi < 2 ^ 62 ∧ (hi - lo).toNat ≤ sizeLine then some (rngL lo (hi - lo).toNat) else none
def rng1 (hi : Int) : Option (List Int) := if -(2 ^ 62) ≤ hi ∧ hi < 2 ^ 62 ∧ hi.toNat ≤ sizeLine then some (rngL 0 hi.toNat) else none
def enumL {α : Type} (xs : List α) : List (Int × α) := xs.mapIdx fun i x => ((i : Int), x)
def setF {α : Type} (xs : List α) (i : Int) (x : α) : Option (List α) := (ixN xs.length i).bind fun j => some (xs.set j x)
/-! ### the judgement: an expression gives x; B may change, from p to q -/
structure Wd (B ms : Ms) (H : Hp) : Prop where
  hB : ∀ a ∈ B, a ∈ ms
  al : Al ms H
theorem Wd.bu {B ms : Ms} {H H' : Hp} (W : Wd B ms H) (x : Bu B H H') : Wd B ms H' := ⟨W.hB, W.al.bu x⟩
theorem Wd.mv {B ms : Ms} {H H' : Hp} (W : Wd B ms H) (x : Bu B H H') : Mv ms H ms H' := Mv.bu W.hB x
abbrev Hq := Ms → Hp → Prop
def Ex {α : Type} [Rp α] (B ms : Ms) (te : TE) (σ : St) (H0 : Hp) (p : Hq) (x : α) (q : Hq) : Prop :=
  ∀ H, Bu B H0 H → p ms H → ∀ Q : VK, (∀ v H', Bu B H H' → q ms H' → rp ms H' v x → Q v H') → te σ H Q
/-- a list that is made -/
def En {α : Type} [Rp α] (B ms : Ms) (te : TE) (σ : St) (H0 : Hp) (p : Hq) (xs : List α) (q : Hq) : Prop :=
  ∀ H, Bu B H0 H → p ms H → ∀ Q : VK, (∀ a H', Bu B H H' → q (a :: ms) H' → H a = none → a ∉ ms → Ls (a :: ms) H' a xs → Q (.ref a) H') → te σ H Q
/-- a list to be read, frozen or not -/
def El {α : Type} [Rp α] (B ms : Ms) (te : TE) (σ : St) (H0 : Hp) (p : Hq) (xs : List α) (q : Hq) : Prop :=
  ∀ H, Bu B H0 H → p ms H → ∀ Q : VK, (∀ a H', Bu B H H' → q ms H' → a ∉ B → Ls ms H' a xs → Q (.ref a) H') → te σ H Q
def Et (B ms : Ms) (tt : TT) (σ : St) (H0 : Hp) (p : Hq) (c : Bool) (q : Hq) : Prop :=
  ∀ H, Bu B H0 H → p ms H → ∀ R : Bool → Hp → Prop, (∀ H', Bu B H H' → q ms H' → R c H') → tt σ H R
def Ea {ι : Type} [RpA ι] (B ms : Ms) (ta : TA) (σ : St) (H0 : Hp) (p : Hq) (x : ι) (q : Hq) : Prop :=
  ∀ H, Bu B H0 H → p ms H → ∀ Q : List V → Hp → Prop, (∀ vs H', Bu B H H' → q ms H' → ra ms H' vs x → Q vs H') → ta σ H Q
/-- stays when what is frozen, and what stands at B, stays -/
def Sb (B : Ms) (q : Hq) : Prop := ∀ ms ms' H H', q ms H → Mv ms H ms' H' → (∀ a ∈ B, ∀ o, H a = some o → H' a = some o) → q ms' H'
theorem Sb.same {B ms : Ms} {q : Hq} {H H' : Hp} (h : Sb B q) (s : Same H H') (z : q ms H) : q ms H' := h _ _ _ _ z (Mv.same s) fun a _ o e => s a o e
def Tr : Hq := fun _ _ => True
theorem sb_tr {B : Ms} : Sb B Tr := fun _ _ _ _ _ _ _ => trivial
section
variable {α β γ : Type} [Rp α] [Rp β] [Rp γ] {K : PySem.W.Frag} {B ms : Ms} {σ : St} {H0 : Hp} {p q r : Hq} {ta tb tc te : TE} {x : α} {y : β} {z : γ}
theorem Ex.use {H : Hp} {Q : VK} (h : Ex B ms te σ H p x q) (hp : p ms H) (k : ∀ v H', Bu B H H' → q ms H' → rp ms H' v x → Q v H') : te σ H Q := h H (Bu.refl B H) hp Q k
theorem Et.use {tt : TT} {c : Bool} {H : Hp} {R : Bool → Hp → Prop} (h : Et B ms tt σ H p c q) (hp : p ms H) (k : ∀ H', Bu B H H' → q ms H' → R c H') : tt σ H R := h H (Bu.refl B H) hp R k
theorem El.use {xs : List α} {H : Hp} {Q : VK} (h : El B ms te σ H p xs q) (hp : p ms H) (k : ∀ a H', Bu B H H' → q ms H' → a ∉ B → Ls ms H' a xs → Q (.ref a) H') : te σ H Q := h H (Bu.refl B H) hp Q k
theorem Ex.later {H : Hp} (h : Ex B ms te σ H0 p x q) (b : Bu B H0 H) : Ex B ms te σ H p x q := fun H1 b1 hp Q k => h H1 (b.trans b1) hp Q k
theorem ex_var (W : Wd B ms H0) {i : Nat} {v : V} (hs : σ[i]? = some (some v)) (h : rp ms H0 v x) : Ex B ms (tVar i) σ H0 p x p := fun H b hp Q k => ⟨v, hs, k v H (Bu.refl B H) hp (Rp.mv h (W.mv b))⟩
theorem ex_int (n : Int) : Ex B ms (tC (.int n)) σ H0 p n p := fun H b hp Q k => k _ H (Bu.refl B H) hp rfl
theorem ex_bl (n : Bool) : Ex B ms (tC (.bl n)) σ H0 p n p := fun H b hp Q k => k _ H (Bu.refl B H) hp rfl
theorem ex_str (n : Str) : Ex B ms (tC (.str n)) σ H0 p n p := fun H b hp Q k => k _ H (Bu.refl B H) hp rfl
theorem ex_non : Ex B ms (tC .non) σ H0 p (none : Option α) p := fun H b hp Q k => k _ H (Bu.refl B H) hp rfl
theorem ex_some (h : Ex B ms te σ H0 p x q) : Ex B ms te σ H0 p (some x) q := h
/-- the same judged of the same datum, said otherwise -/
theorem ex_eq {x' : α} (e : x = x') (h : Ex B ms te σ H0 p x q) : Ex B ms te σ H0 p x' q := e ▸ h
theorem ex_opI0 {g : Int → Int → V} {i j : Int} (hg : ∀ ms H, rp ms H (g i j) z) (ha : Ex B ms ta σ H0 p i q) (hb : Ex B ms tb σ H0 q j r) : Ex B ms (tOp (rI0 g) ta tb) σ H0 p z r :=
  fun H b hp Q k => ha H b hp _ fun v H1 b1 q1 e1 => hb H1 (b.trans b1) q1 _ fun u H2 b2 q2 e2 => ⟨i, j, e1, e2, k _ H2 (b1.trans b2) q2 (hg _ _)⟩
theorem ex_opI {C : Int → Int → Prop} {g : Int → Int → V} {i j : Int} (hc : C i j) (hg : ∀ ms H, rp ms H (g i j) z) (ha : Ex B ms ta σ H0 p i q) (hb : Ex B ms tb σ H0 q j r) : Ex B ms (tOp (rI C g) ta tb) σ H0 p z r :=
  fun H b hp Q k => ha H b hp _ fun v H1 b1 q1 e1 => hb H1 (b.trans b1) q1 _ fun u H2 b2 q2 e2 => ⟨i, j, e1, e2, hc, k _ H2 (b1.trans b2) q2 (hg _ _)⟩
theorem ex_opU {g : Int → V} {i : Int} (hg : ∀ ms H, rp ms H (g i) z) (ha : Ex B ms ta σ H0 p i q) : Ex B ms (tUn (rU g) ta) σ H0 p z q :=
  fun H b hp Q k => ha H b hp _ fun v H1 b1 q1 e1 => ⟨i, e1, k _ H1 b1 q1 (hg _ _)⟩
theorem ex_eqI {i j : Int} (ha : Ex B ms ta σ H0 p i q) (hb : Ex B ms tb σ H0 q j r) : Ex B ms (tOp rEq ta tb) σ H0 p (decide (i = j)) r :=
  fun H b hp Q k => ha H b hp _ fun v H1 b1 q1 e1 => hb H1 (b.trans b1) q1 _ fun u H2 b2 q2 e2 => by
    have e1' : v = .int i := e1
    have e2' : u = .int j := e2
    subst e1' e2'
    exact r_eqI (k _ H2 (b1.trans b2) q2 rfl)
theorem ex_neI {i j : Int} (ha : Ex B ms ta σ H0 p i q) (hb : Ex B ms tb σ H0 q j r) : Ex B ms (tOp rNe ta tb) σ H0 p (!decide (i = j)) r :=
  fun H b hp Q k => ha H b hp _ fun v H1 b1 q1 e1 => hb H1 (b.trans b1) q1 _ fun u H2 b2 q2 e2 => by
    have e1' : v = .int i := e1
    have e2' : u = .int j := e2
    subst e1' e2'
    exact r_neI (k _ H2 (b1.trans b2) q2 rfl)
theorem ex_eqB {i j : Bool} (ha : Ex B ms ta σ H0 p i q) (hb : Ex B ms tb σ H0 q j r) : Ex B ms (tOp rEq ta tb) σ H0 p (decide (i = j)) r :=
  fun H b hp Q k => ha H b hp _ fun v H1 b1 q1 e1 => hb H1 (b.trans b1) q1 _ fun u H2 b2 q2 e2 => by
    have e1' : v = .bl i := e1
    have e2' : u = .bl j := e2
    subst e1' e2'
    exact r_eqB (k _ H2 (b1.trans b2) q2 rfl)
theorem ex_neB {i j : Bool} (ha : Ex B ms ta σ H0 p i q) (hb : Ex B ms tb σ H0 q j r) : Ex B ms (tOp rNe ta tb) σ H0 p (!decide (i = j)) r :=
  fun H b hp Q k => ha H b hp _ fun v H1 b1 q1 e1 => hb H1 (b.trans b1) q1 _ fun u H2 b2 q2 e2 => by
    have e1' : v = .bl i := e1
    have e2' : u = .bl j := e2
    subst e1' e2'
    exact r_neB (k _ H2 (b1.trans b2) q2 rfl)
theorem ex_eqS {i j : Str} (ha : Ex B ms ta σ H0 p i q) (hb : Ex B ms tb σ H0 q j r) : Ex B ms (tOp rEq ta tb) σ H0 p (decide (i = j)) r :=
  fun H b hp Q k => ha H b hp _ fun v H1 b1 q1 e1 => hb H1 (b.trans b1) q1 _ fun u H2 b2 q2 e2 => by
    have e1' : v = .str i := e1
    have e2' : u = .str j := e2
    subst e1' e2'
    refine ⟨rfl, ?_⟩
    rw [show decide (V.str i = V.str j) = decide (i = j) by simp]
    exact k _ H2 (b1.trans b2) q2 rfl
/-! truth -/
theorem et_val {c : Bool} (h : Ex B ms te σ H0 p c q) : Et B ms (tB te) σ H0 p c q := fun H b hp R k => h H b hp _ fun v H1 b1 q1 e1 => ⟨c, e1, k H1 b1 q1⟩
theorem et_test {c : Bool} (h : Ex B ms te σ H0 p c q) : Et B ms (tTest te) σ H0 p c q := fun H b hp R k => h H b hp _ fun v H1 b1 q1 e1 => ⟨c, e1, k H1 b1 q1⟩
theorem et_truL {xs : List α} (h : El B ms te σ H0 p xs q) : Et B ms (tTru K te) σ H0 p (!xs.isEmpty) q := fun H b hp R k => h H b hp _ fun a H1 b1 q1 na ⟨vs, e, rl, _⟩ => by
  have e2 : vs.isEmpty = xs.isEmpty := by
    have := rl.len
    cases vs <;> cases xs <;> simp_all
  refine r_truL (SqL.of e) ?_
  rw [e2]
  exact k H1 b1 q1
theorem et_not {tt : TT} {c : Bool} (h : Et B ms tt σ H0 p c q) : Et B ms (L2.tNot tt) σ H0 p (!c) q := fun H b hp R k => h H b hp _ fun H1 b1 q1 => k H1 b1 q1
theorem et_and {t1 t2 : TT} {c d : Bool} (h1 : Et B ms t1 σ H0 p c q) (h2 : c = true → Et B ms t2 σ H0 q d r) (h3 : c = false → d = false ∧ ∀ H, q ms H → r ms H) : Et B ms (L2.tAnd t1 t2) σ H0 p d r := fun H b hp R k => h1 H b hp _ fun H1 b1 q1 => by
  cases c with
  | true =>
    exact h2 rfl H1 (b.trans b1) q1 _ fun H2 b2 q2 => k H2 (b1.trans b2) q2
  | false =>
    obtain ⟨rfl, h⟩ := h3 rfl
    exact k H1 b1 (h _ q1)
theorem et_or {t1 t2 : TT} {c d : Bool} (h1 : Et B ms t1 σ H0 p c q) (h2 : c = false → Et B ms t2 σ H0 q d r) (h3 : c = true → d = true ∧ ∀ H, q ms H → r ms H) : Et B ms (L2.tOr t1 t2) σ H0 p d r := fun H b hp R k => h1 H b hp _ fun H1 b1 q1 => by
  cases c with
  | false =>
    exact h2 rfl H1 (b.trans b1) q1 _ fun H2 b2 q2 => k H2 (b1.trans b2) q2
  | true =>
    obtain ⟨rfl, h⟩ := h3 rfl
    exact k H1 b1 (h _ q1)
theorem ex_and {c d : Bool} (h1 : Ex B ms ta σ H0 p c q) (h2 : c = true → Ex B ms tb σ H0 q d r) (h3 : c = false → d = false ∧ ∀ H, q ms H → r ms H) : Ex B ms (tAndV ta tb) σ H0 p d r := fun H b hp R k => h1 H b hp _ fun v H1 b1 q1 ev => by
  refine ⟨c, ev, ?_⟩
  cases c with
  | true =>
    exact h2 rfl H1 (b.trans b1) q1 _ fun v H2 b2 q2 e2 => k v H2 (b1.trans b2) q2 e2
  | false =>
    obtain ⟨rfl, h⟩ := h3 rfl
    exact k _ H1 b1 (h _ q1) rfl
theorem ex_or {c d : Bool} (h1 : Ex B ms ta σ H0 p c q) (h2 : c = false → Ex B ms tb σ H0 q d r) (h3 : c = true → d = true ∧ ∀ H, q ms H → r ms H) : Ex B ms (tOrV ta tb) σ H0 p d r := fun H b hp R k => h1 H b hp _ fun v H1 b1 q1 ev => by
  refine ⟨c, ev, ?_⟩
  cases c with
  | false =>
    exact h2 rfl H1 (b.trans b1) q1 _ fun v H2 b2 q2 e2 => k v H2 (b1.trans b2) q2 e2
  | true =>
    obtain ⟨rfl, h⟩ := h3 rfl
    exact k _ H1 b1 (h _ q1) rfl
theorem ex_not {c : Bool} (h : Ex B ms te σ H0 p c q) : Ex B ms (tNotV te) σ H0 p (!c) q := fun H b hp Q k => h H b hp _ fun v H1 b1 q1 e1 => ⟨c, e1, k _ H1 b1 q1 rfl⟩
theorem ex_if {tt : TT} {c : Bool} (h1 : Et B ms tt σ H0 p c q) (h2 : c = true → Ex B ms ta σ H0 q x r) (h3 : c = false → Ex B ms tb σ H0 q x r) : Ex B ms (L2.tIf tt ta tb) σ H0 p x r := fun H b hp Q k => h1 H b hp _ fun H1 b1 q1 => by
  cases c with
  | true => exact h2 rfl H1 (b.trans b1) q1 _ fun v H2 b2 q2 e2 => k v H2 (b1.trans b2) q2 e2
  | false => exact h3 rfl H1 (b.trans b1) q1 _ fun v H2 b2 q2 e2 => k v H2 (b1.trans b2) q2 e2
theorem et_and' {t1 t2 : TT} {c d : Bool} (h1 : Et B ms t1 σ H0 p c q) (h2 : c = true → Et B ms t2 σ H0 q d q) : Et B ms (L2.tAnd t1 t2) σ H0 p (c && d) q := et_and h1 (fun e => by rw [show (c && d) = d by rw [e]; rfl]; exact h2 e) fun e => ⟨by rw [e]; rfl, fun _ z => z⟩
theorem et_or' {t1 t2 : TT} {c d : Bool} (h1 : Et B ms t1 σ H0 p c q) (h2 : c = false → Et B ms t2 σ H0 q d q) : Et B ms (L2.tOr t1 t2) σ H0 p (c || d) q := et_or h1 (fun e => by rw [show (c || d) = d by rw [e]; rfl]; exact h2 e) fun e => ⟨by rw [e]; rfl, fun _ z => z⟩
theorem ex_and' {c d : Bool} (h1 : Ex B ms ta σ H0 p c q) (h2 : c = true → Ex B ms tb σ H0 q d q) : Ex B ms (tAndV ta tb) σ H0 p (c && d) q := ex_and h1 (fun e => by rw [show (c && d) = d by rw [e]; rfl]; exact h2 e) fun e => ⟨by rw [e]; rfl, fun _ z => z⟩
theorem ex_or' {c d : Bool} (h1 : Ex B ms ta σ H0 p c q) (h2 : c = false → Ex B ms tb σ H0 q d q) : Ex B ms (tOrV ta tb) σ H0 p (c || d) q := ex_or h1 (fun e => by rw [show (c || d) = d by rw [e]; rfl]; exact h2 e) fun e => ⟨by rw [e]; rfl, fun _ z => z⟩
/-! a < b < c -/
theorem ex_chain {g h : Int → Int → Bool} {i j l : Int} {d : Bool} (ha : Ex B ms ta σ H0 p i q) (hb : Ex B ms tb σ H0 q j r) (hc : Ex B ms tc σ H0 r l r) (e : d = (g i j && h j l)) : Ex B ms (tChain (rI0 fun i j => .bl (g i j)) (rI0 fun i j => .bl (h i j)) ta tb tc) σ H0 p d r :=
  fun H b hp Q k => ha H b hp _ fun v H1 b1 q1 e1 => hb H1 (b.trans b1) q1 _ fun u H2 b2 q2 e2 => ⟨i, j, e1, e2, g i j, rfl, by
    cases hg : g i j with
    | true =>
      rw [if_pos rfl]
      refine hc H2 ((b.trans b1).trans b2) q2 _ fun w H3 b3 q3 e3 => ⟨j, l, e2, e3, ?_⟩
      rw [e, hg] at k
      exact k _ H3 ((b1.trans b2).trans b3) q3 rfl
    | false =>
      rw [if_neg (by decide)]
      rw [e, hg] at k
      exact k _ H2 (b1.trans b2) q2 rfl⟩
/-- the same, where the third part may fail -/
theorem ex_chainP {g h : Int → Int → Bool} {i j : Int} {d : Bool} (ha : Ex B ms ta σ H0 p i q) (hb : Ex B ms tb σ H0 q j r) (hc : g i j = true → ∃ l : Int, Ex B ms tc σ H0 r l r ∧ h j l = d) (e : g i j = false → d = false) : Ex B ms (tChain (rI0 fun i j => .bl (g i j)) (rI0 fun i j => .bl (h i j)) ta tb tc) σ H0 p d r :=
  fun H b hp Q k => ha H b hp _ fun v H1 b1 q1 e1 => hb H1 (b.trans b1) q1 _ fun u H2 b2 q2 e2 => ⟨i, j, e1, e2, g i j, rfl, by
    cases hg : g i j with
    | true =>
      rw [if_pos rfl]
      obtain ⟨l, hc, ed⟩ := hc hg
      refine hc H2 ((b.trans b1).trans b2) q2 _ fun w H3 b3 q3 e3 => ⟨j, l, e2, e3, ?_⟩
      rw [← ed] at k
      exact k _ H3 ((b1.trans b2).trans b3) q3 rfl
    | false =>
      rw [if_neg (by decide)]
      rw [e hg] at k
      exact k _ H2 (b1.trans b2) q2 rfl⟩
end
section
variable {α β γ : Type} [Rp α] [Rp β] [Rp γ] {K : PySem.W.Frag} {B ms : Ms} {σ : St} {H0 : Hp} {p q r : Hq} {ta tb tc te : TE} {x : α} {y : β} {z : γ}
/-! lists to read -/
theorem el_of {xs : List α} (hB : ∀ a ∈ B, a ∈ ms) (h : Ex B ms te σ H0 p xs q) : El B ms te σ H0 p xs q := fun H b hp Q k => h H b hp _ fun v H1 b1 q1 ⟨a, e, n, l⟩ => by
  subst e
  exact k a H1 b1 q1 (fun z => n (hB a z)) l
theorem el_var {i : Nat} {a : Addr} {xs : List α} (W : Wd B ms H0) (hs : σ[i]? = some (some (.ref a))) (n : a ∉ B) (h : Ls ms H0 a xs) : El B ms (tVar i) σ H0 p xs p := fun H b hp Q k => ⟨_, hs, k a H (Bu.refl B H) hp n (h.bu W.hB n b)⟩
theorem ex_len {xs : List α} (h : El B ms te σ H0 p xs q) : Ex B ms (tCB (fun xs H Q => ∃ p ys, xs = [.ref p] ∧ (SqL K H p ys ∨ SqT K H p ys) ∧ Q (.int ys.length) H) (tCons te tNil)) σ H0 p (xs.length : Int) q := fun H b hp Q k => h H b hp _ fun a H1 b1 q1 na ⟨vs, e, rl, _⟩ =>
  ⟨a, vs, rfl, .inl (SqL.of e), k _ H1 b1 q1 (by rw [rl.len]; rfl)⟩
theorem ex_ixL {xs : List α} {i : Int} (h1 : El B ms ta σ H0 p xs q) (h2 : Ex B ms tb σ H0 q i r) (W : Wd B ms H0) (e : atI xs i = some x) : Ex B ms (tOp (rIxL K) ta tb) σ H0 p x r := fun H b hp Q k => h1 H b hp _ fun a H1 b1 q1 na l1 => h2 H1 (b.trans b1) q1 _ fun u H2 b2 q2 e2 => by
  obtain ⟨vs, ev, rl, _⟩ := l1.bu W.hB na b2
  obtain ⟨j, ej, ex⟩ := Option.bind_eq_some_iff.mp e
  obtain ⟨v, hv, rv⟩ := rl.get' ex
  have e2' : u = .int i := e2
  subst e2'
  refine ⟨a, vs, i, v, rfl, rfl, SqL.of ev, ?_, k v H2 (b1.trans b2) q2 rv⟩
  unfold atI
  rw [rl.len, ej]
  exact hv
theorem ex_fst {u : α × β} (h1 : Ex B ms ta σ H0 p u q) : Ex B ms (tOp (rIxT K) ta (tC (.int 0))) σ H0 p u.1 q := fun H b hp Q k => h1 H b hp _ fun v H1 b1 q1 ⟨a, w1, w2, e, n, eh, r1, r2⟩ => by
  subst e
  exact ⟨a, _, 0, w1, rfl, rfl, SqT.of eh, rfl, k _ H1 b1 q1 r1⟩
theorem ex_snd {u : α × β} (h1 : Ex B ms ta σ H0 p u q) : Ex B ms (tOp (rIxT K) ta (tC (.int 1))) σ H0 p u.2 q := fun H b hp Q k => h1 H b hp _ fun v H1 b1 q1 ⟨a, w1, w2, e, n, eh, r1, r2⟩ => by
  subst e
  exact ⟨a, _, 1, w2, rfl, rfl, SqT.of eh, rfl, k _ H1 b1 q1 r2⟩
theorem ex_t1 {u : T3 α β γ} (h1 : Ex B ms ta σ H0 p u q) : Ex B ms (tOp (rIxT K) ta (tC (.int 0))) σ H0 p u.a q := fun H b hp Q k => h1 H b hp _ fun v H1 b1 q1 ⟨a, w1, w2, w3, e, n, eh, r1, r2, r3⟩ => by
  subst e
  exact ⟨a, _, 0, w1, rfl, rfl, SqT.of eh, rfl, k _ H1 b1 q1 r1⟩
theorem ex_t2 {u : T3 α β γ} (h1 : Ex B ms ta σ H0 p u q) : Ex B ms (tOp (rIxT K) ta (tC (.int 1))) σ H0 p u.b q := fun H b hp Q k => h1 H b hp _ fun v H1 b1 q1 ⟨a, w1, w2, w3, e, n, eh, r1, r2, r3⟩ => by
  subst e
  exact ⟨a, _, 1, w2, rfl, rfl, SqT.of eh, rfl, k _ H1 b1 q1 r2⟩
theorem ex_t3 {u : T3 α β γ} (h1 : Ex B ms ta σ H0 p u q) : Ex B ms (tOp (rIxT K) ta (tC (.int 2))) σ H0 p u.c q := fun H b hp Q k => h1 H b hp _ fun v H1 b1 q1 ⟨a, w1, w2, w3, e, n, eh, r1, r2, r3⟩ => by
  subst e
  exact ⟨a, _, 2, w3, rfl, rfl, SqT.of eh, rfl, k _ H1 b1 q1 r3⟩
theorem Sb.less {H : Hp} {a : Addr} {q : Hq} (h : Sb B q) (z : q (a :: ms) H) : q ms H := h _ _ _ _ z (Mv.less fun _ m => List.mem_cons_of_mem _ m) fun _ _ _ e => e
theorem Sb.new {H H' : Hp} {a : Addr} {q : Hq} (h : Sb B q) (na : H a = none) (s : Same H H') (z : q ms H) : q (a :: ms) H' := h _ _ _ _ z (Mv.new na s) fun _ _ _ e => s _ _ e
theorem En.ex {xs : List α} (hq : Sb B q) (h : En B ms te σ H0 p xs q) : Ex B ms te σ H0 p xs q := fun H b hp Q k => h H b hp _ fun a H1 b1 q1 na nm l => k _ H1 b1 (hq.less q1) ⟨a, rfl, nm, l.less fun _ m => List.mem_cons_of_mem _ m⟩
theorem ls_new {H : Hp} {t : Addr} {vs : List V} {xs : List α} (nt : H t = none) (rl : RL (rp ms H) vs xs) (l : vs.length ≤ sizeLine) : Ls (t :: ms) (upd H t (.lst vs)) t xs := ⟨vs, upd_same, rl.imp fun _ _ z => Rp.mv z (Mv.new nt (same_upd nt)), l⟩
/-! arguments -/
theorem ea_nil : Ea B ms tNil σ H0 p () p := fun H b hp Q k => k [] H (Bu.refl B H) hp rfl
theorem ea_cons {ι : Type} [RpA ι] {ts : TA} {i : ι} (W : Wd B ms H0) (h1 : Ex B ms te σ H0 p x q) (h2 : Ea B ms ts σ H0 q i r) : Ea B ms (tCons te ts) σ H0 p (x, i) r := fun H b hp Q k => h1 H b hp _ fun v H1 b1 q1 e1 => h2 H1 (b.trans b1) q1 _ fun vs H2 b2 q2 e2 =>
  k (v :: vs) H2 (b1.trans b2) q2 ⟨v, vs, rfl, Rp.mv e1 (Mv.bu W.hB b2), e2⟩
theorem ex_tup2 {ts : TA} {u : α × β} (W : Wd B ms H0) (hq : Sb B q) (h : Ea B ms ts σ H0 p (u.1, u.2, ()) q) : Ex B ms (tTup ts) σ H0 p u q := fun H b hp Q k => h H b hp _ fun vs H1 b1 q1 e1 => by
  obtain ⟨v1, _, rfl, r1, v2, _, rfl, r2, e⟩ := e1
  have e' : _ = [] := e
  subst e'
  refine ⟨by rw [sizeLine_eq]; simp, fun t nt => ?_⟩
  have s := same_upd (o := .tup [v1, v2]) nt
  exact k _ _ (b1.trans (Bu.same s)) (hq.same s q1) ⟨t, v1, v2, rfl, ((W.al.bu b).bu b1).not nt, upd_same, Rp.mv r1 (Mv.same s), Rp.mv r2 (Mv.same s)⟩
theorem ex_tup3 {ts : TA} {u : T3 α β γ} (W : Wd B ms H0) (hq : Sb B q) (h : Ea B ms ts σ H0 p (u.a, u.b, u.c, ()) q) : Ex B ms (tTup ts) σ H0 p u q := fun H b hp Q k => h H b hp _ fun vs H1 b1 q1 e1 => by
  obtain ⟨v1, _, rfl, r1, v2, _, rfl, r2, v3, _, rfl, r3, e⟩ := e1
  have e' : _ = [] := e
  subst e'
  refine ⟨by rw [sizeLine_eq]; simp, fun t nt => ?_⟩
  have s := same_upd (o := .tup [v1, v2, v3]) nt
  exact k _ _ (b1.trans (Bu.same s)) (hq.same s q1) ⟨t, v1, v2, v3, rfl, ((W.al.bu b).bu b1).not nt, upd_same, Rp.mv r1 (Mv.same s), Rp.mv r2 (Mv.same s), Rp.mv r3 (Mv.same s)⟩
theorem ex_l1 {u : L2P α β} (h1 : Ex B ms ta σ H0 p u q) : Ex B ms (tOp (rIxL K) ta (tC (.int 0))) σ H0 p u.a q := fun H b hp Q k => h1 H b hp _ fun v H1 b1 q1 ⟨a, w1, w2, e, n, eh, r1, r2⟩ => by
  subst e
  exact ⟨a, _, 0, w1, rfl, rfl, SqL.of eh, rfl, k _ H1 b1 q1 r1⟩
theorem ex_l2 {u : L2P α β} (h1 : Ex B ms ta σ H0 p u q) : Ex B ms (tOp (rIxL K) ta (tC (.int 1))) σ H0 p u.b q := fun H b hp Q k => h1 H b hp _ fun v H1 b1 q1 ⟨a, w1, w2, e, n, eh, r1, r2⟩ => by
  subst e
  exact ⟨a, _, 1, w2, rfl, rfl, SqL.of eh, rfl, k _ H1 b1 q1 r2⟩
theorem ex_two {ts : TA} {u : L2P α β} (W : Wd B ms H0) (hq : Sb B q) (h : Ea B ms ts σ H0 p (u.a, u.b, ()) q) : Ex B ms (tLst ts) σ H0 p u q := fun H b hp Q k => h H b hp _ fun vs H1 b1 q1 e1 => by
  obtain ⟨v1, _, rfl, r1, v2, _, rfl, r2, e⟩ := e1
  have e' : _ = [] := e
  subst e'
  refine ⟨by rw [sizeLine_eq]; simp, fun t nt => ?_⟩
  have s := same_upd (o := .lst [v1, v2]) nt
  exact k _ _ (b1.trans (Bu.same s)) (hq.same s q1) ⟨t, v1, v2, rfl, ((W.al.bu b).bu b1).not nt, upd_same, Rp.mv r1 (Mv.same s), Rp.mv r2 (Mv.same s)⟩
/-- items of a list display -/
def Es (B ms : Ms) (ta : TA) (σ : St) (H0 : Hp) (p : Hq) (xs : List α) (q : Hq) : Prop :=
  ∀ H, Bu B H0 H → p ms H → ∀ Q : List V → Hp → Prop, (∀ vs H', Bu B H H' → q ms H' → RL (rp ms H') vs xs → Q vs H') → ta σ H Q
theorem es_nil : Es B ms tNil σ H0 p ([] : List α) p := fun H b hp Q k => k [] H (Bu.refl B H) hp trivial
theorem es_cons {xs : List α} {ts : TA} (W : Wd B ms H0) (h1 : Ex B ms te σ H0 p x q) (h2 : Es B ms ts σ H0 q xs r) : Es B ms (tCons te ts) σ H0 p (x :: xs) r := fun H b hp Q k => h1 H b hp _ fun v H1 b1 q1 e1 => h2 H1 (b.trans b1) q1 _ fun vs H2 b2 q2 e2 =>
  k (v :: vs) H2 (b1.trans b2) q2 ⟨Rp.mv e1 (Mv.bu W.hB b2), e2⟩
/-- a fresh list -/
theorem rp_new {H : Hp} {t : Addr} {vs : List V} {xs : List α} (al : Al ms H) (nt : H t = none) (rl : RL (rp ms H) vs xs) (l : vs.length ≤ sizeLine) : rp ms (upd H t (.lst vs)) (.ref t) xs :=
  ⟨t, rfl, al.not nt, vs, upd_same, rl.imp fun _ _ z => Rp.mv z (Mv.same (same_upd nt)), l⟩
theorem en_lst {ts : TA} {xs : List α} (W : Wd B ms H0) (hq : Sb B q) (hl : xs.length ≤ 1000) (h : Es B ms ts σ H0 p xs q) : En B ms (tLst ts) σ H0 p xs q := fun H b hp Q k => h H b hp _ fun vs H1 b1 q1 rl => by
  have hl' : vs.length ≤ sizeLine := by rw [rl.len, sizeLine_eq]; omega
  refine ⟨hl', fun t nt => ?_⟩
  have s := same_upd (o := .lst vs) nt
  exact k _ _ (b1.trans (Bu.same s)) (hq.new nt s q1) (b1.none nt) (((W.al.bu b).bu b1).not nt) (ls_new nt rl hl')
theorem en_listof {xs : List α} (W : Wd B ms H0) (hq : Sb B q) (h : El B ms te σ H0 p xs q) : En B ms (tCB (fun xs H Q => ∃ p ys, xs = [.ref p] ∧ (SqL K H p ys ∨ SqT K H p ys) ∧ ∀ l, H l = none → Q (.ref l) (upd H l (.lst ys))) (tCons te tNil)) σ H0 p xs q := fun H b hp Q k => h H b hp _ fun a H1 b1 q1 na ⟨vs, e, rl, l⟩ => by
  refine ⟨a, vs, rfl, .inl (SqL.of e), fun t nt => ?_⟩
  have s := same_upd (o := .lst vs) nt
  exact k _ _ (b1.trans (Bu.same s)) (hq.new nt s q1) (b1.none nt) (((W.al.bu b).bu b1).not nt) (ls_new nt rl l)
theorem en_cat {xs ys zs : List α} (W : Wd B ms H0) (hr : Sb B r) (h1 : El B ms ta σ H0 p xs q) (h2 : El B ms tb σ H0 q ys r) (e : catF xs ys = some zs) : En B ms (tOp rCat ta tb) σ H0 p zs r := fun H b hp Q k => h1 H b hp _ fun a H1 b1 q1 na l1 => h2 H1 (b.trans b1) q1 _ fun a2 H2 b2 q2 na2 l2 => by
  obtain ⟨vs, ev, rl, _⟩ := l1.bu W.hB na b2
  obtain ⟨us, eu, rl2, _⟩ := l2
  unfold catF at e
  split at e
  · rename_i hl
    cases e
    have hl' : vs.length + us.length ≤ sizeLine := by rw [rl.len, rl2.len]; exact hl
    refine ⟨a, a2, vs, us, rfl, rfl, ev, eu, hl', fun t nt => ?_⟩
    have s := same_upd (o := .lst (vs ++ us)) nt
    exact k _ _ ((b1.trans b2).trans (Bu.same s)) (hr.new nt s q2) ((b1.trans b2).none nt) ((((W.al.bu b).bu b1).bu b2).not nt) (ls_new nt (rl.app rl2) (by rw [List.length_append]; exact hl'))
  · cases e
/-! slices -/
def cutF {α : Type} (xs : List α) (lo hi : Option Int) : List α := (xs.drop (HT.sIx xs.length 0 lo)).take (HT.sIx xs.length xs.length hi - HT.sIx xs.length 0 lo)
def Eo (B ms : Ms) (th : TO) (σ : St) (H0 : Hp) (p : Hq) (i : Option Int) (q : Hq) : Prop :=
  ∀ H, Bu B H0 H → p ms H → ∀ Q : Option Int → Hp → Prop, (∀ H', Bu B H H' → q ms H' → Q i H') → th σ H Q
theorem eo_none : Eo B ms tNoPart σ H0 p none p := fun H b hp Q k => k H (Bu.refl B H) hp
theorem eo_some {i : Int} (h : Ex B ms te σ H0 p i q) : Eo B ms (tPart te) σ H0 p (some i) q := fun H b hp Q k => h H b hp _ fun v H1 b1 q1 e => ⟨i, e, k H1 b1 q1⟩
theorem en_slice {xs : List α} {lo hi : Option Int} {tl th : TO} {s : Hq} (W : Wd B ms H0) (hs : Sb B s) (h1 : El B ms te σ H0 p xs q) (h2 : Eo B ms tl σ H0 q lo r) (h3 : Eo B ms th σ H0 r hi s) : En B ms (tSl (rSlL K) te tl th) σ H0 p (cutF xs lo hi) s := fun H b hp Q k => h1 H b hp _ fun a H1 b1 q1 na l1 =>
  h2 H1 (b.trans b1) q1 _ fun H2 b2 q2 => h3 H2 ((b.trans b1).trans b2) q2 _ fun H3 b3 q3 => by
  obtain ⟨vs, ev, rl, l⟩ := (l1.bu W.hB na b2).bu W.hB na b3
  refine ⟨a, vs, rfl, SqL.of ev, fun t nt => ?_⟩
  have s := same_upd (o := .lst (cutV vs lo hi)) nt
  refine k _ _ (((b1.trans b2).trans b3).trans (Bu.same s)) (hs.new nt s q3) (((b1.trans b2).trans b3).none nt) (((((W.al.bu b).bu b1).bu b2).bu b3).not nt) (ls_new nt ?_ (Nat.le_trans (cutV_length vs lo hi) l))
  unfold cutV cutF
  rw [rl.len]
  exact rl.drop.take
/-! sums, any, all, max, min -/
theorem ex_sum {xs : List Int} (h : El B ms te σ H0 p xs q) : Ex B ms (tCB (rSum K) (tCons te tNil)) σ H0 p xs.sum q := fun H b hp Q k => h H b hp _ fun a H1 b1 q1 na ⟨vs, e, rl, l⟩ => by
  rw [rl.ints fun _ _ h => h] at e
  exact ⟨a, xs, rfl, SqL.of e, k _ H1 b1 q1 rfl⟩
theorem ex_any {xs : List Bool} (h : El B ms te σ H0 p xs q) : Ex B ms (tCB (rAny K) (tCons te tNil)) σ H0 p (xs.any id) q := fun H b hp Q k => h H b hp _ fun a H1 b1 q1 na ⟨vs, e, rl, l⟩ => by
  rw [rl.bools fun _ _ h => h] at e
  exact ⟨a, xs, rfl, SqL.of e, k _ H1 b1 q1 rfl⟩
theorem ex_all {xs : List Bool} (h : El B ms te σ H0 p xs q) : Ex B ms (tCB (rAll K) (tCons te tNil)) σ H0 p (xs.all id) q := fun H b hp Q k => h H b hp _ fun a H1 b1 q1 na ⟨vs, e, rl, l⟩ => by
  rw [rl.bools fun _ _ h => h] at e
  exact ⟨a, xs, rfl, SqL.of e, k _ H1 b1 q1 rfl⟩
theorem ex_max2 {ts : TA} {i j : Int} (h : Ea B ms ts σ H0 p (i, j, ()) q) : Ex B ms (tCB (fun xs H Q => ∃ i j, xs = [.int i, .int j] ∧ Q (.int (if j > i then j else i)) H) ts) σ H0 p (max i j) q := fun H b hp Q k => h H b hp _ fun vs H1 b1 q1 e1 => by
  obtain ⟨v1, _, rfl, r1, v2, _, rfl, r2, e⟩ := e1
  refine ⟨i, j, ?_, k _ H1 b1 q1 ?_⟩
  · have e' : _ = [] := e
    have r1' : v1 = .int i := r1
    have r2' : v2 = .int j := r2
    rw [e', r1', r2']
  · show V.int _ = V.int _
    congr 1
    split <;> omega
theorem ex_min2 {ts : TA} {i j : Int} (h : Ea B ms ts σ H0 p (i, j, ()) q) : Ex B ms (tCB (fun xs H Q => ∃ i j, xs = [.int i, .int j] ∧ Q (.int (if j < i then j else i)) H) ts) σ H0 p (min i j) q := fun H b hp Q k => h H b hp _ fun vs H1 b1 q1 e1 => by
  obtain ⟨v1, _, rfl, r1, v2, _, rfl, r2, e⟩ := e1
  refine ⟨i, j, ?_, k _ H1 b1 q1 ?_⟩
  · have e' : _ = [] := e
    have r1' : v1 = .int i := r1
    have r2' : v2 = .int j := r2
    rw [e', r1', r2']
  · show V.int _ = V.int _
    congr 1
    split <;> omega
/-! equality of data -/
class RpD (α : Type) [DecidableEq α] [Enc α] [Rp α] : Prop where
  dp : ∀ {K : PySem.W.Frag} {ms : Ms} {H : Hp} {v : V} {x : α}, rp ms H v x → Is K H v x
theorem dpAll_of [DecidableEq α] [Enc α] [RpD α] {K : PySem.W.Frag} {ms : Ms} {H : Hp} : ∀ {vs : List V} {xs : List α}, RL (rp ms H) vs xs → DpAll K H vs (xs.map Enc.enc)
  | [], [], _ => .nil
  | _ :: _, _ :: _, ⟨a, b⟩ => .cons (RpD.dp a) (dpAll_of b)
instance : RpD Int := ⟨fun h => by have h' : _ = V.int _ := h; subst h'; exact is_int⟩
instance : RpD Bool := ⟨fun h => by have h' : _ = V.bl _ := h; subst h'; exact is_bl⟩
theorem Ls.is [DecidableEq α] [Enc α] [RpD α] {K : PySem.W.Frag} {ms : Ms} {H : Hp} {a : Addr} {xs : List α} (h : Ls ms H a xs) : Is K H (.ref a) xs := let ⟨_, e, rl, _⟩ := h; .lst (SqL.of e) (dpAll_of rl)
instance [DecidableEq α] [Enc α] [RpD α] : RpD (List α) := ⟨fun ⟨a, e, _, l⟩ => by subst e; exact l.is⟩
instance [DecidableEq α] [Enc α] [RpD α] [DecidableEq β] [Enc β] [RpD β] : RpD (α × β) := ⟨fun ⟨a, u, w, e, _, eh, r1, r2⟩ => by subst e; exact is_pair (SqT.of eh) (RpD.dp r1) (RpD.dp r2)⟩
instance encT3 [DecidableEq α] [DecidableEq β] [DecidableEq γ] [Enc α] [Enc β] [Enc γ] : Enc (T3 α β γ) := ⟨fun x => .tuple [Enc.enc x.a, Enc.enc x.b, Enc.enc x.c], max (Enc.dep α) (max (Enc.dep β) (Enc.dep γ)) + 1,
  fun x => by rw [PyData.canLay0, PyData.canLayAll0, PyData.canLayAll0, PyData.canLayAll0, PyData.canLayAll0, Enc.lay, Enc.lay, Enc.lay]; rfl,
  fun x => by
    have h1 := Enc.dle x.a
    have h2 := Enc.dle x.b
    have h3 := Enc.dle x.c
    rw [PyData.depth, PyData.depthAll, PyData.depthAll, PyData.depthAll, PyData.depthAll]
    omega,
  fun x y => by
    rw [PyData.eqv, PyData.eqvAll, PyData.eqvAll, PyData.eqvAll, PyData.eqvAll, Enc.eqv, Enc.eqv, Enc.eqv]
    obtain ⟨a, b, c⟩ := x
    obtain ⟨a', b', c'⟩ := y
    by_cases h : a = a' <;> by_cases h' : b = b' <;> by_cases h2 : c = c' <;> simp [h, h', h2]⟩
instance [DecidableEq α] [Enc α] [RpD α] [DecidableEq β] [Enc β] [RpD β] [DecidableEq γ] [Enc γ] [RpD γ] : RpD (T3 α β γ) := ⟨fun ⟨a, u, w, y, e, _, eh, r1, r2, r3⟩ => by subst e; exact .tup (SqT.of eh) (.cons (RpD.dp r1) (.cons (RpD.dp r2) (.cons (RpD.dp r3) .nil)))⟩
theorem eqv_non_none {d : PyData} (h : d ≠ .none) : PyData.eqv .none d = false := by
  cases d <;> first | exact absurd rfl h | rfl
theorem eqv_none_non {d : PyData} (h : d ≠ .none) : PyData.eqv d .none = false := by
  cases d <;> first | exact absurd rfl h | rfl
def encO [DecidableEq α] [Enc α] : Option α → PyData
  | none => .none
  | some y => Enc.enc y
theorem dp_optE {K : PySem.W.Frag} [DecidableEq α] [Enc α] [RpD α] {H : Hp} {v : V} {x : Option α} (h : rp ms H v x) : Dp K H v (encO x) := by
  cases x with
  | none => have h' : v = .non := h; subst h'; exact .non
  | some y => exact RpD.dp (α := α) (x := y) h
class EncN (α : Type) [DecidableEq α] [Enc α] : Prop where
  nn : ∀ x : α, Enc.enc x ≠ .none
instance : EncN Int := ⟨fun _ z => by cases z⟩
instance [DecidableEq α] [Enc α] : EncN (List α) := ⟨fun _ z => by cases z⟩
instance [DecidableEq α] [Enc α] [DecidableEq β] [Enc β] : EncN (α × β) := ⟨fun _ z => by cases z⟩
instance : EncN Bool := ⟨fun _ z => by cases z⟩
instance [DecidableEq α] [Enc α] [DecidableEq β] [Enc β] [DecidableEq γ] [Enc γ] : EncN (T3 α β γ) := ⟨fun _ z => by cases z⟩
instance encOpt [DecidableEq α] [Enc α] [EncN α] : Enc (Option α) := ⟨encO, Enc.dep α,
  fun x => by cases x with | none => rfl | some y => exact Enc.lay y,
  fun x => by cases x with | none => exact Nat.zero_le _ | some y => exact Enc.dle y,
  fun x y => by
    cases x <;> cases y <;> simp only [encO]
    · rfl
    · simp [eqv_non_none (EncN.nn _)]
    · simp [eqv_none_non (EncN.nn _)]
    · rw [Enc.eqv]; simp⟩
instance [DecidableEq α] [Enc α] [RpD α] [EncN α] : RpD (Option α) := ⟨fun h => dp_optE h⟩
theorem ex_eqL [DecidableEq α] [Enc α] [RpD α] {xs ys : List α} (W : Wd B ms H0) (hd : Enc.dep (List α) ≤ 64) (h1 : El B ms ta σ H0 p xs q) (h2 : El B ms tb σ H0 q ys r) : Ex B ms (tOp (rEqD K) ta tb) σ H0 p (decide (xs = ys)) r := fun H b hp Q k => h1 H b hp _ fun a H1 b1 q1 na l1 => h2 H1 (b.trans b1) q1 _ fun a2 H2 b2 q2 na2 l2 =>
  r_eqE (l1.bu W.hB na b2).is l2.is hd (k _ H2 (b1.trans b2) q2 rfl)
theorem ex_neL [DecidableEq α] [Enc α] [RpD α] {xs ys : List α} (W : Wd B ms H0) (hd : Enc.dep (List α) ≤ 64) (h1 : El B ms ta σ H0 p xs q) (h2 : El B ms tb σ H0 q ys r) : Ex B ms (tOp (rNeD K) ta tb) σ H0 p (!decide (xs = ys)) r := fun H b hp Q k => h1 H b hp _ fun a H1 b1 q1 na l1 => h2 H1 (b.trans b1) q1 _ fun a2 H2 b2 q2 na2 l2 =>
  r_neE (l1.bu W.hB na b2).is l2.is hd (k _ H2 (b1.trans b2) q2 rfl)
theorem ex_eqE [DecidableEq α] [Enc α] [RpD α] {y : α} (W : Wd B ms H0) (hd : Enc.dep α ≤ 64) (h1 : Ex B ms ta σ H0 p x q) (h2 : Ex B ms tb σ H0 q y r) : Ex B ms (tOp (rEqD K) ta tb) σ H0 p (decide (x = y)) r := fun H b hp Q k => h1 H b hp _ fun v H1 b1 q1 l1 => h2 H1 (b.trans b1) q1 _ fun u H2 b2 q2 l2 =>
  r_eqE (RpD.dp (Rp.mv l1 (Mv.bu W.hB b2))) (RpD.dp l2) hd (k _ H2 (b1.trans b2) q2 rfl)
theorem ex_neE [DecidableEq α] [Enc α] [RpD α] {y : α} (W : Wd B ms H0) (hd : Enc.dep α ≤ 64) (h1 : Ex B ms ta σ H0 p x q) (h2 : Ex B ms tb σ H0 q y r) : Ex B ms (tOp (rNeD K) ta tb) σ H0 p (!decide (x = y)) r := fun H b hp Q k => h1 H b hp _ fun v H1 b1 q1 l1 => h2 H1 (b.trans b1) q1 _ fun u H2 b2 q2 l2 =>
  r_neE (RpD.dp (Rp.mv l1 (Mv.bu W.hB b2))) (RpD.dp l2) hd (k _ H2 (b1.trans b2) q2 rfl)
/-! None or not -/
class RpO (α : Type) [Rp α] : Prop where
  nn : ∀ {ms : Ms} {H : Hp} {v : V} {x : α}, rp ms H v x → v ≠ .non
instance : RpO Int := ⟨fun h => by have h' : _ = V.int _ := h; subst h'; exact fun z => by cases z⟩
instance : RpO (List α) := ⟨fun ⟨a, e, _⟩ => by subst e; exact fun z => by cases z⟩
instance : RpO (α × β) := ⟨fun ⟨a, _, _, e, _⟩ => by subst e; exact fun z => by cases z⟩
instance : RpO (T3 α β γ) := ⟨fun ⟨a, _, _, _, e, _⟩ => by subst e; exact fun z => by cases z⟩
theorem non_of [RpO α] {H : Hp} {v : V} {x : Option α} (h : rp ms H v x) : decide (v = .non) = x.isNone := by
  cases x with
  | none => have h' : v = .non := h; rw [h']; rfl
  | some y => exact decide_eq_false (RpO.nn (α := α) (x := y) h)
theorem ex_isN [RpO α] {x : Option α} (h1 : Ex B ms ta σ H0 p x q) : Ex B ms (tOp (fun x y H Q => y = .non ∧ Q (.bl (decide (x = .non))) H) ta (tC .non)) σ H0 p x.isNone q := fun H b hp Q k => h1 H b hp _ fun v H1 b1 q1 l1 => ⟨rfl, by rw [non_of l1]; exact k _ H1 b1 q1 rfl⟩
theorem ex_notN [RpO α] {x : Option α} (h1 : Ex B ms ta σ H0 p x q) : Ex B ms (tOp (fun x y H Q => y = .non ∧ Q (.bl (!decide (x = .non))) H) ta (tC .non)) σ H0 p (!x.isNone) q := fun H b hp Q k => h1 H b hp _ fun v H1 b1 q1 l1 => ⟨rfl, by rw [non_of l1]; exact k _ H1 b1 q1 rfl⟩
/-! int(i), isinstance of what is known -/
theorem ex_intI {ts : TA} {i : Int} {A : List V → Hp → VK → Prop} (h : Ea B ms ts σ H0 p (i, ()) q) : Ex B ms (tCB (fun xs H Q => (∃ i, xs = [.int i] ∧ Q (.int i) H) ∨ A xs H Q) ts) σ H0 p i q := fun H b hp Q k => h H b hp _ fun vs H1 b1 q1 e1 => by
  obtain ⟨v1, _, rfl, r1, e⟩ := e1
  have e' : _ = [] := e
  have r1' : v1 = .int i := r1
  subst e' r1'
  exact .inl ⟨i, rfl, k _ H1 b1 q1 rfl⟩
theorem ex_isiL {xs : List α} (h : El B ms te σ H0 p xs q) : Ex B ms (tCB (rIsi K) (tCons te (tCons (tC (.ty "list")) tNil))) σ H0 p true q := fun H b hp Q k => h H b hp _ fun a H1 b1 q1 na ⟨vs, e, rl, l⟩ => r_isi_ll e (k _ H1 b1 q1 rfl)
theorem ex_isiT {x : α × β} (h : Ex B ms te σ H0 p x q) : Ex B ms (tCB (rIsi K) (tCons te (tCons (tC (.ty "tuple")) tNil))) σ H0 p true q := fun H b hp Q k => h H b hp _ fun v H1 b1 q1 ⟨a, u, w, e, _, eh, _⟩ => by subst e; exact r_isi_tt eh (k _ H1 b1 q1 rfl)
theorem ex_isiT3 {x : T3 α β γ} (h : Ex B ms te σ H0 p x q) : Ex B ms (tCB (rIsi K) (tCons te (tCons (tC (.ty "tuple")) tNil))) σ H0 p true q := fun H b hp Q k => h H b hp _ fun v H1 b1 q1 ⟨a, u, w, y, e, _, eh, _⟩ => by subst e; exact r_isi_tt eh (k _ H1 b1 q1 rfl)
theorem kit_nl : kitB "NoneType" "list" = some false := by decide +kernel
theorem r_isi_nl {H : Hp} {Q : VK} (q : Q (.bl false) H) : rIsi K [.non, .ty "list"] H Q := r_isi .non kit_nl q
theorem ex_isiOL {x : Option (List α)} (h : Ex B ms te σ H0 p x q) : Ex B ms (tCB (rIsi K) (tCons te (tCons (tC (.ty "list")) tNil))) σ H0 p x.isSome q := fun H b hp Q k => h H b hp _ fun v H1 b1 q1 e => by
  cases x with
  | none => have e' : v = .non := e; subst e'; exact r_isi_nl (k _ H1 b1 q1 rfl)
  | some xs =>
    obtain ⟨a, e1, n, vs, ev, _⟩ := (show rp ms H1 v xs from e)
    subst e1
    exact r_isi_ll ev (k _ H1 b1 q1 rfl)
theorem ex_isiOT2 {x : Option (α × β)} (h : Ex B ms te σ H0 p x q) : Ex B ms (tCB (rIsi K) (tCons te (tCons (tC (.ty "tuple")) tNil))) σ H0 p x.isSome q := fun H b hp Q k => h H b hp _ fun v H1 b1 q1 e => by
  cases x with
  | none => have e' : v = .non := e; subst e'; exact r_isi_nt (k _ H1 b1 q1 rfl)
  | some xs =>
    obtain ⟨a, u, w, e1, _, eh, _⟩ := (show rp ms H1 v xs from e)
    subst e1
    exact r_isi_tt eh (k _ H1 b1 q1 rfl)
theorem ex_isiOT3 {x : Option (T3 α β γ)} (h : Ex B ms te σ H0 p x q) : Ex B ms (tCB (rIsi K) (tCons te (tCons (tC (.ty "tuple")) tNil))) σ H0 p x.isSome q := fun H b hp Q k => h H b hp _ fun v H1 b1 q1 e => by
  cases x with
  | none => have e' : v = .non := e; subst e'; exact r_isi_nt (k _ H1 b1 q1 rfl)
  | some xs =>
    obtain ⟨a, u, w, y, e1, _, eh, _⟩ := (show rp ms H1 v xs from e)
    subst e1
    exact r_isi_tt eh (k _ H1 b1 q1 rfl)
theorem ex_isib {i : Int} (h : Ex B ms te σ H0 p i q) : Ex B ms (tCB (rIsi K) (tCons te (tCons (tC (.ty "bool")) tNil))) σ H0 p false q := fun H b hp Q k => h H b hp _ fun v H1 b1 q1 e => by
  have e' : v = .int i := e
  subst e'
  exact r_isi_ib (k _ H1 b1 q1 rfl)
theorem ex_isii {i : Int} (h : Ex B ms te σ H0 p i q) : Ex B ms (tCB (rIsi K) (tCons te (tCons (tC (.ty "int")) tNil))) σ H0 p true q := fun H b hp Q k => h H b hp _ fun v H1 b1 q1 e => by
  have e' : v = .int i := e
  subst e'
  exact r_isi_ii (k _ H1 b1 q1 rfl)
theorem ex_isibb {i : Bool} (h : Ex B ms te σ H0 p i q) : Ex B ms (tCB (rIsi K) (tCons te (tCons (tC (.ty "bool")) tNil))) σ H0 p true q := fun H b hp Q k => h H b hp _ fun v H1 b1 q1 e => by
  have e' : v = .bl i := e
  subst e'
  exact r_isi_bb (k _ H1 b1 q1 rfl)
theorem ex_lenT {u : α × β} (h : Ex B ms te σ H0 p u q) : Ex B ms (tCB (fun xs H Q => ∃ p ys, xs = [.ref p] ∧ (SqL K H p ys ∨ SqT K H p ys) ∧ Q (.int ys.length) H) (tCons te tNil)) σ H0 p (2 : Int) q := fun H b hp Q k => h H b hp _ fun v H1 b1 q1 ⟨a, w1, w2, e, _, eh, _⟩ => by
  subst e
  exact ⟨a, _, rfl, .inr (SqT.of eh), k _ H1 b1 q1 rfl⟩
theorem ex_lenT3 {u : T3 α β γ} (h : Ex B ms te σ H0 p u q) : Ex B ms (tCB (fun xs H Q => ∃ p ys, xs = [.ref p] ∧ (SqL K H p ys ∨ SqT K H p ys) ∧ Q (.int ys.length) H) (tCons te tNil)) σ H0 p (3 : Int) q := fun H b hp Q k => h H b hp _ fun v H1 b1 q1 ⟨a, w1, w2, w3, e, _, eh, _⟩ => by
  subst e
  exact ⟨a, _, rfl, .inr (SqT.of eh), k _ H1 b1 q1 rfl⟩
/-! in, of whole numbers -/
theorem inV_ints (i : Int) : ∀ xs : List Int, inV (.int i) (xs.map V.int) = decide (i ∈ xs)
  | [] => rfl
  | x :: xs => by
    have ih := inV_ints i xs
    unfold inV at ih ⊢
    rw [List.map_cons, List.any_cons, ih, show eqV (.int x) (.int i) = decide (x = i) by simp [eqV]; rfl]
    by_cases h : x = i
    · subst h; simp
    · have h' : i ≠ x := fun z => h z.symm
      simp [h, h']
theorem ex_in {i : Int} {xs : List Int} (W : Wd B ms H0) (h1 : Ex B ms ta σ H0 p i q) (h2 : El B ms tb σ H0 q xs r) : Ex B ms (tOp (rIn K false) ta tb) σ H0 p (decide (i ∈ xs)) r := fun H b hp Q k => h1 H b hp _ fun v H1 b1 q1 e1 => h2 H1 (b.trans b1) q1 _ fun a H2 b2 q2 na ⟨vs, e, rl, l⟩ => by
  rw [rl.ints fun _ _ h => h] at e
  have e1' : v = .int i := e1
  subst e1'
  refine ⟨a, _, rfl, .inl (SqL.of e), rfl, by simp [flatV], ?_⟩
  rw [inV_ints]
  exact k _ H2 (b1.trans b2) q2 rfl
theorem ex_notIn {i : Int} {xs : List Int} (W : Wd B ms H0) (h1 : Ex B ms ta σ H0 p i q) (h2 : El B ms tb σ H0 q xs r) : Ex B ms (tOp (rIn K true) ta tb) σ H0 p (!decide (i ∈ xs)) r := fun H b hp Q k => h1 H b hp _ fun v H1 b1 q1 e1 => h2 H1 (b.trans b1) q1 _ fun a H2 b2 q2 na ⟨vs, e, rl, l⟩ => by
  rw [rl.ints fun _ _ h => h] at e
  have e1' : v = .int i := e1
  subst e1'
  refine ⟨a, _, rfl, .inl (SqL.of e), rfl, by simp [flatV], ?_⟩
  rw [inV_ints]
  exact k _ H2 (b1.trans b2) q2 rfl
/-! calls -/
/-- a def that changes nothing that is there -/
def spP {ι ρ : Type} [RpA ι] [Rp ρ] (F : ι → Option ρ) : Sp := fun vs H Q _ => ∃ (ms : Ms) (i : ι) (r : ρ), Al ms H ∧ ra ms H vs i ∧ F i = some r ∧ ∀ v H', Same H H' → rp ms H' v r → Q v H'
/-- a def that draws from the box -/
def Bxs (b : Addr) (bx : List Int × Nat) : Hq := fun ms H => ∃ d, H b = some (.lst [.ref d, .int (bx.2 : Nat)]) ∧ d ≠ b ∧ d ∉ ms ∧ H d = some (.lst (bx.1.map V.int))
theorem sb_bxs {b : Addr} {bx : List Int × Nat} : Sb [b] (Bxs b bx) := fun ms ms' H H' ⟨d, e1, n, n2, e2⟩ M h => let ⟨n3, e3⟩ := M d _ n2 e2; ⟨d, h b (by simp) _ e1, n, n3, e3⟩
def spB {ι ρ : Type} [RpA ι] [Rp ρ] (F : List Int × Nat → ι → Option (ρ × (List Int × Nat))) : Sp := fun vs H Q _ => ∃ (ms : Ms) (b : Addr) (us : List V) (bx bx' : List Int × Nat) (i : ι) (r : ρ), vs = .ref b :: us ∧ b ∈ ms ∧ Al ms H ∧ Bxs b bx ms H ∧ ra ms H us i ∧ F bx i = some (r, bx') ∧
  ∀ v H', Bu [b] H H' → Bxs b bx' ms H' → rp ms H' v r → Q v H'
theorem ex_call {ι : Type} [RpA ι] {F : ι → Option α} {ts : TA} {E : XK} {i : ι} (W : Wd B ms H0) (hq : Sb B q) (h : Ea B ms ts σ H0 p i q) (e : F i = some x) : Ex B ms (tCall (spP F) [] E ts) σ H0 p x q := fun H b hp Q k => r_call (h H b hp _ fun vs H1 b1 q1 e1 =>
  ⟨ms, i, x, (W.al.bu b).bu b1, e1, e, fun v H' s rv => k v H' (b1.trans (Bu.same s)) (hq.same s q1) rv⟩)
/-- a call that is given lists that may still change, and answers no list -/
theorem ex_callB {ι : Type} [RpA ι] {F : List Int × Nat → ι → Option (α × (List Int × Nat))} {ts : TA} {E : XK} {i : ι} {b : Addr} {bx bx' : List Int × Nat} {v : Nat} (W : Wd [b] ms H0) (hs : σ[v]? = some (some (.ref b))) (h : Ea [b] ms ts σ H0 (Bxs b bx) i (Bxs b bx)) (e : F bx i = some (x, bx')) :
    Ex [b] ms (tCall (spB F) [] E (tCons (tVar v) ts)) σ H0 (Bxs b bx) x (Bxs b bx') := fun H bu hp Q k => r_call (show (tCons (tVar v) ts) σ H _ from ⟨_, hs, h H bu hp _ fun vs H1 b1 q1 e1 =>
  ⟨ms, b, vs, bx, bx', i, x, rfl, W.hB b (by simp), (W.al.bu bu).bu b1, q1, e1, e, fun v H' s q' rv => k v H' (b1.trans s) q' rv⟩⟩)
/-! what is walked -/
structure NSt (N : Hq) : Prop where
  mv : ∀ {ms ms' : Ms} {H H' : Hp}, N ms H → Mv ms H ms' H' → N ms' H'
def ItOk (J : It) (N : Hq) (xs : List α) : Prop := ∀ (i : Nat) (ms : Ms) (H : Hp), N ms H → Al ms H → (xs.length ≤ i → J.stop i H) ∧ ∀ x, xs[i]? = some x → J.go i H ∧ ∀ v H', J.yld i H v H' → Same H H' ∧ rp ms H' v x
def Ei (B ms : Ms) (wi : TI) (σ : St) (H0 : Hp) (p : Hq) (xs : List α) (q : Hq) : Prop :=
  ∀ H, Bu B H0 H → p ms H → ∀ R : It → Hp → Prop, (∀ J N H', Bu B H H' → q ms H' → NSt N → N ms H' → ItOk J N xs → R J H') → wi σ H R
def Fz {α : Type} [Rp α] (a : Addr) (xs : List α) : Hq := fun ms H => rp ms H (.ref a) xs
theorem nst_fz {a : Addr} {xs : List α} : NSt (Fz a xs) := ⟨fun h M => Rp.mv h M⟩
theorem Fz.get {H : Hp} {a : Addr} {xs : List α} (h : Fz a xs ms H) : Ls ms H a xs := by obtain ⟨a', e, n, l⟩ := h; cases e; exact l
theorem itok_list {a : Addr} {xs : List α} : ItOk (Itl K a) (Fz a xs) xs := fun i ms H hf al => by
  obtain ⟨vs, e, rl, l⟩ := hf.get
  refine ⟨fun h => ⟨vs, SqL.of e, by rw [rl.len]; exact h⟩, fun x ex => ?_⟩
  obtain ⟨v, ev, rv⟩ := rl.get' ex
  refine ⟨⟨vs, v, SqL.of e, ev⟩, fun u H' ⟨eH, h⟩ => ?_⟩
  subst eH
  have := h vs (SqL.of e)
  rw [ev] at this
  cases this
  exact ⟨fun _ _ z => z, rv⟩
theorem itok_rng {lo : Int} {n : Nat} : ItOk (Itr lo n) Tr (rngL lo n) := fun i ms H _ al => ⟨fun h => by
  have h' : n ≤ i := by simpa [rngL] using h
  exact h', fun x ex => by
  unfold rngL at ex
  rw [List.getElem?_map] at ex
  obtain ⟨j, ej, rfl⟩ := Option.map_eq_some_iff.mp ex
  obtain ⟨hj, e⟩ := List.getElem?_eq_some_iff.mp ej
  rw [List.getElem_range] at e
  rw [List.length_range] at hj
  subst e
  refine ⟨hj, fun u H' ⟨eH, h⟩ => ?_⟩
  subst eH
  exact ⟨fun _ _ z => z, h⟩⟩
theorem itok_zip {a b : Addr} {xs : List α} {ys : List β} : ItOk (Itz K a b) (fun ms H => Fz a xs ms H ∧ Fz b ys ms H) (xs.zip ys) := fun i ms H ⟨h1, h2⟩ al => by
  obtain ⟨vs, e, rl, l⟩ := h1.get
  obtain ⟨us, e2, rl2, l2⟩ := h2.get
  refine ⟨fun h => ?_, fun x ex => ?_⟩
  · refine ⟨vs, us, SqL.of e, SqL.of e2, ?_⟩
    rw [List.length_zip] at h
    have := rl.len
    have := rl2.len
    omega
  obtain ⟨x1, x2⟩ := x
  rw [List.getElem?_zip_eq_some] at ex
  obtain ⟨v, ev, rv⟩ := rl.get' ex.1
  obtain ⟨u, eu, ru⟩ := rl2.get' ex.2
  refine ⟨⟨vs, us, v, u, SqL.of e, SqL.of e2, ev, eu⟩, fun w H' ⟨T, v', u', ew, nT, eH, h1, h2⟩ => ?_⟩
  subst ew eH
  have h1' := h1 vs (SqL.of e)
  have h2' := h2 us (SqL.of e2)
  rw [ev] at h1'
  rw [eu] at h2'
  cases h1'
  cases h2'
  have s := same_upd (o := .tup [v, u]) nT
  exact ⟨s, T, v, u, rfl, al.not nT, upd_same, Rp.mv rv (Mv.same s), Rp.mv ru (Mv.same s)⟩
theorem itok_enum {a : Addr} {xs : List α} : ItOk (Ite K a) (Fz a xs) (enumL xs) := fun i ms H hf al => by
  obtain ⟨vs, e, rl, l⟩ := hf.get
  refine ⟨fun h => ⟨vs, SqL.of e, by unfold enumL at h; rw [List.length_mapIdx] at h; rw [rl.len]; exact h⟩, fun x ex => ?_⟩
  unfold enumL at ex
  rw [List.getElem?_mapIdx] at ex
  obtain ⟨y, ey, rfl⟩ := Option.map_eq_some_iff.mp ex
  obtain ⟨v, ev, rv⟩ := rl.get' ey
  refine ⟨⟨vs, v, SqL.of e, ev⟩, fun w H' ⟨T, v', ew, nT, eH, h⟩ => ?_⟩
  subst ew eH
  have h' := h vs (SqL.of e)
  rw [ev] at h'
  cases h'
  have s := same_upd (o := .tup [.int (i : Nat), v]) nT
  exact ⟨s, T, _, v, rfl, al.not nT, upd_same, rfl, Rp.mv rv (Mv.same s)⟩
theorem itok_tup2 {a : Addr} {x : α × α} : ItOk (Itt K a) (fun ms H => rp ms H (.ref a) x) [x.1, x.2] := fun i ms H hf al => by
  obtain ⟨a', u, w, e, n, eh, r1, r2⟩ := hf
  cases e
  refine ⟨fun h => ⟨[u, w], SqT.of eh, h⟩, fun y ey => ?_⟩
  have go : ∀ v, [u, w][i]? = some v → rp ms H v y → (Itt K a).go i H ∧ ∀ v H', (Itt K a).yld i H v H' → Same H H' ∧ rp ms H' v y := fun v ev rv => by
    refine ⟨⟨[u, w], v, SqT.of eh, ev⟩, fun z H' ⟨eH, h⟩ => ?_⟩
    subst eH
    have := h _ (SqT.of eh)
    rw [ev] at this
    cases this
    exact ⟨fun _ _ z => z, rv⟩
  match i, ey with
  | 0, ey => cases ey; exact go u rfl r1
  | 1, ey => cases ey; exact go w rfl r2
theorem ei_list {xs : List α} (h : Ex B ms te σ H0 p xs q) : Ei B ms (iList K te) σ H0 p xs q := fun H b hp R k => h H b hp _ fun v H1 b1 q1 ⟨a, e, n, l⟩ => by
  subst e
  obtain ⟨vs, ev, rl, l2⟩ := id l
  exact ⟨a, rfl, ⟨vs, SqL.of ev⟩, k _ (Fz a xs) H1 b1 q1 nst_fz ⟨a, rfl, n, l⟩ itok_list⟩
theorem nst_tr : NSt Tr := ⟨fun _ _ => trivial⟩
theorem ei_rng2 {ts : TA} {i j : Int} {xs : List Int} (h : Ea B ms ts σ H0 p (i, j, ()) q) (e : rng2 i j = some xs) : Ei B ms (iRng2 ts) σ H0 p xs q := fun H b hp R k => h H b hp _ fun vs H1 b1 q1 e1 => by
  obtain ⟨v1, _, rfl, r1, v2, _, rfl, r2, e0⟩ := e1
  have e0' : _ = [] := e0
  have r1' : v1 = .int i := r1
  have r2' : v2 = .int j := r2
  subst e0' r1' r2'
  unfold rng2 at e
  split at e
  · rename_i hl
    cases e
    exact ⟨i, j, rfl, ⟨hl.1, hl.2.1, hl.2.2.1, hl.2.2.2.1⟩, k _ Tr H1 b1 q1 nst_tr trivial itok_rng⟩
  · cases e
theorem ei_rng1 {ts : TA} {j : Int} {xs : List Int} (h : Ea B ms ts σ H0 p (j, ()) q) (e : rng1 j = some xs) : Ei B ms (iRng1 ts) σ H0 p xs q := fun H b hp R k => h H b hp _ fun vs H1 b1 q1 e1 => by
  obtain ⟨v1, _, rfl, r1, e0⟩ := e1
  have e0' : _ = [] := e0
  have r1' : v1 = .int j := r1
  subst e0' r1'
  unfold rng1 at e
  split at e
  · rename_i hl
    cases e
    exact ⟨j, rfl, hl.1, hl.2.1, k _ Tr H1 b1 q1 nst_tr trivial itok_rng⟩
  · cases e
theorem ei_zip {ts : TA} {xs : List α} {ys : List β} (h : Ea B ms ts σ H0 p (xs, ys, ()) q) : Ei B ms (iZip K ts) σ H0 p (xs.zip ys) q := fun H b hp R k => h H b hp _ fun vs H1 b1 q1 e1 => by
  obtain ⟨v1, _, rfl, r1, v2, _, rfl, r2, e0⟩ := e1
  have e0' : _ = [] := e0
  subst e0'
  obtain ⟨a1, rfl, n1, l1⟩ := id r1
  obtain ⟨a2, rfl, n2, l2⟩ := id r2
  obtain ⟨vs, ev, _⟩ := l1
  obtain ⟨us, eu, _⟩ := l2
  exact ⟨a1, a2, vs, us, rfl, SqL.of ev, SqL.of eu, k _ _ H1 b1 q1 ⟨fun h M => ⟨nst_fz.mv h.1 M, nst_fz.mv h.2 M⟩⟩ ⟨r1, r2⟩ itok_zip⟩
theorem ei_enum {ts : TA} {xs : List α} (h : Ea B ms ts σ H0 p (xs, ()) q) : Ei B ms (iEnum K ts) σ H0 p (enumL xs) q := fun H b hp R k => h H b hp _ fun vs H1 b1 q1 e1 => by
  obtain ⟨v1, _, rfl, r1, e0⟩ := e1
  have e0' : _ = [] := e0
  subst e0'
  obtain ⟨a1, rfl, n1, l1⟩ := id r1
  obtain ⟨vs, ev, _⟩ := l1
  exact ⟨a1, vs, rfl, SqL.of ev, k _ _ H1 b1 q1 nst_fz r1 itok_enum⟩
/-- stays when what is frozen, and what stands at S, stays -/
def NSS (S : Ms) (N : Hq) : Prop := ∀ {ms ms' : Ms} {H H' : Hp}, N ms H → Mv ms H ms' H' → (∀ a ∈ S, ∀ o, H a = some o → H' a = some o) → N ms' H'
theorem NSt.ss {N : Hq} (h : NSt N) : NSS [] N := fun n M _ => h.mv n M
/-- what a comprehension walks: it may be a list that may change elsewhere -/
def Ej (B ms : Ms) (wi : TI) (σ : St) (H0 : Hp) (p : Hq) (xs : List α) (q : Hq) : Prop :=
  ∀ H, Bu B H0 H → p ms H → ∀ R : It → Hp → Prop, (∀ J N S H', Bu B H H' → q ms H' → NSS S N → (∀ a ∈ S, a ∉ B ∧ H' a ≠ none) → N ms H' → ItOk J N xs → R J H') → wi σ H R
theorem Ei.ej {wi : TI} {xs : List α} (h : Ei B ms wi σ H0 p xs q) : Ej B ms wi σ H0 p xs q := fun H b hp R k => h H b hp R fun J N H' b1 q1 st n1 ok => k J N [] H' b1 q1 st.ss (fun a z => by cases z) n1 ok
theorem itok_listM {a : Addr} {xs : List α} : ItOk (Itl K a) (fun ms H => Ls ms H a xs) xs := fun i ms H hf al => by
  obtain ⟨vs, e, rl, l⟩ := hf
  refine ⟨fun h => ⟨vs, SqL.of e, by rw [rl.len]; exact h⟩, fun x ex => ?_⟩
  obtain ⟨v, ev, rv⟩ := rl.get' ex
  refine ⟨⟨vs, v, SqL.of e, ev⟩, fun u H' ⟨eH, h⟩ => ?_⟩
  rw [eH]
  have := h vs (SqL.of e)
  rw [ev] at this
  obtain rfl := Option.some.inj this
  exact ⟨fun _ _ z => z, rv⟩
theorem ej_listM {i : Nat} {a : Addr} {xs : List α} (W : Wd B ms H0) (hs : σ[i]? = some (some (.ref a))) (n : a ∉ B) (l : Ls ms H0 a xs) : Ej B ms (iList K (tVar i)) σ H0 p xs p := fun H b hp R k => by
  have l1 := l.bu W.hB n b
  obtain ⟨vs, ev, rl, l2⟩ := id l1
  refine ⟨_, hs, a, rfl, ⟨vs, SqL.of ev⟩, k _ (fun ms H => Ls ms H a xs) [a] H (Bu.refl B H) hp (fun n M s => n.step M (s a (by simp))) (fun c hc => ?_) l1 itok_listM⟩
  rw [List.mem_singleton.mp hc]
  exact ⟨n, l1.alive⟩
/-- what is known at H0 of things that are read, still so at H with ms' -/
structure Lt (B ms : Ms) (H0 : Hp) (ms' : Ms) (H : Hp) : Prop where
  W : Wd B ms' H
  M : Mv ms H0 ms' H
  S : ∀ a o, a ∉ B → H0 a = some o → H a = some o
theorem Ls.lt {H : Hp} {ms' : Ms} {a : Addr} {xs : List α} (h : Ls ms H0 a xs) (n : a ∉ B) (L : Lt B ms H0 ms' H) : Ls ms' H a xs := h.step L.M fun o e => L.S a o n e
/-- how a turn of a comprehension binds: from v, the slots σ2 -/
def Bnd (g : TG) (v : V) (σ : St) (H : Hp) (σ2 : St) : Prop := ∀ R : St → Hp → Prop, R σ2 H → g v σ H R
theorem bnd_name {i : Nat} {v : V} {H : Hp} : Bnd (gName i) v σ H (σ.set i (some v)) := fun R h => h
theorem coll_len {α β s : Type} {f : α → s → Option (Option β × s)} : ∀ {xs : List α} {x y : s} {ys : List β}, coll f xs x = some (ys, y) → ys.length ≤ xs.length
  | [], _, _, _, h => by cases h; exact Nat.le_refl _
  | a :: as, x, y, ys, h => by
    obtain ⟨u, hu, h⟩ := bind_inv h
    obtain ⟨z, hz, h⟩ := bind_inv h
    cases h
    have := coll_len hz
    rw [List.length_append, List.length_cons]
    have : u.1.toList.length ≤ 1 := by cases u.1 <;> simp
    omega
theorem en_lcS {s : Type} {wi : TI} {g : TG} {tt : TT} {vs : List Nat} {xs : List α} {ys : List β} {x0 x1 : s} {P : s → Hq} {f : α → s → Option (Option β × s)} (W : Wd B ms H0) (hP : ∀ x, Sb B (P x)) (hl : xs.length ≤ sizeLine) (hi : Ej B ms wi σ H0 p xs (P x0)) (hc : coll f xs x0 = some (ys, x1))
    (hb : ∀ (ms' : Ms) (H : Hp) (y : α) (v : V) (r : Option β) (x x' : s), Lt B ms H0 ms' H → P x ms' H → rp ms' H v y → f y x = some (r, x') → ∃ σ2, Bnd g v (wipe σ vs) H σ2 ∧ wipe σ2 vs = wipe σ vs ∧ ∃ c q', Et B ms' tt σ2 H (P x) c q' ∧ (c = false → r = none ∧ ∀ H, q' ms' H → P x' ms' H) ∧ (c = true → ∃ u, r = some u ∧ Ex B ms' te σ2 H q' u (P x'))) :
    En B ms (tLc wi g tt te vs) σ H0 p ys (P x1) := fun H b hp Q k => by
  refine r_lc (hi H b hp _ fun J N S H1 b1 q1 st hS n1 ok D nD => ?_)
  have W1 := (W.bu b).bu b1
  have nDm : D ∉ ms := W1.al.not nD
  have nDB : D ∉ B := fun z => nDm (W.hB D z)
  have s1 := same_upd (o := .lst []) nD
  have hSD : ∀ a ∈ S, a ≠ D := fun a ha z => (hS a ha).2 (z ▸ nD)
  refine ⟨fun i m H => m = xs.length - i ∧ i ≤ xs.length ∧ ∃ acc ys1 ys2 x, H D = some (.lst acc) ∧ RL (rp (D :: ms) H) acc ys1 ∧ acc.length ≤ i ∧ Bu B H1 H ∧ P x (D :: ms) H ∧ N (D :: ms) H ∧ coll f (xs.drop i) x = some (ys2, x1) ∧ ys1 ++ ys2 = ys ∧ Mv ms H1 (D :: ms) H,
    ⟨xs.length, by simp, Nat.zero_le _, [], [], ys, x0, upd_same, trivial, Nat.le_refl _, Bu.same s1, hP _ _ _ _ _ q1 (Mv.new nD s1) (fun a ha o e => s1 a o e), st n1 (Mv.new nD s1) (fun a ha o e => s1 a o e), hc, rfl, Mv.new nD s1⟩, ?_⟩
  rintro i m H2 ⟨rfl, hi, acc, ys1, ys2, x, hD, rl, hacc, b2, q2, n2, hd, eys, M2⟩
  have al2 : Al (D :: ms) H2 := (W1.al.bu b2).cons hD
  obtain ⟨ok1, ok2⟩ := ok i _ H2 n2 al2
  by_cases hlt : i < xs.length
  · right
    have ex := List.getElem?_eq_getElem hlt
    generalize xs[i] = y at ex
    obtain ⟨go, yld⟩ := ok2 y ex
    rw [drop_get ex] at hd
    obtain ⟨⟨r, x'⟩, hf, hd⟩ := bind_inv hd
    obtain ⟨⟨ys3, x3⟩, hd3, hd⟩ := bind_inv hd
    obtain ⟨e1, e2⟩ := Prod.mk.inj (Option.some.inj hd)
    subst e1
    rw [show x3 = x1 from e2] at hd3
    refine ⟨go, fun H' => xs.length - (i + 1) = xs.length - (i + 1) ∧ i + 1 ≤ xs.length ∧ ∃ acc ys1 ys2 x, H' D = some (.lst acc) ∧ RL (rp (D :: ms) H') acc ys1 ∧ acc.length ≤ i + 1 ∧ Bu B H1 H' ∧ P x (D :: ms) H' ∧ N (D :: ms) H' ∧ coll f (xs.drop (i + 1)) x = some (ys2, x1) ∧ ys1 ++ ys2 = ys ∧ Mv ms H1 (D :: ms) H', fun H' h => ⟨_, by omega, h⟩, fun v H3 hy => ?_⟩
    obtain ⟨s3, rv⟩ := yld v H3 hy
    have hB' : ∀ a ∈ B, a ∈ D :: ms := fun a ha => List.mem_cons_of_mem _ (W.hB a ha)
    have W3 : Wd B (D :: ms) H3 := ⟨hB', al2.same s3⟩
    have M3 : Mv ms H1 (D :: ms) H3 := M2.trans (Mv.same s3)
    have bb : Bu B H0 H3 := ((b.trans b1).trans b2).trans (Bu.same s3)
    have L3 : Lt B ms H0 (D :: ms) H3 := ⟨W3, (Mv.bu W.hB (b.trans b1)).trans M3, bb.1⟩
    have q3 := (hP x).same s3 q2
    obtain ⟨σ2, bd, ew, c, q', ht, hf0, hf1⟩ := hb _ H3 y v r x x' L3 q3 rv hf
    refine bd _ ⟨ew, ?_⟩
    refine ht.use q3 fun H4 b4 q4 => ?_
    have hD4 : H4 D = some (.lst acc) := b4.1 _ _ nDB (s3 _ _ hD)
    have M24 : Mv (D :: ms) H2 (D :: ms) H4 := (Mv.same s3).trans (Mv.bu hB' b4)
    cases c with
    | false =>
      obtain ⟨rfl, hq⟩ := hf0 rfl
      rw [if_neg (by decide)]
      refine ⟨rfl, hlt, acc, ys1, ys3, x', hD4, rl.imp fun _ _ z => Rp.mv z M24, by omega, (b2.trans (Bu.same s3)).trans b4, hq _ q4, st n2 M24 (fun a ha o e => b4.1 _ _ (hS a ha).1 (s3 _ _ e)), hd3, by simpa using eys, M2.trans M24⟩
    | true =>
      obtain ⟨y2, rfl, he⟩ := hf1 rfl
      rw [if_pos rfl]
      refine he H4 b4 q4 _ fun u H5 b5 q5 r5 => ?_
      have hD5 : H5 D = some (.lst acc) := b5.1 _ _ nDB hD4
      have M25 : Mv (D :: ms) H2 (D :: ms) H5 := M24.trans (Mv.bu hB' b5)
      have M56 : Mv (D :: ms) H5 (D :: ms) (upd H5 D (.lst (acc ++ [u]))) := Mv.but (m := D) (by simp) But.upd
      refine ⟨acc, hD5, by omega, rfl, hlt, acc ++ [u], ys1 ++ [y2], ys3, x', upd_same, RL.snoc (rl.imp fun _ _ z => Rp.mv z (M25.trans M56)) (Rp.mv r5 M56), by simp; omega,
        Bu.own (((b2.trans (Bu.same s3)).trans b4).trans b5) nD But.upd upd_same, hP _ _ _ _ _ q5 M56 (fun a ha o e => by rw [upd_ne (nab ha nDB)]; exact e), st n2 (M25.trans M56) (fun a ha o e => by rw [upd_ne (hSD a ha)]; exact b5.1 _ _ (hS a ha).1 (b4.1 _ _ (hS a ha).1 (s3 _ _ e))), hd3, by rw [← eys]; simp, M2.trans (M25.trans M56)⟩
  · left
    have e : i = xs.length := by omega
    subst e
    rw [List.drop_length] at hd
    cases hd
    refine ⟨ok1 (Nat.le_refl _), ?_⟩
    rw [List.append_nil] at eys
    subst eys
    exact k D H2 (b1.trans b2) q2 (b1.none nD) nDm ⟨acc, hD, rl, by omega⟩
theorem coll_of {α β : Type} {f : α → Option (Option β)} : ∀ {xs : List α} {ys : List β}, colP f xs = some ys → coll (fun a (_ : Unit) => (f a).map fun y => (y, ())) xs () = some (ys, ())
  | [], _, h => by cases h; rfl
  | a :: as, ys, h => by
    obtain ⟨u, hu, h⟩ := bind_inv h
    obtain ⟨z, hz, h⟩ := bind_inv h
    cases h
    show ((f a).map fun y => (y, ())).bind _ = _
    rw [hu]
    show ((coll _ as ()).bind _) = _
    rw [coll_of hz]
    rfl
theorem en_lc {wi : TI} {g : TG} {tt : TT} {vs : List Nat} {xs : List α} {ys : List β} {f : α → Option (Option β)} (W : Wd B ms H0) (hq : Sb B q) (hl : xs.length ≤ sizeLine) (hi : Ej B ms wi σ H0 p xs q) (hc : colP f xs = some ys)
    (hb : ∀ (ms' : Ms) (H : Hp) (y : α) (v : V) (r : Option β), Lt B ms H0 ms' H → q ms' H → rp ms' H v y → f y = some r → ∃ σ2, Bnd g v (wipe σ vs) H σ2 ∧ wipe σ2 vs = wipe σ vs ∧ ∃ c, Et B ms' tt σ2 H q c q ∧ (c = false → r = none) ∧ (c = true → ∃ u, r = some u ∧ Ex B ms' te σ2 H q u q)) :
    En B ms (tLc wi g tt te vs) σ H0 p ys q :=
  en_lcS (P := fun _ => q) W (fun _ => hq) hl hi (coll_of hc) fun ms' H y v r x x' L hp rv hf => by
    obtain ⟨r', hr, e⟩ := Option.map_eq_some_iff.mp hf
    obtain rfl : r' = r := congrArg Prod.fst e
    obtain ⟨σ2, b1, b2, c, h1, h2, h3⟩ := hb ms' H y v _ L hp rv hr
    exact ⟨σ2, b1, b2, c, q, h1, fun e => ⟨h2 e, fun _ z => z⟩, h3⟩
/-! two clauses -/
def col2 {α γ β : Type} (g : α → Option (List γ)) (f : α → γ → Option (Option β)) : List α → Option (List β)
  | [] => some []
  | a :: as => (g a).bind fun cs => (colP (f a) cs).bind fun ys => (col2 g f as).bind fun z => some (ys ++ z)
theorem colP_len {α β : Type} {f : α → Option (Option β)} {xs : List α} {ys : List β} (h : colP f xs = some ys) : ys.length ≤ xs.length := coll_len (coll_of h)
theorem en_lc2 {wi wi1 : TI} {g g1 : TG} {vs vs1 : List Nat} {xs : List α} {ys : List β} {gg : α → Option (List γ)} {f : α → γ → Option (Option β)} (W : Wd B ms H0) (hq : Sb B q) (hi : Ei B ms wi σ H0 p xs q) (hc : col2 gg f xs = some ys) (hl : ys.length ≤ sizeLine)
    (hb : ∀ (ms' : Ms) (H : Hp) (y : α) (v : V) (cs : List γ), Lt B ms H0 ms' H → q ms' H → rp ms' H v y → gg y = some cs → ∃ σ2, Bnd g v (wipe σ vs) H σ2 ∧ wipe σ2 vs = wipe σ vs ∧ Ei B ms' wi1 σ2 H q cs q ∧
      ∀ (ms' : Ms) (H : Hp) (c : γ) (u : V) (r : Option β), Lt B ms H0 ms' H → q ms' H → rp ms' H v y → rp ms' H u c → f y c = some r → ∃ σ3, Bnd g1 u (wipe σ2 vs1) H σ3 ∧ wipe σ3 vs1 = wipe σ2 vs1 ∧ ∃ z, r = some z ∧ Ex B ms' te σ3 H q z q) :
    En B ms (tLc2 wi g tYes wi1 g1 tYes te vs vs1) σ H0 p ys q := fun H b hp Q k => by
  refine r_lc2 (hi H b hp _ fun J N H1 b1 q1 st n1 ok D nD => ?_)
  have W1 := (W.bu b).bu b1
  have nDm : D ∉ ms := W1.al.not nD
  have nDB : D ∉ B := fun z => nDm (W.hB D z)
  have s1 := same_upd (o := .lst []) nD
  refine ⟨fun i m H => m = xs.length - i ∧ i ≤ xs.length ∧ ∃ acc ys1 ys2, H D = some (.lst acc) ∧ RL (rp (D :: ms) H) acc ys1 ∧ Bu B H1 H ∧ q (D :: ms) H ∧ N (D :: ms) H ∧ col2 gg f (xs.drop i) = some ys2 ∧ ys1 ++ ys2 = ys ∧ Mv ms H1 (D :: ms) H,
    ⟨xs.length, by simp, Nat.zero_le _, [], [], ys, upd_same, trivial, Bu.same s1, hq _ _ _ _ q1 (Mv.new nD s1) (fun a ha o e => s1 a o e), st.mv n1 (Mv.new nD s1), hc, rfl, Mv.new nD s1⟩, ?_⟩
  rintro i m H2 ⟨rfl, hi, acc, ys1, ys2, hD, rl, b2, q2, n2, hd, eys, M2⟩
  have al2 : Al (D :: ms) H2 := (W1.al.bu b2).cons hD
  obtain ⟨ok1, ok2⟩ := ok i _ H2 n2 al2
  have hB' : ∀ a ∈ B, a ∈ D :: ms := fun a ha => List.mem_cons_of_mem _ (W.hB a ha)
  by_cases hlt : i < xs.length
  · right
    have ex := List.getElem?_eq_getElem hlt
    generalize xs[i] = y at ex
    obtain ⟨go, yld⟩ := ok2 y ex
    rw [drop_get ex] at hd
    obtain ⟨cs, hg, hd⟩ := bind_inv hd
    obtain ⟨zs, hf, hd⟩ := bind_inv hd
    obtain ⟨ys3, hd3, hd⟩ := bind_inv hd
    cases hd
    refine ⟨go, fun H' => xs.length - (i + 1) = xs.length - (i + 1) ∧ i + 1 ≤ xs.length ∧ ∃ acc ys1 ys2, H' D = some (.lst acc) ∧ RL (rp (D :: ms) H') acc ys1 ∧ Bu B H1 H' ∧ q (D :: ms) H' ∧ N (D :: ms) H' ∧ col2 gg f (xs.drop (i + 1)) = some ys2 ∧ ys1 ++ ys2 = ys ∧ Mv ms H1 (D :: ms) H', fun H' h => ⟨_, by omega, h⟩, fun v H3 hy => ?_⟩
    obtain ⟨s3, rv⟩ := yld v H3 hy
    have W3 : Wd B (D :: ms) H3 := ⟨hB', al2.same s3⟩
    have M3 : Mv ms H1 (D :: ms) H3 := M2.trans (Mv.same s3)
    have bb : Bu B H0 H3 := ((b.trans b1).trans b2).trans (Bu.same s3)
    have L3 : Lt B ms H0 (D :: ms) H3 := ⟨W3, (Mv.bu W.hB (b.trans b1)).trans M3, bb.1⟩
    have q3 := hq.same s3 q2
    obtain ⟨σ2, bd, ew, hi1, hb1⟩ := hb _ H3 y v cs L3 q3 rv hg
    refine bd _ ⟨ew, ?_⟩
    refine r_yes ?_
    refine iteT ?_
    refine hi1 H3 (Bu.refl B H3) q3 _ fun J1 N1 H4 b4 q4 st1 n4 ok1' => ?_
    have hD4 : H4 D = some (.lst acc) := b4.1 _ _ nDB (s3 _ _ hD)
    have M24 : Mv (D :: ms) H2 (D :: ms) H4 := (Mv.same s3).trans (Mv.bu hB' b4)
    refine ⟨fun j m H => m = cs.length - j ∧ j ≤ cs.length ∧ ∃ acc yz1 yz2, H D = some (.lst acc) ∧ RL (rp (D :: ms) H) acc (ys1 ++ yz1) ∧ Bu B H1 H ∧ q (D :: ms) H ∧ N1 (D :: ms) H ∧ colP (f y) (cs.drop j) = some yz2 ∧ yz1 ++ yz2 = zs ∧ Mv (D :: ms) H4 (D :: ms) H,
      ⟨cs.length, by simp, Nat.zero_le _, acc, [], zs, hD4, by rw [List.append_nil]; exact rl.imp fun _ _ z => Rp.mv z M24, (b2.trans (Bu.same s3)).trans b4, q4, n4, hf, rfl, Mv.refl⟩, ?_⟩
    rintro j m H5 ⟨rfl, hj, acc5, yz1, yz2, hD5, rl5, b5, q5, n5, hd5, eyz, M5⟩
    have al5 : Al (D :: ms) H5 := (W1.al.bu b5).cons hD5
    obtain ⟨ok3, ok4⟩ := ok1' j _ H5 n5 al5
    by_cases hlt5 : j < cs.length
    · right
      have ex5 := List.getElem?_eq_getElem hlt5
      generalize cs[j] = c at ex5
      obtain ⟨go5, yld5⟩ := ok4 c ex5
      rw [drop_get ex5] at hd5
      obtain ⟨r, hf5, hd5⟩ := bind_inv hd5
      obtain ⟨ws, hd6, hd5⟩ := bind_inv hd5
      cases hd5
      refine ⟨go5, fun H' => cs.length - (j + 1) = cs.length - (j + 1) ∧ j + 1 ≤ cs.length ∧ ∃ acc yz1 yz2, H' D = some (.lst acc) ∧ RL (rp (D :: ms) H') acc (ys1 ++ yz1) ∧ Bu B H1 H' ∧ q (D :: ms) H' ∧ N1 (D :: ms) H' ∧ colP (f y) (cs.drop (j + 1)) = some yz2 ∧ yz1 ++ yz2 = zs ∧ Mv (D :: ms) H4 (D :: ms) H', fun H' h => ⟨_, by omega, h⟩, fun u H6 hy6 => ?_⟩
      obtain ⟨s6, ru⟩ := yld5 u H6 hy6
      have W6 : Wd B (D :: ms) H6 := ⟨hB', al5.same s6⟩
      have M46 : Mv (D :: ms) H4 (D :: ms) H6 := M5.trans (Mv.same s6)
      have M36 : Mv (D :: ms) H3 (D :: ms) H6 := (Mv.bu hB' b4).trans M46
      have b16 : Bu B H1 H6 := b5.trans (Bu.same s6)
      have L6 : Lt B ms H0 (D :: ms) H6 := ⟨W6, ((Mv.bu W.hB (b.trans b1)).trans M3).trans M36, ((b.trans b1).trans b16).1⟩
      have q6 := hq.same s6 q5
      obtain ⟨σ3, bd6, ew6, z, rfl, he⟩ := hb1 _ H6 c u r L6 q6 (Rp.mv rv M36) ru hf5
      refine bd6 _ ⟨ew6, ?_⟩
      refine r_yes ?_
      refine iteT ?_
      refine he H6 (Bu.refl B H6) q6 _ fun u2 H7 b7 q7 r7 => ?_
      have hD7 : H7 D = some (.lst acc5) := b7.1 _ _ nDB (s6 _ _ hD5)
      have M57 : Mv (D :: ms) H5 (D :: ms) H7 := (Mv.same s6).trans (Mv.bu hB' b7)
      have M78 : Mv (D :: ms) H7 (D :: ms) (upd H7 D (.lst (acc5 ++ [u2]))) := Mv.but (m := D) (by simp) But.upd
      have ll : acc5.length < sizeLine := by
        have h1 := rl5.len
        have h2 : ys.length = ys1.length + (yz1.length + (1 + ws.length)) + ys3.length := by
          rw [← eys, ← eyz]
          simp
          omega
        rw [List.length_append] at h1
        omega
      refine ⟨acc5, hD7, ll, rfl, hlt5, acc5 ++ [u2], yz1 ++ [z], ws, upd_same, by rw [← List.append_assoc]; exact RL.snoc (rl5.imp fun _ _ z => Rp.mv z (M57.trans M78)) (Rp.mv r7 M78),
        Bu.own (b16.trans b7) nD But.upd upd_same, hq _ _ _ _ q7 M78 (fun a ha o e => by rw [upd_ne (nab ha nDB)]; exact e), st1.mv n5 (M57.trans M78), hd6, by rw [← eyz]; simp, M5.trans (M57.trans M78)⟩
    · left
      have e : j = cs.length := by omega
      subst e
      rw [List.drop_length] at hd5
      cases hd5
      rw [List.append_nil] at eyz
      subst eyz
      refine ⟨ok3 (Nat.le_refl _), rfl, hlt, acc5, ys1 ++ yz1, ys3, hD5, rl5, b5, q5, st.mv n2 (M24.trans M5), hd3, by rw [← eys, List.append_assoc], M2.trans (M24.trans M5)⟩
  · left
    have e : i = xs.length := by omega
    subst e
    rw [List.drop_length] at hd
    cases hd
    rw [List.append_nil] at eys
    subst eys
    exact ⟨ok1 (Nat.le_refl _), k D H2 (b1.trans b2) q2 (b1.none nD) nDm ⟨acc, hD, rl, by rw [rl.len]; exact hl⟩⟩
/-! sorted -/
def kQ (H : Hp) : V → Int × Int
  | .ref t => match H t with
    | some (.tup [.int i, .int j]) => (i, j)
    | _ => (0, 0)
  | _ => (0, 0)
theorem kQ_of {H : Hp} {v : V} {x : Int × Int} (h : rp ms H v x) : kQ H v = x ∧ ∃ t, v = .ref t ∧ H t = some (.tup [.int (kQ H v).1, .int (kQ H v).2]) := by
  obtain ⟨a, u, w, rfl, n, e, r1, r2⟩ := h
  have r1' : u = .int x.1 := r1
  have r2' : w = .int x.2 := r2
  subst r1' r2'
  have ek : kQ H (.ref a) = x := by unfold kQ; dsimp only; rw [e]
  exact ⟨ek, a, rfl, by rw [ek]; exact e⟩
theorem kQ_map {H : Hp} : ∀ {vs : List V} {xs : List (Int × Int)}, RL (rp ms H) vs xs → vs.map (kQ H) = xs
  | [], [], _ => rfl
  | _ :: _, _ :: _, ⟨a, b⟩ => by rw [List.map_cons, (kQ_of a).1, kQ_map b]
theorem kQ_mem {H : Hp} : ∀ {vs : List V} {xs : List (Int × Int)}, RL (rp ms H) vs xs → ∀ v ∈ vs, rp ms H v (kQ H v)
  | [], [], _, v, h => by simp at h
  | v :: _, x :: _, ⟨a, b⟩, u, h => by
    obtain rfl | h := List.mem_cons.mp h
    · rw [(kQ_of a).1]; exact a
    · exact kQ_mem b u h
theorem rl_map {β : Type} {r : V → β → Prop} {f : V → β} : ∀ {vs : List V}, (∀ v ∈ vs, r v (f v)) → RL r vs (vs.map f)
  | [], _ => trivial
  | v :: vs, h => ⟨h v List.mem_cons_self, rl_map fun u hu => h u (List.mem_cons_of_mem _ hu)⟩
def lexB (a b : Int × Int) : Bool := decide (a.1 < b.1 ∨ (a.1 = b.1 ∧ a.2 ≤ b.2))
def sortP (xs : List (Int × Int)) : List (Int × Int) := xs.mergeSort lexB
def sortI (xs : List Int) : List Int := xs.mergeSort fun a b => decide (a ≤ b)
theorem sortP_perm (xs : List (Int × Int)) : (sortP xs).Perm xs := List.mergeSort_perm xs lexB
theorem sortI_perm (xs : List Int) : (sortI xs).Perm xs := List.mergeSort_perm xs _
theorem sortP_srt (xs : List (Int × Int)) : (sortP xs).Pairwise LexLe := by
  have := List.pairwise_mergeSort (le := lexB) (fun a b c => by unfold lexB; simp only [decide_eq_true_eq]; omega) (fun a b => by unfold lexB; simp only [Bool.or_eq_true, decide_eq_true_eq]; omega) xs
  refine this.imp fun {a b} h => ?_
  unfold lexB at h
  unfold LexLe
  simpa using h
theorem sortI_srt (xs : List Int) : (sortI xs).Pairwise (· ≤ ·) := by
  have := List.pairwise_mergeSort (le := fun a b : Int => decide (a ≤ b)) (fun a b c => by simp only [decide_eq_true_eq]; omega) (fun a b => by simp only [Bool.or_eq_true, decide_eq_true_eq]; omega) xs
  exact this.imp fun {a b} h => by simpa using h
theorem sortP_eq {xs ys : List (Int × Int)} (h : ys.Perm xs) (s : ys.Pairwise LexLe) : ys = sortP xs := lex_uniq s (sortP_srt xs) (h.trans (sortP_perm xs).symm)
theorem sortI_eq {xs ys : List Int} (h : ys.Perm xs) (s : ys.Pairwise (· ≤ ·)) : ys = sortI xs := List.Perm.eq_of_pairwise (fun a b _ _ h1 h2 => by omega) s (sortI_srt xs) (h.trans (sortI_perm xs).symm)
theorem en_sortP {xs : List (Int × Int)} (W : Wd B ms H0) (hq : Sb B q) (h : El B ms te σ H0 p xs q) : En B ms (tCB (rSortedPO K) (tCons te tNil)) σ H0 p (sortP xs) q := fun H b hp Q k => h H b hp _ fun a H1 b1 q1 na ⟨vs, e, rl, l⟩ => by
  have hk := kQ_mem rl
  refine ⟨a, vs, kQ H1, rfl, SqL.of e, fun x hx => (kQ_of (hk x hx)).2, fun ys t srt stb nt => ?_⟩
  have s := same_upd (o := .lst ys) nt
  have e2 : ys.map (kQ H1) = sortP xs := by
    refine sortP_eq ?_ ?_
    · have := stb.perm.map (kQ H1)
      rw [kQ_map rl] at this
      exact this
    · rw [List.pairwise_map]
      refine srt.imp fun {x y} h => ?_
      have := SrtO.lexB_no.mp h
      unfold LexLe
      omega
  refine k _ _ (b1.trans (Bu.same s)) (hq.new nt s q1) (b1.none nt) (((W.al.bu b).bu b1).not nt) (ls_new nt ?_ (by rw [stb.perm.length_eq]; exact l))
  rw [← e2]
  exact rl_map fun y hy => hk y (stb.perm.mem_iff.mp hy)
theorem en_sortI {xs : List Int} (W : Wd B ms H0) (hq : Sb B q) (h : El B ms te σ H0 p xs q) : En B ms (tCB (rSortedI K) (tCons te tNil)) σ H0 p (sortI xs) q := fun H b hp Q k => h H b hp _ fun a H1 b1 q1 na ⟨vs, e, rl, l⟩ => by
  have ev := rl.ints fun _ _ h => h
  rw [ev] at e
  refine ⟨a, xs, rfl, SqL.of e, fun ys t pm so nt => ?_⟩
  have s := same_upd (o := .lst (ys.map V.int)) nt
  rw [← sortI_eq pm so] at k
  refine k _ _ (b1.trans (Bu.same s)) (hq.new nt s q1) (b1.none nt) (((W.al.bu b).bu b1).not nt) (ls_new nt (RL.of_map (f := V.int) (fun _ => rfl) _) ?_)
  rw [List.length_map, pm.length_eq, ← rl.len]
  exact l
/-! ### statements -/
theorem mv_newB {H H' : Hp} {a : Addr} (W : Wd B ms H) (b : Bu B H H') (na : H a = none) : Mv ms H (a :: ms) H' := fun c o n e => ⟨fun z => by
  obtain z | z := List.mem_cons.mp z
  · rw [z, na] at e; cases e
  · exact n z, b.1 c o (fun z => n (W.hB c z)) e⟩
theorem Wd.new {H H' : Hp} {a : Addr} (W : Wd B ms H) (b : Bu B H H') (ha : H' a ≠ none) : Wd B (a :: ms) H' := ⟨fun c hc => List.mem_cons_of_mem _ (W.hB c hc), fun c hc => by
  obtain z | z := List.mem_cons.mp hc
  · rw [z]; exact ha
  · exact W.al.bu b c z⟩
/-- x = a new list that will change -/
theorem En.mk {H : Hp} {xs : List α} {Q : VK} (W : Wd B ms H) (h : En B ms te σ H p xs q) (hp : p ms H) (k : ∀ a H', Bu B H H' → H a = none → q (a :: ms) H' → Wd B (a :: ms) H' → Mv ms H (a :: ms) H' → Ls (a :: ms) H' a xs → Q (.ref a) H') : te σ H Q :=
  h H (Bu.refl B H) hp _ fun a H1 b1 q1 na nm l => k a H1 b1 na q1 (W.new b1 l.alive) (mv_newB W b1 na) l
theorem Ex.go {H : Hp} {Q : VK} (W : Wd B ms H) (h : Ex B ms te σ H p x q) (hp : p ms H) (k : ∀ v H', Bu B H H' → q ms H' → Wd B ms H' → Mv ms H ms H' → rp ms H' v x → Q v H') : te σ H Q := h.use hp fun v H1 b1 q1 r1 => k v H1 b1 q1 (W.bu b1) (W.mv b1) r1
theorem Et.go {tt : TT} {c : Bool} {H : Hp} {R : Bool → Hp → Prop} (W : Wd B ms H) (h : Et B ms tt σ H p c q) (hp : p ms H) (k : ∀ H', Bu B H H' → q ms H' → Wd B ms H' → Mv ms H ms H' → R c H') : tt σ H R := h.use hp fun H1 b1 q1 => k H1 b1 q1 (W.bu b1) (W.mv b1)
/-- xs.append(e) -/
theorem s_app {H : Hp} {Q : VK} {i : Nat} {m : Addr} {xs ys : List α} {ts : TA} {T : String} (hT : T = "list") (W : Wd B ms H) (hs : σ[i]? = some (some (.ref m))) (l : Ls ms H m xs) (hm : m ∈ ms) (nB : m ∉ B) (hq : Sb B q) (h : Ea B ms ts σ H p (x, ()) q) (hp : p ms H) (e : appF xs x = some ys)
    (k : ∀ H', Bu (m :: B) H H' → q ms H' → Wd B ms H' → Mv ms H ms H' → Ls ms H' m ys → Q .non H') : tBM K T rAppend (tVar i) ts σ H Q := by
  subst hT
  obtain ⟨vs, ev, rl, ll⟩ := l
  refine r_bm ⟨_, hs, ty_lst ev, h H (Bu.refl B H) hp _ fun us H1 b1 q1 e1 => ?_⟩
  obtain ⟨v1, _, rfl, r1, e0⟩ := e1
  have e0' : _ = [] := e0
  subst e0'
  unfold appF at e
  split at e
  · rename_i hl
    cases e
    have ev1 := b1.1 _ _ nB ev
    have hl' : vs.length < sizeLine := by rw [rl.len]; exact hl
    refine r_app ev1 hl' fun H2 h2 u2 => ?_
    have W1 := W.bu b1
    have M : Mv ms H ms H2 := (W.mv b1).trans (Mv.but hm u2)
    refine k H2 ⟨fun a o n e => ?_, fun a e => (W1.al.but u2 h2 |> fun _ => ?_)⟩ ?_ ⟨W.hB, W1.al.but u2 h2⟩ M ⟨vs ++ [v1], h2, RL.snoc (rl.imp fun _ _ z => Rp.mv z M) (Rp.mv r1 (Mv.but hm u2)), by rw [List.length_append]; simp; omega⟩
    · have n' := notc n
      exact u2 _ _ n'.1 (b1.1 _ _ n'.2 e)
    · by_cases qm : a = m
      · rw [qm, h2]; exact fun z => by cases z
      · have := b1.2 a e
        cases h' : H1 a with
        | none => exact absurd h' this
        | some o' => rw [u2 a o' qm h']; exact fun z => by cases z
    · exact hq _ _ _ _ q1 (Mv.but hm u2) fun a ha o e => u2 _ _ (nab ha nB) e
  · cases e
/-- xs[i] = e -/
theorem s_setix {H : Hp} {i : Nat} {m : Addr} {xs ys : List α} {j : Int} {R : St → Hp → Prop} (W : Wd B ms H) (hs : σ[i]? = some (some (.ref m))) (l : Ls ms H m xs) (hm : m ∈ ms) (nB : m ∉ B) (hr : Sb B r) (h1 : Ex B ms te σ H p x q) (h2 : Ex B ms tb σ H q j r) (hp : p ms H) (e : setF xs j x = some ys)
    (k : ∀ H', Bu (m :: B) H H' → r ms H' → Wd B ms H' → Mv ms H ms H' → Ls ms H' m ys → R σ H') : te σ H (fun v H1 => gSub (tVar i) tb rSetL v σ H1 R) := by
  refine h1.use hp fun v H1 b1 q1 r1 => ?_
  refine r_gsub ⟨_, hs, h2 H1 b1 q1 _ fun u H2 b2 q2 r2 => ?_⟩
  obtain ⟨vs, ev, rl, ll⟩ := l
  have e2 : u = .int j := r2
  subst e2
  obtain ⟨n, en, ee⟩ := Option.bind_eq_some_iff.mp e
  cases ee
  have b12 := b1.trans b2
  have ev2 := b12.1 _ _ nB ev
  refine r_setL ev2 (j := n) (by rw [rl.len]; exact en) fun H3 h3 u3 => ?_
  have W2 := W.bu b12
  have M : Mv ms H ms H3 := (W.mv b12).trans (Mv.but hm u3)
  refine k H3 ⟨fun a o n e => ?_, fun a e => ?_⟩ ?_ ⟨W.hB, W2.al.but u3 h3⟩ M ⟨vs.set n v, h3, RL.set (rl.imp fun _ _ z => Rp.mv z M) (Rp.mv (Rp.mv r1 (Mv.bu W.hB b2)) (Mv.but hm u3)), by rw [List.length_set]; exact ll⟩
  · have n' := notc n
    exact u3 _ _ n'.1 (b12.1 _ _ n'.2 e)
  · by_cases qm : a = m
    · rw [qm, h3]; exact fun z => by cases z
    · have := b12.2 a e
      cases h' : H2 a with
      | none => exact absurd h' this
      | some o' => rw [u3 a o' qm h']; exact fun z => by cases z
  · exact hr _ _ _ _ q2 (Mv.but hm u3) fun a ha o e => u3 _ _ (nab ha nB) e
theorem Bu.own2 {H H' H'' : Hp} {m : Addr} (x : Bu B H H') (n : H m = Option.none) (y : Bu (m :: B) H' H'') : Bu B H H'' := ⟨fun a o na e => y.1 a o (fun z => by
  obtain z | z := List.mem_cons.mp z
  · rw [z, n] at e; cases e
  · exact na z) (x.1 a o na e), fun a e => y.2 a (x.2 a e)⟩
theorem Bu.own3 {H H' H'' : Hp} {m n : Addr} (x : Bu B H H') (hm : H m = Option.none) (hn : H n = Option.none) (y : Bu (m :: n :: B) H' H'') : Bu B H H'' := ⟨fun a o na e => y.1 a o (fun z => by
  obtain z | z := List.mem_cons.mp z
  · rw [z, hm] at e; cases e
  obtain z | z := List.mem_cons.mp z
  · rw [z, hn] at e; cases e
  · exact na z) (x.1 a o na e), fun a e => y.2 a (x.2 a e)⟩
theorem Sb.bu {H H' : Hp} (hq : Sb B q) (W : Wd B ms H) (s : Same H H') (z : q ms H) : q ms H' := hq.same s z
/-! loops -/
theorem r_for {wi : TI} {g : TG} {tb : TS} {D : Ends} {H : Hp} {xs : List α} (W : Wd B ms H) (hi : Ei B ms wi σ H p xs q) (hp : p ms H) (k : ∀ J N H1, Bu B H H1 → q ms H1 → Wd B ms H1 → Mv ms H ms H1 → NSt N → N ms H1 → ItOk J N xs → WkS J D.nx (fun y s h2 B => g y s h2 (tb { D with nx := B, ct := B, bk := D.nx })) σ H1) : tFor wi g tb D σ H :=
  r_forS (hi H (Bu.refl B H) hp _ fun J N H1 b1 q1 st n1 ok => k J N H1 b1 q1 (W.bu b1) (W.mv b1) st n1 ok)
theorem wk_fold {s : Type} {g : TG} {tb : TS} {D : Ends} {H : Hp} {xs : List α} {J : It} {N : Hq} {f : α → s → Option s} {x0 out : s} (ok : ItOk J N xs) (hm : fold f xs x0 = some out) (I : s → St → Hp → Prop) (h0 : I x0 σ H) (hN : ∀ x σ H, I x σ H → N ms H ∧ Al ms H)
    (hs : ∀ a v x x' σ H H1, I x σ H → Same H H1 → rp ms H1 v a → f a x = some x' → g v σ H1 fun σ2 H2 => tb { D with nx := I x', ct := I x', bk := D.nx } σ2 H2) (hd : ∀ σ H, I out σ H → D.nx σ H) :
    WkS J D.nx (fun y s h2 B => g y s h2 (tb { D with nx := B, ct := B, bk := D.nx })) σ H := by
  refine ⟨fun i m σ H => m = xs.length - i ∧ i ≤ xs.length ∧ ∃ x, I x σ H ∧ fold f (xs.drop i) x = some out, ⟨xs.length, by simp, Nat.zero_le _, x0, h0, hm⟩, ?_⟩
  rintro i m σ H ⟨rfl, hi, x, hI, hf⟩
  obtain ⟨n1, al⟩ := hN _ _ _ hI
  obtain ⟨ok1, ok2⟩ := ok i ms H n1 al
  by_cases hlt : i < xs.length
  · right
    have ex := List.getElem?_eq_getElem hlt
    generalize xs[i] = y at ex
    obtain ⟨go, yld⟩ := ok2 y ex
    rw [drop_get ex] at hf
    obtain ⟨x', h1, hf⟩ := bind_inv hf
    refine ⟨go, I x', fun σ' H' h => ⟨_, by omega, rfl, hlt, x', h, hf⟩, fun v H1 hy => ?_⟩
    obtain ⟨s1, rv⟩ := yld v H1 hy
    exact hs y v x x' σ H H1 hI s1 rv h1
  · left
    have e : i = xs.length := by omega
    subst e
    rw [List.drop_length] at hf
    cases hf
    exact ⟨ok1 (Nat.le_refl _), hd σ H hI⟩
theorem wk_loop {s ρ : Type} {g : TG} {tb : TS} {D : Ends} {H : Hp} {xs : List α} {J : It} {N : Hq} {f : α → s → Option (Fl ρ s)} {x0 : s} {out : Fl ρ s} (ok : ItOk J N xs) (hm : loop f xs x0 = some out) (I : s → St → Hp → Prop) (h0 : I x0 σ H) (hN : ∀ x σ H, I x σ H → N ms H ∧ Al ms H)
    (hs : ∀ a v x fl σ H H1, I x σ H → Same H H1 → rp ms H1 v a → f a x = some fl → (∀ r, fl = .ret r → out = .ret r) → g v σ H1 fun σ2 H2 => tb { D with nx := fun σ' H' => ∃ x', fl = .go x' ∧ I x' σ' H', ct := fun σ' H' => ∃ x', fl = .go x' ∧ I x' σ' H', bk := D.nx } σ2 H2)
    (hd : ∀ x σ H, out = .go x → I x σ H → D.nx σ H) :
    WkS J D.nx (fun y s h2 B => g y s h2 (tb { D with nx := B, ct := B, bk := D.nx })) σ H := by
  refine ⟨fun i m σ H => m = xs.length - i ∧ i ≤ xs.length ∧ ∃ x, I x σ H ∧ loop f (xs.drop i) x = some out, ⟨xs.length, by simp, Nat.zero_le _, x0, h0, hm⟩, ?_⟩
  rintro i m σ H ⟨rfl, hi, x, hI, hf⟩
  obtain ⟨n1, al⟩ := hN _ _ _ hI
  obtain ⟨ok1, ok2⟩ := ok i ms H n1 al
  by_cases hlt : i < xs.length
  · right
    have ex := List.getElem?_eq_getElem hlt
    generalize xs[i] = y at ex
    obtain ⟨go, yld⟩ := ok2 y ex
    rw [drop_get ex] at hf
    obtain ⟨fl, h1, hf⟩ := bind_inv hf
    refine ⟨go, fun σ' H' => ∃ x', fl = .go x' ∧ I x' σ' H', fun σ' H' ⟨x', e, h⟩ => ?_, fun v H1 hy => ?_⟩
    · subst e
      exact ⟨_, by omega, rfl, hlt, x', h, hf⟩
    · obtain ⟨s1, rv⟩ := yld v H1 hy
      refine hs y v x fl σ H H1 hI s1 rv h1 fun r e => ?_
      subst e
      cases hf
      rfl
  · left
    have e : i = xs.length := by omega
    subst e
    rw [List.drop_length] at hf
    cases hf
    exact ⟨ok1 (Nat.le_refl _), hd _ σ H rfl hI⟩
def whl {s ρ : Type} (c : s → Option Bool) (f : s → Option (Fl ρ s)) : Nat → s → Option (Fl ρ s)
  | 0, _ => none
  | n + 1, x => (c x).bind fun b => if b = true then (f x).bind fun y => match y with | .ret r => some (.ret r) | .go z => whl c f n z else some (.go x)
theorem wk_while {s ρ : Type} {tc : TT} {tb : TS} {D : Ends} {H : Hp} {c : s → Option Bool} {f : s → Option (Fl ρ s)} {m : Nat} {x0 : s} {out : Fl ρ s} (hm : whl c f m x0 = some out) (I : s → St → Hp → Prop) (h0 : I x0 σ H)
    (ht : ∀ x t σ H, I x σ H → c x = some t → ∀ R : Bool → Hp → Prop, (∀ H', I x σ H' → R t H') → tc σ H R)
    (hs : ∀ x fl σ H, I x σ H → f x = some fl → (∀ r, fl = .ret r → out = .ret r) → tb { D with nx := fun σ' H' => ∃ x', fl = .go x' ∧ I x' σ' H', ct := fun σ' H' => ∃ x', fl = .go x' ∧ I x' σ' H', bk := D.nx } σ H)
    (hd : ∀ x σ H, out = .go x → I x σ H → D.nx σ H) : tWhile tc tb D σ H := by
  refine ⟨fun n σ H => ∃ x, I x σ H ∧ whl c f n x = some out, ⟨m, x0, h0, hm⟩, ?_⟩
  rintro n σ H ⟨x, hI, hw⟩
  cases n with
  | zero => cases hw
  | succ n =>
    obtain ⟨t, hc, hw⟩ := bind_inv hw
    refine ht x t σ H hI hc _ fun H' hI' => ?_
    cases t with
    | false =>
      rw [if_neg (by decide)] at hw ⊢
      exact hd x σ H' (Option.some.inj hw).symm hI'
    | true =>
      rw [if_pos rfl] at hw ⊢
      obtain ⟨fl, hf, hw⟩ := bind_inv hw
      refine ⟨_, ?_, hs x fl σ H' hI' hf fun r e => ?_⟩
      · rintro σ' H2 ⟨x', rfl, hI2⟩
        exact ⟨n, Nat.lt_succ_self n, x', hI2, hw⟩
      · subst e
        exact (Option.some.inj hw).symm
def popF {α : Type} (xs : List α) (i : Int) : Option (α × List α) := if -(2 ^ 63) ≤ i ∧ i < 2 ^ 63 then (ixN xs.length i).bind fun j => (xs[j]?).map fun y => (y, xs.eraseIdx j) else none
def remF (xs : List Int) (x : Int) : Option (List Int) := if x ∈ xs then some (xs.erase x) else none
def insF {α : Type} (xs : List α) (i : Int) (x : α) : Option (List α) := if xs.length < sizeLine ∧ 0 ≤ i ∧ i < 2 ^ 63 then some (xs.take i.toNat ++ [x] ++ xs.drop i.toNat) else none
/-- a list that may change is given another content -/
theorem chg {H H1 : Hp} {m : Addr} {ys : List α} {vs us : List V} (W : Wd B ms H) (hm : m ∈ ms) (nB : m ∉ B) (hq : Sb B q) (b1 : Bu B H H1) (q1 : q ms H1) (ev : H m = some (.lst vs)) (rl : RL (rp ms H1) us ys) (hl : us.length ≤ sizeLine) :
    let H2 := upd H1 m (.lst us)
    Bu (m :: B) H H2 ∧ q ms H2 ∧ Wd B ms H2 ∧ Mv ms H ms H2 ∧ Mv ms H1 ms H2 ∧ Ls ms H2 m ys := by
  intro H2
  have u2 : But m H1 H2 := But.upd
  have h2 : H2 m = some (.lst us) := upd_same
  have W1 := W.bu b1
  have M1 : Mv ms H1 ms H2 := Mv.but hm u2
  refine ⟨⟨fun a o n e => ?_, fun a e => ?_⟩, ?_, ⟨W.hB, W1.al.but u2 h2⟩, (W.mv b1).trans M1, M1, us, h2, rl.imp fun _ _ z => Rp.mv z M1, hl⟩
  · have n' := notc n
    exact u2 _ _ n'.1 (b1.1 _ _ n'.2 e)
  · by_cases qm : a = m
    · rw [qm, h2]; exact fun z => by cases z
    · have := b1.2 a e
      cases h' : H1 a with
      | none => exact absurd h' this
      | some o' => rw [u2 a o' qm h']; exact fun z => by cases z
  · exact hq _ _ _ _ q1 M1 fun a ha o e => u2 _ _ (nab ha nB) e
/-- xs.insert(i, e) -/
theorem s_ins {H : Hp} {Q : VK} {i : Nat} {m : Addr} {xs ys : List α} {j : Int} {ts : TA} {T : String} (hT : T = "list") (W : Wd B ms H) (hs : σ[i]? = some (some (.ref m))) (l : Ls ms H m xs) (hm : m ∈ ms) (nB : m ∉ B) (hq : Sb B q) (h : Ea B ms ts σ H p (j, x, ()) q) (hp : p ms H) (e : insF xs j x = some ys)
    (k : ∀ H', Bu (m :: B) H H' → q ms H' → Wd B ms H' → Mv ms H ms H' → Ls ms H' m ys → Q .non H') : tBM K T (fun x vs H Q => ∃ (l : Addr) (xs : List V) (i : Int) (y : V), x = .ref l ∧ vs = [.int i, y] ∧ H l = some (.lst xs) ∧ xs.length < sizeLine ∧ 0 ≤ i ∧ i < 2 ^ 63 ∧ Q .non (upd H l (.lst (xs.take i.toNat ++ [y] ++ xs.drop i.toNat)))) (tVar i) ts σ H Q := by
  subst hT
  obtain ⟨vs, ev, rl, ll⟩ := l
  refine r_bm ⟨_, hs, ty_lst ev, h H (Bu.refl B H) hp _ fun us H1 b1 q1 e1 => ?_⟩
  obtain ⟨v0, _, rfl, r0, v1, _, rfl, r1, e0⟩ := e1
  have e0' : _ = [] := e0
  have r0' : v0 = .int j := r0
  subst e0' r0'
  unfold insF at e
  split at e
  · rename_i hl
    cases e
    have ev1 := b1.1 _ _ nB ev
    have rl1 : RL (rp ms H1) vs xs := rl.imp fun _ _ z => Rp.mv z (W.mv b1)
    obtain ⟨c1, c2, c3, c4, c5, c6⟩ := chg W hm nB hq b1 q1 ev (us := vs.take j.toNat ++ [v1] ++ vs.drop j.toNat) (ys := xs.take j.toNat ++ [x] ++ xs.drop j.toNat) ((rl1.take.snoc r1).app rl1.drop)
      (by have := rl.len; rw [List.length_append, List.length_append, List.length_take, List.length_drop, List.length_singleton]; omega)
    exact ⟨m, vs, j, v1, rfl, rfl, ev1, by rw [rl.len]; exact hl.1, hl.2.1, hl.2.2, k _ c1 c2 c3 c4 c6⟩
  · cases e
/-- e = xs.pop(i) -/
theorem s_pop {H : Hp} {Q : VK} {i : Nat} {m : Addr} {xs ys : List α} {j : Int} {ts : TA} {T : String} (hT : T = "list") (W : Wd B ms H) (hs : σ[i]? = some (some (.ref m))) (l : Ls ms H m xs) (hm : m ∈ ms) (nB : m ∉ B) (hq : Sb B q) (h : Ea B ms ts σ H p (j, ()) q) (hp : p ms H) (e : popF xs j = some (x, ys))
    (k : ∀ v H', Bu (m :: B) H H' → q ms H' → Wd B ms H' → Mv ms H ms H' → Ls ms H' m ys → rp ms H' v x → Q v H') : tBM K T rPopAt (tVar i) ts σ H Q := by
  subst hT
  obtain ⟨vs, ev, rl, ll⟩ := l
  refine r_bm ⟨_, hs, ty_lst ev, h H (Bu.refl B H) hp _ fun us H1 b1 q1 e1 => ?_⟩
  obtain ⟨v1, _, rfl, r1, e0⟩ := e1
  have e0' : _ = [] := e0
  have r1' : v1 = .int j := r1
  subst e0' r1'
  unfold popF at e
  split at e
  · rename_i hl
    obtain ⟨n, en, e⟩ := bind_inv e
    obtain ⟨y, ey, e⟩ := Option.map_eq_some_iff.mp e
    obtain ⟨e2, e3⟩ := Prod.mk.inj e
    subst e2 e3
    have ev1 := b1.1 _ _ nB ev
    have rl1 : RL (rp ms H1) vs xs := rl.imp fun _ _ z => Rp.mv z (W.mv b1)
    obtain ⟨v, hv, rv⟩ := rl1.get' ey
    obtain ⟨c1, c2, c3, c4, c5, c6⟩ := chg W hm nB hq b1 q1 ev (us := vs.eraseIdx n) (ys := xs.eraseIdx n) rl1.erase (Nat.le_trans (List.length_eraseIdx_le vs n) ll)
    exact ⟨m, vs, j, n, v, rfl, rfl, ev1, hl.1, hl.2, by rw [rl.len]; exact (ixN_seq en).1, hv, k _ _ c1 c2 c3 c4 c6 (Rp.mv rv c5)⟩
  · cases e
theorem first_rem : ∀ {xs : List Int} {x : Int}, x ∈ xs → ∃ j, xs[j]? = some x ∧ (∀ m : Nat, m < j → xs[m]? ≠ some x) ∧ xs.erase x = xs.eraseIdx j
  | [], _, h => by cases h
  | y :: ys, x, h => by
    by_cases e : y = x
    · subst e
      exact ⟨0, rfl, fun m hm => absurd hm (Nat.not_lt_zero m), by simp⟩
    · have h' : x ∈ ys := by
        cases h with
        | head => exact absurd rfl e
        | tail _ h => exact h
      obtain ⟨j, h1, h2, h3⟩ := first_rem h'
      refine ⟨j + 1, by simpa using h1, fun m hm => ?_, ?_⟩
      · cases m with
        | zero => simpa using e
        | succ m => simpa using h2 m (by omega)
      · rw [List.erase_cons_tail (by simpa using e), h3]
        rfl
/-- xs.remove(e) -/
theorem s_rem {H : Hp} {Q : VK} {i : Nat} {m : Addr} {xs ys : List Int} {j : Int} {ts : TA} {T : String} (hT : T = "list") (W : Wd B ms H) (hs : σ[i]? = some (some (.ref m))) (l : Ls ms H m xs) (hm : m ∈ ms) (nB : m ∉ B) (hq : Sb B q) (h : Ea B ms ts σ H p (j, ()) q) (hp : p ms H) (e : remF xs j = some ys)
    (k : ∀ H', Bu (m :: B) H H' → q ms H' → Wd B ms H' → Mv ms H ms H' → Ls ms H' m ys → Q .non H') : tBM K T rRemI (tVar i) ts σ H Q := by
  subst hT
  obtain ⟨vs, ev, rl, ll⟩ := l
  refine r_bm ⟨_, hs, ty_lst ev, h H (Bu.refl B H) hp _ fun us H1 b1 q1 e1 => ?_⟩
  obtain ⟨v1, _, rfl, r1, e0⟩ := e1
  have e0' : _ = [] := e0
  have r1' : v1 = .int j := r1
  subst e0' r1'
  unfold remF at e
  split at e
  · rename_i hl
    cases e
    have ev1 := b1.1 _ _ nB ev
    have ei := rl.ints fun _ _ h => h
    subst ei
    obtain ⟨n, h1, h2, h3⟩ := first_rem hl
    obtain ⟨c1, c2, c3, c4, c5, c6⟩ := chg W hm nB hq b1 q1 ev (us := (xs.eraseIdx n).map V.int) (ys := xs.eraseIdx n) (RL.of_map (f := V.int) (fun _ => rfl) _) (by rw [List.length_map]; exact Nat.le_trans (List.length_eraseIdx_le xs n) (by rw [List.length_map] at ll; exact ll))
    rw [h3] at k
    exact ⟨m, xs, j, n, rfl, rfl, ev1, h1, h2, k _ c1 c2 c3 c4 c6⟩
  · cases e
/-- xs.append(ys.pop(e)) -/
theorem s_apppop {H : Hp} {Q : VK} {i i2 : Nat} {m m2 : Addr} {xs ys us ws : List α} {j : Int} {ts : TA} {T T2 : String} (hT : T = "list") (hT2 : T2 = "list") (W : Wd B ms H) (hs : σ[i]? = some (some (.ref m))) (hs2 : σ[i2]? = some (some (.ref m2))) (l : Ls ms H m xs) (l2 : Ls ms H m2 us) (hm : m ∈ ms) (hm2 : m2 ∈ ms) (ne : m2 ≠ m) (nB : m ∉ B) (nB2 : m2 ∉ B) (hq : Sb B q) (h : Ea B ms ts σ H p (j, ()) q) (hp : p ms H) (e : popF xs j = some (x, ys)) (e2 : appF us x = some ws)
    (k : ∀ H', Bu (m2 :: m :: B) H H' → q ms H' → Wd B ms H' → Mv ms H ms H' → Ls ms H' m ys → Ls ms H' m2 ws → Q .non H') : tBM K T2 rAppend (tVar i2) (tCons (tBM K T rPopAt (tVar i) ts) tNil) σ H Q := by
  subst hT2
  obtain ⟨vs2, ev2, rl2, ll2⟩ := id l2
  refine r_bm ⟨_, hs2, ty_lst ev2, s_pop hT W hs l hm nB hq h hp e fun v H1 b1 q1 W1 M1 l1 rv => ?_⟩
  have n2 : m2 ∉ m :: B := nin ne nB2
  have ev3 := b1.1 _ _ n2 ev2
  have l3 := l2.step M1 fun o e => b1.1 _ _ n2 e
  obtain ⟨vs3, ev4, rl3, ll3⟩ := l3
  have e4 : vs3 = vs2 := by
    rw [ev3] at ev4
    cases ev4
    rfl
  subst e4
  unfold appF at e2
  split at e2
  · rename_i hl
    cases e2
    have hl' : vs3.length < sizeLine := by rw [rl3.len]; exact hl
    refine r_app ev3 hl' fun H2 h2 u2 => ?_
    have M2 : Mv ms H1 ms H2 := Mv.but hm2 u2
    refine k H2 ⟨fun a o n e => ?_, fun a e => ?_⟩ ?_ ⟨W.hB, W1.al.but u2 h2⟩ (M1.trans M2) (l1.step M2 fun o e => u2 _ _ (fun z => ne z.symm) e) ⟨vs3 ++ [v], h2, RL.snoc (rl3.imp fun _ _ z => Rp.mv z M2) (Rp.mv rv M2), by rw [List.length_append]; simp; omega⟩
    · have n' := notc n
      exact u2 _ _ n'.1 (b1.1 _ _ n'.2 e)
    · by_cases qm : a = m2
      · rw [qm, h2]; exact fun z => by cases z
      · have := b1.2 a e
        cases h' : H1 a with
        | none => exact absurd h' this
        | some o' => rw [u2 a o' qm h']; exact fun z => by cases z
    · exact hq _ _ _ _ q1 M2 fun a ha o e => u2 _ _ (nab ha nB2) e
  · cases e2
theorem rp_nar {H : Hp} {v : V} {x : Option α} {y : α} (e : x = some y) (h : rp ms H v x) : rp ms H v y := by rw [e] at h; exact h
theorem rp_unnar {H : Hp} {v : V} {x : Option α} {y : α} (e : x = some y) (h : rp ms H v y) : rp ms H v x := by rw [e]; exact h
/-! ### what the generated texts name -/
theorem ex_vi {i : Nat} {n : Int} (hs : σ[i]? = some (some (.int n))) : Ex B ms (tVar i) σ H0 p n p := fun H b hp Q k => ⟨_, hs, k _ H (Bu.refl B H) hp rfl⟩
theorem ex_vb {i : Nat} {n : Bool} (hs : σ[i]? = some (some (.bl n))) : Ex B ms (tVar i) σ H0 p n p := fun H b hp Q k => ⟨_, hs, k _ H (Bu.refl B H) hp rfl⟩
theorem ex_vs {i : Nat} {n : Str} (hs : σ[i]? = some (some (.str n))) : Ex B ms (tVar i) σ H0 p n p := fun H b hp Q k => ⟨_, hs, k _ H (Bu.refl B H) hp rfl⟩
def modF (a m : Int) : Option Int := if 0 < m then some (a % m) else none
def mulF (a m : Int) : Option Int := if -(2 ^ 64) < a ∧ a < 2 ^ 64 then some (a * m) else none
theorem modF_ok {a m t : Int} (h : modF a m = some t) : 0 < m ∧ a % m = t := by
  unfold modF at h
  split at h
  · cases h; exact ⟨by assumption, rfl⟩
  · cases h
theorem mulF_ok {a m t : Int} (h : mulF a m = some t) : CMul a m ∧ a * m = t := by
  unfold mulF at h
  split at h
  · cases h; exact ⟨.inl (by assumption), rfl⟩
  · cases h
theorem et_yes : Et B ms tYes σ H0 p true p := fun H b hp R k => k H (Bu.refl B H) hp
theorem et_chain {te : TE} {c : Bool} (h : Ex B ms te σ H0 p c q) : Et B ms (tTest te) σ H0 p c q := et_test h
theorem ite_by {c : Bool} {A C : Prop} (h1 : c = true → A) (h2 : ¬ c = true → C) : if c = true then A else C := by
  cases c
  · exact h2 (by decide)
  · exact h1 rfl
theorem not_less {a : Addr} {ms ms' : Ms} (n : a ∉ ms) (l : ∀ c, c ∈ ms' → c ∈ ms) : a ∉ ms' := fun z => n (l a z)
theorem bnd_tup2 {H : Hp} {a : Addr} {u w : V} {t1 t2 : TG} {σ1 σ2 : St} (eh : H a = some (.tup [u, w])) (h1 : Bnd t1 u σ H σ1) (h2 : Bnd t2 w σ1 H σ2) : Bnd (gTup K 2 (gCons t1 (gCons t2 gNil))) (.ref a) σ H σ2 := fun R hR =>
  r_gtup (SqT.of eh) rfl (r_gcons (h1 _ (r_gcons (h2 _ (r_gnil hR)))))
theorem bnd_tup3 {H : Hp} {a : Addr} {u w y : V} {t1 t2 t3 : TG} {σ1 σ2 σ3 : St} (eh : H a = some (.tup [u, w, y])) (h1 : Bnd t1 u σ H σ1) (h2 : Bnd t2 w σ1 H σ2) (h3 : Bnd t3 y σ2 H σ3) : Bnd (gTup K 3 (gCons t1 (gCons t2 (gCons t3 gNil)))) (.ref a) σ H σ3 := fun R hR =>
  r_gtup (SqT.of eh) rfl (r_gcons (h1 _ (r_gcons (h2 _ (r_gcons (h3 _ (r_gnil hR)))))))
theorem rng1_len {j : Int} {xs : List Int} (e : rng1 j = some xs) : xs.length ≤ sizeLine := by
  unfold rng1 at e
  split at e
  · rename_i h
    cases e
    simpa [rngL] using h.2.2
  · cases e
theorem rng2_len {i j : Int} {xs : List Int} (e : rng2 i j = some xs) : xs.length ≤ sizeLine := by
  unfold rng2 at e
  split at e
  · rename_i h
    cases e
    simpa [rngL] using h.2.2.2.2
  · cases e
def colL {α β : Type} (f : α → Option (Option β)) (xs : List α) : Option (List β) := if xs.length ≤ sizeLine then colP f xs else none
def colS {α β s : Type} (f : α → s → Option (Option β × s)) (xs : List α) (x : s) : Option (List β × s) := if xs.length ≤ sizeLine then coll f xs x else none
def col2L {α γ β : Type} (g : α → Option (List γ)) (f : α → γ → Option (Option β)) (xs : List α) : Option (List β) := (col2 g f xs).bind fun ys => if ys.length ≤ sizeLine then some ys else none
theorem en_lcL {wi : TI} {g : TG} {tt : TT} {vs : List Nat} {xs : List α} {ys : List β} {f : α → Option (Option β)} (W : Wd B ms H0) (hq : Sb B q) (hi : Ej B ms wi σ H0 p xs q) (hc : colL f xs = some ys)
    (hb : ∀ (ms' : Ms) (H : Hp) (y : α) (v : V) (r : Option β), Lt B ms H0 ms' H → q ms' H → rp ms' H v y → f y = some r → ∃ σ2, Bnd g v (wipe σ vs) H σ2 ∧ wipe σ2 vs = wipe σ vs ∧ ∃ c, Et B ms' tt σ2 H q c q ∧ (c = false → r = none) ∧ (c = true → ∃ u, r = some u ∧ Ex B ms' te σ2 H q u q)) :
    En B ms (tLc wi g tt te vs) σ H0 p ys q := by
  unfold colL at hc
  split at hc
  · exact en_lc W hq (by assumption) hi hc hb
  · cases hc
theorem en_lcSL {s : Type} {wi : TI} {g : TG} {tt : TT} {vs : List Nat} {xs : List α} {ys : List β} {x0 x1 : s} {P : s → Hq} {f : α → s → Option (Option β × s)} (W : Wd B ms H0) (hP : ∀ x, Sb B (P x)) (hi : Ej B ms wi σ H0 p xs (P x0)) (hc : colS f xs x0 = some (ys, x1))
    (hb : ∀ (ms' : Ms) (H : Hp) (y : α) (v : V) (r : Option β) (x x' : s), Lt B ms H0 ms' H → P x ms' H → rp ms' H v y → f y x = some (r, x') → ∃ σ2, Bnd g v (wipe σ vs) H σ2 ∧ wipe σ2 vs = wipe σ vs ∧ ∃ c q', Et B ms' tt σ2 H (P x) c q' ∧ (c = false → r = none ∧ ∀ H, q' ms' H → P x' ms' H) ∧ (c = true → ∃ u, r = some u ∧ Ex B ms' te σ2 H q' u (P x'))) :
    En B ms (tLc wi g tt te vs) σ H0 p ys (P x1) := by
  unfold colS at hc
  split at hc
  · exact en_lcS W hP (by assumption) hi hc hb
  · cases hc
theorem en_lc2L {wi wi1 : TI} {g g1 : TG} {vs vs1 : List Nat} {xs : List α} {ys : List β} {gg : α → Option (List γ)} {f : α → γ → Option (Option β)} (W : Wd B ms H0) (hq : Sb B q) (hi : Ei B ms wi σ H0 p xs q) (hc : col2L gg f xs = some ys)
    (hb : ∀ (ms' : Ms) (H : Hp) (y : α) (v : V) (cs : List γ), Lt B ms H0 ms' H → q ms' H → rp ms' H v y → gg y = some cs → ∃ σ2, Bnd g v (wipe σ vs) H σ2 ∧ wipe σ2 vs = wipe σ vs ∧ Ei B ms' wi1 σ2 H q cs q ∧
      ∀ (ms' : Ms) (H : Hp) (c : γ) (u : V) (r : Option β), Lt B ms H0 ms' H → q ms' H → rp ms' H v y → rp ms' H u c → f y c = some r → ∃ σ3, Bnd g1 u (wipe σ2 vs1) H σ3 ∧ wipe σ3 vs1 = wipe σ2 vs1 ∧ ∃ z, r = some z ∧ Ex B ms' te σ3 H q z q) :
    En B ms (tLc2 wi g tYes wi1 g1 tYes te vs vs1) σ H0 p ys q := by
  obtain ⟨zs, h1, h2⟩ := bind_inv hc
  split at h2
  · cases h2
    exact en_lc2 W hq hi h1 (by assumption) hb
  · cases h2
/-- an answer that is no object -/
class RpS (α : Type) [Rp α] : Prop where
  ind : ∀ {ms ms' : Ms} {H H' : Hp} {v : V} {x : α}, rp ms H v x → rp ms' H' v x
instance : RpS Int := ⟨fun h => h⟩
instance : RpS Bool := ⟨fun h => h⟩
instance : RpS Str := ⟨fun h => h⟩
instance [RpS α] : RpS (Option α) := ⟨fun {ms ms' H H' v x} h => by
  cases x with
  | none => exact h
  | some y => exact RpS.ind (α := α) (x := y) h⟩
theorem not_dr {a : Addr} (n : a ∉ B) : ∀ c ∈ B, c ∉ [a] := fun c hc z => n (List.mem_singleton.mp z ▸ hc)
theorem drop_nin {a : Addr} {dr : Ms} (h : a ∈ dr) : a ∉ ms.filter fun c => decide (c ∉ dr) := fun z => by
  have := (List.mem_filter.mp z).2
  exact of_decide_eq_true this h
theorem ex_callT [RpS α] {ι : Type} [RpA ι] {F : ι → Option α} {ts : TA} {E : XK} {i : ι} (dr : Ms) (W : Wd B ms H0) (nd : ∀ c ∈ B, c ∉ dr) (hq : Sb B q)
    (h : ∀ H1, Lt B ms H0 (ms.filter fun c => decide (c ∉ dr)) H1 → Wd [] (ms.filter fun c => decide (c ∉ dr)) H1 → Ea [] (ms.filter fun c => decide (c ∉ dr)) ts σ H1 Tr i Tr) (e : F i = some x) : Ex B ms (tCall (spP F) [] E ts) σ H0 q x q := fun H b hp Q k => by
  have hsub : ∀ a ∈ ms.filter (fun c => decide (c ∉ dr)), a ∈ ms := fun a ha => (List.mem_filter.mp ha).1
  have W1 : Wd B (ms.filter fun c => decide (c ∉ dr)) H := ⟨fun a ha => List.mem_filter.mpr ⟨W.hB a ha, by simpa using nd a ha⟩, (W.al.bu b).less hsub⟩
  have W2 : Wd [] (ms.filter fun c => decide (c ∉ dr)) H := ⟨fun a z => by (cases z), W1.al⟩
  have L : Lt B ms H0 (ms.filter fun c => decide (c ∉ dr)) H := ⟨W1, (Mv.bu W.hB b).trans (Mv.less hsub), b.1⟩
  exact r_call (h H L W2 H (Bu.refl [] H) trivial _ fun vs H1 b1 q1 e1 =>
    ⟨_, i, x, W1.al.bu b1, e1, e, fun v H' s rv => k v H' ((Bu.same b1.to_same).trans (Bu.same s)) (hq.same (fun a o z => s a o (b1.to_same a o z)) hp) (RpS.ind rv)⟩)
theorem ex_isB {i j : Bool} (ha : Ex B ms ta σ H0 p i q) (hb : Ex B ms tb σ H0 q j r) : Ex B ms (tOp (fun x y H Q => ∃ a b, x = .bl a ∧ y = .bl b ∧ Q (.bl (decide (a = b))) H) ta tb) σ H0 p (decide (i = j)) r :=
  fun H b hp Q k => ha H b hp _ fun v H1 b1 q1 e1 => hb H1 (b.trans b1) q1 _ fun u H2 b2 q2 e2 => ⟨i, j, e1, e2, k _ H2 (b1.trans b2) q2 rfl⟩
theorem ex_isnB {i j : Bool} (ha : Ex B ms ta σ H0 p i q) (hb : Ex B ms tb σ H0 q j r) : Ex B ms (tOp (fun x y H Q => ∃ a b, x = .bl a ∧ y = .bl b ∧ Q (.bl (!decide (a = b))) H) ta tb) σ H0 p (!decide (i = j)) r :=
  fun H b hp Q k => ha H b hp _ fun v H1 b1 q1 e1 => hb H1 (b.trans b1) q1 _ fun u H2 b2 q2 e2 => ⟨i, j, e1, e2, k _ H2 (b1.trans b2) q2 rfl⟩
/-! None or a datum, compared -/
theorem shap_opt [DecidableEq α] [Enc α] (hd : Enc.dep α ≤ 64) (x : Option α) : SeqAt.shaped (encO x) = true := by
  cases x with
  | none => show SeqAt.shaped PyData.none = true; decide
  | some y => exact shapedE hd y
theorem eqv_opt [DecidableEq α] [Enc α] [EncN α] (x y : Option α) : PyData.eqv (encO x) (encO y) = decide (x = y) := by
  cases x <;> cases y <;> simp only [encO]
  · rfl
  · simp [eqv_non_none (EncN.nn _)]
  · simp [eqv_none_non (EncN.nn _)]
  · rw [Enc.eqv]; simp
theorem ex_eqO [DecidableEq α] [Enc α] [RpD α] [EncN α] {x y : Option α} (W : Wd B ms H0) (hd : Enc.dep α ≤ 64) (h1 : Ex B ms ta σ H0 p x q) (h2 : Ex B ms tb σ H0 q y r) : Ex B ms (tOp (rEqD K) ta tb) σ H0 p (decide (x = y)) r := fun H b hp Q k => h1 H b hp _ fun v H1 b1 q1 l1 => h2 H1 (b.trans b1) q1 _ fun u H2 b2 q2 l2 =>
  ⟨_, _, dp_optE (Rp.mv l1 (Mv.bu W.hB b2)), dp_optE l2, shap_opt hd x, shap_opt hd y, by rw [eqv_opt]; exact k _ H2 (b1.trans b2) q2 rfl⟩
theorem ex_neO [DecidableEq α] [Enc α] [RpD α] [EncN α] {x y : Option α} (W : Wd B ms H0) (hd : Enc.dep α ≤ 64) (h1 : Ex B ms ta σ H0 p x q) (h2 : Ex B ms tb σ H0 q y r) : Ex B ms (tOp (rNeD K) ta tb) σ H0 p (!decide (x = y)) r := fun H b hp Q k => h1 H b hp _ fun v H1 b1 q1 l1 => h2 H1 (b.trans b1) q1 _ fun u H2 b2 q2 l2 =>
  ⟨_, _, dp_optE (Rp.mv l1 (Mv.bu W.hB b2)), dp_optE l2, shap_opt hd x, shap_opt hd y, by rw [eqv_opt]; exact k _ H2 (b1.trans b2) q2 rfl⟩
/-! x += e -/
theorem s_aug {f : Int → Int → Int} {D : Ends} {i : Nat} {a c : Int} {H : Hp} (W : Wd B ms H) (hs : σ[i]? = some (some (.int a))) (h : Ex B ms te σ H p c q) (hp : p ms H) (k : ∀ H', Bu B H H' → q ms H' → Wd B ms H' → Mv ms H ms H' → D.nx (σ.set i (some (.int (f a c)))) H') : tAug i te (ipI f) D σ H :=
  ⟨_, hs, h.use hp fun v H1 b1 q1 e1 => ⟨a, c, rfl, e1, k H1 b1 q1 (W.bu b1) (W.mv b1)⟩⟩
theorem r_nextU {t : TS} {D : Ends} {H : Hp} (h : t D σ H) : t D σ H := h
theorem r_seqU {t u : TS} {D : Ends} {H : Hp} (h : t { D with nx := u D } σ H) : tSeq t u D σ H := h
theorem r_seqF' {wi : TI} {g : TG} {tb u : TS} {D : Ends} {H : Hp} (h : tFor wi g tb { D with nx := u D } σ H) : tSeq (tFor wi g tb) u D σ H := h
theorem r_forL {t : TS} {D : Ends} {H : Hp} (h : t D σ H) : t D σ H := h
theorem r_ret' {D : Ends} {H : Hp} (h : te σ H D.rt) : tRet te D σ H := h
/-! the draws -/
def drawF (bx : List Int × Nat) (m : Int) : Option (Int × (List Int × Nat)) := if 0 < m then some ((if bx.2 < bx.1.length then bx.1.getD bx.2 0 % m else 0), (bx.1, bx.2 + 1)) else none
abbrev law_drawM := drawF
theorem drawF_ok {bx : List Int × Nat} {m : Int} (h : 0 < m) : ∃ r n, drawF bx m = some (r, (bx.1, n)) ∧ 0 ≤ r ∧ r < m := by
  unfold drawF
  rw [if_pos h]
  refine ⟨_, _, rfl, ?_⟩
  split
  · exact ⟨Int.emod_nonneg _ (by omega), Int.emod_lt_of_pos _ h⟩
  · omega
end
end Pf

namespace Pf
open PySem L2
/-! facts of the models' words -/
theorem appF_ok {α : Type} {xs : List α} {x : α} (h : xs.length ≤ 1000000) : appF xs x = some (xs ++ [x]) := by
  unfold appF
  rw [if_pos (by rw [sizeLine_eq]; omega)]
theorem catF_ok {α : Type} {xs ys : List α} (h : xs.length + ys.length ≤ 1000000) : catF xs ys = some (xs ++ ys) := by
  unfold catF
  rw [if_pos (by rw [sizeLine_eq]; omega)]
theorem rng1_ok {j : Int} (h1 : j ≤ 1000000) (h0 : -1000000 ≤ j := by omega) : rng1 j = some (rngL 0 j.toNat) := by
  unfold rng1
  rw [if_pos ⟨by omega, by omega, by rw [sizeLine_eq]; omega⟩]
theorem rng2_ok {i j : Int} (h0 : -1000000 ≤ i) (h1 : i ≤ 1000000) (h2 : -1000000 ≤ j) (h3 : j ≤ 1000000) : rng2 i j = some (rngL i (j - i).toNat) := by
  unfold rng2
  rw [if_pos ⟨by omega, by omega, by omega, by omega, by rw [sizeLine_eq]; omega⟩]
theorem rngL_len (lo : Int) (n : Nat) : (rngL lo n).length = n := by simp [rngL]
theorem rngL_get {lo : Int} {n i : Nat} (h : i < n) : (rngL lo n)[i]? = some (lo + i) := by
  unfold rngL
  rw [List.getElem?_map, List.getElem?_range h]
  rfl
theorem rngL_mem {lo x : Int} {n : Nat} : x ∈ rngL lo n ↔ lo ≤ x ∧ x < lo + n := by
  unfold rngL
  rw [List.mem_map]
  constructor
  · rintro ⟨i, hi, rfl⟩
    have := List.mem_range.mp hi
    omega
  · rintro ⟨h1, h2⟩
    exact ⟨(x - lo).toNat, List.mem_range.mpr (by omega), by omega⟩
theorem rngL_succ (lo : Int) (n : Nat) : rngL lo (n + 1) = rngL lo n ++ [lo + n] := by
  unfold rngL
  rw [List.range_succ, List.map_append]
  rfl
theorem rngL_cons (lo : Int) (n : Nat) : rngL lo (n + 1) = lo :: rngL (lo + 1) n := by
  unfold rngL
  rw [List.range_succ_eq_map]
  rw [List.map_cons, List.map_map]
  congr 1
  · omega
  · refine List.map_congr_left fun i _ => ?_
    simp only [Function.comp]
    omega
theorem at_ok {α : Type} {xs : List α} {i : Nat} {x : α} (h : xs[i]? = some x) : atI xs (i : Int) = some x := atI_nat h
theorem at_mem {α : Type} {xs : List α} {i : Int} (h0 : 0 ≤ i) (h1 : i < (xs.length : Int)) : ∃ v, v ∈ xs ∧ atI xs i = some v := by
  have hi : i.toNat < xs.length := by omega
  refine ⟨xs[i.toNat], List.getElem_mem hi, ?_⟩
  have e := at_ok (List.getElem?_eq_getElem hi)
  rw [show ((i.toNat : Nat) : Int) = i by omega] at e
  exact e
theorem modF_pos {a m : Int} (h : 0 < m) : modF a m = some (a % m) := by unfold modF; rw [if_pos h]
theorem fold_ex {α s : Type} {f : α → s → Option s} {xs : List α} {x0 : s} (I : Nat → s → Prop) (h0 : I 0 x0) (step : ∀ i a x, xs[i]? = some a → I i x → ∃ x', f a x = some x' ∧ I (i + 1) x') : ∃ out, fold f xs x0 = some out ∧ I xs.length out := by
  have go : ∀ (n i : Nat) (x : s), n = xs.length - i → i ≤ xs.length → I i x → ∃ out, fold f (xs.drop i) x = some out ∧ I xs.length out := by
    intro n
    induction n with
    | zero =>
      intro i x hn hi h
      have e : i = xs.length := by omega
      subst e
      rw [List.drop_length]
      exact ⟨x, rfl, h⟩
    | succ n ih =>
      intro i x hn hi h
      have below : i < xs.length := by omega
      have ex := List.getElem?_eq_getElem below
      rw [drop_get ex]
      obtain ⟨x', h1, h2⟩ := step i _ x ex h
      obtain ⟨out, h3, h4⟩ := ih (i + 1) x' (by omega) (by omega) h2
      refine ⟨out, ?_, h4⟩
      show (f _ x).bind _ = _
      rw [h1]
      exact h3
  exact go _ 0 x0 rfl (Nat.zero_le _) h0
theorem loop_ex {α s ρ : Type} {f : α → s → Option (Fl ρ s)} {xs : List α} {x0 : s} (I : Nat → s → Prop) (R : ρ → Prop) (h0 : I 0 x0) (step : ∀ i a x, xs[i]? = some a → I i x → (∃ r, f a x = some (.ret r) ∧ R r) ∨ ∃ x', f a x = some (.go x') ∧ I (i + 1) x') : (∃ r, loop f xs x0 = some (.ret r) ∧ R r) ∨ ∃ out, loop f xs x0 = some (.go out) ∧ I xs.length out := by
  have go : ∀ (n i : Nat) (x : s), n = xs.length - i → i ≤ xs.length → I i x → (∃ r, loop f (xs.drop i) x = some (.ret r) ∧ R r) ∨ ∃ out, loop f (xs.drop i) x = some (.go out) ∧ I xs.length out := by
    intro n
    induction n with
    | zero =>
      intro i x hn hi h
      have e : i = xs.length := by omega
      subst e
      rw [List.drop_length]
      exact .inr ⟨x, rfl, h⟩
    | succ n ih =>
      intro i x hn hi h
      have below : i < xs.length := by omega
      have ex := List.getElem?_eq_getElem below
      rw [drop_get ex]
      rcases step i _ x ex h with ⟨r, h1, h2⟩ | ⟨x', h1, h2⟩
      · refine .inl ⟨r, ?_, h2⟩
        show (f _ x).bind _ = _
        rw [h1]
        rfl
      · have e : loop f (xs[i] :: xs.drop (i + 1)) x = loop f (xs.drop (i + 1)) x' := by
          show (f _ x).bind _ = _
          rw [h1]
          rfl
        rw [e]
        exact ih (i + 1) x' (by omega) (by omega) h2
  exact go _ 0 x0 rfl (Nat.zero_le _) h0
/-- a loop whose turns never go out -/
theorem loop_go {α s ρ : Type} {f : α → s → Option (Fl ρ s)} {xs : List α} {x0 : s} (I : Nat → s → Prop) (h0 : I 0 x0) (step : ∀ i a x, xs[i]? = some a → I i x → ∃ x', f a x = some (.go x') ∧ I (i + 1) x') : ∃ out, loop f xs x0 = some (.go out) ∧ I xs.length out := by
  rcases loop_ex I (fun _ => False) h0 (fun i a x e h => .inr (step i a x e h)) with ⟨r, _, h⟩ | h
  · cases h
  · exact h
theorem colP_map {α β : Type} {f : α → Option (Option β)} {g : α → β} : ∀ {xs : List α}, (∀ x ∈ xs, f x = some (some (g x))) → colP f xs = some (xs.map g)
  | [], _ => rfl
  | x :: xs, h => by
    show (f x).bind _ = _
    rw [h x List.mem_cons_self]
    show (colP f xs).bind _ = _
    rw [colP_map fun y hy => h y (List.mem_cons_of_mem _ hy)]
    rfl
theorem colP_filter {α β : Type} {f : α → Option (Option β)} {g : α → Option β} : ∀ {xs : List α}, (∀ x ∈ xs, f x = some (g x)) → colP f xs = some (xs.filterMap g)
  | [], _ => rfl
  | x :: xs, h => by
    show (f x).bind _ = _
    rw [h x List.mem_cons_self]
    show (colP f xs).bind _ = _
    rw [colP_filter fun y hy => h y (List.mem_cons_of_mem _ hy), List.filterMap_cons]
    cases g x <;> rfl
theorem colL_map {α β : Type} {f : α → Option (Option β)} {g : α → β} {xs : List α} (hl : xs.length ≤ 1000000) (h : ∀ x ∈ xs, f x = some (some (g x))) : colL f xs = some (xs.map g) := by
  unfold colL
  rw [if_pos (by rw [sizeLine_eq]; omega), colP_map h]
theorem colL_filter {α β : Type} {f : α → Option (Option β)} {g : α → Option β} {xs : List α} (hl : xs.length ≤ 1000000) (h : ∀ x ∈ xs, f x = some (g x)) : colL f xs = some (xs.filterMap g) := by
  unfold colL
  rw [if_pos (by rw [sizeLine_eq]; omega), colP_filter h]
theorem colL_id {α : Type} {xs : List α} (hl : xs.length ≤ 1000000) : colL (fun x : α => some (some x)) xs = some xs := by
  have := colL_map (f := fun x : α => some (some x)) (g := id) hl (fun x _ => rfl)
  rw [List.map_id] at this
  exact this
theorem col2_flat {α γ β : Type} {g : α → Option (List γ)} {f : α → γ → Option (Option β)} {G : α → List γ} {F : α → γ → β} : ∀ {xs : List α}, (∀ x ∈ xs, g x = some (G x)) → (∀ x ∈ xs, ∀ c ∈ G x, f x c = some (some (F x c))) → col2 g f xs = some (xs.flatMap fun x => (G x).map (F x))
  | [], _, _ => rfl
  | x :: xs, h1, h2 => by
    show (g x).bind _ = _
    rw [h1 x List.mem_cons_self]
    show (colP (f x) (G x)).bind _ = _
    rw [colP_map fun c hc => h2 x List.mem_cons_self c hc]
    show (col2 g f xs).bind _ = _
    rw [col2_flat (fun y hy => h1 y (List.mem_cons_of_mem _ hy)) fun y hy => h2 y (List.mem_cons_of_mem _ hy), List.flatMap_cons]
    rfl
theorem col2L_flat {α γ β : Type} {g : α → Option (List γ)} {f : α → γ → Option (Option β)} {G : α → List γ} {F : α → γ → β} {xs : List α} (hl : (xs.flatMap fun x => (G x).map (F x)).length ≤ 1000000) (h1 : ∀ x ∈ xs, g x = some (G x)) (h2 : ∀ x ∈ xs, ∀ c ∈ G x, f x c = some (some (F x c))) : col2L g f xs = some (xs.flatMap fun x => (G x).map (F x)) := by
  unfold col2L
  rw [col2_flat h1 h2]
  show (if _ then _ else _) = _
  rw [if_pos (by rw [sizeLine_eq]; omega)]
theorem setF_ok {α : Type} {xs : List α} {i : Nat} {x : α} (h : i < xs.length) : setF xs (i : Int) x = some (xs.set i x) := by
  unfold setF ixN
  rw [if_pos (by omega)]
  rw [if_pos (by omega)]
  rfl
theorem at_last {α : Type} (xs : List α) (x : α) : atI (xs ++ [x]) (-1) = some x := by
  unfold atI
  rw [List.length_append, List.length_singleton, ixN_last]
  show (xs ++ [x])[xs.length]? = some x
  rw [List.getElem?_append_right (Nat.le_refl _), Nat.sub_self]
  rfl
theorem setF_last {α : Type} (xs : List α) (x y : α) : setF (xs ++ [x]) (-1) y = some (xs ++ [y]) := by
  unfold setF
  rw [List.length_append, List.length_singleton, ixN_last]
  show some ((xs ++ [x]).set xs.length y) = _
  rw [List.set_append_right _ _ (Nat.le_refl _), Nat.sub_self]
  rfl
theorem fold_foldl {α s : Type} {f : α → s → Option s} {g : s → α → s} (N : s → Nat) (m : Nat) (h : ∀ a x, N x < m → f a x = some (g x a) ∧ N (g x a) ≤ N x + 1) : ∀ (ys : List α) (x : s), N x + ys.length ≤ m → fold f ys x = some (ys.foldl g x)
  | [], x, _ => rfl
  | y :: ys, x, l => by
    rw [List.length_cons] at l
    obtain ⟨h1, h2⟩ := h y x (by omega)
    show (f y x).bind _ = _
    rw [h1, Option.bind_some, fold_foldl N m h ys _ (by omega)]
    rfl
theorem rngL_nodup (lo : Int) (n : Nat) : (rngL lo n).Nodup := by
  unfold rngL
  rw [List.Nodup, List.pairwise_map]
  exact List.nodup_range.imp fun h e => h (by omega)
theorem pop_perm {α : Type} {xs : List α} {i : Int} (h0 : 0 ≤ i) (h1 : i < (xs.length : Int)) (hl : xs.length ≤ 1000) : ∃ x ys, popF xs i = some (x, ys) ∧ xs.Perm (x :: ys) := by
  have hi : i.toNat < xs.length := by omega
  refine ⟨xs[i.toNat], xs.eraseIdx i.toNat, ?_, ?_⟩
  · unfold popF
    rw [if_pos (by omega)]
    unfold ixN
    rw [if_pos h0, if_pos h1, Option.bind_some, List.getElem?_eq_getElem hi]
    rfl
  · have e := drop_get (List.getElem?_eq_getElem hi)
    have e2 : xs = xs.take i.toNat ++ xs[i.toNat] :: xs.drop (i.toNat + 1) := by rw [← e, List.take_append_drop]
    rw [List.eraseIdx_eq_take_drop_succ]
    refine (List.Perm.of_eq e2).trans ?_
    exact List.perm_middle
theorem rem_perm {xs : List Int} {x : Int} (h : x ∈ xs) : ∃ ys, remF xs x = some ys ∧ xs.Perm (x :: ys) := ⟨_, if_pos h, List.perm_cons_erase h⟩
theorem filterMap_all {α β : Type} {f : α → Option β} {g : α → β} : ∀ {xs : List α}, (∀ x ∈ xs, f x = some (g x)) → xs.filterMap f = xs.map g
  | [], _ => rfl
  | x :: xs, h => by
    rw [List.filterMap_cons, h x List.mem_cons_self, List.map_cons, filterMap_all fun y hy => h y (List.mem_cons_of_mem _ hy)]
theorem cut_to {α : Type} (xs : List α) {i : Nat} (h : i ≤ xs.length) : cutF xs none (some (i : Int)) = xs.take i := by
  unfold cutF
  rw [HT.sIx_none, HT.sIx_nat, Nat.min_eq_left h, List.drop_zero, Nat.sub_zero]
theorem cut_from {α : Type} (xs : List α) {i : Nat} (h : i ≤ xs.length) : cutF xs (some (i : Int)) none = xs.drop i := by
  unfold cutF
  rw [HT.sIx_none, HT.sIx_nat, Nat.min_eq_left h]
  exact List.take_of_length_le (by rw [List.length_drop]; omega)
theorem colL_keep {α : Type} {f : α → Option (Option α)} {p : α → Bool} {xs : List α} (hl : xs.length ≤ 1000000) (h : ∀ x ∈ xs, f x = some (if p x = true then some x else none)) : colL f xs = some (xs.filter p) := by
  rw [colL_filter hl h]
  congr 1
  clear h hl
  induction xs with
  | nil => rfl
  | cons x xs ih =>
    rw [List.filterMap_cons, List.filter_cons]
    by_cases c : p x = true
    · rw [if_pos c, if_pos c, ih]
    · rw [if_neg c, if_neg c, ih]
theorem whl_ex {s ρ : Type} {c : s → Option Bool} {f : s → Option (Fl ρ s)} (N : s → Nat) (I : s → Prop) (R : ρ → Prop) (h : ∀ x, I x → ∃ b, c x = some b ∧ (b = true → (∃ r, f x = some (.ret r) ∧ R r) ∨ ∃ x', f x = some (.go x') ∧ I x' ∧ N x' < N x)) : ∀ (m : Nat) (x : s), I x → N x < m → (∃ r, whl c f m x = some (.ret r) ∧ R r) ∨ ∃ out, whl c f m x = some (.go out) ∧ I out ∧ c out = some false
  | 0, x, _, hm => absurd hm (Nat.not_lt_zero _)
  | m + 1, x, hI, hm => by
    obtain ⟨b, hb, hk⟩ := h x hI
    show (∃ r, (c x).bind _ = _ ∧ _) ∨ ∃ out, (c x).bind _ = _ ∧ _
    rw [hb, Option.bind_some]
    cases b with
    | false =>
      rw [if_neg (by decide)]
      exact .inr ⟨x, rfl, hI, hb⟩
    | true =>
      rw [if_pos rfl]
      rcases hk rfl with ⟨r, h1, h2⟩ | ⟨x', h1, h2, h3⟩
      · rw [h1]
        exact .inl ⟨r, rfl, h2⟩
      · rw [h1]
        exact whl_ex N I R h m x' h2 (by omega)
/-! a model's answer, step by step -/
theorem bind_of {α β : Type} {x : Option α} {k : α → Option β} {a : α} {r : Option β} (e : x = some a) (h : k a = r) : x.bind k = r := by rw [e]; exact h
theorem bnd_of {α β : Type} {x : α} {k : α → Option β} {r : Option β} (h : k x = r) : bnd x k = r := h
theorem if_of {α : Type} {c : Prop} {_ : Decidable c} {a b r : α} (hc : c) (h : a = r) : (if c then a else b) = r := by rw [if_pos hc]; exact h
theorem else_of {α : Type} {c : Prop} {_ : Decidable c} {a b r : α} (hc : ¬ c) (h : b = r) : (if c then a else b) = r := by rw [if_neg hc]; exact h
theorem bind_ex {α β : Type} {x : Option α} {k : α → Option β} {P : α → Prop} {r : Option β} (e : ∃ a, x = some a ∧ P a) (h : ∀ a, P a → k a = r) : x.bind k = r := by
  obtain ⟨a, e, p⟩ := e
  rw [e]
  exact h a p
theorem bind_exL {ρ s β : Type} {x : Option (Fl ρ s)} {k : Fl ρ s → Option β} {P : s → Prop} {r : Option β} (e : ∃ a, x = some (.go a) ∧ P a) (h : ∀ a, P a → k (.go a) = r) : x.bind k = r := by
  obtain ⟨a, e, p⟩ := e
  rw [e]
  exact h a p
theorem exb {α β γ : Type} {x : Option α} {k : α → Option β} {a : α} {G : γ → Option β} {P : γ → Prop} (e : x = some a) (h : ∃ y, k a = G y ∧ P y) : ∃ y, x.bind k = G y ∧ P y := by rw [e]; exact h
theorem exb_bnd {α β γ : Type} {x : α} {k : α → Option β} {G : γ → Option β} {P : γ → Prop} (h : ∃ y, k x = G y ∧ P y) : ∃ y, bnd x k = G y ∧ P y := h
theorem exb_if {β γ : Type} {c : Prop} {_ : Decidable c} {u v : Option β} {G : γ → Option β} {P : γ → Prop} (hc : c) (h : ∃ y, u = G y ∧ P y) : ∃ y, (if c then u else v) = G y ∧ P y := by rw [if_pos hc]; exact h
theorem exb_else {β γ : Type} {c : Prop} {_ : Decidable c} {u v : Option β} {G : γ → Option β} {P : γ → Prop} (hc : ¬ c) (h : ∃ y, v = G y ∧ P y) : ∃ y, (if c then u else v) = G y ∧ P y := by rw [if_neg hc]; exact h
theorem exb_ex {α β γ : Type} {x : Option α} {k : α → Option β} {Q : α → Prop} {G : γ → Option β} {P : γ → Prop} (e : ∃ a, x = some a ∧ Q a) (h : ∀ a, Q a → ∃ y, k a = G y ∧ P y) : ∃ y, x.bind k = G y ∧ P y := by
  obtain ⟨a, e, q⟩ := e
  rw [e]
  exact h a q
theorem exb_exL {ρ s β γ : Type} {x : Option (Fl ρ s)} {k : Fl ρ s → Option β} {Q : s → Prop} {G : γ → Option β} {P : γ → Prop} (e : ∃ a, x = some (.go a) ∧ Q a) (h : ∀ a, Q a → ∃ y, k (.go a) = G y ∧ P y) : ∃ y, x.bind k = G y ∧ P y := by
  obtain ⟨a, e, q⟩ := e
  rw [e]
  exact h a q
theorem loop_ret {α s ρ : Type} {f : α → s → Option (Fl ρ s)} {a : α} {as : List α} {x : s} {r : ρ} (h : f a x = some (.ret r)) : loop f (a :: as) x = some (.ret r) := by unfold loop; rw [h]; rfl
theorem loop_next {α s ρ : Type} {f : α → s → Option (Fl ρ s)} {a : α} {as : List α} {x y : s} {R : Option (Fl ρ s)} (h : f a x = some (.go y)) (k : loop f as y = R) : loop f (a :: as) x = R := by unfold loop; rw [h]; exact k
/-! layouts -/
def lenS (bs : List (Int × Int)) : Int := (bs.map (·.2)).sum
theorem VL.live {size : Int} : ∀ {bs : List (Int × Int)} {e : Int}, VL size e bs → e + lenS bs ≤ size ∧ 0 ≤ lenS bs
  | [], e, h => by have h' : e ≤ size := h; simp [lenS]; omega
  | (s, l) :: r, e, h => by
    have ih := VL.live h.2.2
    have h1 := h.1
    have h2 := h.2.1
    unfold lenS at *
    simp only [List.sum_cons, List.map_cons]
    omega
theorem VL.le {size : Int} {bs : List (Int × Int)} {e e' : Int} (h : VL size e bs) (l : e' ≤ e) : VL size e' bs := by
  cases bs with
  | nil => have h' : e ≤ size := h; show e' ≤ size; omega
  | cons b r =>
    obtain ⟨s, l2⟩ := b
    exact ⟨by have := h.1; omega, h.2⟩
end Pf

namespace Pf
open PySem L2
theorem List.reverseRecOn' {α : Type} {P : List α → Prop} (xs : List α) (nil : P []) (snoc : ∀ ys y, P ys → P (ys ++ [y])) : P xs := by
  have go : ∀ n (xs : List α), xs.length = n → P xs := by
    intro n
    induction n with
    | zero => intro xs h; rw [List.length_eq_zero_iff.mp h]; exact nil
    | succ n ih =>
      intro xs h
      cases e : xs.getLast? with
      | none => rw [List.getLast?_eq_none_iff.mp e] at h; cases h
      | some y =>
        obtain ⟨ys, rfl⟩ := List.getLast?_eq_some_iff.mp e
        refine snoc ys y (ih ys ?_)
        rw [List.length_append] at h
        simpa using h
  exact go _ xs rfl
/-! ### blocks, told by their indices -/
def Sep (x y : Int × Int) : Prop := x.1 + x.2 ≤ y.1 ∨ y.1 + y.2 ≤ x.1
def Dis (bs : List (Int × Int)) : Prop := ∀ (i j : Nat) (x y : Int × Int), i ≠ j → bs[i]? = some x → bs[j]? = some y → Sep x y
def Ins (size : Int) (bs : List (Int × Int)) : Prop := ∀ (i : Nat) (x : Int × Int), bs[i]? = some x → 0 ≤ x.1 ∧ 1 ≤ x.2 ∧ x.1 + x.2 ≤ size
theorem Sep.symm {x y : Int × Int} (h : Sep x y) : Sep y x := h.elim .inr .inl
theorem VL.dis {size e : Int} {bs : List (Int × Int)} (h : VL size e bs) : Dis bs := by
  intro i j x y ne hx hy
  have pw := List.pairwise_iff_getElem.mp h.pw
  obtain ⟨hi, ei⟩ := List.getElem?_eq_some_iff.mp hx
  obtain ⟨hj, ej⟩ := List.getElem?_eq_some_iff.mp hy
  rcases Nat.lt_or_gt_of_ne ne with c | c
  · have := pw i j hi hj c
    rw [ei, ej] at this
    exact .inl this
  · have := pw j i hj hi c
    rw [ei, ej] at this
    exact .inr this
theorem VL.ins {size : Int} {bs : List (Int × Int)} (h : VL size 0 bs) : Ins size bs := fun i x hx => h.mem x (List.mem_of_getElem? hx)
/-- the blocks at their new starts -/
def plF (bs : List (Int × Int)) (st : List Int) : List (Int × Int) := (bs.zip st).map fun p => (p.2, p.1.2)
theorem plF_get {bs : List (Int × Int)} {st : List Int} {i : Nat} {x : Int × Int} {s : Int} (h1 : bs[i]? = some x) (h2 : st[i]? = some s) : (plF bs st)[i]? = some (s, x.2) := by
  unfold plF
  rw [List.getElem?_map, (List.getElem?_zip_eq_some (z := (x, s))).mpr ⟨h1, h2⟩]
  rfl
theorem plF_inv {bs : List (Int × Int)} {st : List Int} {i : Nat} {y : Int × Int} (h : (plF bs st)[i]? = some y) : ∃ x s, bs[i]? = some x ∧ st[i]? = some s ∧ y = (s, x.2) := by
  unfold plF at h
  rw [List.getElem?_map] at h
  obtain ⟨⟨x, s⟩, hz, e⟩ := Option.map_eq_some_iff.mp h
  obtain ⟨h1, h2⟩ := List.getElem?_zip_eq_some.mp hz
  exact ⟨x, s, h1, h2, e.symm⟩
theorem plF_len {bs : List (Int × Int)} {st : List Int} (h : st.length = bs.length) : (plF bs st).length = bs.length := by
  unfold plF
  rw [List.length_map, List.length_zip, h, Nat.min_self]
theorem plF_same (bs : List (Int × Int)) : plF bs (bs.map (·.1)) = bs := by
  refine List.ext_getElem? fun i => ?_
  cases h : bs[i]? with
  | none =>
    have := List.getElem?_eq_none_iff.mp h
    exact List.getElem?_eq_none_iff.mpr (by rw [plF_len (by rw [List.length_map])]; exact this)
  | some x => exact plF_get h (by rw [List.getElem?_map, h]; rfl)
theorem get_of_lt {α : Type} {xs : List α} {i : Nat} (h : i < xs.length) : ∃ x, xs[i]? = some x := ⟨_, List.getElem?_eq_getElem h⟩
theorem lt_of_get {α : Type} {xs : List α} {i : Nat} {x : α} (h : xs[i]? = some x) : i < xs.length := (List.getElem?_eq_some_iff.mp h).1
theorem set_get_ne {α : Type} {xs : List α} {i j : Nat} {x : α} (h : i ≠ j) : (xs.set i x)[j]? = xs[j]? := List.getElem?_set_ne h
theorem set_get {α : Type} {xs : List α} {i : Nat} {x : α} (h : i < xs.length) : (xs.set i x)[i]? = some x := List.getElem?_set_self h
theorem nodup_le {α : Type} [DecidableEq α] : ∀ {xs ys : List α}, xs.Nodup → (∀ x ∈ xs, x ∈ ys) → xs.length ≤ ys.length
  | [], _, _, _ => Nat.zero_le _
  | x :: xs, ys, h, s => by
    have h' := List.nodup_cons.mp h
    have hx := s x List.mem_cons_self
    have := nodup_le (ys := ys.erase x) h'.2 fun y hy => (List.mem_erase_of_ne (fun e => h'.1 (by rw [← e]; exact hy))).mpr (s y (List.mem_cons_of_mem _ hy))
    rw [List.length_erase_of_mem hx] at this
    have := List.length_pos_of_mem hx
    rw [List.length_cons]
    omega
theorem perm_sum {xs ys : List Int} (h : xs.Perm ys) : xs.sum = ys.sum := by
  induction h with
  | nil => rfl
  | cons x _ ih => rw [List.sum_cons, List.sum_cons, ih]
  | swap x y l => simp only [List.sum_cons]; omega
  | trans _ _ a b => exact a.trans b
theorem nodup_get {α : Type} {xs : List α} (h : xs.Nodup) {i j : Nat} {x : α} (hi : xs[i]? = some x) (hj : xs[j]? = some x) : i = j := by
  have pw := List.pairwise_iff_getElem.mp h
  obtain ⟨li, ei⟩ := List.getElem?_eq_some_iff.mp hi
  obtain ⟨lj, ej⟩ := List.getElem?_eq_some_iff.mp hj
  obtain c | c | c := Nat.lt_trichotomy i j
  · exact absurd (ei.trans ej.symm) (pw i j li lj c)
  · exact c
  · exact absurd (ej.trans ei.symm) (pw j i lj li c)
/-! ### single moves -/
def meetB (x y : Int × Int) : Bool := decide (max x.1 y.1 < min (x.1 + x.2) (y.1 + y.2))
theorem meetB_sep {x y : Int × Int} (hx : 1 ≤ x.2) (hy : 1 ≤ y.2) : meetB x y = false ↔ Sep x y := by
  unfold meetB Sep
  rw [decide_eq_false_iff_not]
  omega
def othF (bs : List (Int × Int)) (i : Nat) : List (Int × Int) := bs.take i ++ bs.drop (i + 1)
def canB (bs : List (Int × Int)) (i : Nat) (g : Int × Int) : Bool := !((othF bs i).map (meetB g)).any id
def CanP (bs : List (Int × Int)) (i : Nat) (g : Int × Int) : Prop := ∀ (j : Nat) (y : Int × Int), j ≠ i → bs[j]? = some y → Sep g y
theorem oth_mem {bs : List (Int × Int)} {i : Nat} {y : Int × Int} (hi : i ≤ bs.length) : y ∈ othF bs i ↔ ∃ j : Nat, j ≠ i ∧ bs[j]? = some y := by
  unfold othF
  rw [List.mem_append]
  constructor
  · rintro (h | h)
    · obtain ⟨j, hj⟩ := List.mem_iff_getElem?.mp h
      have := lt_of_get hj
      rw [List.length_take] at this
      rw [List.getElem?_take_of_lt (by omega)] at hj
      exact ⟨j, by omega, hj⟩
    · obtain ⟨j, hj⟩ := List.mem_iff_getElem?.mp h
      rw [List.getElem?_drop] at hj
      exact ⟨_, by omega, hj⟩
  · rintro ⟨j, ne, hj⟩
    rcases Nat.lt_or_gt_of_ne ne with c | c
    · exact .inl (List.mem_iff_getElem?.mpr ⟨j, by rw [List.getElem?_take_of_lt c]; exact hj⟩)
    · exact .inr (List.mem_iff_getElem?.mpr ⟨j - (i + 1), by rw [List.getElem?_drop, show i + 1 + (j - (i + 1)) = j by omega]; exact hj⟩)
theorem canB_iff {bs : List (Int × Int)} {i : Nat} {g : Int × Int} {size : Int} (hi : i ≤ bs.length) (hg : 1 ≤ g.2) (hb : Ins size bs) : canB bs i g = true ↔ CanP bs i g := by
  unfold canB
  rw [Bool.not_eq_true', List.any_map, List.any_eq_false]
  constructor
  · intro h j y ne hj
    have := h y ((oth_mem hi).mpr ⟨j, ne, hj⟩)
    have h2 : meetB g y = false := by simpa using this
    exact (meetB_sep hg (hb j y hj).2.1).mp h2
  · intro h y hy
    obtain ⟨j, ne, hj⟩ := (oth_mem hi).mp hy
    have := (meetB_sep hg (hb j y hj).2.1).mpr (h j y ne hj)
    simpa using this
/-- where the blocks lie behind some moves -/
def gAt (gs : List (Int × Int)) (k : Int) : Int × Int := gs.getD k.toNat (0, 0)
def stF (gs : List (Int × Int)) (bs : List (Int × Int)) (os : List Int) : List (Int × Int) := os.foldl (fun now k => now.set k.toNat (gAt gs k)) bs
theorem gAt_of {gs : List (Int × Int)} {i : Nat} {g : Int × Int} (h : gs[i]? = some g) : gAt gs (i : Int) = g := by
  unfold gAt
  rw [Int.toNat_natCast, List.getD_eq_getElem?_getD, h]
  rfl
theorem stF_snoc (gs bs : List (Int × Int)) (os : List Int) (k : Int) : stF gs bs (os ++ [k]) = (stF gs bs os).set k.toNat (gAt gs k) := by
  unfold stF
  rw [List.foldl_append]
  rfl
theorem stF_len (gs bs : List (Int × Int)) : ∀ os : List Int, (stF gs bs os).length = bs.length := by
  intro os
  induction os using List.reverseRecOn' with
  | nil => rfl
  | snoc os k ih => rw [stF_snoc, List.length_set, ih]
theorem stF_get {gs bs : List (Int × Int)} (hl : gs.length = bs.length) : ∀ (os : List Int), (∀ k ∈ os, 0 ≤ k ∧ k < (bs.length : Int)) → ∀ i : Nat, (stF gs bs os)[i]? = if (i : Int) ∈ os then gs[i]? else bs[i]? := by
  intro os
  induction os using List.reverseRecOn' with
  | nil => intro _ i; simp [stF]
  | snoc os k ih =>
    intro h i
    have ih := ih (fun k hk => h k (List.mem_append_left _ hk)) i
    have hk := h k (by simp)
    rw [stF_snoc]
    by_cases c : k.toNat = i
    · have e : k = (i : Int) := by omega
      subst e
      obtain ⟨g, hg⟩ := get_of_lt (xs := gs) (i := i) (by omega)
      rw [Int.toNat_natCast, set_get (by rw [stF_len]; omega), if_pos (by simp), gAt_of hg, hg]
    · rw [set_get_ne c, ih]
      have : ((i : Int) ∈ os ++ [k]) ↔ ((i : Int) ∈ os) := by
        rw [List.mem_append, List.mem_singleton]
        exact ⟨fun z => z.elim id fun z => absurd (by omega) c, .inl⟩
      by_cases c2 : (i : Int) ∈ os
      · rw [if_pos c2, if_pos (this.mpr c2)]
      · rw [if_neg c2, if_neg (fun z => c2 (this.mp z))]
/-- each of the moves is possible when it is made -/
def SafeO (gs bs : List (Int × Int)) (os : List Int) : Prop := ∀ (i : Nat) (k : Int), os[i]? = some k → CanP (stF gs bs (os.take i)) k.toNat (gAt gs k)
/-- and no move of a lesser index is possible then -/
def LeastO (gs bs : List (Int × Int)) (W os : List Int) : Prop := ∀ (i : Nat) (k : Int), os[i]? = some k → ∀ k' ∈ W, k' < k → k' ∉ os.take i → ¬ CanP (stF gs bs (os.take i)) k'.toNat (gAt gs k')
/-- the moved blocks -/
def mvF (bs : List (Int × Int)) (st : List Int) : List Int := (rngL 0 bs.length).filter fun k => !decide (st.getD k.toNat 0 = (bs.getD k.toNat (0, 0)).1)
theorem mv_lt {bs : List (Int × Int)} {st : List Int} {k : Int} (h : k ∈ mvF bs st) : ∃ i : Nat, k = i ∧ i < bs.length := by
  have := rngL_mem.mp (List.mem_filter.mp h).1
  exact ⟨k.toNat, by omega, by omega⟩
theorem mv_nodup (bs : List (Int × Int)) (st : List Int) : (mvF bs st).Nodup := (rngL_nodup 0 bs.length).filter _
theorem rngL_asc (lo : Int) (n : Nat) : (rngL lo n).Pairwise (· < ·) := by
  unfold rngL
  rw [List.pairwise_map]
  exact List.pairwise_lt_range.imp fun h => by omega
theorem mv_asc (bs : List (Int × Int)) (st : List Int) : (mvF bs st).Pairwise (· < ·) := (rngL_asc 0 bs.length).filter _
theorem mv_not {bs : List (Int × Int)} {st : List Int} (hl : st.length = bs.length) {i : Nat} (h : (i : Int) ∉ mvF bs st) : (plF bs st)[i]? = bs[i]? := by
  by_cases c : i < bs.length
  · obtain ⟨b, hb⟩ := get_of_lt c
    obtain ⟨s, hs⟩ := get_of_lt (xs := st) (i := i) (by omega)
    have : ¬ ((!decide (st.getD (i : Int).toNat 0 = (bs.getD (i : Int).toNat (0, 0)).1)) = true) := fun z => h (List.mem_filter.mpr ⟨rngL_mem.mpr (by omega), z⟩)
    rw [Int.toNat_natCast, List.getD_eq_getElem?_getD, List.getD_eq_getElem?_getD, hb, hs] at this
    have e : s = b.1 := by simpa using this
    rw [plF_get hb hs, hb, e]
  · rw [List.getElem?_eq_none_iff.mpr (by rw [plF_len hl]; omega), List.getElem?_eq_none_iff.mpr (by omega)]
end Pf

namespace Pf
open PySem L2
/-! ### maps: pieces and the pairs that they stand for -/
abbrev Pc := T3 Int Int Int
def rowF (p : Pc) : List (Int × Int) := (rngL 0 p.c.toNat).map fun k => (p.a + k, p.b + k)
def expF (ps : List Pc) : List (Int × Int) := ps.flatMap rowF
def imgF (ps : List (Int × Int)) (x : Int) : Option Int := (ps.find? fun p => decide (p.1 = x)).map (·.2)
/-- one pair more behind the pieces -/
def joinF (ps : List Pc) (y : Int × Int) : List Pc := match ps.getLast? with
  | some q => if q.a + q.c = y.1 ∧ q.b + q.c = y.2 then ps.dropLast ++ [⟨q.a, q.b, q.c + 1⟩] else ps ++ [⟨y.1, y.2, 1⟩]
  | none => ps ++ [⟨y.1, y.2, 1⟩]
def canF (ps : List (Int × Int)) : List Pc := (sortP ps).foldl joinF []
def PosP (ps : List Pc) : Prop := ∀ p ∈ ps, 1 ≤ p.c
theorem snoc_cases {α : Type} (xs : List α) : xs = [] ∨ ∃ ys y, xs = ys ++ [y] := by
  cases h : xs.getLast? with
  | none => exact .inl (List.getLast?_eq_none_iff.mp h)
  | some y => obtain ⟨ys, e⟩ := List.getLast?_eq_some_iff.mp h; exact .inr ⟨ys, y, e⟩
theorem joinF_snoc (ps : List Pc) (q : Pc) (y : Int × Int) : joinF (ps ++ [q]) y = if q.a + q.c = y.1 ∧ q.b + q.c = y.2 then ps ++ [⟨q.a, q.b, q.c + 1⟩] else ps ++ [q] ++ [⟨y.1, y.2, 1⟩] := by
  unfold joinF
  rw [List.getLast?_concat, List.dropLast_concat]
theorem expF_app (ps qs : List Pc) : expF (ps ++ qs) = expF ps ++ expF qs := List.flatMap_append
theorem expF_one (q : Pc) : expF [q] = rowF q := by unfold expF; rw [List.flatMap_cons, List.flatMap_nil, List.append_nil]
theorem rowF_one (x y : Int) : rowF ⟨x, y, 1⟩ = [(x, y)] := by
  show (rngL 0 1).map _ = _
  simp [rngL]
theorem rowF_succ {q : Pc} (h : 0 ≤ q.c) : rowF ⟨q.a, q.b, q.c + 1⟩ = rowF q ++ [(q.a + q.c, q.b + q.c)] := by
  unfold rowF
  dsimp only
  rw [show (q.c + 1).toNat = q.c.toNat + 1 by omega, rngL_succ, List.map_append]
  congr 1
  simp only [List.map_cons, List.map_nil]
  rw [show (0 : Int) + (q.c.toNat : Int) = q.c by omega]
theorem joinF_exp {ps : List Pc} {y : Int × Int} (h : PosP ps) : expF (joinF ps y) = expF ps ++ [y] ∧ PosP (joinF ps y) := by
  rcases snoc_cases ps with rfl | ⟨qs, q, rfl⟩
  · refine ⟨?_, ?_⟩
    · show expF [⟨y.1, y.2, 1⟩] = _
      rw [expF_one, rowF_one]; rfl
    · intro p hp
      have hp' : p ∈ [(⟨y.1, y.2, 1⟩ : Pc)] := hp
      rw [List.mem_singleton.mp hp']
      exact Int.le_refl 1
  · have hq := h q (by simp)
    rw [joinF_snoc]
    split
    · rename_i c
      refine ⟨?_, ?_⟩
      · rw [expF_app, expF_app, expF_one, expF_one, rowF_succ (by omega), c.1, c.2, List.append_assoc]
      · intro p hp
        obtain hp | hp := List.mem_append.mp hp
        · exact h p (by simp [hp])
        · rw [List.mem_singleton.mp hp]; dsimp only; omega
    · refine ⟨?_, ?_⟩
      · rw [expF_app, expF_one, rowF_one]
      · intro p hp
        obtain hp | hp := List.mem_append.mp hp
        · exact h p hp
        · rw [List.mem_singleton.mp hp]; exact Int.le_refl 1
theorem foldJ_exp : ∀ (ys : List (Int × Int)) {ps : List Pc}, PosP ps → expF (ys.foldl joinF ps) = expF ps ++ ys ∧ PosP (ys.foldl joinF ps)
  | [], ps, h => by simp; exact h
  | y :: ys, ps, h => by
    have j := joinF_exp (y := y) h
    have r := foldJ_exp ys j.2
    rw [List.foldl_cons]
    refine ⟨?_, r.2⟩
    rw [r.1, j.1, List.append_assoc]; rfl
theorem canF_exp (ps : List (Int × Int)) : expF (canF ps) = sortP ps := by
  have := (foldJ_exp (sortP ps) (ps := []) (fun p h => by cases h)).1
  rw [show expF [] = [] from rfl, List.nil_append] at this
  exact this
theorem canF_pos (ps : List (Int × Int)) : PosP (canF ps) := (foldJ_exp (sortP ps) (ps := []) (fun p h => by cases h)).2
theorem sortP_of_perm {xs ys : List (Int × Int)} (h : xs.Perm ys) : sortP xs = sortP ys := sortP_eq ((sortP_perm xs).trans h) (sortP_srt xs)
theorem canF_perm {xs ys : List (Int × Int)} (h : xs.Perm ys) : canF xs = canF ys := by unfold canF; rw [sortP_of_perm h]
theorem joinF_len (ps : List Pc) (y : Int × Int) : (joinF ps y).length ≤ ps.length + 1 := by
  rcases snoc_cases ps with rfl | ⟨qs, q, rfl⟩
  · exact Nat.le_refl 1
  · rw [joinF_snoc]
    split <;> simp
theorem foldJ_len : ∀ (ys : List (Int × Int)) (ps : List Pc), (ys.foldl joinF ps).length ≤ ps.length + ys.length
  | [], ps => by simp
  | y :: ys, ps => by
    have := foldJ_len ys (joinF ps y)
    have := joinF_len ps y
    rw [List.length_cons, List.foldl_cons]
    omega
theorem sortP_len (ps : List (Int × Int)) : (sortP ps).length = ps.length := (sortP_perm ps).length_eq
theorem canF_len (ps : List (Int × Int)) : (canF ps).length ≤ ps.length := by
  have := foldJ_len (sortP ps) []
  rw [sortP_len, List.length_nil, Nat.zero_add] at this
  exact this
/-! images -/
theorem imgF_nil (x : Int) : imgF [] x = none := rfl
theorem imgF_cons (p : Int × Int) (ps : List (Int × Int)) (x : Int) : imgF (p :: ps) x = if p.1 = x then some p.2 else imgF ps x := by
  unfold imgF
  rw [List.find?_cons]
  by_cases c : p.1 = x <;> simp [c]
theorem imgF_app (ps qs : List (Int × Int)) (x : Int) : imgF (ps ++ qs) x = (imgF ps x).or (imgF qs x) := by
  induction ps with
  | nil => simp [imgF_nil]
  | cons p ps ih =>
    rw [List.cons_append, imgF_cons, imgF_cons, ih]
    split <;> simp
theorem imgF_row (a b : Int) (x : Int) : ∀ n lo : Nat, imgF ((rngL (lo : Int) n).map fun k => (a + k, b + k)) x = if a + lo ≤ x ∧ x < a + lo + n then some (b + x - a) else none
  | 0, lo => by rw [if_neg (by omega)]; rfl
  | n + 1, lo => by
    rw [rngL_cons, List.map_cons, imgF_cons]
    have ih := imgF_row a b x n (lo + 1)
    rw [show ((lo + 1 : Nat) : Int) = (lo : Int) + 1 by omega] at ih
    rw [ih]
    by_cases c : a + (lo : Int) = x
    · rw [if_pos c, if_pos (by omega)]; congr 1; omega
    · rw [if_neg c]
      by_cases c2 : a + (lo : Int) ≤ x ∧ x < a + lo + (n + 1 : Nat)
      · rw [if_pos c2, if_pos (by omega)]
      · rw [if_neg c2, if_neg (by omega)]
def mapF : List Pc → Int → Option Int
  | [], _ => none
  | p :: ps, x => if p.a ≤ x ∧ x < p.a + p.c then some (p.b + x - p.a) else mapF ps x
theorem mapF_exp : ∀ (ps : List Pc) (x : Int), mapF ps x = imgF (expF ps) x
  | [], x => rfl
  | p :: ps, x => by
    have := imgF_row p.a p.b x p.c.toNat 0
    rw [show p :: ps = [p] ++ ps from rfl, expF_app, expF_one, imgF_app, ← mapF_exp ps x]
    unfold rowF
    rw [show ((0 : Nat) : Int) = 0 from rfl] at this
    rw [this]
    show (if _ then _ else _) = _
    by_cases c : p.a ≤ x ∧ x < p.a + p.c
    · rw [if_pos c, if_pos (by omega)]; rfl
    · rw [if_neg c, if_neg (by omega)]; rfl
/-- no source twice -/
def Uniq (ps : List (Int × Int)) : Prop := (ps.map (·.1)).Nodup
theorem imgF_mem : ∀ {ps : List (Int × Int)} {x y : Int}, imgF ps x = some y → (x, y) ∈ ps
  | [], x, y, h => by cases h
  | p :: ps, x, y, h => by
    rw [imgF_cons] at h
    split at h
    · rename_i c
      obtain ⟨p1, p2⟩ := p
      dsimp only at c h
      cases h
      rw [← c]
      exact List.mem_cons_self
    · exact List.mem_cons_of_mem _ (imgF_mem h)
theorem imgF_of_mem : ∀ {ps : List (Int × Int)} {x y : Int}, Uniq ps → (x, y) ∈ ps → imgF ps x = some y
  | p :: ps, x, y, u, h => by
    unfold Uniq at u
    rw [List.map_cons, List.nodup_cons] at u
    rw [imgF_cons]
    obtain h | h := List.mem_cons.mp h
    · rw [← h, if_pos rfl]
    · have : p.1 ≠ x := fun z => u.1 (z ▸ List.mem_map.mpr ⟨(x, y), h, rfl⟩)
      rw [if_neg this]
      exact imgF_of_mem u.2 h
theorem Uniq.perm {ps qs : List (Int × Int)} (h : ps.Perm qs) (u : Uniq ps) : Uniq qs := ((h.map _).nodup_iff).mp u
theorem imgF_perm {ps qs : List (Int × Int)} (h : ps.Perm qs) (u : Uniq ps) (x : Int) : imgF ps x = imgF qs x := by
  cases e : imgF ps x with
  | some y => exact (imgF_of_mem (u.perm h) (h.mem_iff.mp (imgF_mem e))).symm
  | none =>
    cases e2 : imgF qs x with
    | none => rfl
    | some y => rw [imgF_of_mem u (h.mem_iff.mpr (imgF_mem e2))] at e; cases e
theorem mapF_can {ps : List (Int × Int)} (u : Uniq ps) (x : Int) : mapF (canF ps) x = imgF ps x := by
  rw [mapF_exp, canF_exp]
  exact (imgF_perm (sortP_perm ps).symm u x).symm
/-! by one and then by the other -/
def cmpF (ps : List (Int × Int)) (f : Int → Option Int) : List (Int × Int) := ps.filterMap fun p => (f p.2).map fun y => (p.1, y)
def swpF (ps : List (Int × Int)) : List (Int × Int) := ps.map fun p => (p.2, p.1)
theorem cmpF_perm {ps qs : List (Int × Int)} (h : ps.Perm qs) (f : Int → Option Int) : (cmpF ps f).Perm (cmpF qs f) := h.filterMap _
theorem swpF_perm {ps qs : List (Int × Int)} (h : ps.Perm qs) : (swpF ps).Perm (swpF qs) := h.map _
theorem swpF_swp (ps : List (Int × Int)) : swpF (swpF ps) = ps := by
  unfold swpF
  rw [List.map_map]
  exact List.map_id _
theorem cmpF_len (ps : List (Int × Int)) (f : Int → Option Int) : (cmpF ps f).length ≤ ps.length := List.length_filterMap_le _ _
theorem swpF_len (ps : List (Int × Int)) : (swpF ps).length = ps.length := List.length_map _
theorem cmpF_sub (ps : List (Int × Int)) (f : Int → Option Int) : ((cmpF ps f).map (·.1)).Sublist (ps.map (·.1)) := by
  induction ps with
  | nil => exact .refl _
  | cons p ps ih =>
    unfold cmpF at *
    rw [List.filterMap_cons]
    cases f p.2 with
    | none => exact List.Sublist.cons _ ih
    | some y => exact List.Sublist.cons_cons _ ih
theorem Uniq.cmp {ps : List (Int × Int)} (u : Uniq ps) (f : Int → Option Int) : Uniq (cmpF ps f) := u.sublist (cmpF_sub ps f)
theorem imgF_cmp : ∀ {ps : List (Int × Int)} (u : Uniq ps) (f : Int → Option Int) (x : Int), imgF (cmpF ps f) x = (imgF ps x).bind f := by
  intro ps u f x
  induction ps with
  | nil => rfl
  | cons p ps ih =>
    have u' : Uniq ps := by unfold Uniq at *; rw [List.map_cons, List.nodup_cons] at u; exact u.2
    have nin : p.1 ∉ ps.map (·.1) := by unfold Uniq at u; rw [List.map_cons, List.nodup_cons] at u; exact u.1
    have ih := ih u'
    rw [imgF_cons]
    unfold cmpF at *
    rw [List.filterMap_cons]
    cases e : f p.2 with
    | some y =>
      simp only [Option.map_some]
      rw [imgF_cons]
      dsimp only
      by_cases c : p.1 = x
      · rw [if_pos c, if_pos c, Option.bind_some, e]
      · rw [if_neg c, if_neg c, ih]
    | none =>
      simp only [Option.map_none]
      rw [ih]
      by_cases c : p.1 = x
      · rw [if_pos c, Option.bind_some, e]
        have : imgF ps x = none := by
          cases h : imgF ps x with
          | none => rfl
          | some y => exact absurd (List.mem_map.mpr ⟨_, imgF_mem h, rfl⟩) (c ▸ nin)
        rw [this]; rfl
      · rw [if_neg c]
theorem cmpF_cmp (ps : List (Int × Int)) (f g : Int → Option Int) : cmpF (cmpF ps f) g = cmpF ps fun x => (f x).bind g := by
  unfold cmpF
  rw [List.filterMap_filterMap]
  congr 1
  funext p
  cases e : f p.2 <;> simp [e]
theorem cmpF_congr {ps : List (Int × Int)} {f g : Int → Option Int} (h : ∀ x, f x = g x) : cmpF ps f = cmpF ps g := by rw [show f = g from funext h]
end Pf

namespace Pf
open PySem L2
open Rp (rp)
open RpA (ra)
/-! ### dicts with whole numbers as keys -/
structure DI (β : Type) : Type where
  m : List (Int × β)
def RD {β : Type} (r : V → β → Prop) : List (Key × V) → List (Int × β) → Prop
  | [], [] => True
  | (k, v) :: kvs, (i, x) :: l => k = .inl i ∧ r v x ∧ RD r kvs l
  | _, _ => False
section
variable {β : Type}
theorem RD.imp {r r' : V → β → Prop} (h : ∀ v x, r v x → r' v x) : ∀ {kvs : List (Key × V)} {l : List (Int × β)}, RD r kvs l → RD r' kvs l
  | [], [], _ => trivial
  | (_, _) :: _, (_, _) :: _, ⟨a, b, c⟩ => ⟨a, h _ _ b, RD.imp h c⟩
theorem RD.len {r : V → β → Prop} : ∀ {kvs : List (Key × V)} {l : List (Int × β)}, RD r kvs l → kvs.length = l.length
  | [], [], _ => rfl
  | (_, _) :: _, (_, _) :: _, ⟨_, _, c⟩ => by rw [List.length_cons, List.length_cons, RD.len c]
def getI (l : List (Int × β)) (i : Int) : Option β := (l.find? fun p => decide (p.1 = i)).map (·.2)
def putI (l : List (Int × β)) (i : Int) (x : β) : List (Int × β) := if (l.any fun p => decide (p.1 = i)) = true then l.map (fun p => if p.1 = i then (p.1, x) else p) else l ++ [(i, x)]
def dropI (l : List (Int × β)) (i : Int) : List (Int × β) := l.filter fun p => decide (p.1 ≠ i)
theorem getI_cons (p : Int × β) (l : List (Int × β)) (i : Int) : getI (p :: l) i = if p.1 = i then some p.2 else getI l i := by
  unfold getI
  rw [List.find?_cons]
  by_cases c : p.1 = i <;> simp [c]
theorem valV_cons' (k k' : Key) (v : V) (kvs : List (Key × V)) : valV ((k', v) :: kvs) k = if k' = k then some v else valV kvs k := by
  unfold valV
  rw [List.find?_cons]
  by_cases c : k' = k <;> simp [c]
theorem key_eq {i j : Int} : ((Sum.inl i : Key) = .inl j) ↔ i = j := ⟨fun h => by cases h; rfl, fun h => by rw [h]⟩
theorem RD.get {r : V → β → Prop} (i : Int) : ∀ {kvs : List (Key × V)} {l : List (Int × β)}, RD r kvs l → (valV kvs (.inl i)).isSome = (getI l i).isSome ∧ ∀ x, getI l i = some x → ∃ v, valV kvs (.inl i) = some v ∧ r v x
  | [], [], _ => ⟨rfl, fun x h => by cases h⟩
  | (k, v) :: kvs, (j, x) :: l, ⟨a, b, c⟩ => by
    subst a
    have ih := RD.get i c
    rw [valV_cons', getI_cons]
    by_cases e : j = i
    · subst e
      rw [if_pos rfl, if_pos rfl]
      exact ⟨rfl, fun y h => by cases h; exact ⟨v, rfl, b⟩⟩
    · rw [if_neg (fun z => e (key_eq.mp z)), if_neg e]
      exact ih
theorem RD.any {r : V → β → Prop} (i : Int) : ∀ {kvs : List (Key × V)} {l : List (Int × β)}, RD r kvs l → (kvs.any fun kv => decide (kv.1 = (.inl i : Key))) = l.any fun p => decide (p.1 = i)
  | [], [], _ => rfl
  | (k, v) :: kvs, (j, x) :: l, ⟨a, b, c⟩ => by
    subst a
    rw [List.any_cons, List.any_cons, RD.any i c]
    congr 1
    dsimp only
    by_cases e : j = i
    · rw [decide_eq_true (key_eq.mpr e), decide_eq_true e]
    · rw [decide_eq_false (fun z => e (key_eq.mp z)), decide_eq_false e]
theorem RD.mapP {r : V → β → Prop} {i : Int} {v0 : V} {x0 : β} (h0 : r v0 x0) : ∀ {kvs : List (Key × V)} {l : List (Int × β)}, RD r kvs l → RD r (kvs.map fun kv => if kv.1 = (.inl i : Key) then (kv.1, v0) else kv) (l.map fun p => if p.1 = i then (p.1, x0) else p)
  | [], [], _ => trivial
  | (k, v) :: kvs, (j, x) :: l, ⟨a, b, c⟩ => by
    subst a
    rw [List.map_cons, List.map_cons]
    by_cases e : j = i
    · subst e
      rw [if_pos rfl, if_pos rfl]
      exact ⟨rfl, h0, RD.mapP h0 c⟩
    · rw [if_neg (fun z => e (key_eq.mp z)), if_neg e]
      exact ⟨rfl, b, RD.mapP h0 c⟩
theorem RD.app {r : V → β → Prop} : ∀ {kvs : List (Key × V)} {l : List (Int × β)} {kvs' : List (Key × V)} {l' : List (Int × β)}, RD r kvs l → RD r kvs' l' → RD r (kvs ++ kvs') (l ++ l')
  | [], [], _, _, _, h => h
  | (_, _) :: _, (_, _) :: _, _, _, ⟨a, b, c⟩, h => ⟨a, b, RD.app c h⟩
theorem RD.put {r : V → β → Prop} {i : Int} {v0 : V} {x0 : β} (h0 : r v0 x0) {kvs : List (Key × V)} {l : List (Int × β)} (h : RD r kvs l) : RD r (putK kvs (.inl i) v0) (putI l i x0) := by
  unfold putK putI
  rw [RD.any i h]
  split
  · exact RD.mapP h0 h
  · exact h.app ⟨rfl, h0, trivial⟩
theorem RD.drop {r : V → β → Prop} {i : Int} : ∀ {kvs : List (Key × V)} {l : List (Int × β)}, RD r kvs l → RD r (dropK kvs (.inl i)) (dropI l i)
  | [], [], _ => trivial
  | (k, v) :: kvs, (j, x) :: l, ⟨a, b, c⟩ => by
    subst a
    have ih := RD.drop (i := i) c
    unfold dropK dropI at *
    rw [List.filter_cons, List.filter_cons]
    dsimp only
    by_cases e : j = i
    · rw [if_neg (by simp [e]), if_neg (by simp [e])]
      exact ih
    · rw [if_pos (by simp only [decide_eq_true_eq]; exact fun z => e (key_eq.mp z)), if_pos (by simpa using e)]
      exact ⟨rfl, b, ih⟩
theorem putK_len (kvs : List (Key × V)) (k : Key) (v : V) : (putK kvs k v).length ≤ kvs.length + 1 := by
  unfold putK
  split
  · rw [List.length_map]; omega
  · rw [List.length_append]; exact Nat.le_refl _
theorem dropK_len (kvs : List (Key × V)) (k : Key) : (dropK kvs k).length ≤ kvs.length := List.length_filter_le _ _
end
/-- a dict stands at a -/
def Ds {β : Type} [Rp β] (ms : Ms) (H : Hp) (a : Addr) (d : DI β) : Prop := ∃ kvs, H a = some (.dK kvs) ∧ RD (rp ms H) kvs d.m ∧ kvs.length ≤ sizeLine
section
variable {β : Type} [Rp β] {ms ms' : Ms} {H H' : Hp} {a m p : Addr} {d : DI β} {B : Ms}
theorem Ds.step (h : Ds ms H a d) (M : Mv ms H ms' H') (e : ∀ o, H a = some o → H' a = some o) : Ds ms' H' a d := let ⟨kvs, e1, r, l⟩ := h; ⟨kvs, e _ e1, r.imp fun _ _ z => Rp.mv z M, l⟩
theorem Ds.same (h : Ds ms H a d) (s : Same H H') : Ds ms H' a d := h.step (Mv.same s) fun o e => s a o e
theorem Ds.but (h : Ds ms H a d) (hm : m ∈ ms) (n : a ≠ m) (s : But m H H') : Ds ms H' a d := h.step (Mv.but hm s) fun o e => s a o n e
theorem Ds.bu (h : Ds ms H a d) (hB : ∀ a ∈ B, a ∈ ms) (n : a ∉ B) (s : Bu B H H') : Ds ms H' a d := h.step (Mv.bu hB s) fun o e => s.1 a o n e
theorem Ds.new (h : Ds ms H a d) (np : H p = none) (s : Same H H') : Ds (p :: ms) H' a d := h.step (Mv.new np s) fun o e => s a o e
theorem Ds.less (h : Ds ms H a d) (l : ∀ a ∈ ms', a ∈ ms) : Ds ms' H a d := h.step (Mv.less l) fun o e => e
theorem Ds.alive (h : Ds ms H a d) : H a ≠ none := by obtain ⟨kvs, e, _⟩ := h; rw [e]; exact fun z => by cases z
theorem Ds.ne (h : Ds ms H a d) (np : H p = none) : a ≠ p := fun z => h.alive (z ▸ np)
theorem Ds.lt {H0 : Hp} (h : Ds ms H0 a d) (n : a ∉ B) (L : Lt B ms H0 ms' H) : Ds ms' H a d := h.step L.M fun o e => L.S a o n e
end
instance instRpDI {β : Type} [Rp β] : Rp (DI β) := ⟨fun ms H v d => ∃ a, v = .ref a ∧ a ∉ ms ∧ Ds ms H a d, fun {ms ms' H H' v x} h M => by
  obtain ⟨a, rfl, n, kvs, e, r, l⟩ := h
  obtain ⟨n', e'⟩ := M a _ n e
  exact ⟨a, rfl, n', kvs, e', r.imp fun _ _ z => Rp.mv z M, l⟩⟩
def putF {β : Type} (d : DI β) (i : Int) (x : β) : Option (DI β) := if d.m.length < sizeLine then some ⟨putI d.m i x⟩ else none
def delF {β : Type} (d : DI β) (i : Int) : Option (DI β) := if (getI d.m i).isSome = true then some ⟨dropI d.m i⟩ else none
/-- a dict that can be read at a, locked or not -/
def Er {β : Type} [Rp β] (ms : Ms) (H : Hp) (a : Addr) (d : DI β) : Prop := ∃ kvs, Rd H a (.dK kvs) ∧ RD (rp ms H) kvs d.m
theorem Ds.er {β : Type} [Rp β] {ms : Ms} {H : Hp} {a : Addr} {d : DI β} (h : Ds ms H a d) : Er ms H a d := let ⟨kvs, e, r, _⟩ := h; ⟨kvs, .inl e, r⟩
theorem Er.bu {β : Type} [Rp β] {B ms : Ms} {H H' : Hp} {a : Addr} {d : DI β} (h : Er ms H a d) (hB : ∀ a ∈ B, a ∈ ms) (n : a ∉ B) (s : Bu B H H') : Er ms H' a d := by
  obtain ⟨kvs, e, r⟩ := h
  refine ⟨kvs, ?_, r.imp fun _ _ z => Rp.mv z (Mv.bu hB s)⟩
  rcases e with e | ⟨od, e⟩
  · exact .inl (s.1 _ _ n e)
  · exact .inr ⟨od, s.1 _ _ n e⟩
/-- a dict to be read, frozen or not -/
def Ed {β : Type} [Rp β] (B ms : Ms) (te : TE) (σ : St) (H0 : Hp) (p : Hq) (d : DI β) (q : Hq) : Prop :=
  ∀ H, Bu B H0 H → p ms H → ∀ Q : VK, (∀ a H', Bu B H H' → q ms H' → a ∉ B → Er ms H' a d → Q (.ref a) H') → te σ H Q
section
variable {β : Type} [Rp β] {K : PySem.W.Frag} {B ms : Ms} {σ : St} {H0 : Hp} {p q r : Hq} {ta tb te : TE} {d d' : DI β} {i j : Int} {x : β}
theorem ed_of (hB : ∀ a ∈ B, a ∈ ms) (h : Ex B ms te σ H0 p d q) : Ed B ms te σ H0 p d q := fun H b hp Q k => h H b hp _ fun v H1 b1 q1 ⟨a, e, n, l⟩ => by
  subst e
  exact k a H1 b1 q1 (fun z => n (hB a z)) (Ds.er l)
theorem ed_var {n : Nat} {a : Addr} (W : Wd B ms H0) (hs : σ[n]? = some (some (.ref a))) (nB : a ∉ B) (h : Ds ms H0 a d) : Ed B ms (tVar n) σ H0 p d p := fun H b hp Q k => ⟨_, hs, k a H (Bu.refl B H) hp nB (h.bu W.hB nB b).er⟩
theorem ex_dget (h1 : Ed B ms ta σ H0 p d q) (h2 : Ex B ms tb σ H0 q i r) (W : Wd B ms H0) (e : getI d.m i = some x) : Ex B ms (tDGet ta tb) σ H0 p x r := fun H b hp Q k => h1 H b hp _ fun a H1 b1 q1 na l1 => h2 H1 (b.trans b1) q1 _ fun u H2 b2 q2 e2 => by
  obtain ⟨kvs, ev, rd⟩ := l1.bu W.hB na b2
  obtain ⟨v, hv, rv⟩ := (rd.get i).2 x e
  have e2' : u = .int i := e2
  subst e2'
  exact ⟨a, v, rfl, .inl ⟨kvs, .inl i, ev, rfl, hv.symm⟩, k v H2 (b1.trans b2) q2 rv⟩
theorem ex_din (h1 : Ex B ms ta σ H0 p i q) (h2 : Ed B ms tb σ H0 q d r) : Ex B ms (tDIn ta tb) σ H0 p (getI d.m i).isSome r := fun H b hp Q k => h1 H b hp _ fun u H1 b1 q1 e1 => h2 H1 (b.trans b1) q1 _ fun a H2 b2 q2 na ⟨kvs, ev, rd⟩ => by
  have e1' : u = .int i := e1
  subst e1'
  refine ⟨a, valV kvs (.inl i), rfl, .inl ⟨kvs, .inl i, ev, rfl, rfl⟩, ?_⟩
  rw [(rd.get i).1]
  exact k _ H2 (b1.trans b2) q2 rfl
theorem ex_dnotin (h1 : Ex B ms ta σ H0 p i q) (h2 : Ed B ms tb σ H0 q d r) : Ex B ms (tDNotIn ta tb) σ H0 p (!(getI d.m i).isSome) r := fun H b hp Q k => h1 H b hp _ fun u H1 b1 q1 e1 => h2 H1 (b.trans b1) q1 _ fun a H2 b2 q2 na ⟨kvs, ev, rd⟩ => by
  have e1' : u = .int i := e1
  subst e1'
  refine ⟨a, valV kvs (.inl i), rfl, .inl ⟨kvs, .inl i, ev, rfl, rfl⟩, ?_⟩
  rw [(rd.get i).1]
  exact k _ H2 (b1.trans b2) q2 rfl
/-- {} -/
theorem dn_mk {H : Hp} {Q : VK} (β : Type) [Rp β] (W : Wd B ms H) (hq : Sb B q) (hp : q ms H) (k : ∀ a H', Bu B H H' → H a = none → q (a :: ms) H' → Wd B (a :: ms) H' → Mv ms H (a :: ms) H' → Ds (a :: ms) H' a (⟨[]⟩ : DI β) → Q (.ref a) H') : tDNewK σ H Q := fun a na => by
  have s := same_upd (o := .dK []) na
  have e : (upd H a (.dK [])) a = some (.dK []) := upd_same
  have M : Mv ms H (a :: ms) (upd H a (.dK [])) := Mv.new na s
  have D : Ds (a :: ms) (upd H a (.dK [])) a (⟨[]⟩ : DI β) := ⟨[], e, trivial, Nat.zero_le _⟩
  exact k a _ (Bu.same s) na (hq.new na s hp) (W.new (Bu.same s) D.alive) M D
/-- d[e] = e -/
theorem s_dput {D : Ends} {H : Hp} {n : Nat} {m : Addr} (W : Wd B ms H) (hs : σ[n]? = some (some (.ref m))) (l : Ds ms H m d) (hm : m ∈ ms) (nB : m ∉ B) (hq : Sb B r) (hv : Ex B ms ta σ H p x q) (hk : Ex B ms tb σ H q i r) (hp : p ms H) (e : putF d i x = some d')
    (k : ∀ H', Bu (m :: B) H H' → r ms H' → Wd B ms H' → Mv ms H ms H' → Ds ms H' m d' → D.nx σ H') : sDPut (tVar n) tb ta D σ H := by
  obtain ⟨kvs, ev, rd, ll⟩ := l
  refine hv H (Bu.refl B H) hp _ fun v H1 b1 q1 rv => ⟨_, hs, hk H1 b1 q1 _ fun u H2 b2 q2 e2 => ?_⟩
  have e2' : u = .int i := e2
  subst e2'
  unfold putF at e
  split at e
  · rename_i hl
    cases e
    have b3 := b1.trans b2
    have ev2 := b3.1 _ _ nB ev
    have hl' : kvs.length < sizeLine := by rw [rd.len]; exact hl
    refine ⟨m, _, rfl, DPut.k (k := .inl i) ev2 hl', ?_⟩
    have u2 : But m H2 (upd H2 m (.dK (putK kvs (.inl i) v))) := But.upd
    have h2 : (upd H2 m (.dK (putK kvs (.inl i) v))) m = some (.dK (putK kvs (.inl i) v)) := upd_same
    have W1 := W.bu b3
    have M1 : Mv ms H2 ms (upd H2 m (.dK (putK kvs (.inl i) v))) := Mv.but hm u2
    have rd2 : RD (rp ms H2) kvs d.m := rd.imp fun _ _ z => Rp.mv z (W.mv b3)
    have rv2 : rp ms H2 v x := Rp.mv rv (Mv.bu W.hB b2)
    refine k _ ⟨fun a o n e => ?_, fun a e => ?_⟩ ?_ ⟨W.hB, W1.al.but u2 h2⟩ ((W.mv b3).trans M1) ⟨_, h2, (rd2.put rv2).imp fun _ _ z => Rp.mv z M1, Nat.le_trans (putK_len _ _ _) hl'⟩
    · have n' := notc n
      exact u2 _ _ n'.1 (b3.1 _ _ n'.2 e)
    · by_cases qm : a = m
      · rw [qm, h2]; exact fun z => by cases z
      · have := b3.2 a e
        cases h' : H2 a with
        | none => exact absurd h' this
        | some o' => rw [u2 a o' qm h']; exact fun z => by cases z
    · exact hq _ _ _ _ q2 M1 fun a ha o e => u2 _ _ (nab ha nB) e
  · cases e
/-- del d[e] -/
theorem s_ddel {D : Ends} {H : Hp} {n : Nat} {m : Addr} (W : Wd B ms H) (hs : σ[n]? = some (some (.ref m))) (l : Ds ms H m d) (hm : m ∈ ms) (nB : m ∉ B) (hq : Sb B r) (hk : Ex B ms tb σ H p i r) (hp : p ms H) (e : delF d i = some d')
    (k : ∀ H', Bu (m :: B) H H' → r ms H' → Wd B ms H' → Mv ms H ms H' → Ds ms H' m d' → D.nx σ H') : sDDel (tVar n) tb D σ H := by
  obtain ⟨kvs, ev, rd, ll⟩ := l
  refine ⟨_, hs, hk H (Bu.refl B H) hp _ fun u H2 b3 q2 e2 => ?_⟩
  have e2' : u = .int i := e2
  subst e2'
  unfold delF at e
  split at e
  · rename_i hl
    cases e
    have ev2 := b3.1 _ _ nB ev
    refine ⟨m, kvs, .inl i, rfl, ev2, rfl, by rw [(rd.get i).1]; exact hl, ?_⟩
    have u2 : But m H2 (upd H2 m (.dK (dropK kvs (.inl i)))) := But.upd
    have h2 : (upd H2 m (.dK (dropK kvs (.inl i)))) m = some (.dK (dropK kvs (.inl i))) := upd_same
    have W1 := W.bu b3
    have M1 : Mv ms H2 ms (upd H2 m (.dK (dropK kvs (.inl i)))) := Mv.but hm u2
    have rd2 : RD (rp ms H2) kvs d.m := rd.imp fun _ _ z => Rp.mv z (W.mv b3)
    refine k _ ⟨fun a o n e => ?_, fun a e => ?_⟩ ?_ ⟨W.hB, W1.al.but u2 h2⟩ ((W.mv b3).trans M1) ⟨_, h2, rd2.drop.imp fun _ _ z => Rp.mv z M1, Nat.le_trans (dropK_len _ _) ll⟩
    · have n' := notc n
      exact u2 _ _ n'.1 (b3.1 _ _ n'.2 e)
    · by_cases qm : a = m
      · rw [qm, h2]; exact fun z => by cases z
      · have := b3.2 a e
        cases h' : H2 a with
        | none => exact absurd h' this
        | some o' => rw [u2 a o' qm h']; exact fun z => by cases z
    · exact hq _ _ _ _ q2 M1 fun a ha o e => u2 _ _ (nab ha nB) e
  · cases e
end
end Pf

namespace Pf
open PySem L2
open Rp (rp)
open RpA (ra)
/-! ### defs that may raise an error of one's own; answers of two kinds -/
instance instRpSum {α β : Type} [Rp α] [Rp β] : Rp (α ⊕ β) := ⟨fun ms H v x => match x with | .inl a => rp ms H v a | .inr b => rp ms H v b, fun {ms ms' H H' v x} h M => by
  cases x with
  | inl a => exact Rp.mv (α := α) h M
  | inr b => exact Rp.mv (α := β) h M⟩
/-- unlike in kind, so never equal -/
class EncDj (α β : Type) [DecidableEq α] [DecidableEq β] [Enc α] [Enc β] : Prop where
  lr : ∀ (a : α) (b : β), PyData.eqv (Enc.enc a) (Enc.enc b) = false
  rl : ∀ (a : α) (b : β), PyData.eqv (Enc.enc b) (Enc.enc a) = false
instance {β : Type} [DecidableEq β] [Enc β] : EncDj Int (List β) := ⟨fun _ _ => rfl, fun _ _ => rfl⟩
instance {β γ : Type} [DecidableEq β] [Enc β] [DecidableEq γ] [Enc γ] : EncDj Int (β × γ) := ⟨fun _ _ => rfl, fun _ _ => rfl⟩
instance {β γ δ : Type} [DecidableEq β] [Enc β] [DecidableEq γ] [Enc γ] [DecidableEq δ] [Enc δ] : EncDj Int (T3 β γ δ) := ⟨fun _ _ => rfl, fun _ _ => rfl⟩
instance encSum {α β : Type} [DecidableEq α] [DecidableEq β] [Enc α] [Enc β] [EncDj α β] : Enc (α ⊕ β) := ⟨fun x => match x with | .inl a => Enc.enc a | .inr b => Enc.enc b, max (Enc.dep α) (Enc.dep β),
  fun x => by cases x with | inl a => exact Enc.lay a | inr b => exact Enc.lay b,
  fun x => by
    cases x with
    | inl a => have := Enc.dle a; dsimp only; omega
    | inr b => have := Enc.dle b; dsimp only; omega,
  fun x y => by
    cases x <;> cases y <;> dsimp only
    · rw [Enc.eqv]; simp
    · rw [EncDj.lr]; simp
    · rw [EncDj.rl]; simp
    · rw [Enc.eqv]; simp⟩
instance {α β : Type} [DecidableEq α] [DecidableEq β] [Enc α] [Enc β] [EncDj α β] [Rp α] [Rp β] [RpD α] [RpD β] : RpD (α ⊕ β) := ⟨fun {K ms H v x} h => by
  cases x with
  | inl a => exact RpD.dp (α := α) (x := a) h
  | inr b => exact RpD.dp (α := β) (x := b) h⟩
section
variable {α β : Type} [Rp α] [Rp β] {K : PySem.W.Frag} {B ms : Ms} {σ : St} {H0 : Hp} {p q r : Hq} {ta tb te : TE} {x : α} {y : β}
theorem ex_inl (h : Ex B ms te σ H0 p x q) : Ex B ms te σ H0 p (.inl x : α ⊕ β) q := h
theorem ex_inr (h : Ex B ms te σ H0 p y q) : Ex B ms te σ H0 p (.inr y : α ⊕ β) q := h
theorem ex_isiAL {x : Int ⊕ List β} (h : Ex B ms te σ H0 p x q) : Ex B ms (tCB (rIsi K) (tCons te (tCons (tC (.ty "list")) tNil))) σ H0 p x.isRight q := fun H b hp Q k => h H b hp _ fun v H1 b1 q1 e => by
  cases x with
  | inl i =>
    have e' : v = .int i := e
    subst e'
    exact r_isi (.int i) (show kitB "int" "list" = some false by decide +kernel) (k _ H1 b1 q1 rfl)
  | inr xs =>
    obtain ⟨a, e1, n, vs, ev, _⟩ := (show rp ms H1 v xs from e)
    subst e1
    exact r_isi_ll ev (k _ H1 b1 q1 rfl)
/-! for x in a pair -/
theorem ei_tup2 {u : α × α} (h : Ex B ms te σ H0 p u q) : Ei B ms (iTup K te) σ H0 p [u.1, u.2] q := fun H b hp R k => h H b hp _ fun v H1 b1 q1 hr => by
  obtain ⟨a, v1, v2, e, n, eh, r1, r2⟩ := id hr
  subst e
  exact ⟨a, rfl, ⟨_, SqT.of eh⟩, k _ (fun ms H => rp ms H (.ref a) u) H1 b1 q1 ⟨fun h M => Rp.mv h M⟩ hr itok_tup2⟩
/-! what raises -/
def raiN (i : Int) : Option Nat := if 0 ≤ i ∧ i ≤ 1000 then some i.toNat else none
theorem raiN_ok {i : Int} {n : Nat} (h : raiN i = some n) : i = (n : Int) ∧ n ≤ 1000 := by
  unfold raiN at h
  split at h
  · have := Option.some.inj h
    omega
  · cases h
def spX {ι ρ : Type} [RpA ι] [Rp ρ] (C : Addr) (f : Str) (F : ι → Option (Except Nat ρ)) : Sp := fun vs H Q E => ∃ (ms : Ms) (i : ι) (r : Except Nat ρ), Al ms H ∧ ra ms H vs i ∧ F i = some r ∧
  match r with
  | .ok x => ∀ v H', Same H H' → rp ms H' v x → Q v H'
  | .error n => ∀ (d : Addr) (H1 H' : Hp), Same H H1 → Same H1 H' → H1 d = none → H' d = some (.xd [(f, .int (n : Int))]) → E (.ref C) (some d) H'
theorem r_rai1 {C : Addr} {f : Str} {H : Hp} {W : XK} {i : Int} {n : Nat} {ts : TA} (h : Ea B ms ts σ H p (i, ()) q) (hp : p ms H) (e : raiN i = some n)
    (k : ∀ (d : Addr) (H1 H' : Hp), Bu B H H1 → Same H1 H' → H1 d = none → H' d = some (.xd [(f, .int (n : Int))]) → W (.ref C) (some d) H') : tMkO C (sp_exc1 C f) [] ts σ H W := by
  obtain ⟨rfl, hn⟩ := raiN_ok e
  refine h H (Bu.refl B H) hp _ fun vs H1 b1 q1 e1 => ?_
  obtain ⟨v1, _, rfl, r1, e0⟩ := e1
  have e0' : _ = [] := e0
  have r1' : v1 = .int (n : Int) := r1
  subst e0' r1'
  exact exc1_out hn fun d H' s nd hd => k d H1 H' b1 s nd hd
def okF {α : Type} : Option (Except Nat α) → Option α
  | some (.ok x) => some x
  | _ => none
theorem okF_inv {α : Type} {y : Option (Except Nat α)} {x : α} (h : okF y = some x) : y = some (.ok x) := by
  unfold okF at h
  split at h
  · cases h; rfl
  · cases h
theorem okF_ok {α : Type} {y : Option (Except Nat α)} {x : α} (h : y = some (.ok x)) : okF y = some x := by rw [h]; rfl
theorem ex_callX {ι : Type} [RpA ι] {C : Addr} {f : Str} {F : ι → Option (Except Nat α)} {ts : TA} {E : XK} {i : ι} (W : Wd B ms H0) (hq : Sb B q) (h : Ea B ms ts σ H0 p i q) (e : okF (F i) = some x) : Ex B ms (tCall (spX C f F) [] E ts) σ H0 p x q := fun H b hp Q k => r_call (h H b hp _ fun vs H1 b1 q1 e1 =>
  ⟨ms, i, .ok x, (W.al.bu b).bu b1, e1, okF_inv e, fun v H' s rv => k v H' (b1.trans (Bu.same s)) (hq.same s q1) rv⟩)
end
end Pf

namespace Pf
open PySem L2
open Rp (rp)
open RpA (ra)
/-! ### objects whose fields are set once -/
theorem pe_fldA {X : Cx} {K : PySem.W.Frag} {e : Expr} {f : Str} {pos : Pos} {ta : TE} (he : PE X e ta) (hK : X.K = K := by rfl) (hb : attributeBase e f X.env (eval e X.env) = eval e X.env := by rfl) : PE X (.Attribute e f pos) (tFld K ta f) := hK ▸ pe_fld he hb
section
variable {α β : Type} [Rp α] [Rp β] {K : PySem.W.Frag} {B ms : Ms} {σ : St} {H0 : Hp} {p q : Hq} {te : TE} {x : α} {y : β} {C : Addr} {f : Str}
/-- e.f -/
theorem ex_fldG (cl : Cls K C) (na : NoAttr K C f) (h : Ex B ms te σ H0 p x q) (get : ∀ {ms : Ms} {H : Hp} {v : V}, rp ms H v x → ∃ (a dx : Addr) (fs : List (Str × V)) (u : V), v = .ref a ∧ H a = some (.ins C dx fs) ∧ fs.lookup f = some u ∧ rp ms H u y) : Ex B ms (tFld K te f) σ H0 p y q := fun H b hp Q k => h H b hp _ fun v H1 b1 q1 r1 => by
  obtain ⟨a, dx, fs, u, e, eh, el, ru⟩ := get r1
  subst e
  exact ⟨a, C, dx, fs, u, rfl, eh, cl, na, el, k u H1 b1 q1 ru⟩
/-- an object in the making -/
def Xi (x C dx : Addr) (fs : List (Str × V)) : Hq := fun _ H => H x = some (.ins C dx fs)
theorem sb_xi {x dx : Addr} {fs : List (Str × V)} : Sb [x] (Xi x C dx fs) := fun ms ms' H H' e _ h => h x (by simp) _ e
theorem putF_len (f : Str) (v : V) : ∀ fs : List (Str × V), (L2.putF f v fs).length ≤ fs.length + 1
  | [] => Nat.le_refl _
  | (g, x) :: r => by
    unfold L2.putF
    split
    · simp
    · have := putF_len f v r
      rw [List.length_cons, List.length_cons]
      omega
theorem plt {f : Str} {v : V} {fs : List (Str × V)} {k n : Nat} (h : fs.length + (k + 1) < n) : (L2.putF f v fs).length + k < n := by
  have := putF_len f v fs
  omega
/-- self.f = e -/
theorem s_fld {D : Ends} {H : Hp} {o dx : Addr} {fs : List (Str × V)} (W : Wd [o] (o :: ms) H) (hs : σ[0]? = some (some (.ref o))) (h : Ex [o] (o :: ms) te σ H (Xi o C dx fs) y (Xi o C dx fs)) (hq : Xi o C dx fs (o :: ms) H) (cl : Cls K C) (na : NoAttr K C f) (hl : fs.length + 0 < 1000)
    (k : ∀ v H', Bu [o] H H' → Wd [o] (o :: ms) H' → Mv (o :: ms) H (o :: ms) H' → Xi o C dx (L2.putF f v fs) (o :: ms) H' → rp (o :: ms) H' v y → D.nx σ H') : sFld K (tVar 0) te f D σ H :=
  h H (Bu.refl _ H) hq _ fun v H1 b1 q1 rv => ⟨_, hs, o, C, dx, fs, rfl, q1, cl, na, hl, by
    have u2 : But o H1 (upd H1 o (.ins C dx (L2.putF f v fs))) := But.upd
    have h2 : (upd H1 o (.ins C dx (L2.putF f v fs))) o = some (.ins C dx (L2.putF f v fs)) := upd_same
    have W1 := W.bu b1
    have M1 : Mv (o :: ms) H1 (o :: ms) (upd H1 o (.ins C dx (L2.putF f v fs))) := Mv.but List.mem_cons_self u2
    refine k v _ ⟨fun a ob n e => ?_, fun a e => ?_⟩ ⟨W.hB, W1.al.but u2 h2⟩ ((W.mv b1).trans M1) h2 (Rp.mv rv M1)
    · exact u2 _ _ (fun z => n (by rw [z]; simp)) (b1.1 _ _ n e)
    · by_cases qm : a = o
      · rw [qm, h2]; exact fun z => by cases z
      · have := b1.2 a e
        cases h' : H1 a with
        | none => exact absurd h' this
        | some o' => rw [u2 a o' qm h']; exact fun z => by cases z⟩
/-- `__init__` -/
def spI {ι ρ : Type} [RpA ι] [Rp ρ] (C : Addr) (F : ι → Option ρ) : Sp := fun vs H Q _ => ∃ (ms : Ms) (o dx : Addr) (us : List V) (i : ι) (r : ρ), vs = .ref o :: us ∧ H o = some (.ins C dx []) ∧ o ∉ ms ∧ Al ms H ∧ ra (o :: ms) H us i ∧ F i = some r ∧
  ∀ H', Bu [o] H H' → rp ms H' (.ref o) r → Q .non H'
/-- C(e, ..) -/
theorem ex_make {ι : Type} [RpA ι] {F : ι → Option α} {ts : TA} {E : XK} {i : ι} (W : Wd B ms H0) (hq : Sb B q) (h : Ea B ms ts σ H0 p i q) (e : F i = some x) : Ex B ms (tMake C (spI C F) [] E ts) σ H0 p x q := fun H b hp Q k => h H b hp _ fun vs H1 b1 q1 e1 o dx no ndx ne => by
  have W1 := (W.bu b).bu b1
  have s1 : Same H1 (upd H1 dx (.own o)) := same_upd ndx
  have no1 : (upd H1 dx (.own o)) o = none := by rw [upd_ne (fun z => ne z.symm)]; exact no
  have s2 : Same H1 (upd (upd H1 dx (.own o)) o (.ins C dx [])) := fun a ob ea => same_upd no1 a ob (s1 a ob ea)
  have onm : o ∉ ms := W1.al.not no
  refine ⟨ms, o, dx, vs, i, x, by simp, upd_same, onm, W1.al.same s2, RpA.mv e1 (Mv.new no s2), e, fun H' bu rr => ⟨rfl, ?_⟩⟩
  have s3 : Same H1 H' := fun a ob ea => bu.1 a ob (fun z => by rw [List.mem_singleton.mp z, no] at ea; cases ea) (s2 a ob ea)
  exact k (.ref o) H' (b1.trans (Bu.same s3)) (hq.same s3 q1) rr
end
/-- a class that may be called -/
structure RCal (P : Program) (w : World) (K : PySem.W.Frag) (mg : Str → Option Value) (base : Heap) (x : Str) (C : Addr) (k : Nat) (f : Addr) (fd : FuncData) (ps : List Str) (sp : Sp) : Prop where
  ok : FnOk P w K mg base CX0 k f fd ps sp
  M : Mk K C f
  b : Binds K fd ps []
  m : mg x = some (.ref C)
end Pf

namespace Pf
open PySem L2 PyProof.Rows
section
variable {prog : Program} {w : World} {A : Around} {E : Value → Shared → Prop} {s : Shared} {T : String} {r d : Addr} {n : Nat} {P : Nat → Value → Prop} {OK : Heap → Prop} {Q : Value → Shared → Prop}
/-- the sum of what a view walks; nothing that was there changes -/
theorem sum_view (J : PySem.W.KdlSrc prog w T r d n P OK) (hh : A.handled = none) (hok : OK s.heap) (val : Nat → Int) (hval : ∀ (i : Nat) (v : Value), P i v → ∃ t : Tok, v = Value.int (val i) t)
    (h : ∀ (h' : Heap) (tk : Nat) (t' : Tok), (∀ b o, s.heap.get? b = some o → h'.get? b = some o) → Q (.int (preSum val n) t') { s with heap := h', toks := tk }) :
    wpAny (model prog w) A (call (.builtin "sum") [.ref r]) Q E s := by
  refine call_sum_walkAnyS ?_
  obtain ⟨oI, St, hit, W, st⟩ := J.iter A.in1 s hh hok
  refine hit _ _ ⟨s.heap.objs.size, _, _, _, n, P, _, val, rfl, W.toS, st, fun b hb => ?_, hval, fun s' t' hm => ?_⟩
  · show b < (s.heap.push oI).objs.size
    rw [size_push']
    obtain e | hb := List.mem_cons.mp hb
    · rw [e]; exact Nat.lt_succ_self _
    · rw [List.mem_singleton.mp hb]; exact Nat.lt_succ_of_lt (J.there _ hok).2
  · have hk : ∀ b o, s.heap.get? b = some o → s'.heap.get? b = some o := fun b o e => hm.heap b o (fun hI => absurd (Heap.lt_size e) (by rw [List.mem_singleton.mp hI]; exact Nat.lt_irrefl _)) (Heap.get?_push_of_some _ e)
    have fin := h s'.heap s'.toks t' hk
    rw [Moved.eq_with hm]
    exact fin
end
section
variable {X : Cx}
/-- sum(d.values()) -/
def tSumVals (td : TE) : TE := fun σ H Q => td σ H fun x H1 => ∃ (d : Addr) (kvs : List (L2.Key × V)) (ns : List Int), x = .ref d ∧ H1 d = some (.dK kvs) ∧ kvs.map (·.2) = ns.map V.int ∧ Q (.int ns.sum) H1
theorem paired_get {α β : Type} {R : α → β → Prop} : ∀ {xs : List α} {ys : List β} {i : Nat} {x : α} {y : β}, Paired R xs ys → xs[i]? = some x → ys[i]? = some y → R x y
  | _, _, i, _, _, .nil, h, _ => by simp at h
  | _, _, 0, _, _, .cons h _, e1, e2 => by cases e1; cases e2; exact h
  | _, _, i + 1, _, _, .cons _ h, e1, e2 => paired_get h (by simpa using e1) (by simpa using e2)
theorem pe_sumVals {e : Expr} {td : TE} {p0 pos apos cpos : Pos} (hc : X.calm = true) (hgs : Gl X "sum") (hms : X.mg "sum" = none) (he : PE X e td)
    (hbase : attributeBase e "values" X.env (eval e X.env) = eval e X.env := by rfl) (hline : (apos.endLine == cpos.line) = true := by rfl)
    (hs1 : starEach [.Call (.Attribute e "values" apos) [] [] cpos] X.env = (false, eval (.Call (.Attribute e "values" apos) [] [] cpos) X.env) :: starEach [] X.env := by rfl)
    (hp1 : (backTo pos (starEach [] X.env)).any (·.1) = false := by rfl) :
    PE X (.Call (.Name "sum" p0) [.Call (.Attribute e "values" apos) [] [] cpos] [] pos) (tSumVals td) := by
  refine ⟨fun pins s σ H Q I h => ?_⟩
  refine wpAny_Call_Name_kw (ld_blt I hgs hms boot_sum ?_)
  refine PyProof.Rows.callWith_builtin1 ?_ hs1 hp1
  rw [hs1]
  show wpAny _ _ (spliced ((false, eval (.Call (.Attribute e "values" apos) [] [] cpos) X.env) :: backTo pos (starEach [] X.env))) _ _ s
  refine Calls.spliced_cons ?_
  refine wpAny_Call_method (T := "dict") (id := "dict.values") hbase rfl hline F.plainAttrs_dict F.slot_dict_values F.type_dict_values (thn (he.run pins s σ H _ I h) fun u s1 ⟨x, H1, I1, rx, d, kvs, ns, ex, hd, hv, q⟩ => ?_)
  subst ex
  obtain rfl : u = Value.ref d := rx
  obtain ⟨_, hs, vs, kv, hm⟩ := dk_of I1.hok hd
  refine ⟨hm.typeIs, hm.mapOf.noDict, ?_⟩
  have I2 : Inv X pins σ H1 { s1 with heap := s1.heap.push { cls := .type "dict_values", data := .fields #[.ref d] } } := I1.kept (t' := s1.toks) fun b ob q => Heap.get?_push_of_some _ q
  show wpAny _ _ (callWith cpos (.builtin "dict.values") [.ref d] [] []) _ X.xe s1
  refine method_meetsIn F.slot_dict_values F.entry_dict_values rfl (PySem.evalArgs_none ⟨rfl, hm.typeIs, F.args_dict_values_1 _, _, meets_dict_values (mixKind X.prog X.w) d hs, ⟨vs, hm⟩, ?_⟩)
  show wpAny _ _ (spliced (backTo pos (starEach [] X.env))) _ _ _
  refine Calls.spliced_nil ?_
  obtain ⟨ep, hat⟩ := hm.dictAt
  have hlen : kvs.length = vs.length := Paired.length kv
  have hat2 : (s1.heap.push { cls := .type "dict_values", data := .fields #[.ref d] }).DictAt (mixKind X.prog X.w) d vs ep := hat.keep fun b o e => Heap.get?_push_of_some _ e
  have nl : ns.length = kvs.length := by
    have := congrArg List.length hv
    rw [List.length_map, List.length_map] at this
    exact this.symm
  refine sum_view (PySem.W.kdl_values (knd := mixKind X.prog X.w) (kvs := vs) (ep := ep)) (I2.ok.hd hc) ⟨⟨_, Heap.get?_push_size _ rfl, rfl, rfl⟩, hat2⟩ (fun j => ns.getD j 0) (fun i u hu => ?_) fun h' tk t' hk => ?_
  · obtain ⟨k, hu⟩ := hu
    have hi : i < vs.length := (List.getElem?_eq_some_iff.mp hu).1
    obtain ⟨p, hp⟩ : ∃ p, kvs[i]? = some p := ⟨_, List.getElem?_eq_getElem (by omega)⟩
    have rl := paired_get kv hp hu
    have e1 : (kvs.map (·.2))[i]? = some p.2 := by rw [List.getElem?_map, hp]; rfl
    rw [hv, List.getElem?_map] at e1
    obtain ⟨z, hz, ez⟩ := Option.map_eq_some_iff.mp e1
    have hz' : ns.getD i 0 = z := by rw [List.getD_eq_getElem?_getD, hz]; rfl
    have r2 : RelV p.2 u := rl.2
    rw [← ez] at r2
    obtain ⟨t, et⟩ := r2
    exact ⟨t, by rw [hz']; exact et⟩
  · have hsum : preSum (fun j => ns.getD j 0) vs.length = ns.sum := by
      have := preSum_list (h := fun v => match v with | .int z => z | _ => 0) (ns.map V.int) (fun j => ns.getD j 0) (fun i x hx => by
        rw [List.getElem?_map] at hx
        obtain ⟨z, hz, rfl⟩ := Option.map_eq_some_iff.mp hx
        rw [List.getD_eq_getElem?_getD, hz]
        rfl) vs.length (by rw [List.length_map]; omega)
      rw [this, List.take_of_length_le (by rw [List.length_map]; omega), List.map_map]
      congr 1
      exact List.map_id _
    rw [hsum]
    exact ⟨.int _, H1, I2.kept (t' := tk) hk, ⟨t', rfl⟩, q⟩
end
/-! ### sums of values, dicts walked, lists of three unlike items -/
theorem RD.vals {β : Type} {r : V → β → Prop} {ns : β → Int} (h : ∀ v x, r v x → v = .int (ns x)) : ∀ {kvs : List (L2.Key × V)} {l : List (Int × β)}, RD r kvs l → kvs.map (·.2) = (l.map fun p => ns p.2).map V.int
  | [], [], _ => rfl
  | (_, _) :: _, (_, _) :: _, ⟨_, b, c⟩ => by
    have ih := RD.vals h c
    simp only [List.map_cons, ih, h _ _ b]
theorem RD.key {β : Type} {r : V → β → Prop} : ∀ {kvs : List (L2.Key × V)} {l : List (Int × β)} {i : Nat} {p : L2.Key × V}, RD r kvs l → kvs[i]? = some p → ∃ q, l[i]? = some q ∧ p.1 = .inl q.1
  | [], _, _, _, _, e => by simp at e
  | (_, _) :: _, (_, _) :: _, 0, _, ⟨a, _, _⟩, e => by cases e; exact ⟨_, rfl, a⟩
  | (_, _) :: _, (_, _) :: _, i + 1, _, ⟨_, _, c⟩, e => by
    obtain ⟨q, h1, h2⟩ := RD.key c (i := i) (by simpa using e)
    exact ⟨q, by simpa using h1, h2⟩
/-- a locked dict -/
def Dz {β : Type} [Rp β] (ms : Ms) (H : Hp) (a : Addr) (d : DI β) : Prop := ∃ od kvs, H a = some (.frz od (.dK kvs)) ∧ RD (Rp.rp ms H) kvs d.m ∧ kvs.length ≤ sizeLine
section
variable {α β γ : Type} [Rp α] [Rp β] [Rp γ] {K : PySem.W.Frag} {B ms : Ms} {σ : L2.St} {H0 : Hp} {p q r : Hq} {ta tb td te : TE} {d : DI β} {a : Addr} {n : Nat}
/-- sum(d.values()), d a name -/
theorem ex_sumValsM {d : DI Int} (W : Wd B ms H0) (hs : σ[n]? = some (some (.ref a))) (nB : a ∉ B) (l : Ds ms H0 a d) : Ex B ms (tSumVals (tVar n)) σ H0 p (d.m.map (·.2)).sum p := fun H b hp Q k => by
  obtain ⟨kvs, e, rd, _⟩ := l.bu W.hB nB b
  exact ⟨_, hs, a, kvs, d.m.map (·.2), rfl, e, rd.vals (ns := fun x => x) (fun _ _ h => h), k _ H (Bu.refl B H) hp rfl⟩
theorem Dz.step {ms' : Ms} {H H' : Hp} (h : Dz ms H a d) (M : Mv ms H ms' H') (e : ∀ o, H a = some o → H' a = some o) : Dz ms' H' a d := let ⟨od, kvs, e1, r, l⟩ := h; ⟨od, kvs, e _ e1, r.imp fun _ _ z => Rp.mv z M, l⟩
theorem Dz.lt {ms' : Ms} {H : Hp} (h : Dz ms H0 a d) (nB : a ∉ B) (L : Lt B ms H0 ms' H) : Dz ms' H a d := h.step L.M fun o e => L.S a o nB e
theorem ed_lk (W : Wd B ms H0) (hs : σ[n]? = some (some (.ref a))) (nB : a ∉ B) (h : Dz ms H0 a d) : Ed B ms (tVar n) σ H0 p d p := fun H b hp Q k => by
  obtain ⟨od, kvs, e, rd, _⟩ := h
  exact ⟨_, hs, k a H (Bu.refl B H) hp nB (Er.bu ⟨kvs, .inr ⟨od, e⟩, rd⟩ W.hB nB b)⟩
/-- for k in d, d locked -/
theorem ej_keys (W : Wd B ms H0) (hs : σ[n]? = some (some (.ref a))) (nB : a ∉ B) (h : Dz ms H0 a d) : Ej B ms (iKeys (tVar n)) σ H0 p (d.m.map (·.1)) p := fun H b hp R k => by
  obtain ⟨od, kvs, e, rd, _⟩ := h
  have e1 := b.1 _ _ nB e
  refine ⟨_, hs, a, od, rfl, .inl ⟨kvs, e1, ?_⟩⟩
  refine k _ (fun _ H => H a = some (.frz od (.dK kvs))) [a] H (Bu.refl B H) hp (fun n1 _ hS => hS a (by simp) _ n1) (fun c hc => by rw [List.mem_singleton.mp hc]; exact ⟨nB, by rw [e1]; exact fun z => by cases z⟩) e1 ?_
  intro i ms' H1 hn _
  refine ⟨fun hl => ⟨hn, by rw [List.length_map] at hl; rw [rd.len]; exact hl⟩, fun x hx => ?_⟩
  rw [List.getElem?_map] at hx
  obtain ⟨y, hy, rfl⟩ := Option.map_eq_some_iff.mp hx
  have hlt := (List.getElem?_eq_some_iff.mp hy).1
  refine ⟨⟨hn, by rw [rd.len]; exact hlt⟩, fun v H2 ⟨eH, k2, v2, hk, ev⟩ => ?_⟩
  subst eH
  obtain ⟨y2, hy2, ek⟩ := rd.key hk
  rw [hy] at hy2
  cases hy2
  have ek' : k2 = .inl y.1 := ek
  subst ek'
  exact ⟨fun _ _ z => z, ev⟩
/-- a list made while the dict at a is locked -/
theorem en_lock {xs : List α} {t : TE} (W : Wd B ms H0) (l : Ds ms H0 a d) (hm : a ∈ ms) (nB : a ∉ B) (hp0 : Sb B p) (hq0 : Sb B q)
    (h : ∀ H1, Wd B ms H1 → Mv ms H0 ms H1 → (∀ c, c ≠ a → c ∉ B → ∀ o, H0 c = some o → H1 c = some o) → Dz ms H1 a d → En B ms t σ H1 p xs q) : En B ms (tLockE t) σ H0 p xs q := fun H b hp Q k => by
  obtain ⟨kvs, ea, rd, ll⟩ := l.bu W.hB nB b
  have W1 := W.bu b
  refine ⟨a, .dK kvs, ea, trivial, fun od => ?_⟩
  have u1 : But a H (upd H a (.frz od (.dK kvs))) := But.upd
  have e1 : (upd H a (.frz od (.dK kvs))) a = some (.frz od (.dK kvs)) := upd_same
  have M1 : Mv ms H ms (upd H a (.frz od (.dK kvs))) := Mv.but hm u1
  have W2 : Wd B ms (upd H a (.frz od (.dK kvs))) := ⟨W1.hB, W1.al.but u1 e1⟩
  have p1 : p ms (upd H a (.frz od (.dK kvs))) := hp0 _ _ _ _ hp M1 fun c hc o ec => u1 _ _ (fun z => nB (z ▸ hc)) ec
  have D1 : Dz ms (upd H a (.frz od (.dK kvs))) a d := ⟨od, kvs, e1, rd.imp fun _ _ z => Rp.mv z M1, ll⟩
  refine h _ W2 ((W.mv b).trans M1) (fun c ne nc o ec => u1 _ _ ne (b.1 _ _ nc ec)) D1 _ (Bu.refl B _) p1 _ fun t H' b2 q2 nt ntm lt => ?_
  have ea2 := b2.1 _ _ nB e1
  have nea : t ≠ a := fun z => by rw [z, e1] at nt; cases nt
  have u3 : But a H' (upd H' a (.dK kvs)) := But.upd
  have e3 : (upd H' a (.dK kvs)) a = some (.dK kvs) := upd_same
  have M3 : Mv (t :: ms) H' (t :: ms) (upd H' a (.dK kvs)) := Mv.but (List.mem_cons_of_mem _ hm) u3
  refine ⟨ea2, k t _ ⟨fun c o nc ec => ?_, fun c hc => ?_⟩ (hq0 _ _ _ _ q2 M3 fun c hc o ec => u3 _ _ (fun z => nB (z ▸ hc)) ec) ?_ ntm (lt.step M3 fun o e => u3 _ _ nea e)⟩
  · by_cases z : c = a
    · rw [z] at ec ⊢
      rw [e3]
      rw [ea] at ec
      exact ec
    · exact u3 _ _ z (b2.1 _ _ nc (u1 _ _ z ec))
  · by_cases z : c = a
    · rw [z, e3]
      exact fun z => by cases z
    · have h1 : (upd H a (.frz od (.dK kvs))) c ≠ none := by rw [upd_ne z]; exact hc
      have h2 := b2.2 c h1
      rw [upd_ne z]
      exact h2
  · rw [upd_ne nea] at nt
    exact nt
end
/-- a list of three unlike items -/
structure L3P (α β γ : Type) : Type where
  a : α
  b : β
  c : γ
instance instRpL3P {α β γ : Type} [Rp α] [Rp β] [Rp γ] : Rp (L3P α β γ) := ⟨fun ms H v x => ∃ a u w y, v = .ref a ∧ a ∉ ms ∧ H a = some (.lst [u, w, y]) ∧ Rp.rp ms H u x.a ∧ Rp.rp ms H w x.b ∧ Rp.rp ms H y x.c, fun {ms ms' H H' v x} h M => by
  obtain ⟨a, u, w, y, rfl, n, e, r1, r2, r3⟩ := h
  obtain ⟨n', e'⟩ := M a _ n e
  exact ⟨a, u, w, y, rfl, n', e', Rp.mv r1 M, Rp.mv r2 M, Rp.mv r3 M⟩⟩
section
variable {α β γ : Type} [Rp α] [Rp β] [Rp γ] {K : PySem.W.Frag} {B ms : Ms} {σ : L2.St} {H0 : Hp} {p q : Hq} {ta : TE}
theorem ex_k1 {u : L3P α β γ} (h1 : Ex B ms ta σ H0 p u q) : Ex B ms (tOp (rIxL K) ta (tC (.int 0))) σ H0 p u.a q := fun H b hp Q k => h1 H b hp _ fun v H1 b1 q1 ⟨a, w1, w2, w3, e, n, eh, r1, r2, r3⟩ => by
  subst e
  exact ⟨a, _, 0, w1, rfl, rfl, SqL.of eh, rfl, k _ H1 b1 q1 r1⟩
theorem ex_k2 {u : L3P α β γ} (h1 : Ex B ms ta σ H0 p u q) : Ex B ms (tOp (rIxL K) ta (tC (.int 1))) σ H0 p u.b q := fun H b hp Q k => h1 H b hp _ fun v H1 b1 q1 ⟨a, w1, w2, w3, e, n, eh, r1, r2, r3⟩ => by
  subst e
  exact ⟨a, _, 1, w2, rfl, rfl, SqL.of eh, rfl, k _ H1 b1 q1 r2⟩
theorem ex_k3 {u : L3P α β γ} (h1 : Ex B ms ta σ H0 p u q) : Ex B ms (tOp (rIxL K) ta (tC (.int 2))) σ H0 p u.c q := fun H b hp Q k => h1 H b hp _ fun v H1 b1 q1 ⟨a, w1, w2, w3, e, n, eh, r1, r2, r3⟩ => by
  subst e
  exact ⟨a, _, 2, w3, rfl, rfl, SqL.of eh, rfl, k _ H1 b1 q1 r3⟩
theorem ex_three {ts : TA} {u : L3P α β γ} (W : Wd B ms H0) (hq : Sb B q) (h : Ea B ms ts σ H0 p (u.a, u.b, u.c, ()) q) : Ex B ms (tLst ts) σ H0 p u q := fun H b hp Q k => h H b hp _ fun vs H1 b1 q1 e1 => by
  obtain ⟨v1, _, rfl, r1, v2, _, rfl, r2, v3, _, rfl, r3, e⟩ := e1
  have e' : _ = [] := e
  subst e'
  refine ⟨by rw [sizeLine_eq]; simp, fun t nt => ?_⟩
  have s := same_upd (o := .lst [v1, v2, v3]) nt
  exact k _ _ (b1.trans (Bu.same s)) (hq.same s q1) ⟨t, v1, v2, v3, rfl, ((W.al.bu b).bu b1).not nt, upd_same, Rp.mv r1 (Mv.same s), Rp.mv r2 (Mv.same s), Rp.mv r3 (Mv.same s)⟩
end
end Pf

set_option maxHeartbeats 1000000
namespace Pf
open PySem PySem.W PySem.Spec PyProof.Rows L2
open Rp (rp)
open RpA (ra)
/-! ### defs that run where no guard stands around: what repr of data needs -/
/-- a promise that is kept where no guard stands around the call -/
structure FnG (P : Program) (w : World) (K : PySem.W.Frag) (mg : Str → Option Value) (base : Heap) (k : Nat) (f : Addr) (fd : FuncData) (ps : List Str) (sp : Sp) : Prop where
  many : ∀ vs H Q E, sp vs H Q E → vs.length = ps.length
  go : ∀ (A : Around) (out : List Env) (s : Shared) (H : Hp) (args : Args) (us : List Value) (vs : List V) (Q : VK) (E : XK), A.guards = some [] → Room k A → Env0 P w K mg base A out s H → BindsTo s fd args (ps.zip us) → Vals vs us → sp vs H Q E →
    codeAny (model P w) A (.call (.ref f) args) (CR CX0 out P w H s Q E) s
section
variable {P : Program} {w : World} {K : PySem.W.Frag} {mg : Str → Option Value} {base : Heap}
theorem fnG_of {x qual : Str} {st : Stmt} {f : Addr} {fd : FuncData} {N ps : List Str} {k : Nat} {sp : Sp} (F : Fun K x qual st f fd) (S : FnScope N ps (defScope st)) (many : ∀ vs H Q E, sp vs H Q E → vs.length = ps.length)
    (body : ∀ (cdv : Value) (A : Around) (out : List Env) (s : Shared) (H : Hp) (vs : List V) (Q : VK) (E : XK), A.guards = some [] → Room k (A.deeper (envOfC qual (defScope st) s.heap.objs.size f cdv)) → sp vs H Q E →
      ∃ t, PSs (cxOf CX0 P w K mg base N qual (defScope st) f cdv A out s H E).nox (defBody st) t ∧ t { nx := fun _ H' => Q .non H', rt := Q } (start N vs) H) : FnG P w K mg base (k + 1) f fd ps sp := by
  obtain ⟨oc, od, kV, doc, pm, an, cdv, ct, osl, rfl, look, code⟩ := F.ex
  constructor
  · exact many
  intro A out s H args us vs Q E free room here bind rel want
  have long := many _ _ _ _ want
  have inK : K.In s.heap := here.mod.kin.keeps fun b o e => (here.bs b o e).1
  have noLim : s.heap.NoLimit := here.mod.nolimit.keeps fun b o e => (here.bs b o e).1
  have kinds : ∀ y ∈ ps.zip us, (defScope st).names.lookup y.1 = some .local ∨ ((defScope st).names.lookup y.1 = some .cell ∧ ((cellsFrom (s.heap.objs.size + 1) (defScope st).names []).lookup y.1).isSome = true) := by
    rintro ⟨n, v⟩ hy
    cases S.par n (List.of_mem_zip hy).1 with
    | inl q => exact .inl q
    | inr q => exact .inr ⟨q, PySem.W.cellsFrom_some _ _ _ (.inl q)⟩
  apply codeAny_call_function room.depth (inK _ _ look) rfl S.co S.gen rfl (PySem.W.codeRec_of inK code)
  apply bind
  apply wpAny_newFunctionEnv_cells S.kind kinds
  rintro env rfl s1 call
  constructor
  · exact noLim.keeps call.toInCall.keep
  apply codeAny_func
  obtain ⟨t, isT, reads⟩ := body cdv A out s H vs Q E free (room.deeper _) want
  have J0 : Inv (cxOf CX0 P w K mg base N qual (defScope st) f cdv A out s H E) [] (start N vs) H s1 := inv_start S room.hd here long rel call
  apply wpAny_mono (isT.nox.run [] s1 (start N vs) H _ J0 reads)
  · intro fl s2 fin
    cases fl with
    | ret u =>
      obtain ⟨v, σ2, H2, J, rv, q⟩ := fin
      exact ⟨v, H2, J.os, J.bare, J.base, J.hok, rv, q⟩
    | next =>
      obtain ⟨σ2, H2, J, q⟩ := fin
      exact ⟨.non, H2, J.os, J.bare, J.base, J.hok, rfl, q⟩
    | brk => obtain ⟨_, _, _, q⟩ := fin; exact q.elim
    | cont => obtain ⟨_, _, _, q⟩ := fin; exact q.elim
  · intro e s2 bad
    exact bad
end
section
variable {X : Cx} {k : Nat} {f : Addr} {fd : FuncData} {ps : List Str} {sp : Sp} {x : Str} {p pos : Pos} {e : Expr} {es : List Expr} {t : TA}
/-- f(e, ..) of such a def, from a body around which no guard stands -/
theorem pe_callG (free : X.A.guards = some []) (F : FnG X.prog X.w X.K X.mg X.base k f fd ps sp) (room : Room k X.A) (hg : Gl X x) (hm : X.mg x = some (.ref f)) (hk : PySem.W.keepIn X.K (.ref f) = true) (hb : Binds X.K fd ps []) (ha : PA X (e :: es) t)
    (hdb : (x == ("__debug__" : Str)) = false := by decide) (he : starEach (e :: es) X.env = (false, eval e X.env) :: starEach es X.env := by rfl) (hpl : (backTo pos (starEach es X.env)).any (·.1) = false := by rfl) :
    PE X (.Call (.Name x p) (e :: es) [] pos) (tCall sp [] E0 t) := by
  constructor
  intro pins s σ H Q I want
  apply wpAny_Call_Name_kw
  refine ld_glob I hg hm ?_ hdb
  refine PySem.W.callWith_K (h₀ := X.base) I.ok.mod.kin hk (thn (ha.run pos pins s σ H _ I want) fun us s1 ⟨vs, H1, I1, r, q⟩ => ⟨I1.kIn, ?_⟩) he hpl
  have q : sp vs H1 Q E0 := by rw [← List.append_nil vs]; exact q
  have long : us.length = ps.length := r.length.symm.trans (F.many _ _ _ _ q)
  have bind := hb s1 us I1.kIn (by rw [List.append_nil]; exact long)
  rw [List.append_nil] at bind
  apply wpAny_call
  apply codeAny_mono (F.go X.A X.stack s1 H1 ⟨us, []⟩ us vs Q E0 free room I1.env0 bind r q)
  intro res s2 fin
  cases res with
  | error e => exact fin.elim
  | ok fl =>
    cases fl with
    | ret u => exact I1.after fin
    | next => exact False.elim fin
    | brk => exact False.elim fin
    | cont => exact False.elim fin
/-! ### repr of data -/
/-- repr(e), e a datum on the heap, a number or a truth value -/
def rRepr (K : PySem.W.Frag) : List V → Hp → VK → Prop := fun vs H Q => ∃ (v : V) (d : PyData), vs = [v] ∧ Dp K H v d ∧ d.hasDict = false ∧ d.showable = true ∧ d.shown.length ≤ sizeLine ∧ d.depth ≤ 64 ∧ Q (.str d.shown) H
theorem cr_repr (free : X.A.guards = some []) (room : X.A.units + 66 < cLine) : CallR X (.builtin "repr") (rRepr X.K) := by
  intro pins s σ H xs us Q I r h
  obtain ⟨v, d, rfl, rd, nod, sh, sz, dep, q⟩ := h
  obtain ⟨u, rfl, ru⟩ := vals1 r
  obtain ⟨as, reads⟩ := Dp.reads I d v u rd ru
  cases reads with
  | none =>
    rw [PyData.shown] at q
    exact P.repr_of_none ⟨.str _, H, I.tok _, ⟨_, rfl⟩, q⟩
  | bool b =>
    have e : (if b = true then ("True" : Str) else "False") = (PyData.bool b).shown := by rw [PyData.shown]
    exact P.repr_of_bool ⟨.str _, H, I.tok _, ⟨_, rfl⟩, by rw [e]; exact q⟩
  | int i t =>
    rw [PyData.shown] at q
    exact P.repr_of_int (by simpa [PyData.showable] using sh) ⟨.str _, H, I.tok _, ⟨_, rfl⟩, q⟩
  | str x t =>
    rw [PyData.shown] at q sz
    exact P.repr_of_str ⟨.str _, H, I.tok _, ⟨_, rfl⟩, q⟩ sz
  | list h1 h2 h3 h4 =>
    exact repr_of_reads' (.list h1 h2 h3 h4) sh (PyData.noDict_hsm nod) free (by omega) (fun _ _ e => e) (fun h' u tk hk => ⟨.str _, H, I.kept hk, ⟨_, rfl⟩, q⟩) sz
  | tuple h1 h2 h3 h4 =>
    exact repr_of_reads' (.tuple h1 h2 h3 h4) sh (PyData.noDict_hsm nod) free (by omega) (fun _ _ e => e) (fun h' u tk hk => ⟨.str _, H, I.kept hk, ⟨_, rfl⟩, q⟩) sz
  | dict h1 h2 h3 h4 h5 => simp [PyData.hasDict] at nod
end

/-- a def that may be called where no guard stands around -/
structure CalG (P : Program) (w : World) (K : PySem.W.Frag) (mg : Str → Option Value) (base : Heap) (x : Str) (k : Nat) (f : Addr) (fd : FuncData) (ps : List Str) (sp : Sp) : Prop where
  ok : FnG P w K mg base k f fd ps sp
  mg : mg x = some (.ref f)
  kp : PySem.W.keepIn K (.ref f) = true
  b : Binds K fd ps []
/-- what repr tells of a datum in reason -/
def shwB (d : PyData) : Bool := d.showable && decide (d.shown.length ≤ sizeLine)
/-- data that repr tells -/
class Shw (α : Type) [Rp α] where
  shw : α → PyData
  dep : Nat
  dle : ∀ x, (shw x).depth ≤ dep
  nod : ∀ x, (shw x).hasDict = false
  dp : ∀ {K : PySem.W.Frag} {ms : Ms} {H : Hp} {v : V} {x : α}, rp ms H v x → Dp K H v (shw x)
instance shwInt : Shw Int := ⟨.int, 0, fun _ => Nat.le_refl _, fun _ => by rw [PyData.hasDict], fun h => by have h' : _ = V.int _ := h; subst h'; exact .int _⟩
instance shwBool : Shw Bool := ⟨.bool, 0, fun _ => Nat.le_refl _, fun _ => by rw [PyData.hasDict], fun h => by have h' : _ = V.bl _ := h; subst h'; exact .bl _⟩
instance shwStr : Shw Str := ⟨.str, 0, fun _ => Nat.le_refl _, fun _ => by rw [PyData.hasDict], fun h => by have h' : _ = V.str _ := h; subst h'; exact .str _⟩
def shwO {α : Type} [Rp α] [Shw α] : Option α → PyData
  | none => .none
  | some y => Shw.shw y
instance shwOpt {α : Type} [Rp α] [Shw α] : Shw (Option α) := ⟨shwO, Shw.dep α, fun x => by
  cases x with
  | none => exact Nat.zero_le _
  | some y => exact Shw.dle y, fun x => by
  cases x with
  | none => rw [shwO, PyData.hasDict]
  | some y => exact Shw.nod y, fun {K ms H v x} h => by
  cases x with
  | none => have h' : v = .non := h; subst h'; exact .non
  | some y => exact Shw.dp (α := α) (x := y) h⟩
theorem shw_all {α : Type} [Rp α] [Shw α] : ∀ xs : List α, PyData.depthAll (xs.map Shw.shw) ≤ Shw.dep α ∧ PyData.hasDictAll (xs.map Shw.shw) = false
  | [] => by rw [List.map_nil, PyData.depthAll, PyData.hasDictAll]; exact ⟨Nat.zero_le _, rfl⟩
  | x :: xs => by
    have h1 := shw_all xs
    have h2 := Shw.dle x
    rw [List.map_cons, PyData.depthAll, PyData.hasDictAll, h1.2, Shw.nod x]
    exact ⟨by omega, rfl⟩
theorem shw_dps {α : Type} [Rp α] [Shw α] {K : PySem.W.Frag} {ms : Ms} {H : Hp} : ∀ {vs : List V} {xs : List α}, RL (rp ms H) vs xs → DpAll K H vs (xs.map Shw.shw)
  | [], [], _ => .nil
  | _ :: _, _ :: _, ⟨a, b⟩ => .cons (Shw.dp a) (shw_dps b)
instance shwList {α : Type} [Rp α] [Shw α] : Shw (List α) := ⟨fun xs => .list (xs.map Shw.shw), Shw.dep α + 1, fun xs => by have := (shw_all xs).1; rw [PyData.depth]; omega, fun xs => by rw [PyData.hasDict]; exact (shw_all xs).2,
  fun ⟨a, e, _, vs, eh, rl, _⟩ => by subst e; exact .lst (SqL.of eh) (shw_dps rl)⟩
instance shwPair {α β : Type} [Rp α] [Shw α] [Rp β] [Shw β] : Shw (α × β) := ⟨fun x => .tuple [Shw.shw x.1, Shw.shw x.2], max (Shw.dep α) (Shw.dep β) + 1, fun x => by
  have h1 := Shw.dle x.1
  have h2 := Shw.dle x.2
  rw [PyData.depth, PyData.depthAll, PyData.depthAll, PyData.depthAll]
  omega, fun x => by rw [PyData.hasDict, PyData.hasDictAll, PyData.hasDictAll, PyData.hasDictAll, Shw.nod, Shw.nod]; rfl,
  fun ⟨a, u, w, e, _, eh, r1, r2⟩ => by subst e; exact .tup (SqT.of eh) (.cons (Shw.dp r1) (.cons (Shw.dp r2) .nil))⟩
instance shwT3 {α β γ : Type} [Rp α] [Shw α] [Rp β] [Shw β] [Rp γ] [Shw γ] : Shw (T3 α β γ) := ⟨fun x => .tuple [Shw.shw x.a, Shw.shw x.b, Shw.shw x.c], max (Shw.dep α) (max (Shw.dep β) (Shw.dep γ)) + 1, fun x => by
  have h1 := Shw.dle x.a
  have h2 := Shw.dle x.b
  have h3 := Shw.dle x.c
  rw [PyData.depth, PyData.depthAll, PyData.depthAll, PyData.depthAll, PyData.depthAll]
  omega, fun x => by rw [PyData.hasDict, PyData.hasDictAll, PyData.hasDictAll, PyData.hasDictAll, PyData.hasDictAll, Shw.nod, Shw.nod, Shw.nod]; rfl,
  fun ⟨a, u, w, y, e, _, eh, r1, r2, r3⟩ => by subst e; exact .tup (SqT.of eh) (.cons (Shw.dp r1) (.cons (Shw.dp r2) (.cons (Shw.dp r3) .nil)))⟩
/-- two data that are one, told in reason -/
def sameF {α : Type} [DecidableEq α] [Rp α] [Shw α] (x y : α) : Option Bool := if x = y ∧ shwB (Shw.shw x) = true then some true else none
theorem sameF_ok {α : Type} [DecidableEq α] [Rp α] [Shw α] {x y : α} {t : Bool} (h : sameF x y = some t) : x = y ∧ (Shw.shw x).showable = true ∧ (Shw.shw x).shown.length ≤ sizeLine ∧ t = true := by
  unfold sameF at h
  split at h
  · rename_i c
    have c2 := c.2
    unfold shwB at c2
    rw [Bool.and_eq_true, decide_eq_true_iff] at c2
    exact ⟨c.1, c2.1, c2.2, (Option.some.inj h).symm⟩
  · cases h
def sp_same (K : PySem.W.Frag) : Sp := fun vs H Q _ => ∃ (u v : V) (d : PyData), vs = [u, v] ∧ Dp K H u d ∧ Dp K H v d ∧ d.hasDict = false ∧ d.showable = true ∧ d.shown.length ≤ sizeLine ∧ d.depth ≤ 64 ∧ Q (.bl true) H
theorem ex_same {α : Type} [DecidableEq α] [Rp α] [Shw α] {K : PySem.W.Frag} {B ms : Ms} {σ : L2.St} {H0 : Hp} {p q : Hq} {x y : α} {t : Bool} {ts : TA} {E : XK} (W : Wd B ms H0) (hd : Shw.dep α ≤ 64) (h : Ea B ms ts σ H0 p (x, y, ()) q) (e : sameF x y = some t) :
    Ex B ms (tCall (sp_same K) [] E ts) σ H0 p t q := fun H b hp Q k => r_call (h H b hp _ fun vs H1 b1 q1 e1 => by
  obtain ⟨v1, _, rfl, r1, v2, _, rfl, r2, e0⟩ := e1
  have e0' : _ = [] := e0
  subst e0'
  obtain ⟨rfl, h1, h2, rfl⟩ := sameF_ok e
  exact ⟨v1, v2, Shw.shw x, rfl, Shw.dp r1, Shw.dp r2, Shw.nod x, h1, h2, Nat.le_trans (Shw.dle x) hd, k _ H1 b1 q1 rfl⟩)
/-! ### sorted of data -/
/-- the order of data, told of what they encode -/
def leD {α : Type} [DecidableEq α] [Enc α] (x y : α) : Bool := !dataLt (Enc.enc y) (Enc.enc x)
def sortD {α : Type} [DecidableEq α] [Enc α] (xs : List α) : List α := xs.mergeSort leD
/-- data that Python can sort -/
class SrtE (α : Type) [DecidableEq α] [Enc α] : Prop where
  like : ∀ x y : α, alike (Enc.enc x) (Enc.enc y) = true
  form : (∀ x : α, ∃ y r, Enc.enc x = .tuple (y :: r)) ∨ ∀ x : α, Enc.enc x ≠ .none ∧ ∀ xs, Enc.enc x ≠ .tuple xs
theorem alike_lists {α : Type} [DecidableEq α] [Enc α] (h : ∀ x y : α, alike (Enc.enc x) (Enc.enc y) = true) : ∀ xs ys : List α, alikeAll (xs.map Enc.enc) (ys.map Enc.enc) = true
  | [], _ => by simp [alikeAll]
  | _ :: _, [] => by simp [alikeAll]
  | x :: xs, y :: ys => by
    rw [List.map_cons, List.map_cons, alikeAll, alike_lists h xs ys, h x y]
    rfl
instance : SrtE Int := ⟨fun _ _ => by simp [Enc.enc, alike], .inr fun _ => ⟨by simp [Enc.enc], fun _ => by simp [Enc.enc]⟩⟩
instance {α : Type} [DecidableEq α] [Enc α] [SrtE α] : SrtE (List α) := ⟨fun xs ys => by
  show alike (.list _) (.list _) = true
  rw [alike]
  exact alike_lists SrtE.like xs ys, .inr fun _ => ⟨by simp [Enc.enc], fun _ => by simp [Enc.enc]⟩⟩
instance {α β : Type} [DecidableEq α] [Enc α] [SrtE α] [DecidableEq β] [Enc β] [SrtE β] : SrtE (α × β) := ⟨fun x y => by
  show alike (.tuple [_, _]) (.tuple [_, _]) = true
  rw [alike, alikeAll, alikeAll, SrtE.like x.1 y.1, SrtE.like x.2 y.2]
  simp [alikeAll], .inl fun x => ⟨_, _, rfl⟩⟩
instance {α β γ : Type} [DecidableEq α] [Enc α] [SrtE α] [DecidableEq β] [Enc β] [SrtE β] [DecidableEq γ] [Enc γ] [SrtE γ] : SrtE (T3 α β γ) := ⟨fun x y => by
  show alike (.tuple [_, _, _]) (.tuple [_, _, _]) = true
  rw [alike, alikeAll, alikeAll, alikeAll, SrtE.like x.a y.a, SrtE.like x.b y.b, SrtE.like x.c y.c]
  simp [alikeAll], .inl fun x => ⟨_, _, rfl⟩⟩
/-- sorted(xs) of data: the values with what they stand for -/
def rSortD (K : PySem.W.Frag) : List V → Hp → VK → Prop := fun vs H Q => ∃ (a : Addr) (ps : List (V × PyData)), vs = [.ref a] ∧ SqL K H a (ps.map (·.1)) ∧ (∀ p ∈ ps, Dp K H p.1 p.2) ∧ AllAlike (ps.map (·.2)) ∧ Sortable (ps.map (·.2)) ∧ (∀ p ∈ ps, p.2.depth ≤ 64) ∧
  ∀ b, H b = none → Q (.ref b) (upd H b (.lst ((ps.mergeSort (dataLe false (·.2))).map (·.1))))
theorem each_vals : ∀ {ps : List (V × PyData)} {us : List Value}, Vals (ps.map (·.1)) us → EachIs (fun u p => RelV p.1 u) us ps
  | [], _, h => by cases h; exact .nil
  | p :: ps, _, h => by
    cases h with
    | cons a b => exact .cons a (each_vals b)
theorem vals_each : ∀ {us : List Value} {ps : List (V × PyData)}, EachIs (fun u p => RelV p.1 u) us ps → Vals (ps.map (·.1)) us
  | _, _, .nil => .nil
  | _, _, .cons a b => .cons a (vals_each b)
theorem each_imp {α β : Type} {R S : α → β → Prop} : ∀ {us : List α} {ps : List β}, EachIs R us ps → (∀ u p, p ∈ ps → R u p → S u p) → EachIs S us ps
  | _, _, .nil, _ => .nil
  | _, _, .cons a b, h => .cons (h _ _ List.mem_cons_self a) (each_imp b fun u p m r => h u p (List.mem_cons_of_mem _ m) r)
theorem cr_sortD {X : Cx} (room : X.A.units + 80 < cLine) : CallR X (.builtin "sorted") (rSortD X.K) := by
  intro pins s σ H xs us Q I r h
  obtain ⟨a, ps, rfl, hs, hd, hal, hk, hdep, q⟩ := h
  obtain ⟨its, rv, hl, hz⟩ := I.list hs
  obtain ⟨u, rfl, ru⟩ := vals1 r
  obtain rfl : u = Value.ref a := ru
  have ev := each_vals rv
  rw [List.length_map] at hz
  refine PySem.W.sorted_data (enc := fun p : V × PyData => p.2) (R := fun u p => RelV p.1 u) hl.isList ev (each_imp ev fun u p m rel => Dp.reads I p.2 p.1 u (hd p m) rel) hal hk hz (fun p m => by have := hdep p m; omega) fun out len es => ?_
  obtain ⟨c, hc⟩ := PyProof.Rows.sortedAll_at s.heap its out.toArray
  have len2 : (ps.mergeSort (dataLe false (·.2))).length = ps.length := List.length_mergeSort ps
  refine ⟨.ref (s.heap.objs.size + 1), upd H (s.heap.objs.size + 1) (.lst ((ps.mergeSort (dataLe false (·.2))).map (·.1))), I.laid (t' := s.toks) (fun b o e => PyProof.Rows.sortedAll_old e) (Nat.le_succ _) ⟨?_, out, c, vals_each es, hc⟩, rfl, q _ (I.hok.fresh (Nat.le_succ _))⟩
  rw [List.length_map, len2]
  exact hz

theorem rl_zip {α : Type} {r : V → α → Prop} : ∀ {vs : List V} {xs : List α}, RL r vs xs → (vs.zip xs).map (·.1) = vs ∧ (vs.zip xs).map (·.2) = xs ∧ ∀ z ∈ vs.zip xs, r z.1 z.2
  | [], [], _ => ⟨rfl, rfl, fun z h => by cases h⟩
  | v :: vs, x :: xs, ⟨a, b⟩ => by
    obtain ⟨h1, h2, h3⟩ := rl_zip b
    refine ⟨by rw [List.zip_cons_cons, List.map_cons, h1], by rw [List.zip_cons_cons, List.map_cons, h2], fun z hz => ?_⟩
    obtain q | q := List.mem_cons.mp hz
    · subst q; exact a
    · exact h3 z q
theorem rl_unzip {α : Type} {r : V → α → Prop} : ∀ {zs : List (V × α)}, (∀ z ∈ zs, r z.1 z.2) → RL r (zs.map (·.1)) (zs.map (·.2))
  | [], _ => trivial
  | z :: zs, h => ⟨h z List.mem_cons_self, rl_unzip fun y hy => h y (List.mem_cons_of_mem _ hy)⟩
theorem en_sortD {α : Type} [DecidableEq α] [Enc α] [Rp α] [RpD α] [SrtE α] {K : PySem.W.Frag} {B ms : Ms} {σ : L2.St} {H0 : Hp} {p q : Hq} {te : TE} {xs : List α} (W : Wd B ms H0) (hq : Sb B q) (hd : Enc.dep α ≤ 64) (h : El B ms te σ H0 p xs q) :
    En B ms (tCB (rSortD K) (tCons te tNil)) σ H0 p (sortD xs) q := fun H b hp Q k => h H b hp _ fun a H1 b1 q1 na ⟨vs, e, rl, l⟩ => by
  obtain ⟨z1, z2, z3⟩ := rl_zip rl
  let g : V × α → V × PyData := fun z => (z.1, Enc.enc z.2)
  let le : V × α → V × α → Bool := fun z y => leD z.2 y.2
  have m1 : ((vs.zip xs).map g).mergeSort (dataLe false (·.2)) = ((vs.zip xs).mergeSort le).map g := (List.map_mergeSort (f := g) (r := le) (s := dataLe false (·.2)) fun z _ y _ => rfl).symm
  have m2 : sortD xs = ((vs.zip xs).mergeSort le).map (·.2) := by
    unfold sortD
    rw [← z2, ← List.map_mergeSort (f := fun z : V × α => z.2) (r := le) (s := leD) fun z _ y _ => rfl, z2]
  have s1 : ((vs.zip xs).map g).map (·.1) = vs := by rw [List.map_map]; exact z1
  have s2 : ((vs.zip xs).map g).map (·.2) = xs.map Enc.enc := by
    rw [List.map_map]
    conv => rhs; rw [← z2, List.map_map]
    rfl
  refine ⟨a, (vs.zip xs).map g, rfl, by rw [s1]; exact SqL.of e, fun y hy => ?_, ?_, ?_, fun y hy => ?_, fun t nt => ?_⟩
  · obtain ⟨z, hz, rfl⟩ := List.mem_map.mp hy
    exact RpD.dp (z3 z hz)
  · rw [s2]; exact AllAlike.of SrtE.like
  · rw [s2]
    obtain f | f := SrtE.form (α := α)
    · exact Sortable.tuples f
    · exact Sortable.others f
  · obtain ⟨z, hz, rfl⟩ := List.mem_map.mp hy
    exact Nat.le_trans (Enc.dle z.2) hd
  rw [m1]
  have e3 : (((vs.zip xs).mergeSort le).map g).map (·.1) = ((vs.zip xs).mergeSort le).map (·.1) := by rw [List.map_map]; rfl
  rw [e3]
  have s := same_upd (o := .lst (((vs.zip xs).mergeSort le).map (·.1))) nt
  refine k _ _ (b1.trans (Bu.same s)) (hq.new nt s q1) (b1.none nt) (((W.al.bu b).bu b1).not nt) ?_
  rw [m2]
  refine ls_new nt (rl_unzip fun z hz => ?_) ?_
  · exact z3 z ((List.mergeSort_perm _ _).mem_iff.mp hz)
  · rw [List.length_map, List.length_mergeSort]
    have := congrArg List.length z1
    rw [List.length_map] at this
    rw [this]
    exact l
/-! ### the end of a law whose defs want no guard around -/
section
theorem hid_none {h : Heap} {H : Hp} {b : Addr} {o : Obj} (e : h.get? b = some o) (n : H b = none) : (hidT h H).get? b = some o := hidT_get e n
/-- the law called, with a heap in which nothing but the script is tracked -/
theorem lawG_run {P : Program} {w : World} {K : PySem.W.Frag} {mg mb : Str → Option Value} {k : Nat} {fa a : Addr} {fd : FuncData} {x : Str} {sp : Sp} {s : Shared} {vs : List Value} {H : Hp}
    (inK : K.In s.heap) (hns : s.heap.Ns mainGlobals mg) (hb : s.heap.Ns builtinsNs mb) (hbb : ∀ x : Str, x ≠ "__name__" → mb x = bootBuiltins x) (lim : s.heap.NoLimit) (hg : s.gens = #[]) (ha : s.heap.get? a = some { cls := .type "list", data := .seq vs.toArray }) (room : Room k callerA)
    (F : ∀ base : Heap, K.In base → base.Ns mainGlobals mg → FnG P w K mg base k fa fd [x] sp) (bind : ∀ (s : Shared) (u : Value), BindsTo s fd ⟨[u], []⟩ [(x, u)]) (hok : HOk P w H s.heap) (just : ∀ b, H b ≠ none → b = a) (out : H a ≠ none → K.lookup a = none)
    (want : sp [.ref a] H (fun v _ => v = .bl true) fun _ _ _ => False) (only : Only H) :
    codeAny (model P w) callerA (.call (.ref fa) ⟨[.ref a], []⟩) (fun r s' => r = .ok (.ret (.bool true)) ∧ OldK s.heap s'.heap ∧ s'.os = s.os ∧ AllBare s'.gens) s := by
  have dictOut : ∀ {b : Addr} {o : Obj} {es : Array DictEntry} {ep : Nat}, s.heap.get? b = some o → o.data = .dict es ep → H b = none := by
    intro b o es ep e d
    by_cases q : H b = none
    · exact q
    · have eb := just b q
      rw [eb, ha] at e
      cases e
      have d' : Data.seq vs.toArray _ = Data.dict es ep := d
      cases d'
  have ns : ∀ {b : Addr} {m : Str → Option Value}, s.heap.Ns b m → (hidT s.heap H).Ns b m := by
    rintro b m ⟨o, es, ep, e, d, r⟩
    exact ⟨o, es, ep, hid_none e (dictOut e d), d, r⟩
  have inB : K.In (hidT s.heap H) := by
    intro b o e
    refine hid_none (inK b o e) ?_
    by_cases q : H b = none
    · exact q
    · have eb := just b q
      subst eb
      rw [out q] at e
      cases e
  have M : Mod K mg (hidT s.heap H) := ⟨inB, ns hns, ⟨mb, ns hb, hbb⟩, let ⟨mc, h1, h2⟩ := lim; ⟨mc, ns h1, h2⟩⟩
  have env : Env0 P w K mg (hidT s.heap H) callerA [] s H := ⟨rfl, M, fun b o e => of_hidT e, Nat.le_of_eq (hidT_size _ _), trivial, fun b hb => absurd (show b ∈ ([] : List Addr) from hb) (by simp), hok, .of_eq hg⟩
  apply codeAny_mono ((F _ inB (ns hns)).go callerA [] s H ⟨[.ref a], []⟩ [.ref a] [.ref a] _ _ rfl room env (bind s (.ref a)) (.cons rfl .nil) want)
  intro r s2 fin
  cases r with
  | error e => exact fin.elim
  | ok fl =>
    cases fl with
    | next => exact False.elim fin
    | brk => exact False.elim fin
    | cont => exact False.elim fin
    | ret u =>
      obtain ⟨v, H2, os, bare, un, hok2, rv, q⟩ := fin
      have ev : v = .bl true := q
      subst ev
      obtain rfl : u = Value.bool true := rv
      refine ⟨rfl, OldK.of_keep fun b o e => ?_, os, bare⟩
      obtain z | ⟨ob, xs, z⟩ := only b
      · exact un.keep b o e z (fun m => absurd (show b ∈ ([] : List Addr) from m) (by simp)) (by simp)
      · have z2 := un.frzs b ob _ z
        obtain ⟨e1, _⟩ := hok b _ z
        obtain ⟨e2, _⟩ := hok2 b _ z2
        rw [e] at e1
        cases e1
        exact e2
theorem lawG_call {P : Program} {w : World} {K : PySem.W.Frag} {mg mb : Str → Option Value} {k : Nat} {fa a : Addr} {fd : FuncData} {x : Str} {sp : Sp} {s : Shared} {vs : List Value} {ns : List Int}
    (inK : K.In s.heap) (hns : s.heap.Ns mainGlobals mg) (hb : s.heap.Ns builtinsNs mb) (hbb : ∀ x : Str, x ≠ "__name__" → mb x = bootBuiltins x) (lim : s.heap.NoLimit) (hg : s.gens = #[]) (ha : s.heap.get? a = some { cls := .type "list", data := .seq vs.toArray }) (theInts : IntsAre vs ns) (hl : ns.length ≤ sizeLine) (room : Room k callerA)
    (F : ∀ base : Heap, K.In base → base.Ns mainGlobals mg → FnG P w K mg base k fa fd [x] sp) (bind : ∀ (s : Shared) (u : Value), BindsTo s fd ⟨[u], []⟩ [(x, u)])
    (want : ∀ H : Hp, Only H → SqL K H a (ns.map V.int) → sp [.ref a] H (fun v _ => v = .bl true) fun _ _ _ => False) :
    codeAny (model P w) callerA (.call (.ref fa) ⟨[.ref a], []⟩) (fun r s' => r = .ok (.ret (.bool true)) ∧ OldK s.heap s'.heap ∧ s'.os = s.os ∧ AllBare s'.gens) s := by
  have rv := vals_ints theInts
  have lenV := theInts.length
  by_cases hk : K.lookup a = none
  · let H : Hp := fun b => if b = a then some (.frz { cls := .type "list", data := .seq vs.toArray } (.lst (ns.map V.int))) else none
    have at_ : ∀ b u, H b = some u → b = a ∧ u = .frz { cls := .type "list", data := .seq vs.toArray } (.lst (ns.map V.int)) := fun b u z => by
      by_cases q : b = a
      · exact ⟨q, (Option.some.inj ((if_pos q).symm.trans z)).symm⟩
      · exact absurd ((if_neg q).symm.trans z) (by simp)
    have only : Only H := fun b => by
      cases e : H b with
      | none => exact .inl rfl
      | some u => exact .inr ⟨_, _, by rw [(at_ b u e).2]⟩
    refine lawG_run (H := H) inK hns hb hbb lim hg ha room F bind (fun b u z => ?_) (fun b z => ?_) (fun _ => hk) (want H only (.inl (.inr ⟨{ cls := .type "list", data := .seq vs.toArray }, if_pos rfl⟩))) only
    · obtain ⟨rfl, rfl⟩ := at_ b u z
      exact ⟨ha, by rw [List.length_map]; exact hl, vs, _, rv, ha⟩
    · cases e : H b with
      | none => exact absurd e z
      | some u => exact (at_ b u e).1
  · obtain ⟨o, e⟩ := Option.ne_none_iff_exists'.mp hk
    have eo := inK a o e
    rw [ha] at eo
    cases eo
    have only : Only fun _ => none := fun _ => .inl rfl
    exact lawG_run (H := fun _ => none) inK hns hb hbb lim hg ha room F bind (fun b u z => by cases z) (fun b z => absurd rfl z) (fun z => absurd rfl z) (want _ only (.inr ⟨_, vs.toArray, _, e, rfl, rfl, rfl, by rw [List.size_toArray, lenV]; exact hl, by simpa using rv⟩)) only
theorem walkG {l : PySem.W.OpenLaw} {n k : Nat} {q : Program} {loose : List Str} {XP : (Str → Option Value) → Heap → Prop} {YP : World → Heap → Prop} {d : DefRec} {K : Params → PySem.W.Frag} {sp : PySem.W.Frag → Sp} {x : Str}
    (hn : l.most = some n) (hn2 : n ≤ sizeLine) (hdf : d.params.defaults = []) (room : Room k callerA) (hY : ∀ (w : World) (h : Heap), YP w h → (K w.params).In h)
    (F : ∀ (w : World) (mg : Str → Option Value) (fa : Addr) (h : Heap), (K w.params).In h → h.Ns mainGlobals mg → mg d.name = some (.ref fa) →
      ∃ fd : FuncData, (∀ (s : Shared) (u : Value), BindsTo s fd ⟨[u], []⟩ [(x, u)]) ∧ ∀ base : Heap, (K w.params).In base → base.Ns mainGlobals mg → FnG l.prog w (K w.params) mg base k fa fd [x] (sp (K w.params)))
    (want : ∀ (K : PySem.W.Frag) (H : Hp) (a : Addr) (ns : List Int), ns.length ≤ n → SqL K H a (ns.map V.int) → sp K [.ref a] H (fun v _ => v = .bl true) fun _ _ _ => False) :
    PySem.W.WalkO q loose XP YP l.row.toRowW d [] (fun f vs => PySem.call f vs) := by
  apply Att.attach_call hn hdf
  intro w s₀ s₁ mg mb fa o pm cd doc a vs ns G Y ho hd hcd hmg hobj hints hlen hg
  have inK := hY w _ Y
  obtain ⟨fd, bind, ok⟩ := F w mg fa _ inK G.T.g hmg
  exact lawG_call inK G.T.g G.T.b G.T.builtins G.T.nolimit hg hobj hints (Nat.le_trans hlen hn2) room ok bind fun H _ hS => want _ H a ns hlen hS
end

/-! ### draws out of a row -/
def drawG (bx : List Int × Nat) (m : Int) : Option (Int × (List Int × Nat)) := if 0 < m then some ((if bx.2 < bx.1.length then bx.1.getD bx.2 0 % m else ((bx.2 : Int) * 7 + 3) % m), (bx.1, bx.2 + 1)) else none
theorem drawG_ok {bx : List Int × Nat} {m : Int} (h : 0 < m) : ∃ r n, drawG bx m = some (r, (bx.1, n)) ∧ 0 ≤ r ∧ r < m := by
  unfold drawG
  rw [if_pos h]
  by_cases c : bx.2 < bx.1.length
  · rw [if_pos c]
    exact ⟨_, _, rfl, Int.emod_nonneg _ (by omega), Int.emod_lt_of_pos _ h⟩
  · rw [if_neg c]
    exact ⟨_, _, rfl, Int.emod_nonneg _ (by omega), Int.emod_lt_of_pos _ h⟩
def sp_row : Sp := fun vs H Q _ => ∃ c k m : Int, vs = [.int c, .int k, .int m] ∧ 0 ≤ m ∧ m ≤ 1000 ∧ ∀ (p : Addr) (ds : List Int) (H' : Hp), H p = none → Same H H' → H' p = some (.lst (ds.map V.int)) → ds.length ≤ 1000 → Q (.ref p) H'
def sp_box (K : PySem.W.Frag) : Sp := fun vs H Q _ => ∃ (a : Addr) (ns : List Int) (f l : Nat), vs = [.ref a, .int f, .int l] ∧ SqL K H a (ns.map V.int) ∧ f ≤ l ∧ l ≤ 63 ∧
  ∀ (b d : Addr) (ds : List Int) (H' : Hp), H b = none → H d = none → d ≠ b → Same H H' → H' b = some (.lst [.ref d, .int 0]) → H' d = some (.lst (ds.map V.int)) → Q (.ref b) H'
theorem room66 {A : Around} {k : Nat} (hr : Room k A) : A.units + 66 < cLine := by have := hr.un; omega
theorem room80 {A : Around} {k : Nat} (hr : Room k A) : A.units + 80 < cLine := by have := hr.un; omega
theorem roomIn {A : Around} {k : Nat} (hr : Room k A) : A.units + 65 < cLine := by have := hr.un; omega
/-! ### x in xs, data of any depth -/
def inD {α : Type} [DecidableEq α] (x : α) (xs : List α) : Bool := decide (x ∈ xs)
theorem inD_iff {α : Type} [DecidableEq α] {x : α} {xs : List α} : inD x xs = true ↔ x ∈ xs := by unfold inD; exact decide_eq_true_iff
theorem any_encs {α : Type} [DecidableEq α] [Enc α] (x : α) : ∀ xs : List α, ((xs.map Enc.enc).any fun z => PyData.eqv z (Enc.enc x)) = inD x xs
  | [] => by simp [inD]
  | y :: ys => by
    rw [List.map_cons, List.any_cons, any_encs x ys, Enc.eqv]
    by_cases h : y = x
    · subst h; simp [inD]
    · have h' : ¬ x = y := fun z => h z.symm
      simp [inD, h, h']
section
variable {α : Type} [DecidableEq α] [Enc α] [Rp α] [RpD α] {K : PySem.W.Frag} {B ms : Ms} {σ : L2.St} {H0 : Hp} {p q r : Hq} {ta tb : TE} {x : α} {xs : List α}
theorem ex_inD (W : Wd B ms H0) (hd : Enc.dep (List α) ≤ 64) (h1 : Ex B ms ta σ H0 p x q) (h2 : El B ms tb σ H0 q xs r) : Ex B ms (tOp (rInD K) ta tb) σ H0 p (inD x xs) r := fun H b hp Q k => h1 H b hp _ fun v H1 b1 q1 r1 => h2 H1 (b.trans b1) q1 _ fun a H2 b2 q2 na l2 =>
  ⟨Enc.enc x, xs.map Enc.enc, RpD.dp (Rp.mv r1 (Mv.bu W.hB b2)), l2.is, shapedE (Nat.le_trans (Nat.le_succ _) hd) x, shapedE hd xs, by rw [any_encs]; exact k _ H2 (b1.trans b2) q2 rfl⟩
theorem ex_notInD (W : Wd B ms H0) (hd : Enc.dep (List α) ≤ 64) (h1 : Ex B ms ta σ H0 p x q) (h2 : El B ms tb σ H0 q xs r) : Ex B ms (tOp (rNotInD K) ta tb) σ H0 p (!inD x xs) r := fun H b hp Q k => h1 H b hp _ fun v H1 b1 q1 r1 => h2 H1 (b.trans b1) q1 _ fun a H2 b2 q2 na l2 =>
  ⟨Enc.enc x, xs.map Enc.enc, RpD.dp (Rp.mv r1 (Mv.bu W.hB b2)), l2.is, shapedE (Nat.le_trans (Nat.le_succ _) hd) x, shapedE hd xs, by rw [any_encs]; exact k _ H2 (b1.trans b2) q2 rfl⟩
end
end Pf

set_option maxHeartbeats 1000000
namespace Pf
open PySem PySem.Spec PyProof.Rows L2
open Rp (rp)
open RpA (ra)
/-! ### dicts whose keys are tuples of any depth, of numbers and truth values -/
mutual
def plainK : NestedKey → Bool
  | .none => true
  | .num _ => true
  | .text _ => false
  | .tup ks => plainAll ks
def plainAll : List NestedKey → Bool
  | [] => true
  | k :: ks => plainK k && plainAll ks
end
mutual
def hashN : NestedKey → Int
  | .none => reduceHash 0xFCA86420
  | .num i => hashInt i
  | .text _ => 0
  | .tup ks => reduceHash (Builtin.Tuple.tupleHashOf (hashNs ks))
def hashNs : List NestedKey → List Int
  | [] => []
  | k :: ks => hashN k :: hashNs ks
end
mutual
theorem hash_plain (w : World) : ∀ k : NestedKey, plainK k = true → k.hash w = hashN k
  | .none, _ => by rw [NestedKey.hash, hashN]
  | .num i, _ => by rw [NestedKey.hash, hashN]
  | .text _, h => by rw [plainK] at h; cases h
  | .tup ks, h => by rw [plainK] at h; rw [NestedKey.hash, hashN, hashes_plain w ks h]
theorem hashes_plain (w : World) : ∀ ks : List NestedKey, plainAll ks = true → NestedKey.hashes w ks = hashNs ks
  | [], _ => by rw [NestedKey.hashes, hashNs]
  | k :: ks, h => by
    rw [plainAll, Bool.and_eq_true] at h
    rw [NestedKey.hashes, hashNs, hash_plain w k h.1, hashes_plain w ks h.2]
end
mutual
/-- a value is a key -/
inductive KeyIs (H : Hp) : V → NestedKey → Prop
  | num (i : Int) : KeyIs H (.int i) (.num i)
  | bl (b : Bool) : KeyIs H (.bl b) (.num (if b = true then 1 else 0))
  | tup {a : Addr} {xs : List V} {ks : List NestedKey} : H a = some (.tup xs) → KeyAll H xs ks → KeyIs H (.ref a) (.tup ks)
inductive KeyAll (H : Hp) : List V → List NestedKey → Prop
  | nil : KeyAll H [] []
  | cons {v : V} {vs : List V} {k : NestedKey} {ks : List NestedKey} : KeyIs H v k → KeyAll H vs ks → KeyAll H (v :: vs) (k :: ks)
end
section
variable {P : Program} {w : World} {H : Hp} {h : Heap}
mutual
theorem KeyIs.nested (ok : HOk P w H h) : ∀ (k : NestedKey) (v : V) (u : Value), KeyIs H v k → RelV v u → NestedIs h k u
  | .num _, _, _, .num i, r => by
    obtain ⟨t, rfl⟩ := r
    exact .int i t
  | .num _, _, _, .bl b, r => by
    have r' : _ = Value.bool b := r
    subst r'
    exact .bool rfl
  | .tup ks, _, _, .tup (a := a) (xs := xs) e all, r => by
    have r' : _ = Value.ref a := r
    subst r'
    obtain ⟨_, its, rv, o, h1, h2, n, h3⟩ := (show ObjOk P w H h a (.tup xs) from ok a _ e)
    exact .tup h1 h2 h3 (by simpa using KeyAll.nested ok ks xs its all rv)
theorem KeyAll.nested (ok : HOk P w H h) : ∀ (ks : List NestedKey) (vs : List V) (us : List Value), KeyAll H vs ks → Vals vs us → NestedAll h ks us
  | [], _, _, .nil, r => by cases r; exact .nil
  | k :: ks, _, _, .cons a b, r => by
    cases r with
    | cons r1 r2 => exact .cons (KeyIs.nested ok k _ _ a r1) (KeyAll.nested ok ks _ _ b r2)
end
end
/-- an entry: the key, where it stands, the value -/
abbrev NEnt := NestedKey × Addr × V
def NE : List NEnt → List (NestedKey × Addr × Value) → Prop := Paired fun p q => p.1 = q.1 ∧ p.2.1 = q.2.1 ∧ RelV p.2.2 q.2.2
def dnOk (xs : List NEnt) (a : Addr) : Heap → Prop := fun h => (a == sysModules) = false ∧ ∃ ys, NE xs ys ∧ ∃ o es ep, h.get? a = some o ∧ o.ExactDict ∧ o.data = .dict es ep ∧ es.toList = ys.map fun y => (⟨hashN y.1, .ref y.2.1, y.2.2⟩ : DictEntry)
/-- a dict at a -/
def dN (xs : List NEnt) (a : Addr) : HO := .ext (dnOk xs a)
/-- it can be read at a, locked or not -/
def Rdn (H : Hp) (a : Addr) (xs : List NEnt) : Prop := H a = some (dN xs a) ∨ ∃ o, H a = some (.frz o (dN xs a))
/-- what is known of its entries besides -/
structure NOk (H : Hp) (xs : List NEnt) : Prop where
  len : xs.length ≤ sizeLine
  nd : (xs.map (·.1)).Nodup
  key : ∀ x ∈ xs, KeyIs H (.ref x.2.1) x.1 ∧ x.1.depth ≤ 8 ∧ plainK x.1 = true
def getN (xs : List NEnt) (k : NestedKey) : Option V := (xs.find? fun x => decide (x.1 = k)).map (·.2.2)
def putN (xs : List NEnt) (k : NestedKey) (b : Addr) (v : V) : List NEnt := if (getN xs k).isSome = true then xs.map (fun x => if x.1 = k then (x.1, x.2.1, v) else x) else xs ++ [(k, b, v)]
theorem getN_cons (x : NEnt) (xs : List NEnt) (k : NestedKey) : getN (x :: xs) k = if x.1 = k then some x.2.2 else getN xs k := by
  unfold getN
  rw [List.find?_cons]
  by_cases h : x.1 = k <;> simp [h]
theorem atKey_cons (x : NestedKey × Addr × Value) (xs : List (NestedKey × Addr × Value)) (k : NestedKey) : (atKey (x :: xs) k).map (·.2) = if x.1 = k then some x.2.2 else (atKey xs k).map (·.2) := by
  unfold atKey
  rw [List.find?_cons]
  by_cases h : x.1 = k <;> simp [h]
theorem NE.val (k : NestedKey) : ∀ {xs : List NEnt} {ys : List (NestedKey × Addr × Value)}, NE xs ys → RelO (getN xs k) ((atKey ys k).map (·.2))
  | [], _, r => by cases r; exact True.intro
  | x :: xs, _, r => by
    cases r with
    | @cons a b as bs r1 r2 =>
      rw [getN_cons, atKey_cons, ← r1.1]
      by_cases h : x.1 = k
      · rw [if_pos h, if_pos h]; exact r1.2.2
      · rw [if_neg h, if_neg h]; exact NE.val k r2
theorem NE.keys : ∀ {xs : List NEnt} {ys : List (NestedKey × Addr × Value)}, NE xs ys → xs.map (·.1) = ys.map (·.1)
  | [], _, r => by cases r; rfl
  | x :: xs, _, r => by
    cases r with
    | cons r1 r2 => rw [List.map_cons, List.map_cons, r1.1, NE.keys r2]
theorem NE.mem : ∀ {xs : List NEnt} {ys : List (NestedKey × Addr × Value)}, NE xs ys → ∀ y ∈ ys, ∃ x ∈ xs, x.1 = y.1 ∧ x.2.1 = y.2.1
  | [], _, r, y, hy => by cases r; cases hy
  | x :: xs, _, r, y, hy => by
    cases r with
    | cons r1 r2 =>
      obtain z | z := List.mem_cons.mp hy
      · exact ⟨x, List.mem_cons_self, by rw [z]; exact ⟨r1.1, r1.2.1⟩⟩
      · obtain ⟨x', m, e⟩ := NE.mem r2 y z
        exact ⟨x', List.mem_cons_of_mem _ m, e⟩
theorem NE.repl {k : NestedKey} {v : V} {u : Value} (rv : RelV v u) : ∀ {xs : List NEnt} {ys : List (NestedKey × Addr × Value)}, NE xs ys → NE (xs.map fun x => if x.1 = k then (x.1, x.2.1, v) else x) (ys.map (putAt k u))
  | [], _, r => by cases r; exact .nil
  | x :: xs, _, r => by
    cases r with
    | @cons a b as bs r1 r2 =>
      rw [List.map_cons, List.map_cons]
      refine .cons ?_ (NE.repl rv r2)
      unfold putAt
      rw [← r1.1]
      by_cases h : x.1 = k
      · rw [if_pos h, if_pos h]; exact ⟨rfl, r1.2.1, rv⟩
      · rw [if_neg h, if_neg h]; exact r1
theorem NE.snoc {x : NEnt} {y : NestedKey × Addr × Value} (h : x.1 = y.1 ∧ x.2.1 = y.2.1 ∧ RelV x.2.2 y.2.2) : ∀ {xs : List NEnt} {ys : List (NestedKey × Addr × Value)}, NE xs ys → NE (xs ++ [x]) (ys ++ [y])
  | [], _, r => by cases r; exact .cons h .nil
  | z :: xs, _, r => by
    cases r with
    | cons r1 r2 => exact .cons r1 (NE.snoc h r2)
theorem NE.put {k : NestedKey} {b : Addr} {v : V} {u : Value} {xs : List NEnt} {ys : List (NestedKey × Addr × Value)} (r : NE xs ys) (rv : RelV v u) : NE (putN xs k b v) (storedH ys k b u) := by
  have e : (getN xs k).isSome = (atKey ys k).isSome := by
    rw [(NE.val k r).isSome_eq, Option.isSome_map]
  unfold putN storedH
  rw [e]
  by_cases q : (atKey ys k).isSome = true
  · rw [if_pos q, if_pos q]; exact NE.repl rv r
  · rw [if_neg q, if_neg q]; exact NE.snoc ⟨rfl, rfl, rv⟩ r
theorem putN_len (xs : List NEnt) (k : NestedKey) (b : Addr) (v : V) : (putN xs k b v).length ≤ xs.length + 1 := by
  unfold putN
  split
  · rw [List.length_map]; omega
  · rw [List.length_append]; exact Nat.le_refl _
theorem putN_mem {xs : List NEnt} {k : NestedKey} {b : Addr} {v : V} {x : NEnt} (h : x ∈ putN xs k b v) : (∃ y ∈ xs, y.1 = x.1 ∧ y.2.1 = x.2.1) ∨ (x.1 = k ∧ x.2.1 = b) := by
  unfold putN at h
  split at h
  · obtain ⟨y, hy, e⟩ := List.mem_map.mp h
    refine .inl ⟨y, hy, ?_⟩
    rw [← e]
    split <;> exact ⟨rfl, rfl⟩
  · obtain z | z := List.mem_append.mp h
    · exact .inl ⟨x, z, rfl, rfl⟩
    · rw [List.mem_singleton.mp z]
      exact .inr ⟨rfl, rfl⟩
theorem getN_none {k : NestedKey} : ∀ {xs : List NEnt}, (getN xs k).isSome = false → k ∉ xs.map (·.1)
  | [], _ => by simp
  | x :: xs, h => by
    rw [getN_cons] at h
    by_cases e : x.1 = k
    · rw [if_pos e] at h; cases h
    · rw [if_neg e] at h
      rw [List.map_cons, List.mem_cons]
      rintro (z | z)
      · exact e z.symm
      · exact getN_none h z
theorem putN_nd {xs : List NEnt} {k : NestedKey} {b : Addr} {v : V} (h : (xs.map (·.1)).Nodup) : ((putN xs k b v).map (·.1)).Nodup := by
  unfold putN
  split
  · rw [List.map_map]
    have e : ((fun x : NEnt => x.1) ∘ fun x => if x.1 = k then (x.1, x.2.1, v) else x) = fun x => x.1 := by
      funext x
      show (if x.1 = k then (x.1, x.2.1, v) else x).1 = x.1
      split <;> rfl
    rw [e]
    exact h
  · rename_i q
    rw [List.map_append]
    refine List.nodup_append.mpr ⟨h, by simp, fun y hy z hz e => ?_⟩
    rw [List.map_singleton, List.mem_singleton] at hz
    subst hz e
    exact getN_none (by simpa using q) hy
section
variable {X : Cx} {pins : List (Addr × Obj)} {σ : L2.St} {H : Hp} {s : Shared}
theorem dn_of (I : L2.Inv X pins σ H s) {a : Addr} {xs : List NEnt} (e : Rdn H a xs) (ok : NOk H xs) : (a == sysModules) = false ∧ ∃ ys, NE xs ys ∧ s.heap.DictOfH (nestedKind X.prog X.w) a ys := by
  obtain ⟨⟨hd, ys, r, o, es, ep, h1, h2, h3, h4⟩, _, _⟩ := (show ObjOk X.prog X.w H s.heap a (dN xs a) from by
    rcases e with e | ⟨od, e⟩
    · exact I.hok a _ e
    · exact (show ObjOk X.prog X.w H s.heap a (.frz od (dN xs a)) from I.hok a _ e).2)
  refine ⟨hd, ys, r, o, es, ep, h1, h2, h3, ?_, fun y hy => ?_, by rw [← r.keys]; exact ok.nd⟩
  · rw [h4]
    refine List.map_congr_left fun y hy => ?_
    obtain ⟨x, hx, e1, _⟩ := r.mem y hy
    unfold entryOfKey
    show (⟨hashN y.1, _, _⟩ : DictEntry) = ⟨y.1.hash X.w, _, _⟩
    rw [hash_plain X.w y.1 (by rw [← e1]; exact (ok.key x hx).2.2)]
  · obtain ⟨x, hx, e1, e2⟩ := r.mem y hy
    obtain ⟨k1, k2, _⟩ := ok.key x hx
    rw [← e1, ← e2]
    exact ⟨KeyIs.nested I.hok x.1 _ _ k1 rfl, k2⟩
theorem dn_ok {a : Addr} {xs : List NEnt} {h : Heap} (p : dnOk xs a h) {P : Program} {w : World} {H : Hp} : ObjOk P w H h a (dN xs a) := by
  refine ⟨p, ?_, fun h1 h2 p1 k => ?_⟩
  · obtain ⟨_, _, _, o, _, _, e, _⟩ := p
    exact ⟨o, e⟩
  · obtain ⟨hd, ys, r, o, es, ep, e1, e2⟩ := p1
    exact ⟨hd, ys, r, o, es, ep, k o e1, e2⟩
/-- {} -/
def tDNewN : TE := fun _ H Q => ∀ p, H p = none → Q (.ref p) (upd H p (dN [] p))
theorem pe_dnewN {pos : Pos} : PE X (.Dict [] [] pos) tDNewN := ⟨fun pins s σ H Q I h =>
  wpAny_Dict_empty ⟨.ref s.heap.objs.size, _, I.laid (a := s.heap.objs.size) (o := dN [] s.heap.objs.size) (t' := s.toks) (fun _ _ q => Heap.get?_push_of_some _ q) (Nat.le_refl _)
    (dn_ok ⟨beq_eq_false_iff_ne.mpr (Ne.symm (Nat.ne_of_lt I.big)), [], .nil, _, #[], 0, Heap.get?_push_size _ rfl, ⟨rfl, rfl, rfl⟩, rfl, rfl⟩), rfl, h _ (I.hok.fresh (Nat.le_refl _))⟩⟩
/-- the dict at a, asked for the key that stands at b -/
def NAsk (H : Hp) (a b : Addr) (xs : List NEnt) (k : NestedKey) : Prop := Rdn H a xs ∧ NOk H xs ∧ KeyIs H (.ref b) k ∧ k.depth ≤ 8 ∧ plainK k = true
/-- d[y] -/
def tNGet (td ty : TE) : TE := fun σ H Q => td σ H fun x H1 => ty σ H1 fun y H2 => ∃ a b xs k v, x = .ref a ∧ y = .ref b ∧ NAsk H2 a b xs k ∧ getN xs k = some v ∧ Q v H2
/-- y in d, y not in d -/
def tNIn (ty td : TE) : TE := fun σ H Q => ty σ H fun y H1 => td σ H1 fun x H2 => ∃ a b xs k, x = .ref a ∧ y = .ref b ∧ NAsk H2 a b xs k ∧ Q (.bl (getN xs k).isSome) H2
def tNNotIn (ty td : TE) : TE := fun σ H Q => ty σ H fun y H1 => td σ H1 fun x H2 => ∃ a b xs k, x = .ref a ∧ y = .ref b ∧ NAsk H2 a b xs k ∧ Q (.bl (!(getN xs k).isSome)) H2
/-- d[y] = v -/
def sNPut (td ty tv : TE) : TS := fun D σ H => tv σ H fun v H1 => td σ H1 fun x H2 => ty σ H2 fun y H3 => ∃ a b xs k, x = .ref a ∧ y = .ref b ∧ NAsk H3 a b xs k ∧ H3 a = some (dN xs a) ∧ xs.length < sizeLine ∧ D.nx σ (upd H3 a (dN (putN xs k b v) a))
variable {o i e value : Expr} {pos pos' tpos : Pos} {td ty tv : TE}
theorem nroom {A : Around} (hu : A.units + 65 < cLine) : A.in1.units + 8 < cLine := by show A.units + 1 + 8 < cLine; omega
theorem pe_nget (hu : X.A.units + 65 < cLine) (ho : PE X o td) (hi : PE X i ty) (hs : NoSl i) : PE X (.Subscript o i pos) (tNGet td ty) := by
  refine ⟨fun pins s σ H Q I h => ?_⟩
  refine subD_of PySem.F.slot_dict_getitem.lookup hs (thn (ho.run pins s σ H _ I h) fun u s1 ⟨x, H1, I1, rx, q1⟩ => thn (hi.run pins s1 σ H1 _ I1 q1) fun iv s2 ⟨y, H2, I2, ry, a, b, xs, k, v, ex, ey, ⟨ea, ok, kb, dp, pl⟩, g, q2⟩ => ?_)
  subst ex ey
  obtain rfl : u = Value.ref a := rx
  obtain rfl : iv = Value.ref b := ry
  obtain ⟨hd, ys, r, dd⟩ := dn_of I2 ea ok
  obtain ⟨w', hw, rw'⟩ := RelO.some_of (v := v) (o := (atKey ys k).map (·.2)) (by rw [← g]; exact r.val k)
  obtain ⟨p, hp, hp2⟩ := Option.map_eq_some_iff.mp hw
  refine ⟨dd.typeIs, wpAny_getItem_heap (knd := nestedKind X.prog X.w) (nroom hu) ⟨KeyIs.nested I2.hok k _ _ kb rfl, dp⟩ dd hp ?_⟩
  rw [hp2]
  exact ⟨v, H2, I2.tok _, rw', q2⟩
theorem pc_nin (hu : X.A.units + 65 < cLine) (hi : PE X i ty) (ho : PE X o td) : PC X .In i o (tNIn ty td) := by
  refine ⟨fun pins s σ H Q I h => ?_⟩
  refine thn (hi.run pins s σ H _ I h) fun iv s1 ⟨y, H1, I1, ry, q1⟩ => thn (ho.run pins s1 σ H1 _ I1 q1) fun u s2 ⟨x, H2, I2, rx, a, b, xs, k, ex, ey, ⟨ea, ok, kb, dp, pl⟩, q2⟩ => ?_
  subst ex ey
  obtain rfl : u = Value.ref a := rx
  obtain rfl : iv = Value.ref b := ry
  obtain ⟨hd, ys, r, dd⟩ := dn_of I2 ea ok
  refine wpAny_in_heap (knd := nestedKind X.prog X.w) (nroom hu) ⟨KeyIs.nested I2.hok k _ _ kb rfl, dp⟩ hd dd ?_
  have q := (r.val k).isSome_eq
  rw [Option.isSome_map] at q
  rw [← q]
  exact ⟨.bl _, H2, I2.tok _, rfl, q2⟩
theorem pc_nnotin (hu : X.A.units + 65 < cLine) (hi : PE X i ty) (ho : PE X o td) : PC X .NotIn i o (tNNotIn ty td) := by
  refine ⟨fun pins s σ H Q I h => ?_⟩
  refine thn (hi.run pins s σ H _ I h) fun iv s1 ⟨y, H1, I1, ry, q1⟩ => thn (ho.run pins s1 σ H1 _ I1 q1) fun u s2 ⟨x, H2, I2, rx, a, b, xs, k, ex, ey, ⟨ea, ok, kb, dp, pl⟩, q2⟩ => ?_
  subst ex ey
  obtain rfl : u = Value.ref a := rx
  obtain rfl : iv = Value.ref b := ry
  obtain ⟨hd, ys, r, dd⟩ := dn_of I2 ea ok
  refine wpAny_notIn_heap (knd := nestedKind X.prog X.w) (nroom hu) ⟨KeyIs.nested I2.hok k _ _ kb rfl, dp⟩ hd dd ?_
  have q := (r.val k).isSome_eq
  rw [Option.isSome_map] at q
  rw [← q]
  exact ⟨.bl _, H2, I2.tok _, rfl, q2⟩
theorem ps_nput (hu : X.A.units + 65 < cLine) (ho : PE X o td) (hi : PE X i ty) (hv : PE X value tv) (hs : swapsWith value (some (.Subscript o i pos')) pos.line X.env = pure false) :
    PS X (.Assign [.Subscript o i pos'] value pos) (sNPut td ty tv) := by
  refine ⟨fun pins s σ H D I h => ?_⟩
  refine wpAny_Assign_Subscript (hs := hs) (thn (hv.run pins s σ H _ I h) fun r s1 ⟨v, H1, I1, rv, q1⟩ => thn (ho.run pins s1 σ H1 _ I1 q1) fun u s2 ⟨x, H2, I2, rx, q2⟩ => thn (hi.run pins s2 σ H2 _ I2 q2) fun iv s3 ⟨y, H3, I3, ry, a, b, xs, k, ex, ey, ⟨_, ok, kb, dp, pl⟩, ea, hl, q3⟩ => ?_)
  subst ex ey
  obtain rfl : u = Value.ref a := rx
  obtain rfl : iv = Value.ref b := ry
  obtain ⟨hd, ys, rel, dd⟩ := dn_of I3 (.inl ea) ok
  have hz : ys.length ≤ sizeLine := by have := congrArg List.length rel.keys; rw [List.length_map, List.length_map] at this; omega
  refine wpAny_setItem_heap (knd := nestedKind X.prog X.w) (hsz := hz) (nroom hu) ⟨KeyIs.nested I3.hok k _ _ kb rfl, dp⟩ dd fun h' dd' hs' => ?_
  obtain ⟨ob, es, ep, hq, h2, h3, h4, h6, h5⟩ := dd'
  refine ⟨σ, _, d_write I3 (by rw [ea]; exact True.intro) hs' ⟨ob, hq⟩ (dn_ok ⟨hd, _, rel.put rv, ob, es, ep, hq, h2, h3, ?_⟩), q3⟩
  rw [h4]
  refine List.map_congr_left fun y hy => ?_
  unfold entryOfKey
  show (⟨y.1.hash X.w, _, _⟩ : DictEntry) = ⟨hashN y.1, _, _⟩
  obtain ⟨x, hx, e1, _⟩ := (NE.put (k := k) (b := b) rel rv).mem y hy
  rw [hash_plain X.w y.1]
  rw [← e1]
  obtain ⟨z, hz, e, _⟩ | ⟨e, _⟩ := putN_mem hx
  · rw [← e]; exact (ok.key z hz).2.2
  · rw [e]; exact pl
end

/-! ### the same, typed -/
/-- data that may be keys -/
class NK (κ : Type) [Rp κ] where
  nk : κ → NestedKey
  inj : ∀ {x y : κ}, nk x = nk y → x = y
  dep : Nat
  dle : ∀ x, (nk x).depth ≤ dep
  pl : ∀ x, plainK (nk x) = true
  isK : ∀ {ms : Ms} {H : Hp} {v : V} {x : κ}, rp ms H v x → KeyIs H v (nk x)
/-- keys that stand on the heap -/
class NKR (κ : Type) [Rp κ] : Prop where
  ref : ∀ {ms : Ms} {H : Hp} {v : V} {x : κ}, rp ms H v x → ∃ b, v = .ref b
open NK (nk)
instance nkInt : NK Int := ⟨.num, fun h => by cases h; rfl, 0, fun _ => by rw [NestedKey.depth]; exact Nat.le_refl _, fun _ => by rw [plainK], fun h => by have h' : _ = V.int _ := h; subst h'; exact .num _⟩
theorem nkb_inj (x y : Bool) (h : NestedKey.num (if x = true then 1 else 0) = .num (if y = true then 1 else 0)) : x = y := by
  injection h with h
  cases x <;> cases y <;> simp at h ⊢
instance nkBool : NK Bool := ⟨fun b => .num (if b = true then 1 else 0), fun {x y} h => nkb_inj x y h, 0, fun _ => by rw [NestedKey.depth]; exact Nat.le_refl _, fun _ => by rw [plainK], fun h => by have h' : _ = V.bl _ := h; subst h'; exact .bl _⟩
section
variable {α β γ : Type} [Rp α] [NK α] [Rp β] [NK β] [Rp γ] [NK γ]
instance nkPair : NK (α × β) := ⟨fun x => .tup [nk x.1, nk x.2], fun {x y} h => by
  injection h with h
  injection h with h1 h
  injection h with h2 h
  exact Prod.ext (NK.inj h1) (NK.inj h2), max (NK.dep α) (NK.dep β) + 1, fun x => by
  have h1 := NK.dle x.1
  have h2 := NK.dle x.2
  rw [NestedKey.depth, NestedKey.depthAll, NestedKey.depthAll, NestedKey.depthAll]
  omega, fun x => by rw [plainK, plainAll, plainAll, plainAll, NK.pl, NK.pl]; rfl,
  fun ⟨a, u, w, e, _, eh, r1, r2⟩ => by subst e; exact .tup eh (.cons (NK.isK r1) (.cons (NK.isK r2) .nil))⟩
instance nkrPair : NKR (α × β) := ⟨fun ⟨a, _, _, e, _⟩ => ⟨a, e⟩⟩
end
/-- a tuple of as many items as it has -/
structure VT (α : Type) : Type where
  l : List α
deriving DecidableEq
instance instRpVT {α : Type} [Rp α] : Rp (VT α) := ⟨fun ms H v x => ∃ a vs, v = .ref a ∧ a ∉ ms ∧ H a = some (.tup vs) ∧ RL (rp ms H) vs x.l ∧ vs.length ≤ sizeLine, fun {ms ms' H H' v x} h M => by
  obtain ⟨a, vs, rfl, n, e, r, l⟩ := h
  obtain ⟨n', e'⟩ := M a _ n e
  exact ⟨a, vs, rfl, n', e', r.imp fun _ _ z => Rp.mv z M, l⟩⟩
section
variable {α : Type} [Rp α] [NK α]
theorem nk_all : ∀ xs : List α, NestedKey.depthAll (xs.map nk) ≤ NK.dep α ∧ plainAll (xs.map nk) = true
  | [] => by rw [List.map_nil, NestedKey.depthAll, plainAll]; exact ⟨Nat.zero_le _, rfl⟩
  | x :: xs => by
    obtain ⟨h1, h2⟩ := nk_all xs
    have h3 := NK.dle x
    rw [List.map_cons, NestedKey.depthAll, plainAll, NK.pl, h2]
    exact ⟨by omega, rfl⟩
theorem nk_inj : ∀ {xs ys : List α}, xs.map nk = ys.map nk → xs = ys
  | [], [], _ => rfl
  | [], _ :: _, h => by cases h
  | _ :: _, [], h => by cases h
  | x :: xs, y :: ys, h => by
    injection h with h1 h2
    rw [NK.inj h1, nk_inj h2]
theorem nk_keys {ms : Ms} {H : Hp} : ∀ {vs : List V} {xs : List α}, RL (rp ms H) vs xs → KeyAll H vs (xs.map nk)
  | [], [], _ => .nil
  | _ :: _, _ :: _, ⟨a, b⟩ => .cons (NK.isK a) (nk_keys b)
instance nkVT : NK (VT α) := ⟨fun x => .tup (x.l.map nk), fun {x y} h => by
  injection h with h
  have e := nk_inj h
  cases x; cases y
  exact congrArg VT.mk e, NK.dep α + 1, fun x => by rw [NestedKey.depth]; have := (nk_all x.l).1; omega, fun x => by rw [plainK]; exact (nk_all x.l).2,
  fun ⟨a, vs, e, _, eh, r, _⟩ => by subst e; exact .tup eh (nk_keys r)⟩
instance nkrVT : NKR (VT α) := ⟨fun ⟨a, _, e, _⟩ => ⟨a, e⟩⟩
end
/-- a dict with such keys -/
structure DN (κ β : Type) : Type where
  m : List (κ × β)
def getM {κ β : Type} [DecidableEq κ] (m : List (κ × β)) (k : κ) : Option β := (m.find? fun p => decide (p.1 = k)).map (·.2)
def putM {κ β : Type} [DecidableEq κ] (m : List (κ × β)) (k : κ) (x : β) : List (κ × β) := if (getM m k).isSome = true then m.map (fun p => if p.1 = k then (p.1, x) else p) else m ++ [(k, x)]
def putD {κ β : Type} [DecidableEq κ] (d : DN κ β) (k : κ) (x : β) : Option (DN κ β) := if d.m.length < sizeLine then some ⟨putM d.m k x⟩ else none
theorem getM_cons {κ β : Type} [DecidableEq κ] (p : κ × β) (m : List (κ × β)) (k : κ) : getM (p :: m) k = if p.1 = k then some p.2 else getM m k := by
  unfold getM
  rw [List.find?_cons]
  by_cases h : p.1 = k <;> simp [h]
section
variable {κ β : Type} [DecidableEq κ] [Rp κ] [NK κ] [Rp β]
/-- entry by entry -/
def RE (ms : Ms) (H : Hp) : List NEnt → List (κ × β) → Prop
  | [], [] => True
  | x :: xs, p :: m => (x.1 = nk p.1 ∧ rp ms H (.ref x.2.1) p.1 ∧ rp ms H x.2.2 p.2) ∧ RE ms H xs m
  | _, _ => False
theorem RE.mv {ms ms' : Ms} {H H' : Hp} (M : Mv ms H ms' H') : ∀ {xs : List NEnt} {m : List (κ × β)}, RE ms H xs m → RE ms' H' xs m
  | [], [], _ => trivial
  | _ :: _, _ :: _, ⟨⟨a, b, c⟩, r⟩ => ⟨⟨a, Rp.mv b M, Rp.mv c M⟩, RE.mv M r⟩
theorem RE.len {ms : Ms} {H : Hp} : ∀ {xs : List NEnt} {m : List (κ × β)}, RE ms H xs m → xs.length = m.length
  | [], [], _ => rfl
  | _ :: _, _ :: _, ⟨_, r⟩ => by rw [List.length_cons, List.length_cons, RE.len r]
theorem RE.get {ms : Ms} {H : Hp} (k : κ) : ∀ {xs : List NEnt} {m : List (κ × β)}, RE ms H xs m → (getN xs (nk k)).isSome = (getM m k).isSome ∧ ∀ x, getM m k = some x → ∃ v, getN xs (nk k) = some v ∧ rp ms H v x
  | [], [], _ => ⟨rfl, fun x h => by cases h⟩
  | x :: xs, p :: m, ⟨⟨a, b, c⟩, r⟩ => by
    rw [getN_cons, getM_cons, a]
    by_cases e : p.1 = k
    · rw [if_pos (by rw [e]), if_pos e]
      exact ⟨rfl, fun y hy => ⟨_, rfl, by cases hy; exact c⟩⟩
    · rw [if_neg (fun z => e (NK.inj z)), if_neg e]
      exact RE.get k r
theorem RE.repl {ms : Ms} {H : Hp} {k : κ} {v : V} {y : β} (rv : rp ms H v y) : ∀ {xs : List NEnt} {m : List (κ × β)}, RE ms H xs m → RE ms H (xs.map fun x => if x.1 = nk k then (x.1, x.2.1, v) else x) (m.map fun p => if p.1 = k then (p.1, y) else p)
  | [], [], _ => trivial
  | x :: xs, p :: m, ⟨⟨a, b, c⟩, r⟩ => by
    refine ⟨?_, RE.repl rv r⟩
    dsimp only
    by_cases e : p.1 = k
    · rw [if_pos (by rw [a, e]), if_pos e]; exact ⟨a, b, rv⟩
    · rw [if_neg (fun z => e (NK.inj (a.symm.trans z))), if_neg e]; exact ⟨a, b, c⟩
theorem RE.snoc {ms : Ms} {H : Hp} {x : NEnt} {p : κ × β} (h : x.1 = nk p.1 ∧ rp ms H (.ref x.2.1) p.1 ∧ rp ms H x.2.2 p.2) : ∀ {xs : List NEnt} {m : List (κ × β)}, RE ms H xs m → RE ms H (xs ++ [x]) (m ++ [p])
  | [], [], _ => ⟨h, trivial⟩
  | _ :: _, _ :: _, ⟨a, r⟩ => ⟨a, RE.snoc h r⟩
theorem RE.put {ms : Ms} {H : Hp} {k : κ} {b : Addr} {v : V} {y : β} {xs : List NEnt} {m : List (κ × β)} (r : RE ms H xs m) (rk : rp ms H (.ref b) k) (rv : rp ms H v y) : RE ms H (putN xs (nk k) b v) (putM m k y) := by
  unfold putN putM
  rw [(RE.get k r).1]
  split
  · exact RE.repl rv r
  · exact RE.snoc ⟨rfl, rk, rv⟩ r
theorem RE.ok {ms : Ms} {H : Hp} (h8 : NK.dep κ ≤ 8) : ∀ {xs : List NEnt} {m : List (κ × β)}, RE ms H xs m → ∀ x ∈ xs, KeyIs H (.ref x.2.1) x.1 ∧ x.1.depth ≤ 8 ∧ plainK x.1 = true
  | [], [], _, x, hx => by cases hx
  | y :: xs, p :: m, ⟨⟨a, b, c⟩, r⟩, x, hx => by
    obtain z | z := List.mem_cons.mp hx
    · subst z
      rw [a]
      exact ⟨NK.isK b, Nat.le_trans (NK.dle p.1) h8, NK.pl p.1⟩
    · exact RE.ok h8 r x z
/-- a dict stands at a -/
def Dn (ms : Ms) (H : Hp) (a : Addr) (d : DN κ β) : Prop := ∃ xs, H a = some (dN xs a) ∧ RE ms H xs d.m ∧ xs.length ≤ sizeLine ∧ (xs.map (·.1)).Nodup
instance instRpDN : Rp (DN κ β) := ⟨fun ms H v d => ∃ a, v = .ref a ∧ a ∉ ms ∧ Dn ms H a d, fun {ms ms' H H' v x} h M => by
  obtain ⟨a, rfl, n, xs, e, r, l, nd⟩ := h
  obtain ⟨n', e'⟩ := M a _ n e
  exact ⟨a, rfl, n', xs, e', r.mv M, l, nd⟩⟩
variable {B ms ms' : Ms} {H H' : Hp} {a m p : Addr} {d : DN κ β}
theorem Dn.step (h : Dn ms H a d) (M : Mv ms H ms' H') (e : ∀ o, H a = some o → H' a = some o) : Dn ms' H' a d := let ⟨xs, e1, r, l, nd⟩ := h; ⟨xs, e _ e1, r.mv M, l, nd⟩
theorem Dn.bu (h : Dn ms H a d) (hB : ∀ a ∈ B, a ∈ ms) (n : a ∉ B) (s : Bu B H H') : Dn ms H' a d := h.step (Mv.bu hB s) fun o e => s.1 a o n e
theorem Dn.less (h : Dn ms H a d) (l : ∀ a ∈ ms', a ∈ ms) : Dn ms' H a d := h.step (Mv.less l) fun o e => e
theorem Dn.alive (h : Dn ms H a d) : H a ≠ none := by obtain ⟨xs, e, _⟩ := h; rw [e]; exact fun z => by cases z
theorem Dn.ne (h : Dn ms H a d) (np : H p = none) : a ≠ p := fun z => h.alive (z ▸ np)
theorem Dn.lt {H0 : Hp} (h : Dn ms H0 a d) (n : a ∉ B) (L : Lt B ms H0 ms' H) : Dn ms' H a d := h.step L.M fun o e => L.S a o n e
/-- such a dict that can be read at a -/
def Er2 (ms : Ms) (H : Hp) (a : Addr) (d : DN κ β) : Prop := ∃ xs, Rdn H a xs ∧ RE ms H xs d.m ∧ xs.length ≤ sizeLine ∧ (xs.map (·.1)).Nodup
theorem Dn.er (h : Dn ms H a d) : Er2 ms H a d := let ⟨xs, e, r, l, nd⟩ := h; ⟨xs, .inl e, r, l, nd⟩
theorem Er2.bu (h : Er2 ms H a d) (hB : ∀ a ∈ B, a ∈ ms) (n : a ∉ B) (s : Bu B H H') : Er2 ms H' a d := by
  obtain ⟨xs, e, r, l, nd⟩ := h
  refine ⟨xs, ?_, r.mv (Mv.bu hB s), l, nd⟩
  rcases e with e | ⟨o, e⟩
  · exact .inl (s.1 _ _ n e)
  · exact .inr ⟨o, s.1 _ _ n e⟩
/-- such a dict to be read, frozen or not -/
def Ed2 (B ms : Ms) (te : TE) (σ : L2.St) (H0 : Hp) (p : Hq) (d : DN κ β) (q : Hq) : Prop :=
  ∀ H, Bu B H0 H → p ms H → ∀ Q : VK, (∀ a H', Bu B H H' → q ms H' → a ∉ B → Er2 ms H' a d → Q (.ref a) H') → te σ H Q
end
section
variable {κ β : Type} [DecidableEq κ] [Rp κ] [NK κ] [NKR κ] [Rp β] {B ms : Ms} {σ : L2.St} {H0 : Hp} {p q r : Hq} {ta tb te : TE} {d d' : DN κ β} {i : κ} {x : β}
theorem ed2_of (hB : ∀ a ∈ B, a ∈ ms) (h : Ex B ms te σ H0 p d q) : Ed2 B ms te σ H0 p d q := fun H b hp Q k => h H b hp _ fun v H1 b1 q1 ⟨a, e, n, l⟩ => by
  subst e
  exact k a H1 b1 q1 (fun z => n (hB a z)) (Dn.er l)
theorem ed2_var {n : Nat} {a : Addr} (W : Wd B ms H0) (hs : σ[n]? = some (some (.ref a))) (nB : a ∉ B) (h : Dn ms H0 a d) : Ed2 B ms (tVar n) σ H0 p d p := fun H b hp Q k => ⟨_, hs, k a H (Bu.refl B H) hp nB (h.bu W.hB nB b).er⟩
theorem nask (h8 : NK.dep κ ≤ 8) {H : Hp} {a : Addr} {v : V} (l : Er2 ms H a d) (rv : rp ms H v i) : ∃ b xs, v = .ref b ∧ NAsk H a b xs (nk i) ∧ RE ms H xs d.m ∧ xs.length = d.m.length := by
  obtain ⟨xs, e, r, ll, nd⟩ := l
  obtain ⟨b, eb⟩ := NKR.ref rv
  subst eb
  exact ⟨b, xs, rfl, ⟨e, ⟨ll, nd, r.ok h8⟩, NK.isK rv, Nat.le_trans (NK.dle i) h8, NK.pl i⟩, r, r.len⟩
theorem ex_nget (h8 : NK.dep κ ≤ 8) (h1 : Ed2 B ms ta σ H0 p d q) (h2 : Ex B ms tb σ H0 q i r) (W : Wd B ms H0) (e : getM d.m i = some x) : Ex B ms (tNGet ta tb) σ H0 p x r := fun H b hp Q k => h1 H b hp _ fun a H1 b1 q1 na l1 => h2 H1 (b.trans b1) q1 _ fun u H2 b2 q2 r2 => by
  obtain ⟨c, xs, eb, A, R, _⟩ := nask h8 (l1.bu W.hB na b2) r2
  obtain ⟨v, hv, rv⟩ := (R.get i).2 x e
  exact ⟨a, c, xs, _, v, rfl, eb, A, hv, k v H2 (b1.trans b2) q2 rv⟩
theorem ex_nin (h8 : NK.dep κ ≤ 8) (W : Wd B ms H0) (h1 : Ex B ms ta σ H0 p i q) (h2 : Ed2 B ms tb σ H0 q d r) : Ex B ms (tNIn ta tb) σ H0 p (getM d.m i).isSome r := fun H b hp Q k => h1 H b hp _ fun u H1 b1 q1 r1 => h2 H1 (b.trans b1) q1 _ fun a H2 b2 q2 na l2 => by
  obtain ⟨c, xs, eb, A, R, _⟩ := nask h8 l2 (Rp.mv r1 (Mv.bu W.hB b2))
  refine ⟨a, c, xs, _, rfl, eb, A, ?_⟩
  rw [(R.get i).1]
  exact k _ H2 (b1.trans b2) q2 rfl
theorem ex_nnotin (h8 : NK.dep κ ≤ 8) (W : Wd B ms H0) (h1 : Ex B ms ta σ H0 p i q) (h2 : Ed2 B ms tb σ H0 q d r) : Ex B ms (tNNotIn ta tb) σ H0 p (!(getM d.m i).isSome) r := fun H b hp Q k => h1 H b hp _ fun u H1 b1 q1 r1 => h2 H1 (b.trans b1) q1 _ fun a H2 b2 q2 na l2 => by
  obtain ⟨c, xs, eb, A, R, _⟩ := nask h8 l2 (Rp.mv r1 (Mv.bu W.hB b2))
  refine ⟨a, c, xs, _, rfl, eb, A, ?_⟩
  rw [(R.get i).1]
  exact k _ H2 (b1.trans b2) q2 rfl
/-- {} -/
theorem nn_mk {H : Hp} {Q : VK} (κ β : Type) [DecidableEq κ] [Rp κ] [NK κ] [Rp β] (W : Wd B ms H) (hq : Sb B q) (hp : q ms H) (k : ∀ a H', Bu B H H' → H a = none → q (a :: ms) H' → Wd B (a :: ms) H' → Mv ms H (a :: ms) H' → Dn (a :: ms) H' a (⟨[]⟩ : DN κ β) → Q (.ref a) H') : tDNewN σ H Q := fun a na => by
  have s := same_upd (o := dN [] a) na
  have e : (upd H a (dN [] a)) a = some (dN [] a) := upd_same
  have M : Mv ms H (a :: ms) (upd H a (dN [] a)) := Mv.new na s
  have D : Dn (a :: ms) (upd H a (dN [] a)) a (⟨[]⟩ : DN κ β) := ⟨[], e, trivial, Nat.zero_le _, List.nodup_nil⟩
  exact k a _ (Bu.same s) na (hq.new na s hp) (W.new (Bu.same s) D.alive) M D
/-- d[e] = e -/
theorem s_nput {D : Ends} {H : Hp} {n : Nat} {m : Addr} (h8 : NK.dep κ ≤ 8) (W : Wd B ms H) (hs : σ[n]? = some (some (.ref m))) (l : Dn ms H m d) (hm : m ∈ ms) (nB : m ∉ B) (hq : Sb B r) (hv : Ex B ms ta σ H p x q) (hk : Ex B ms tb σ H q i r) (hp : p ms H) (e : putD d i x = some d')
    (k : ∀ H', Bu (m :: B) H H' → r ms H' → Wd B ms H' → Mv ms H ms H' → Dn ms H' m d' → D.nx σ H') : sNPut (tVar n) tb ta D σ H := by
  refine hv H (Bu.refl B H) hp _ fun v H1 b1 q1 rv => ⟨_, hs, hk H1 b1 q1 _ fun u H2 b2 q2 r2 => ?_⟩
  unfold putD at e
  split at e
  · rename_i hl
    cases e
    have b3 := b1.trans b2
    obtain ⟨xs, em, R, ll, nd⟩ := l.bu W.hB nB b3
    have hlen := R.len
    obtain ⟨c, eb⟩ := NKR.ref r2
    subst eb
    have A : NAsk H2 m c xs (nk i) := ⟨.inl em, ⟨ll, nd, R.ok h8⟩, NK.isK r2, Nat.le_trans (NK.dle i) h8, NK.pl i⟩
    refine ⟨m, c, xs, _, rfl, rfl, A, em, by omega, ?_⟩
    have u2 : But m H2 (upd H2 m (dN (putN xs (nk i) c v) m)) := But.upd
    have h2 : (upd H2 m (dN (putN xs (nk i) c v) m)) m = some (dN (putN xs (nk i) c v) m) := upd_same
    have W1 := W.bu b3
    have M1 : Mv ms H2 ms (upd H2 m (dN (putN xs (nk i) c v) m)) := Mv.but hm u2
    have rv2 : rp ms H2 v x := Rp.mv rv (Mv.bu W.hB b2)
    refine k _ ⟨fun a o n e => ?_, fun a e => ?_⟩ ?_ ⟨W.hB, W1.al.but u2 h2⟩ ((W.mv b3).trans M1) ⟨_, h2, (R.put r2 rv2).mv M1, ?_, putN_nd A.2.1.nd⟩
    · have n' := notc n
      exact u2 _ _ n'.1 (b3.1 _ _ n'.2 e)
    · by_cases qm : a = m
      · rw [qm, h2]; exact fun z => by cases z
      · have := b3.2 a e
        cases h' : H2 a with
        | none => exact absurd h' this
        | some o' => rw [u2 a o' qm h']; exact fun z => by cases z
    · exact hq _ _ _ _ q2 M1 fun a ha o e => u2 _ _ (nab ha nB) e
    · have := putN_len xs (nk i) c v
      omega
  · cases e
end

/-! ### reversed(range(n)) -/
section
variable {K : PySem.W.Frag} {B ms : Ms} {σ : L2.St} {H0 : Hp} {p q : Hq} {te : TE}
theorem itok_rngC {lo c : Int} {n : Nat} : ItOk (Itc lo c n) Tr ((List.range n).map fun i : Nat => lo + (i : Int) * c) := fun i ms H _ al => ⟨fun h => by
  have h' : n ≤ i := by simpa using h
  exact h', fun x ex => by
  rw [List.getElem?_map] at ex
  obtain ⟨j, ej, rfl⟩ := Option.map_eq_some_iff.mp ex
  obtain ⟨hj, e⟩ := List.getElem?_eq_some_iff.mp ej
  rw [List.getElem_range] at e
  rw [List.length_range] at hj
  subst e
  refine ⟨hj, fun u H' ⟨eH, h⟩ => ?_⟩
  subst eH
  exact ⟨fun _ _ z => z, h⟩⟩
def rrg1 (j : Int) : Option (List Int) := if -(2 ^ 62) ≤ j ∧ j < 2 ^ 62 ∧ j.toNat ≤ sizeLine then some (rngL 0 j.toNat).reverse else none
theorem rev_rng (n : Nat) : ((List.range n).map fun i : Nat => ((n : Int) - 1) + (i : Int) * (-1)) = (rngL 0 n).reverse := by
  apply List.ext_getElem?
  intro i
  rw [List.getElem?_map]
  by_cases h : i < n
  · rw [List.getElem?_range h, List.getElem?_reverse (by simp [rngL]; exact h)]
    unfold rngL
    rw [List.getElem?_map, List.length_map, List.length_range, List.getElem?_range (by omega)]
    simp
    omega
  · rw [List.getElem?_eq_none (by simpa using h), List.getElem?_eq_none (by simpa [rngL] using h)]
    rfl
theorem ei_rrg1 {j : Int} {xs : List Int} (h : Ex B ms te σ H0 p j q) (e : rrg1 j = some xs) : Ei B ms (iRevR (tRg1 te)) σ H0 p xs q := fun H b hp R k => h H b hp _ fun v H1 b1 q1 r1 => by
  have r1' : v = .int j := r1
  subst r1'
  unfold rrg1 at e
  split at e
  · rename_i hl
    cases e
    refine ⟨j, rfl, by decide, by decide, hl.1, hl.2.1, ?_⟩
    refine k _ Tr H1 b1 q1 nst_tr trivial ?_
    have I := itok_rngC (lo := 0 + (((j - 0).toNat : Nat) : Int) - 1) (c := -1) (n := (j - 0).toNat)
    have e2 : ((List.range (j - 0).toNat).map fun i : Nat => (0 + (((j - 0).toNat : Nat) : Int) - 1) + (i : Int) * (-1)) = (rngL 0 j.toNat).reverse := by
      rw [← rev_rng]
      simp
    rw [e2] at I
    exact I
  · cases e
end
/-! ### min of a list of data -/
def minF {α : Type} [DecidableEq α] [Enc α] : List α → Option α
  | [] => none
  | x :: xs => some (xs.foldl (fun a y => if PySem.W.dataLt (Enc.enc y) (Enc.enc a) then y else a) x)
theorem minF_enc {α : Type} [DecidableEq α] [Enc α] : ∀ (xs : List α) (x : α), PySem.W.minD (Enc.enc x) (xs.map Enc.enc) = Enc.enc (xs.foldl (fun a y => if PySem.W.dataLt (Enc.enc y) (Enc.enc a) then y else a) x)
  | [], x => rfl
  | y :: xs, x => by
    rw [List.map_cons, List.foldl_cons, ← minF_enc xs]
    show PySem.W.minD (if PySem.W.dataLt (Enc.enc y) (Enc.enc x) then Enc.enc y else Enc.enc x) (xs.map Enc.enc) = _
    split <;> rfl
theorem enc_inj {α : Type} [DecidableEq α] [Enc α] {x y : α} (h : Enc.enc x = Enc.enc y) : x = y := by
  have e := Enc.eqv x y
  rw [h, Enc.eqv y y] at e
  simpa using e.symm
/-- min(xs): an item that encodes the least -/
def rMinE (K : PySem.W.Frag) : List V → Hp → VK → Prop := fun vs H Q => ∃ (a : Addr) (x : V × PyData) (ps : List (V × PyData)), vs = [.ref a] ∧ SqL K H a ((x :: ps).map (·.1)) ∧ (∀ p ∈ x :: ps, Dp K H p.1 p.2 ∧ p.2.canLay0 = true) ∧ PySem.W.AlikeAll ((x :: ps).map (·.2)) ∧ PyData.depthAll ((x :: ps).map (·.2)) ≤ 64 ∧
  ∀ p ∈ x :: ps, p.2 = PySem.W.minD x.2 (ps.map (·.2)) → Q p.1 H

theorem dp_all : ∀ {K : PySem.W.Frag} {H : Hp} {ps : List (V × PyData)}, (∀ p ∈ ps, Dp K H p.1 p.2) → DpAll K H (ps.map (·.1)) (ps.map (·.2))
  | _, _, [], _ => .nil
  | _, _, p :: ps, h => .cons (h p List.mem_cons_self) (dp_all fun q hq => h q (List.mem_cons_of_mem _ hq))
theorem lay_all : ∀ {ps : List (V × PyData)}, (∀ p ∈ ps, p.2.canLay0 = true) → PyData.canLayAll0 (ps.map (·.2)) = true
  | [], _ => rfl
  | p :: ps, h => by rw [List.map_cons, PyData.canLayAll0, h p List.mem_cons_self, lay_all fun q hq => h q (List.mem_cons_of_mem _ hq)]; rfl
theorem cr_minE {X : Cx} (hc : X.calm = true) (room : X.A.units + 70 < cLine) : CallR X (.builtin "min") (rMinE X.K) := by
  intro pins s σ H xs us Q I r h
  obtain ⟨a, x, ps, rfl, hs, hd, hal, hdep, q⟩ := h
  obtain ⟨its, rv, hl, hz⟩ := I.list hs
  obtain ⟨u, rfl, ru⟩ := vals1 r
  obtain rfl : u = Value.ref a := ru
  obtain ⟨as, reads⟩ := Dp.readsAll I ((x :: ps).map (·.2)) _ its (dp_all fun p hp => (hd p hp).1) rv
  refine PySem.W.min_list_data (x := x.2) (xs := ps.map fun z : V × PyData => z.2) (I.ok.hd hc) hl.isList (by simpa using reads) hal (by rw [List.map_cons] at hdep; omega) fun i v h' tk bs hv rd hk => ?_
  have hv' : its[i]? = some v := by simpa using hv
  have len : ((x :: ps).map (·.1)).length = its.length := rv.length
  have hi : i < (x :: ps).length := by
    have := (List.getElem?_eq_some_iff.mp hv').1
    rw [List.length_map] at len
    omega
  obtain ⟨p, hp⟩ : ∃ p, (x :: ps)[i]? = some p := ⟨_, List.getElem?_eq_getElem hi⟩
  have hp1 : ((x :: ps).map (·.1))[i]? = some p.1 := by rw [List.getElem?_map, hp]; rfl
  obtain ⟨v', hv2, rel⟩ := rv.get hp1
  rw [hv'] at hv2
  cases hv2
  obtain ⟨d1, l1⟩ := hd p (List.mem_of_getElem? hp)
  obtain ⟨as1, r1⟩ := Dp.reads I p.2 p.1 v d1 rel
  have e := (Reads.unique (PyProof.Rows.Reads.keeps hk r1) _ _ rd).1
  exact ⟨p.1, H, I.kept hk, rel, q p (List.mem_of_getElem? hp) e⟩
theorem room70 {A : Around} {k : Nat} (hr : Room k A) : A.units + 70 < cLine := by have := hr.un; omega
theorem ex_minE {α : Type} [DecidableEq α] [Enc α] [Rp α] [RpD α] [SrtE α] [EncN α] {K : PySem.W.Frag} {B ms : Ms} {σ : L2.St} {H0 : Hp} {p q : Hq} {te : TE} {xs : List α} {x : α} (W : Wd B ms H0) (hd : Enc.dep α ≤ 64) (h : El B ms te σ H0 p xs q) (e : minF xs = some x) :
    Ex B ms (tCB (rMinE K) (tCons te tNil)) σ H0 p x q := fun H b hp Q k => h H b hp _ fun a H1 b1 q1 na ⟨vs, ev, rl, l⟩ => by
  cases xs with
  | nil => cases e
  | cons y ys =>
    cases vs with
    | nil => exact rl.elim
    | cons v vs =>
      obtain ⟨r1, rl2⟩ := rl
      obtain ⟨z1, z2, z3⟩ := rl_zip rl2
      let g : V × α → V × PyData := fun z => (z.1, Enc.enc z.2)
      have s1 : ((vs.zip ys).map g).map (·.1) = vs := by rw [List.map_map]; exact z1
      have s2 : ((vs.zip ys).map g).map (·.2) = ys.map Enc.enc := by
        rw [List.map_map]
        conv => rhs; rw [← z2, List.map_map]
        rfl
      have all : ∀ z ∈ (v, Enc.enc y) :: (vs.zip ys).map g, ∃ w : α, z.2 = Enc.enc w ∧ rp ms H1 z.1 w := fun z hz => by
        obtain q | q := List.mem_cons.mp hz
        · subst q; exact ⟨y, rfl, r1⟩
        · obtain ⟨w, hw, rfl⟩ := List.mem_map.mp q
          exact ⟨w.2, rfl, z3 w hw⟩
      refine ⟨a, (v, Enc.enc y), (vs.zip ys).map g, rfl, by rw [List.map_cons, s1]; exact SqL.of ev, fun z hz => ?_, ?_, ?_, fun z hz ez => ?_⟩
      · obtain ⟨w, e1, r⟩ := all z hz
        rw [e1]
        exact ⟨RpD.dp r, Enc.lay w⟩
      · rw [List.map_cons, s2]
        refine ⟨fun d1 m1 d2 m2 => ?_, fun d1 m1 => ?_⟩
        · obtain ⟨w1, _, rfl⟩ := List.mem_map.mp (show d1 ∈ (y :: ys).map Enc.enc from m1)
          obtain ⟨w2, _, rfl⟩ := List.mem_map.mp (show d2 ∈ (y :: ys).map Enc.enc from m2)
          exact SrtE.like w1 w2
        · obtain ⟨w1, _, rfl⟩ := List.mem_map.mp (show d1 ∈ (y :: ys).map Enc.enc from m1)
          exact EncN.nn w1
      · rw [List.map_cons, s2]
        exact Nat.le_trans (depAll (y :: ys)) hd
      · rw [s2, minF_enc] at ez
        obtain ⟨w, e1, r⟩ := all z hz
        have e2 : w = x := by
          refine enc_inj (e1.symm.trans (ez.trans ?_))
          exact congrArg Enc.enc (Option.some.inj e)
        subst e2
        exact k _ H1 b1 q1 r
end Pf

namespace Pf
open PySem PySem.W PyProof.Rows L2
/-! ### loops that only append -/
theorem fold_flat {α β : Type} {f : α → List β → Option (List β)} {g : α → List β} (m : Nat) : ∀ {xs : List α} {x0 : List β}, (∀ a ∈ xs, ∀ x, x.length + (g a).length ≤ m → f a x = some (x ++ g a)) → x0.length + (xs.flatMap g).length ≤ m → fold f xs x0 = some (x0 ++ xs.flatMap g)
  | [], x0, _, _ => by simp [fold]
  | a :: as, x0, h, hl => by
    rw [List.flatMap_cons, List.length_append] at hl
    have e := h a List.mem_cons_self x0 (by omega)
    have r := fold_flat m (xs := as) (x0 := x0 ++ g a) (fun b hb => h b (List.mem_cons_of_mem _ hb)) (by rw [List.length_append]; omega)
    show (f a x0).bind (fun y => fold f as y) = _
    rw [e]
    show fold f as (x0 ++ g a) = _
    rw [r, List.flatMap_cons, List.append_assoc]
theorem flat_len {α β : Type} {g : α → List β} {n : Nat} : ∀ {xs : List α}, (∀ a ∈ xs, (g a).length ≤ n) → (xs.flatMap g).length ≤ xs.length * n
  | [], _ => by simp
  | a :: as, h => by
    have h1 := h a List.mem_cons_self
    have h2 := flat_len (xs := as) fun b hb => h b (List.mem_cons_of_mem _ hb)
    rw [List.flatMap_cons, List.length_append, List.length_cons, Nat.succ_mul]
    omega
/-! ### the order of lists of pairs -/
def ltP (x y : Int × Int) : Bool := decide (x.1 < y.1 ∨ (x.1 = y.1 ∧ x.2 < y.2))
def ltL : List (Int × Int) → List (Int × Int) → Bool
  | [], [] => false
  | [], _ :: _ => true
  | _ :: _, [] => false
  | x :: xs, y :: ys => if x = y then ltL xs ys else ltP x y
theorem ltP_tri {x y : Int × Int} (h : x ≠ y) : ltP x y = !ltP y x := by
  obtain ⟨a, b⟩ := x
  obtain ⟨c, d⟩ := y
  have h' : ¬ (a = c ∧ b = d) := fun ⟨z1, z2⟩ => h (by rw [z1, z2])
  unfold ltP
  dsimp only
  rw [← decide_not]
  apply decide_eq_decide.mpr
  omega
theorem ltL_self : ∀ xs : List (Int × Int), ltL xs xs = false
  | [] => rfl
  | x :: xs => by rw [ltL, if_pos rfl]; exact ltL_self xs
theorem ltL_tri : ∀ {xs ys : List (Int × Int)}, xs ≠ ys → ltL xs ys = !ltL ys xs
  | [], [], h => absurd rfl h
  | [], _ :: _, _ => rfl
  | _ :: _, [], _ => rfl
  | x :: xs, y :: ys, h => by
    rw [ltL, ltL]
    by_cases e : x = y
    · subst e
      rw [if_pos rfl, if_pos rfl]
      exact ltL_tri fun z => h (by rw [z])
    · rw [if_neg e, if_neg fun z => e z.symm]
      exact ltP_tri e
theorem ltP_trans {x y z : Int × Int} (h1 : ltP x y = true) (h2 : ltP y z = true) : ltP x z = true ∧ x ≠ z := by
  obtain ⟨a, b⟩ := x
  obtain ⟨c, d⟩ := y
  obtain ⟨e, f⟩ := z
  unfold ltP at *
  dsimp only at *
  rw [decide_eq_true_iff] at *
  refine ⟨by omega, fun q => ?_⟩
  obtain ⟨q1, q2⟩ := Prod.mk.inj q
  omega
theorem ltL_trans : ∀ {xs ys zs : List (Int × Int)}, ltL xs ys = true → ltL ys zs = true → ltL xs zs = true
  | [], [], _, h, _ => by cases h
  | [], _ :: _, [], _, h => by cases h
  | [], _ :: _, _ :: _, _, _ => rfl
  | _ :: _, [], _, h, _ => by cases h
  | _ :: _, _ :: _, [], _, h => by cases h
  | x :: xs, y :: ys, z :: zs, h1, h2 => by
    rw [ltL] at *
    by_cases e1 : x = y
    · subst e1
      rw [if_pos rfl] at h1
      by_cases e2 : x = z
      · rw [if_pos e2] at h2 ⊢
        exact ltL_trans h1 h2
      · rw [if_neg e2] at h2 ⊢
        exact h2
    · rw [if_neg e1] at h1
      by_cases e2 : y = z
      · subst e2
        rw [if_neg e1]
        exact h1
      · rw [if_neg e2] at h2
        have t := ltP_trans h1 h2
        rw [if_neg t.2]
        exact t.1
theorem dataLt_encL : ∀ xs ys : List (Int × Int), lexLt itemOrd (keyToksAll (xs.map Enc.enc)) (keyToksAll (ys.map Enc.enc)) = ltL xs ys
  | [], [] => by rw [List.map_nil, keyToksAll, ltL]; exact lex_irrefl _
  | [], y :: ys => by
    rw [ltL]
    show lexLt itemOrd (keyToksAll []) (keyToksAll (.tuple [.int y.1, .int y.2] :: ys.map Enc.enc)) = true
    simp only [keyToksAll, keyToks, List.cons_append]
    exact lex_true.mpr (.inl (by first | rfl | decide))
  | x :: xs, [] => by
    rw [ltL]
    show lexLt itemOrd (keyToksAll (.tuple [.int x.1, .int x.2] :: xs.map Enc.enc)) (keyToksAll []) = false
    simp only [keyToksAll, keyToks, List.cons_append]
    exact lex_false.mpr ⟨by first | rfl | decide, .inl (by first | rfl | decide)⟩
  | x :: xs, y :: ys => by
    rw [List.map_cons, List.map_cons, dataLt_cons (SrtE.like x y), Enc.eqv, dataLt_encL xs ys, ltL]
    by_cases e : x = y
    · rw [if_pos (decide_eq_true e), if_pos e]
    · rw [if_neg (by simp [e]), if_neg e]
      exact dataLt_ii x.1 x.2 y.1 y.2
theorem leD_L (xs ys : List (Int × Int)) : leD xs ys = !ltL ys xs := by
  unfold leD
  rw [← dataLt_encL]
  rfl
theorem leD_trans (xs ys zs : List (Int × Int)) (h1 : leD xs ys = true) (h2 : leD ys zs = true) : leD xs zs = true := by
  rw [leD_L] at *
  by_cases e1 : xs = ys
  · rw [e1]; exact h2
  · by_cases e2 : ys = zs
    · rw [← e2]; exact h1
    · rw [← ltL_tri e1] at h1
      rw [← ltL_tri e2] at h2
      have t := ltL_trans h1 h2
      by_cases e3 : xs = zs
      · rw [e3, ltL_self]; rfl
      · rw [← ltL_tri e3]; exact t
theorem leD_total (xs ys : List (Int × Int)) : (leD xs ys || leD ys xs) = true := by
  rw [leD_L, leD_L]
  by_cases e : xs = ys
  · rw [e, ltL_self]; rfl
  · rw [ltL_tri e]
    cases ltL ys xs <;> rfl
theorem sortD_perm {α : Type} [DecidableEq α] [Enc α] (xs : List α) : (sortD xs).Perm xs := List.mergeSort_perm xs leD
theorem sortD_L {xs ys : List (List (Int × Int))} (p : ys.Perm xs) (s : ys.Pairwise fun a b => ltL a b = true) : sortD xs = ys := by
  have s1 : (sortD xs).Pairwise fun a b => leD a b = true := List.pairwise_mergeSort leD_trans leD_total xs
  have s2 : ys.Pairwise fun a b => leD a b = true := s.imp fun {a b} h => by
    rw [leD_L]
    by_cases e : a = b
    · rw [e, ltL_self]; rfl
    · rw [← ltL_tri e]; exact h
  refine List.Perm.eq_of_pairwise (le := fun a b => leD a b = true) (fun a b _ _ h1 h2 => ?_) s1 s2 ((sortD_perm xs).trans p.symm)
  rw [leD_L] at h1 h2
  by_cases e : a = b
  · exact e
  · rw [← ltL_tri e] at h1
    rw [h1] at h2
    cases h2
/-! ### positions -/
section
variable (size : Int) (ls : List Int)
/-- blocks from a cell on, of allowed lengths, with at most so many cells -/
def Good : Int → Int → List (Int × Int) → Prop
  | _, _, [] => True
  | f, lim, b :: r => f ≤ b.1 ∧ b.2 ∈ ls ∧ b.1 + b.2 ≤ size ∧ b.2 ≤ lim ∧ Good (b.1 + b.2) (lim - b.2) r
def posL : Nat → Int → Int → List (List (Int × Int))
  | 0, _, _ => []
  | n + 1, f, lim => [] :: (rngL f (size - f).toNat).flatMap fun s => ls.flatMap fun l => if s + l ≤ size ∧ l ≤ lim then (posL n (s + l) (lim - l)).map ((s, l) :: ·) else []
end
section
variable {size : Int} {ls : List Int}
theorem mem_posL (hl : ∀ l ∈ ls, 1 ≤ l) : ∀ {n : Nat} {f lim : Int} {x : List (Int × Int)}, (size - f).toNat < n → (x ∈ posL size ls n f lim ↔ Good size ls f lim x)
  | 0, _, _, _, h => by omega
  | n + 1, f, lim, [], h => by rw [posL, Good]; exact iff_of_true List.mem_cons_self trivial
  | n + 1, f, lim, (s, l) :: r, h => by
    rw [posL, Good, List.mem_cons, List.mem_flatMap]
    constructor
    · rintro (z | ⟨s', hs, hx⟩)
      · cases z
      · obtain ⟨l', hl', hx⟩ := List.mem_flatMap.mp hx
        split at hx
        · rename_i c
          obtain ⟨y, hy, e⟩ := List.mem_map.mp hx
          cases e
          rw [rngL_mem] at hs
          have := hl l hl'
          exact ⟨hs.1, hl', c.1, c.2, (mem_posL hl (by omega)).mp hy⟩
        · cases hx
    · rintro ⟨h1, h2, h3, h4, h5⟩
      have := hl l h2
      dsimp only at h1 h3 h4 h5
      refine .inr ⟨s, rngL_mem.mpr ⟨h1, by omega⟩, List.mem_flatMap.mpr ⟨l, h2, ?_⟩⟩
      rw [if_pos ⟨h3, h4⟩]
      exact List.mem_map.mpr ⟨r, (mem_posL hl (by omega)).mpr h5, rfl⟩
theorem posL_asc (hl : ∀ l ∈ ls, 1 ≤ l) (ha : ls.Pairwise (· < ·)) : ∀ (n : Nat) (f lim : Int), (posL size ls n f lim).Pairwise fun a b => ltL a b = true
  | 0, _, _ => by rw [posL]; exact .nil
  | n + 1, f, lim => by
    rw [posL, List.pairwise_cons]
    constructor
    · intro y hy
      obtain ⟨s, _, hy⟩ := List.mem_flatMap.mp hy
      obtain ⟨l, _, hy⟩ := List.mem_flatMap.mp hy
      split at hy
      · obtain ⟨z, _, rfl⟩ := List.mem_map.mp hy
        rfl
      · cases hy
    · rw [List.pairwise_flatMap]
      have one : ∀ s l x, (x ∈ if s + l ≤ size ∧ l ≤ lim then (posL size ls n (s + l) (lim - l)).map ((s, l) :: ·) else []) → ∃ r, x = (s, l) :: r := fun s l x hx => by
        split at hx
        · obtain ⟨z, _, rfl⟩ := List.mem_map.mp hx
          exact ⟨z, rfl⟩
        · cases hx
      refine ⟨fun s _ => ?_, (rngL_asc f _).imp fun {s s'} lt x hx y hy => ?_⟩
      · rw [List.pairwise_flatMap]
        refine ⟨fun l _ => ?_, ha.imp fun {l l'} lt x hx y hy => ?_⟩
        · split
          · rw [List.pairwise_map]
            refine (posL_asc hl ha n _ _).imp fun {a b} h => ?_
            rw [ltL, if_pos rfl]
            exact h
          · exact .nil
        · obtain ⟨r, rfl⟩ := one _ _ _ hx
          obtain ⟨r', rfl⟩ := one _ _ _ hy
          rw [ltL, if_neg (fun z => by cases z; omega)]
          exact decide_eq_true (.inr ⟨rfl, lt⟩)
      · obtain ⟨l, _, hx⟩ := List.mem_flatMap.mp hx
        obtain ⟨l', _, hy⟩ := List.mem_flatMap.mp hy
        obtain ⟨r, rfl⟩ := one _ _ _ hx
        obtain ⟨r', rfl⟩ := one _ _ _ hy
        rw [ltL, if_neg (fun z => by cases z; omega)]
        exact decide_eq_true (.inl lt)
theorem posL_len (hl : ∀ l ∈ ls, 1 ≤ l) (h3 : ls.length ≤ 3) : ∀ (n : Nat) (f lim : Int), (posL size ls n f lim).length ≤ 4 ^ (size - f).toNat
  | 0, _, _ => by rw [posL]; exact Nat.zero_le _
  | n + 1, f, lim => by
    rw [posL, List.length_cons]
    have step : ∀ (k : Nat) (g : Int), (size - g).toNat = k → ((rngL g k).flatMap fun s => ls.flatMap fun l => if s + l ≤ size ∧ l ≤ lim then (posL size ls n (s + l) (lim - l)).map ((s, l) :: ·) else []).length + 1 ≤ 4 ^ k := by
      intro k
      induction k with
      | zero => intro g _; simp [rngL]
      | succ k ih =>
        intro g hg
        rw [rngL_cons, List.flatMap_cons, List.length_append]
        have h1 := ih (g + 1) (by omega)
        have h2 : (ls.flatMap fun l => if g + l ≤ size ∧ l ≤ lim then (posL size ls n (g + l) (lim - l)).map ((g, l) :: ·) else []).length ≤ ls.length * 4 ^ k := flat_len fun l m => by
          split
          · rw [List.length_map]
            refine Nat.le_trans (posL_len hl h3 n _ _) (Nat.pow_le_pow_right (by decide) ?_)
            have := hl l m
            omega
          · exact Nat.zero_le _
        have h4 : ls.length * 4 ^ k ≤ 3 * 4 ^ k := Nat.mul_le_mul_right _ h3
        rw [Nat.pow_succ]
        omega
    exact step _ f rfl
/-- the end of the last block -/
def endL (f : Int) (x : List (Int × Int)) : Int := (x.getLast?.map fun b => b.1 + b.2).getD f
theorem good_snoc : ∀ {x : List (Int × Int)} {f lim : Int} {b : Int × Int}, Good size ls f lim (x ++ [b]) ↔ Good size ls f lim x ∧ endL f x ≤ b.1 ∧ b.2 ∈ ls ∧ b.1 + b.2 ≤ size ∧ b.2 ≤ lim - (x.map (·.2)).sum
  | [], f, lim, b => by simp [Good, endL]
  | a :: x, f, lim, b => by
    have e : endL f (a :: x) = endL (a.1 + a.2) x := by
      unfold endL
      cases x with
      | nil => rfl
      | cons c r =>
        rw [List.getLast?_cons_cons]
        cases h : (c :: r).getLast? with
        | none => simp at h
        | some d => rfl
    rw [List.cons_append, Good, Good, good_snoc, e, List.map_cons, List.sum_cons]
    constructor
    · rintro ⟨h1, h2, h3, h4, h5, h6, h7, h8, h9⟩
      exact ⟨⟨h1, h2, h3, h4, h5⟩, h6, h7, h8, by omega⟩
    · rintro ⟨⟨h1, h2, h3, h4, h5⟩, h6, h7, h8, h9⟩
      exact ⟨h1, h2, h3, h4, h5, h6, h7, h8, by omega⟩
/-- what a layout is continued to -/
def chL (size limit : Int) (ls : List Int) (x : List (Int × Int)) : List (List (Int × Int)) :=
  (rngL (endL 0 x) (size - endL 0 x).toNat).flatMap fun s => ls.flatMap fun l => if s + l ≤ size ∧ (x.map (·.2)).sum + l ≤ limit then [x ++ [(s, l)]] else []
theorem mem_chL {limit : Int} (hl : ∀ l ∈ ls, 1 ≤ l) {x y : List (Int × Int)} (hx : Good size ls 0 limit x) : y ∈ chL size limit ls x ↔ ∃ b, y = x ++ [b] ∧ Good size ls 0 limit (x ++ [b]) := by
  unfold chL
  rw [List.mem_flatMap]
  constructor
  · rintro ⟨s, hs, hy⟩
    obtain ⟨l, hl', hy⟩ := List.mem_flatMap.mp hy
    split at hy
    · rename_i c
      rw [rngL_mem] at hs
      exact ⟨(s, l), List.mem_singleton.mp hy, good_snoc.mpr ⟨hx, hs.1, hl', c.1, by dsimp only; omega⟩⟩
    · cases hy
  · rintro ⟨⟨s, l⟩, rfl, hg⟩
    obtain ⟨_, h1, h2, h3, h4⟩ := good_snoc.mp hg
    dsimp only at h1 h2 h3 h4
    have := hl l h2
    refine ⟨s, rngL_mem.mpr ⟨h1, by omega⟩, List.mem_flatMap.mpr ⟨l, h2, ?_⟩⟩
    rw [if_pos ⟨h3, by omega⟩]
    exact List.mem_singleton.mpr rfl
theorem chL_nodup {limit : Int} (hn : ls.Nodup) (x : List (Int × Int)) : (chL size limit ls x).Nodup := by
  unfold chL
  unfold List.Nodup
  rw [List.pairwise_flatMap]
  have one : ∀ s l y, (y ∈ if s + l ≤ size ∧ (x.map (·.2)).sum + l ≤ limit then [x ++ [(s, l)]] else []) → y = x ++ [(s, l)] := fun s l y hy => by
    split at hy
    · exact List.mem_singleton.mp hy
    · cases hy
  refine ⟨fun s _ => ?_, (rngL_nodup _ _).imp fun {s s'} ne y hy z hz => ?_⟩
  · rw [List.pairwise_flatMap]
    refine ⟨fun l _ => ?_, hn.imp fun {l l'} ne y hy z hz => ?_⟩
    · split
      · exact List.pairwise_singleton _ _
      · exact .nil
    · rw [one _ _ _ hy, one _ _ _ hz]
      intro e
      have := List.append_cancel_left e
      cases this
      exact ne rfl
  · obtain ⟨l, _, hy⟩ := List.mem_flatMap.mp hy
    obtain ⟨l', _, hz⟩ := List.mem_flatMap.mp hz
    rw [one _ _ _ hy, one _ _ _ hz]
    intro e
    have := List.append_cancel_left e
    cases this
    exact ne rfl
/-- found breadth first: what is there, of what has been continued -/
structure Bfs (size limit : Int) (ls : List Int) (F : List (List (Int × Int))) (p : Nat) : Prop where
  le : p ≤ F.length
  nd : F.Nodup
  good : ∀ x ∈ F, Good size ls 0 limit x
  nil : [] ∈ F
  from_ : ∀ x b, x ++ [b] ∈ F → x ∈ F.take p
  to_ : ∀ x ∈ F.take p, ∀ b, Good size ls 0 limit (x ++ [b]) → x ++ [b] ∈ F
theorem Bfs.start {limit : Int} : Bfs size limit ls [[]] 0 := ⟨Nat.zero_le _, by simp, fun x hx => by rw [List.mem_singleton.mp hx]; trivial, List.mem_singleton.mpr rfl, fun x b h => by simp at h, fun x hx => by simp at hx⟩
theorem Bfs.next {limit : Int} (hl : ∀ l ∈ ls, 1 ≤ l) (hn : ls.Nodup) {F : List (List (Int × Int))} {p : Nat} {x : List (Int × Int)} (B : Bfs size limit ls F p) (hx : F[p]? = some x) : Bfs size limit ls (F ++ chL size limit ls x) (p + 1) := by
  have hlt := lt_of_get hx
  have mx : x ∈ F := List.mem_of_getElem? hx
  have gx := B.good x mx
  have tk : (F ++ chL size limit ls x).take (p + 1) = F.take p ++ [x] := by
    rw [List.take_append_of_le_length (by omega), List.take_succ, hx]
    rfl
  have nx : x ∉ F.take p := fun h => by
    obtain ⟨i, hi⟩ := List.mem_iff_getElem?.mp h
    have lt := lt_of_get hi
    rw [List.length_take] at lt
    rw [List.getElem?_take_of_lt (by omega)] at hi
    have := nodup_get B.nd hi hx
    omega
  refine ⟨by rw [List.length_append]; omega, ?_, fun y hy => ?_, List.mem_append_left _ B.nil, fun y b hy => ?_, fun y hy b hg => ?_⟩
  · refine List.nodup_append.mpr ⟨B.nd, chL_nodup hn x, fun y hy z hz e => ?_⟩
    subst e
    obtain ⟨b, rfl, _⟩ := (mem_chL hl gx).mp hz
    exact nx (B.from_ x b hy)
  · obtain h | h := List.mem_append.mp hy
    · exact B.good y h
    · obtain ⟨b, rfl, g⟩ := (mem_chL hl gx).mp h
      exact g
  · rw [tk]
    obtain h | h := List.mem_append.mp hy
    · exact List.mem_append_left _ (B.from_ y b h)
    · obtain ⟨b', e, _⟩ := (mem_chL hl gx).mp h
      obtain ⟨rfl, _⟩ := List.append_inj' e rfl
      exact List.mem_append_right _ (List.mem_singleton.mpr rfl)
  · rw [tk] at hy
    obtain h | h := List.mem_append.mp hy
    · exact List.mem_append_left _ (B.to_ y h b hg)
    · rw [List.mem_singleton.mp h] at hg ⊢
      exact List.mem_append_right _ ((mem_chL hl gx).mpr ⟨b, rfl, hg⟩)
theorem Bfs.all {limit : Int} {F : List (List (Int × Int))} (B : Bfs size limit ls F F.length) : ∀ x, x ∈ F ↔ Good size ls 0 limit x := fun x => ⟨B.good x, fun h => by
  induction x using List.reverseRecOn' with
  | nil => exact B.nil
  | snoc ys y ih =>
    have := ih (good_snoc.mp h).1
    exact B.to_ ys (by rw [List.take_length]; exact this) y h⟩
theorem Bfs.len {limit : Int} (hl : ∀ l ∈ ls, 1 ≤ l) (h3 : ls.length ≤ 3) {F : List (List (Int × Int))} {p : Nat} (B : Bfs size limit ls F p) : F.length ≤ 4 ^ size.toNat := by
  have h := nodup_le B.nd (ys := posL size ls (size.toNat + 1) 0 limit) fun x hx => (mem_posL hl (by omega)).mpr (B.good x hx)
  have := posL_len hl h3 (size.toNat + 1) (0 : Int) limit (size := size)
  rw [Int.sub_zero] at this
  omega
theorem Bfs.sorted {limit : Int} (hl : ∀ l ∈ ls, 1 ≤ l) (ha : ls.Pairwise (· < ·)) {F : List (List (Int × Int))} (B : Bfs size limit ls F F.length) (n : Nat) (h : size.toNat < n) : sortD F = posL size ls n 0 limit := by
  have asc := posL_asc hl ha n 0 limit (size := size)
  refine sortD_L ((List.perm_ext_iff_of_nodup ?_ B.nd).mpr fun x => ?_) asc
  · exact asc.imp fun {a b} h e => by rw [e, ltL_self] at h; cases h
  · rw [mem_posL hl (by omega), B.all]
end

/-! ### what repr tells stays in reason -/
structure Okd (d : PyData) (n : Nat) : Prop where
  sh : d.showable = true
  lf : d.leavesShort 13 = true
  wt : d.weight ≤ n
theorem okd_int {i : Int} {k : Nat} (h : i.natAbs < 2 ^ k) (hk : k ≤ 32 := by decide) : Okd (Shw.shw i) k := by
  have h32 : i.natAbs < 2 ^ 32 := Nat.lt_of_lt_of_le h (Nat.pow_le_pow_right (by decide) hk)
  refine ⟨?_, ?_, ?_⟩
  · show (PyData.int i).showable = true
    simp only [PyData.showable, decide_eq_true_eq]
    exact Spec.log2_small (Nat.lt_of_lt_of_le h32 (Nat.pow_le_pow_right (by decide) (by decide)))
  · show (PyData.int i).leavesShort 13 = true
    rw [PyData.leavesShort]
    exact decide_eq_true (PyData.shown_int_le (Nat.lt_of_lt_of_le h32 (by decide)))
  · show (PyData.int i).weight ≤ k
    rw [PyData.weight]
    by_cases e : i = 0
    · simp [e]
    · rw [if_neg (by simpa using e)]
      have : i.natAbs ≠ 0 := by omega
      exact (Nat.log2_lt this).mpr h
theorem okd_bool (b : Bool) : Okd (Shw.shw b) 0 := ⟨by show (PyData.bool b).showable = true; rw [PyData.showable], by show (PyData.bool b).leavesShort 13 = true; rw [PyData.leavesShort], by show (PyData.bool b).weight ≤ 0; rw [PyData.weight]; exact Nat.le_refl _⟩
theorem okd_all {α : Type} [Rp α] [Shw α] {n : Nat} : ∀ {xs : List α}, (∀ x ∈ xs, Okd (Shw.shw x) n) → PyData.showableAll (xs.map Shw.shw) = true ∧ PyData.leavesShortAll 13 (xs.map Shw.shw) = true ∧ PyData.weightAll (xs.map Shw.shw) ≤ xs.length * (n + 1)
  | [], _ => by simp [PyData.showableAll, PyData.leavesShortAll, PyData.weightAll]
  | x :: xs, h => by
    obtain ⟨a, b, c⟩ := h x List.mem_cons_self
    obtain ⟨a', b', c'⟩ := okd_all (xs := xs) fun y hy => h y (List.mem_cons_of_mem _ hy)
    rw [List.map_cons, PyData.showableAll, PyData.leavesShortAll, PyData.weightAll, a, a', b, b', List.length_cons, Nat.succ_mul]
    exact ⟨rfl, rfl, by omega⟩
theorem okd_list {α : Type} [Rp α] [Shw α] {n m : Nat} {xs : List α} (h : ∀ x ∈ xs, Okd (Shw.shw x) n) (hm : xs.length * (n + 1) ≤ m) : Okd (Shw.shw xs) m := by
  obtain ⟨a, b, c⟩ := okd_all h
  exact ⟨by show (PyData.list _).showable = true; rw [PyData.showable]; exact a, by show (PyData.list _).leavesShort 13 = true; rw [PyData.leavesShort]; exact b, by show (PyData.list _).weight ≤ m; rw [PyData.weight]; omega⟩
theorem okd_pair {α β : Type} [Rp α] [Shw α] [Rp β] [Shw β] {a b m : Nat} {x : α} {y : β} (h1 : Okd (Shw.shw x) a) (h2 : Okd (Shw.shw y) b) (hm : a + b + 2 ≤ m) : Okd (Shw.shw (x, y)) m := by
  obtain ⟨a1, b1, c1⟩ := h1
  obtain ⟨a2, b2, c2⟩ := h2
  refine ⟨?_, ?_, ?_⟩
  · show (PyData.tuple [Shw.shw x, Shw.shw y]).showable = true
    rw [PyData.showable, PyData.showableAll, PyData.showableAll, PyData.showableAll, a1, a2]; rfl
  · show (PyData.tuple [Shw.shw x, Shw.shw y]).leavesShort 13 = true
    rw [PyData.leavesShort, PyData.leavesShortAll, PyData.leavesShortAll, PyData.leavesShortAll, b1, b2]; rfl
  · show (PyData.tuple [Shw.shw x, Shw.shw y]).weight ≤ m
    rw [PyData.weight, PyData.weightAll, PyData.weightAll, PyData.weightAll]; omega
theorem okd_T3 {α β γ : Type} [Rp α] [Shw α] [Rp β] [Shw β] [Rp γ] [Shw γ] {a b c m : Nat} {x : T3 α β γ} (h1 : Okd (Shw.shw x.a) a) (h2 : Okd (Shw.shw x.b) b) (h3 : Okd (Shw.shw x.c) c) (hm : a + b + c + 3 ≤ m) : Okd (Shw.shw x) m := by
  obtain ⟨a1, b1, c1⟩ := h1
  obtain ⟨a2, b2, c2⟩ := h2
  obtain ⟨a3, b3, c3⟩ := h3
  refine ⟨?_, ?_, ?_⟩
  · show (PyData.tuple [Shw.shw x.a, Shw.shw x.b, Shw.shw x.c]).showable = true
    rw [PyData.showable, PyData.showableAll, PyData.showableAll, PyData.showableAll, PyData.showableAll, a1, a2, a3]; rfl
  · show (PyData.tuple [Shw.shw x.a, Shw.shw x.b, Shw.shw x.c]).leavesShort 13 = true
    rw [PyData.leavesShort, PyData.leavesShortAll, PyData.leavesShortAll, PyData.leavesShortAll, PyData.leavesShortAll, b1, b2, b3]; rfl
  · show (PyData.tuple [Shw.shw x.a, Shw.shw x.b, Shw.shw x.c]).weight ≤ m
    rw [PyData.weight, PyData.weightAll, PyData.weightAll, PyData.weightAll, PyData.weightAll]; omega
theorem okd_str {s : Str} {n : Nat} (h1 : (s.cps.toList.all fun c => decide (c < 16 ^ 8)) = true) (h2 : s.cps.size ≤ n) : Okd (Shw.shw s) n :=
  ⟨by show (PyData.str s).showable = true; rw [PyData.showable], by show (PyData.str s).leavesShort 13 = true; rw [PyData.leavesShort]; exact h1, by show (PyData.str s).weight ≤ n; rw [PyData.weight]; exact h2⟩
theorem Okd.le {d : PyData} {n m : Nat} (h : Okd d n) (l : n ≤ m) : Okd d m := ⟨h.sh, h.lf, Nat.le_trans h.wt l⟩
theorem same_of {α : Type} [DecidableEq α] [Rp α] [Shw α] {x y : α} {n : Nat} (e : x = y) (h : Okd (Shw.shw x) n) (hn : n ≤ 1048576 := by decide) : sameF x y = some true := by
  unfold sameF
  rw [if_pos]
  refine ⟨e, ?_⟩
  unfold shwB
  rw [Bool.and_eq_true, decide_eq_true_iff]
  exact ⟨h.sh, PyData.shown_fits (by decide) (by decide) h.lf (Nat.le_trans h.wt (by omega))⟩
/-! ### what is asked of a layout is what makes a position -/
def ascB : Int → List (Int × Int) → Bool
  | _, [] => true
  | e, b :: r => !(decide (b.1 < e) || decide (b.2 < 1)) && ascB (b.1 + b.2) r
theorem endL_cons (f : Int) (a : Int × Int) (x : List (Int × Int)) : endL f (a :: x) = endL (a.1 + a.2) x := by
  unfold endL
  cases x with
  | nil => rfl
  | cons c r =>
    rw [List.getLast?_cons_cons]
    cases h : (c :: r).getLast? with
    | none => simp at h
    | some d => rfl
theorem good_iff {size : Int} {ls : List Int} (hl : ∀ l ∈ ls, 1 ≤ l) : ∀ (x : List (Int × Int)) (f lim : Int), (f ≤ size ∧ 0 ≤ lim ∧ Good size ls f lim x) ↔ ((∀ b ∈ x, b.2 ∈ ls) ∧ ascB f x = true ∧ endL f x ≤ size ∧ (x.map (·.2)).sum ≤ lim)
  | [], f, lim => by simp [Good, ascB, endL]
  | b :: r, f, lim => by
    have ih := good_iff (size := size) hl r (b.1 + b.2) (lim - b.2)
    rw [Good, endL_cons, ascB, List.map_cons, List.sum_cons, Bool.and_eq_true]
    constructor
    · rintro ⟨h1, h2, h3, h4, h5, h6, h7⟩
      obtain ⟨i1, i2, i3, i4⟩ := ih.mp ⟨h5, by omega, h7⟩
      have := hl _ h4
      refine ⟨fun c hc => ?_, ⟨?_, i2⟩, i3, by omega⟩
      · obtain z | z := List.mem_cons.mp hc
        · rw [z]; exact h4
        · exact i1 c z
      · simp; omega
    · rintro ⟨h1, ⟨h2, h3⟩, h4, h5⟩
      have hb := h1 b List.mem_cons_self
      have := hl _ hb
      obtain ⟨j1, j2, j3⟩ := ih.mpr ⟨fun c hc => h1 c (List.mem_cons_of_mem _ hc), h3, h4, by omega⟩
      simp at h2
      exact ⟨by omega, by omega, by omega, hb, j1, by omega, j3⟩
theorem good_len {size : Int} {ls : List Int} (hl : ∀ l ∈ ls, 1 ≤ l) : ∀ {x : List (Int × Int)} {f lim : Int}, Good size ls f lim x → 0 ≤ lim → (x.length : Int) ≤ lim
  | [], _, _, _, h => by simpa using h
  | b :: r, f, lim, ⟨h1, h2, h3, h4, h5⟩, h => by
    have := good_len hl h5 (by omega)
    have := hl _ h2
    rw [List.length_cons]
    omega
theorem good_mem {size : Int} {ls : List Int} (hl : ∀ l ∈ ls, 1 ≤ l) : ∀ {x : List (Int × Int)} {f lim : Int}, Good size ls f lim x → ∀ b ∈ x, f ≤ b.1 ∧ b.1 < size ∧ b.2 ∈ ls
  | [], _, _, _, b, hb => by cases hb
  | c :: r, f, lim, ⟨h1, h2, h3, h4, h5⟩, b, hb => by
    have hc := hl _ h2
    obtain z | z := List.mem_cons.mp hb
    · rw [z]; exact ⟨h1, by omega, h2⟩
    · obtain ⟨k1, k2, k3⟩ := good_mem hl h5 b z
      exact ⟨by omega, k2, k3⟩
/-- lengths of a contract -/
structure Lens (ls : List Int) : Prop where
  asc : ls.Pairwise (· < ·)
  one : ∀ l ∈ ls, 1 ≤ l
  three : ∀ l ∈ ls, l ≤ 3
  len : ls.length ≤ 3
theorem Lens.nd {ls : List Int} (h : Lens ls) : ls.Nodup := h.asc.imp fun {a b} lt e => by omega

theorem whl_go {s ρ : Type} {c : s → Option Bool} {f : s → Option (Fl ρ s)} {m : Nat} {x : s} (N : s → Nat) (I : s → Prop) (h : ∀ x, I x → ∃ b, c x = some b ∧ (b = true → ∃ x', f x = some (.go x') ∧ I x' ∧ N x' < N x)) (h0 : I x) (hm : N x < m) :
    ∃ out, whl c f m x = some (.go out) ∧ (I out ∧ c out = some false) := by
  obtain ⟨r, _, z⟩ | h := whl_ex N I (fun _ => False) (fun x hx => by
    obtain ⟨b, e, k⟩ := h x hx
    exact ⟨b, e, fun hb => .inr (k hb)⟩) m x h0 hm
  · exact z.elim
  · exact h
theorem good_short {size : Int} {ls : List Int} (hl : ∀ l ∈ ls, 1 ≤ l) : ∀ {x : List (Int × Int)} {f lim : Int}, Good size ls f lim x → f ≤ size → (x.length : Int) ≤ size - f
  | [], _, _, _, h => by simpa using h
  | b :: r, f, lim, ⟨h1, h2, h3, h4, h5⟩, h => by
    have := good_short hl h5 h3
    have := hl _ h2
    rw [List.length_cons]
    omega
theorem colS_all {α β s : Type} {f : α → s → Option (Option β × s)} (P : β → Prop) (h : ∀ x b, ∃ y b', f x b = some (some y, b') ∧ P y) {xs : List α} (hl : xs.length ≤ 1000000) (b : s) : ∃ z, colS f xs b = some z ∧ (z.1.length = xs.length ∧ ∀ y ∈ z.1, P y) := by
  unfold colS
  rw [if_pos (by rw [sizeLine_eq]; omega)]
  clear hl
  induction xs generalizing b with
  | nil => exact ⟨_, rfl, rfl, fun y hy => by cases hy⟩
  | cons x xs ih =>
    obtain ⟨y, b1, e, hy⟩ := h x b
    obtain ⟨⟨ys, b2⟩, e2, hl, hys⟩ := ih b1
    refine ⟨(y :: ys, b2), ?_, by rw [List.length_cons, List.length_cons, ← hl], fun z hz => ?_⟩
    · show (f x b).bind _ = _
      rw [e]
      show (coll f xs b1).bind _ = _
      rw [e2]
      rfl
    · obtain q | q := List.mem_cons.mp hz
      · rw [q]; exact hy
      · exact hys z q
end Pf

namespace Pf
open PySem PySem.W PyProof.Rows L2
/-! ### the order of data -/
class Lv (α : Type) [DecidableEq α] [Enc α] where
  lt : α → α → Bool
  enc : ∀ x y : α, dataLt (Enc.enc x) (Enc.enc y) = lt x y
  irr : ∀ x : α, lt x x = false
  tri : ∀ {x y : α}, x ≠ y → lt x y = !lt y x
  trans : ∀ {x y z : α}, lt x y = true → lt y z = true → lt x z = true
instance : Lv Int where
  lt x y := decide (x < y)
  enc x y := dataLt_int x y
  irr x := by simp
  tri {x y} h := by rw [← decide_not]; apply decide_eq_decide.mpr; omega
  trans {x y z} h1 h2 := by rw [decide_eq_true_iff] at *; omega
section
variable {α : Type} [DecidableEq α] [Enc α] [SrtE α] [Lv α]
def lvL : List α → List α → Bool
  | [], [] => false
  | [], _ :: _ => true
  | _ :: _, [] => false
  | x :: xs, y :: ys => if x = y then lvL xs ys else Lv.lt x y
theorem lvL_self : ∀ xs : List α, lvL xs xs = false
  | [] => rfl
  | x :: xs => by rw [lvL, if_pos rfl]; exact lvL_self xs
theorem lvL_tri : ∀ {xs ys : List α}, xs ≠ ys → lvL xs ys = !lvL ys xs
  | [], [], h => absurd rfl h
  | [], _ :: _, _ => rfl
  | _ :: _, [], _ => rfl
  | x :: xs, y :: ys, h => by
    rw [lvL, lvL]
    by_cases e : x = y
    · subst e
      rw [if_pos rfl, if_pos rfl]
      exact lvL_tri fun z => h (by rw [z])
    · rw [if_neg e, if_neg fun z => e z.symm]
      exact Lv.tri e
theorem lv_ne {x y z : α} (h1 : Lv.lt x y = true) (h2 : Lv.lt y z = true) : x ≠ z := fun e => by
  subst e
  have t := Lv.trans h1 h2
  rw [Lv.irr] at t
  cases t
theorem lvL_trans : ∀ {xs ys zs : List α}, lvL xs ys = true → lvL ys zs = true → lvL xs zs = true
  | [], [], _, h, _ => by cases h
  | [], _ :: _, [], _, h => by cases h
  | [], _ :: _, _ :: _, _, _ => rfl
  | _ :: _, [], _, h, _ => by cases h
  | _ :: _, _ :: _, [], _, h => by cases h
  | x :: xs, y :: ys, z :: zs, h1, h2 => by
    rw [lvL] at *
    by_cases e1 : x = y
    · subst e1
      rw [if_pos rfl] at h1
      by_cases e2 : x = z
      · rw [if_pos e2] at h2 ⊢
        exact lvL_trans h1 h2
      · rw [if_neg e2] at h2 ⊢
        exact h2
    · rw [if_neg e1] at h1
      by_cases e2 : y = z
      · subst e2
        rw [if_neg e1]
        exact h1
      · rw [if_neg e2] at h2
        rw [if_neg (lv_ne h1 h2)]
        exact Lv.trans h1 h2
theorem lvL_enc : ∀ xs ys : List α, lexLt itemOrd (keyToksAll (xs.map Enc.enc)) (keyToksAll (ys.map Enc.enc)) = lvL xs ys
  | [], [] => by rw [List.map_nil, keyToksAll, lvL]; exact lex_irrefl _
  | [], y :: ys => by
    rw [lvL]
    simp only [List.map_cons, List.map_nil, keyToksAll]
    exact lex_true.mpr (.inl (by first | rfl | decide))
  | x :: xs, [] => by
    rw [lvL]
    simp only [List.map_cons, List.map_nil, keyToksAll]
    exact lex_false.mpr ⟨by first | rfl | decide, .inl (by first | rfl | decide)⟩
  | x :: xs, y :: ys => by
    rw [List.map_cons, List.map_cons, dataLt_cons (SrtE.like x y), Enc.eqv, lvL_enc xs ys, lvL]
    by_cases e : x = y
    · rw [if_pos (decide_eq_true e), if_pos e]
    · rw [if_neg (by simp [e]), if_neg e]
      exact Lv.enc x y
instance : Lv (List α) where
  lt := lvL
  enc xs ys := by rw [← lvL_enc]; rfl
  irr := lvL_self
  tri := lvL_tri
  trans := lvL_trans
end
section
variable {α β γ : Type} [DecidableEq α] [Enc α] [SrtE α] [Lv α] [DecidableEq β] [Enc β] [SrtE β] [Lv β] [DecidableEq γ] [Enc γ] [SrtE γ] [Lv γ]
def lvP (x y : α × β) : Bool := if x.1 = y.1 then Lv.lt x.2 y.2 else Lv.lt x.1 y.1
theorem lv_row2 (a a' : α) (b b' : β) : lexLt itemOrd (keyToksAll [Enc.enc a, Enc.enc b]) (keyToksAll [Enc.enc a', Enc.enc b']) = if a = a' then Lv.lt b b' else Lv.lt a a' := by
  have e : lexLt itemOrd (keyToksAll []) (keyToksAll []) = false := lex_irrefl _
  rw [dataLt_cons (SrtE.like a a'), dataLt_cons (SrtE.like b b'), e, Enc.eqv, Enc.eqv, Lv.enc, Lv.enc]
  by_cases h : a = a'
  · rw [if_pos (decide_eq_true h), if_pos h]
    by_cases h2 : b = b'
    · rw [if_pos (decide_eq_true h2), h2, Lv.irr]
    · rw [if_neg (by simp [h2])]
  · rw [if_neg (by simp [h]), if_neg h]
instance : Lv (α × β) where
  lt := lvP
  enc x y := lv_row2 x.1 y.1 x.2 y.2
  irr x := by unfold lvP; rw [if_pos rfl]; exact Lv.irr _
  tri {x y} h := by
    unfold lvP
    by_cases e : x.1 = y.1
    · rw [if_pos e, if_pos e.symm]
      exact Lv.tri fun z => h (Prod.ext e z)
    · rw [if_neg e, if_neg fun z => e z.symm]
      exact Lv.tri e
  trans {x y z} h1 h2 := by
    unfold lvP at *
    by_cases e1 : x.1 = y.1
    · rw [if_pos e1] at h1
      by_cases e2 : y.1 = z.1
      · rw [if_pos e2] at h2
        rw [if_pos (e1.trans e2)]
        exact Lv.trans h1 h2
      · rw [if_neg e2] at h2
        rw [if_neg fun q => e2 (e1.symm.trans q), e1]
        exact h2
    · rw [if_neg e1] at h1
      by_cases e2 : y.1 = z.1
      · rw [← e2, if_neg e1]
        exact h1
      · rw [if_neg e2] at h2
        rw [if_neg (lv_ne h1 h2)]
        exact Lv.trans h1 h2
def lvT (x y : T3 α β γ) : Bool := if x.a = y.a then (if x.b = y.b then Lv.lt x.c y.c else Lv.lt x.b y.b) else Lv.lt x.a y.a
theorem lvT_P (x y : T3 α β γ) : lvT x y = lvP (x.a, (x.b, x.c)) (y.a, (y.b, y.c)) := rfl
instance : Lv (T3 α β γ) where
  lt := lvT
  enc x y := by
    show lexLt itemOrd (keyToksAll [Enc.enc x.a, Enc.enc x.b, Enc.enc x.c]) (keyToksAll [Enc.enc y.a, Enc.enc y.b, Enc.enc y.c]) = _
    rw [dataLt_cons (SrtE.like x.a y.a), lv_row2, Enc.eqv, Lv.enc]
    unfold lvT
    by_cases h : x.a = y.a
    · rw [if_pos (decide_eq_true h), if_pos h]
    · rw [if_neg (by simp [h]), if_neg h]
  irr x := by rw [lvT_P]; exact Lv.irr (α := α × (β × γ)) _
  tri {x y} h := by
    rw [lvT_P, lvT_P]
    refine Lv.tri (α := α × (β × γ)) fun z => h ?_
    obtain ⟨a, b, c⟩ := x
    obtain ⟨a', b', c'⟩ := y
    obtain ⟨z1, z2⟩ := Prod.mk.inj z
    obtain ⟨z2, z3⟩ := Prod.mk.inj z2
    dsimp only at z1 z2 z3
    rw [z1, z2, z3]
  trans {x y z} h1 h2 := by
    rw [lvT_P] at *
    exact Lv.trans (α := α × (β × γ)) h1 h2
end
section
variable {α : Type} [DecidableEq α] [Enc α] [Lv α]
theorem lv_as {x y : α} (h : Lv.lt x y = true) : Lv.lt y x = false := by
  cases e : Lv.lt y x with
  | false => rfl
  | true =>
    have := Lv.trans h e
    rw [Lv.irr] at this
    cases this
/-- no less, two times -/
theorem lv_le {x y z : α} (h1 : Lv.lt y x = false) (h2 : Lv.lt z y = false) : Lv.lt z x = false := by
  by_cases e1 : x = y
  · rw [e1]; exact h2
  · by_cases e2 : y = z
    · rw [← e2]; exact h1
    · have a : Lv.lt x y = true := by rw [Lv.tri e1, h1]; rfl
      have b : Lv.lt y z = true := by rw [Lv.tri e2, h2]; rfl
      exact lv_as (Lv.trans a b)
theorem leD_V (x y : α) : leD x y = !Lv.lt y x := by unfold leD; rw [Lv.enc]
theorem leV_trans (xs ys zs : α) (h1 : leD xs ys = true) (h2 : leD ys zs = true) : leD xs zs = true := by
  rw [leD_V] at *
  rw [lv_le (x := xs) (y := ys) (by simpa using h1) (by simpa using h2)]
  rfl
theorem leV_total (x y : α) : (leD x y || leD y x) = true := by
  rw [leD_V, leD_V]
  by_cases e : x = y
  · rw [e, Lv.irr]; rfl
  · rw [Lv.tri e]
    cases Lv.lt y x <;> rfl
theorem sortD_srt (xs : List α) : (sortD xs).Pairwise fun a b => Lv.lt b a = false := (List.pairwise_mergeSort leV_trans leV_total xs).imp fun {a b} h => by
  rw [leD_V] at h
  simpa using h
theorem srt_eq {xs ys : List α} (p : ys.Perm xs) (s1 : xs.Pairwise fun a b => Lv.lt b a = false) (s2 : ys.Pairwise fun a b => Lv.lt b a = false) : xs = ys := by
  refine List.Perm.eq_of_pairwise (le := fun a b => Lv.lt b a = false) (fun a b _ _ h1 h2 => ?_) s1 s2 p.symm
  by_cases e : a = b
  · exact e
  · rw [Lv.tri e, h1] at h2
    cases h2
theorem sortD_V {xs ys : List α} (p : ys.Perm xs) (s : ys.Pairwise fun a b => Lv.lt b a = false) : sortD xs = ys := srt_eq (p.trans (sortD_perm xs).symm) (sortD_srt xs) s
theorem sortD_lt {xs ys : List α} (p : ys.Perm xs) (s : ys.Pairwise fun a b => Lv.lt a b = true) : sortD xs = ys := sortD_V p (s.imp lv_as)
theorem minF_least : ∀ {xs : List α}, xs ≠ [] → ∃ m, minF xs = some m ∧ m ∈ xs ∧ ∀ y ∈ xs, Lv.lt y m = false
  | [], h => absurd rfl h
  | x :: xs, _ => by
    refine ⟨_, rfl, ?_⟩
    suffices h : ∀ (xs : List α) (x : α), let m := xs.foldl (fun a y => if dataLt (Enc.enc y) (Enc.enc a) then y else a) x; m ∈ x :: xs ∧ ∀ y ∈ x :: xs, Lv.lt y m = false from h xs x
    intro xs
    induction xs with
    | nil => intro x; exact ⟨List.mem_singleton.mpr rfl, fun y hy => by rw [List.mem_singleton.mp hy]; exact Lv.irr _⟩
    | cons z zs ih =>
      intro x
      dsimp only
      rw [List.foldl_cons]
      rw [Lv.enc]
      by_cases c : Lv.lt z x = true
      · rw [if_pos c]
        obtain ⟨h1, h2⟩ := ih z
        refine ⟨List.mem_cons_of_mem _ h1, fun y hy => ?_⟩
        obtain e | e := List.mem_cons.mp hy
        · subst e
          exact lv_le (h2 z List.mem_cons_self) (lv_as c)
        · exact h2 y e
      · rw [if_neg c]
        obtain ⟨h1, h2⟩ := ih x
        refine ⟨?_, fun y hy => ?_⟩
        · obtain e | e := List.mem_cons.mp h1
          · rw [e]; exact List.mem_cons_self
          · exact List.mem_cons_of_mem _ (List.mem_cons_of_mem _ e)
        · obtain e | e := List.mem_cons.mp hy
          · rw [e]; exact h2 x List.mem_cons_self
          · obtain e | e := List.mem_cons.mp e
            · rw [e]
              exact lv_le (h2 x List.mem_cons_self) (by simpa using c)
            · exact h2 y (List.mem_cons_of_mem _ e)
end

/-! ### dicts as lists -/
section
variable {κ β : Type} [DecidableEq κ]
theorem getM_nil (k : κ) : getM ([] : List (κ × β)) k = none := rfl
theorem getM_app (m m' : List (κ × β)) (k : κ) : getM (m ++ m') k = (getM m k).or (getM m' k) := by
  induction m with
  | nil => simp [getM_nil]
  | cons p m ih =>
    rw [List.cons_append, getM_cons, getM_cons, ih]
    by_cases h : p.1 = k <;> simp [h]
theorem getM_put (m : List (κ × β)) (k k' : κ) (x : β) : getM (putM m k x) k' = if k' = k then some x else getM m k' := by
  unfold putM
  by_cases c : (getM m k).isSome = true
  · rw [if_pos c]
    induction m with
    | nil => cases c
    | cons p m ih =>
      rw [List.map_cons, getM_cons, getM_cons]
      rw [getM_cons] at c
      by_cases h : p.1 = k
      · rw [if_pos h]
        by_cases h2 : k' = k
        · rw [if_pos h2, if_pos (by rw [h2, h])]
        · have h3 : ¬ p.1 = k' := fun z => h2 (z.symm.trans h)
          rw [if_neg h2]
          show (if p.1 = k' then _ else _) = _
          rw [if_neg h3, if_neg h3]
          clear ih c
          induction m with
          | nil => rfl
          | cons q m ih =>
            rw [List.map_cons, getM_cons, getM_cons, ih]
            by_cases h4 : q.1 = k
            · rw [if_pos h4]
              have h5 : ¬ q.1 = k' := fun z => h2 (z.symm.trans h4)
              show (if q.1 = k' then _ else _) = _
              rw [if_neg h5, if_neg h5]
            · rw [if_neg h4]
      · rw [if_neg h] at c ⊢
        rw [ih c]
        by_cases h2 : k' = k
        · rw [if_pos h2, if_neg (by rw [h2]; exact h)]
          rw [if_pos h2]
        · rw [if_neg h2, if_neg h2]
  · rw [if_neg c, getM_app, getM_cons, getM_nil]
    have c' : getM m k = none := by simpa using c
    by_cases h2 : k' = k
    · rw [if_pos h2, h2, c', if_pos rfl]; rfl
    · rw [if_neg h2, if_neg fun z => h2 z.symm]
      cases getM m k' <;> rfl
theorem putM_len (m : List (κ × β)) (k : κ) (x : β) : (putM m k x).length ≤ m.length + 1 := by
  unfold putM
  split
  · rw [List.length_map]; omega
  · rw [List.length_append]; exact Nat.le_refl _
theorem putD_ok {d : DN κ β} {k : κ} {x : β} (h : d.m.length ≤ 1000000) : putD d k x = some ⟨putM d.m k x⟩ := by
  unfold putD
  exact if_pos (Nat.lt_of_le_of_lt h (by decide))
end
theorem fold_exQ {α s : Type} {f : α → s → Option s} {xs : List α} {x0 : s} {Q : s → Prop} (I : Nat → s → Prop) (h0 : I 0 x0) (fin : ∀ out, I xs.length out → Q out) (step : ∀ i a x, xs[i]? = some a → I i x → ∃ x', f a x = some x' ∧ I (i + 1) x') : ∃ out, fold f xs x0 = some out ∧ Q out := by
  obtain ⟨out, h1, h2⟩ := fold_ex I h0 step
  exact ⟨out, h1, fin out h2⟩
theorem loop_goQ {α s ρ : Type} {f : α → s → Option (Fl ρ s)} {xs : List α} {x0 : s} {Q : s → Prop} (I : Nat → s → Prop) (h0 : I 0 x0) (fin : ∀ out, I xs.length out → Q out) (step : ∀ i a x, xs[i]? = some a → I i x → ∃ x', f a x = some (.go x') ∧ I (i + 1) x') : ∃ out, loop f xs x0 = some (.go out) ∧ Q out := by
  obtain ⟨out, h1, h2⟩ := loop_go I h0 step
  exact ⟨out, h1, fin out h2⟩
theorem filterMap_flat {α β : Type} (f : α → Option β) : ∀ xs : List α, xs.filterMap f = xs.flatMap fun x => (f x).toList
  | [] => rfl
  | x :: xs => by
    rw [List.filterMap_cons, List.flatMap_cons, ← filterMap_flat f xs]
    cases f x <;> rfl
end Pf

namespace Pf
open PySem PySem.W PyProof.Rows L2
/-! ### rooms for a new block: blocks (with their pins) in their order, behind an end -/
abbrev PB := (Int × Int) × Bool
section
variable (size L : Int)
def Feas : List PB → Int → Bool → List Int → Prop
  | [], e, r, st => st = [] ∧ e ≤ size ∧ (r = true ∨ L ≤ size - e)
  | _ :: _, _, _, [] => False
  | b :: ps, e, r, s :: st => e ≤ s ∧ (b.2 = true → s = b.1.1) ∧ Feas ps (s + b.1.2) (r || decide (L ≤ s - e)) st
def costF : List PB → List Int → Int
  | b :: ps, s :: st => (if s = b.1.1 then 0 else b.1.2) + costF ps st
  | _, _ => 0
end
section
variable {size L : Int}
def LenP (ps : List PB) : Prop := ∀ b ∈ ps, 1 ≤ b.1.2
theorem Feas.le : ∀ {ps : List PB} {e : Int} {r : Bool} {st : List Int}, LenP ps → Feas size L ps e r st → e ≤ size
  | [], e, r, st, _, h => h.2.1
  | b :: ps, e, r, [], _, h => h.elim
  | b :: ps, e, r, s :: st, hp, h => by
    have := Feas.le (fun x hx => hp x (List.mem_cons_of_mem _ hx)) h.2.2
    have := hp b List.mem_cons_self
    have := h.1
    omega
theorem Feas.len : ∀ {ps : List PB} {e : Int} {r : Bool} {st : List Int}, Feas size L ps e r st → st.length = ps.length
  | [], e, r, st, h => by rw [h.1]; rfl
  | b :: ps, e, r, [], h => h.elim
  | b :: ps, e, r, s :: st, h => by rw [List.length_cons, List.length_cons, Feas.len h.2.2]
/-- what fits behind a later end fits behind an earlier one -/
theorem Feas.mono : ∀ {ps : List PB} {e e' : Int} {r r' : Bool} {st : List Int}, Feas size L ps e' r' st → e ≤ e' → (r' = true → r = true ∨ L ≤ e' - e) → Feas size L ps e r st
  | [], e, e', r, r', st, h, he, hr => ⟨h.1, by have := h.2.1; omega, by
      have h2 := h.2.1
      obtain z | z := h.2.2
      · obtain z | z := hr z
        · exact .inl z
        · exact .inr (by omega)
      · exact .inr (by omega)⟩
  | b :: ps, e, e', r, r', [], h, _, _ => h.elim
  | b :: ps, e, e', r, r', s :: st, h, he, hr => by
    have h1 := h.1
    refine ⟨by omega, h.2.1, Feas.mono h.2.2 (Int.le_refl _) fun z => .inl ?_⟩
    rw [Bool.or_eq_true, decide_eq_true_iff] at *
    obtain z | z := z
    · obtain z | z := hr z
      · exact .inl z
      · exact .inr (by omega)
    · exact .inr (by omega)
/-- the least of all -/
def IsBest (size L : Int) (ps : List PB) (e : Int) (r : Bool) : Option (Int × List Int) → Prop
  | none => ∀ st, ¬ Feas size L ps e r st
  | some (c, st) => Feas size L ps e r st ∧ costF ps st = c ∧ ∀ st', Feas size L ps e r st' → Lv.lt (costF ps st', st') (c, st) = false
def TabOk (size L : Int) (ps : List PB) (T : Int × Bool → Option (Int × List Int)) : Prop := ∀ e r, 0 ≤ e → IsBest size L ps e r (T (e, r))
def oneF (L : Int) (T : Int × Bool → Option (Int × List Int)) (b : Int × Int) (e : Int) (r : Bool) (g : Int) : Option (Int × List Int) :=
  if e ≤ g then (T (g + b.2, r || decide (L ≤ g - e))).map fun x => (x.1 + (if g = b.1 then 0 else b.2), g :: x.2) else none
def chF (L : Int) (T : Int × Bool → Option (Int × List Int)) (b : PB) (e : Int) (r : Bool) : List (Int × List Int) :=
  (if b.2 = true then [b.1.1] else [b.1.1, e]).filterMap (oneF L T b.1 e r)
theorem lv_pair (a b : Int × List Int) : Lv.lt a b = false ↔ b.1 < a.1 ∨ (a.1 = b.1 ∧ Lv.lt a.2 b.2 = false) := by
  show lvP a b = false ↔ _
  unfold lvP
  by_cases e : a.1 = b.1
  · rw [if_pos e]
    constructor
    · intro h; exact .inr ⟨e, h⟩
    · rintro (h | h)
      · omega
      · exact h.2
  · rw [if_neg e]
    show decide (a.1 < b.1) = false ↔ _
    rw [decide_eq_false_iff_not]
    constructor
    · intro h; exact .inl (by omega)
    · rintro (h | h)
      · omega
      · exact absurd h.1 e
theorem lv_cons (x y : Int) (xs ys : List Int) : Lv.lt (x :: xs) (y :: ys) = false ↔ y < x ∨ (x = y ∧ Lv.lt xs ys = false) := by
  show lvL (x :: xs) (y :: ys) = false ↔ _
  rw [lvL]
  by_cases e : x = y
  · rw [if_pos e]
    constructor
    · intro h; exact .inr ⟨e, h⟩
    · rintro (h | h)
      · omega
      · exact h.2
  · rw [if_neg e]
    show decide (x < y) = false ↔ _
    rw [decide_eq_false_iff_not]
    constructor
    · intro h; exact .inl (by omega)
    · rintro (h | h)
      · omega
      · exact absurd h.1 e
theorem best_step {ps : List PB} {T : Int × Bool → Option (Int × List Int)} (hp : LenP ps) (hT : TabOk size L ps T) {b : PB} (hb0 : 0 ≤ b.1.1) (hb : 1 ≤ b.1.2) {e : Int} {r : Bool} (he : 0 ≤ e) : IsBest size L (b :: ps) e r (minF (chF L T b e r)) := by
  -- each choice may be taken
  have snd : ∀ x ∈ chF L T b e r, ∃ st, Feas size L (b :: ps) e r st ∧ x = (costF (b :: ps) st, st) := by
    intro x hx
    obtain ⟨g, hg, hx⟩ := List.mem_filterMap.mp hx
    unfold oneF at hx
    by_cases c : e ≤ g
    · rw [if_pos c] at hx
      obtain ⟨⟨c1, st⟩, h1, h2⟩ := Option.map_eq_some_iff.mp hx
      have t := hT (g + b.1.2) (r || decide (L ≤ g - e)) (by omega)
      rw [h1] at t
      refine ⟨g :: st, ⟨c, fun z => ?_, t.1⟩, ?_⟩
      · rw [if_pos z] at hg
        exact List.mem_singleton.mp hg
      · rw [← h2, costF, t.2.1, Int.add_comm]
    · rw [if_neg c] at hx
      cases hx
  -- each way is met by a choice
  have cmp : ∀ st, Feas size L (b :: ps) e r st → ∃ x ∈ chF L T b e r, Lv.lt (costF (b :: ps) st, st) x = false := by
    intro st hf
    cases st with
    | nil => exact hf.elim
    | cons s st =>
      obtain ⟨h1, h2, h3⟩ := hf
      have key : ∀ g ∈ (if b.2 = true then [b.1.1] else [b.1.1, e]), e ≤ g → ∀ c1 st1, T (g + b.1.2, r || decide (L ≤ g - e)) = some (c1, st1) → (c1 + (if g = b.1.1 then 0 else b.1.2), g :: st1) ∈ chF L T b e r := by
        intro g hg c c1 st1 t
        refine List.mem_filterMap.mpr ⟨g, hg, ?_⟩
        unfold oneF
        rw [if_pos c, t]
        rfl
      by_cases c : s = b.1.1
      · subst c
        have t := hT (b.1.1 + b.1.2) (r || decide (L ≤ b.1.1 - e)) (by omega)
        cases q : T (b.1.1 + b.1.2, r || decide (L ≤ b.1.1 - e)) with
        | none => rw [q] at t; exact absurd h3 (t _)
        | some x =>
          obtain ⟨c1, st1⟩ := x
          rw [q] at t
          refine ⟨_, key b.1.1 (by split <;> simp) h1 c1 st1 q, ?_⟩
          have t2 := t.2.2 st h3
          rw [lv_pair] at t2 ⊢
          rw [costF, if_pos rfl]
          dsimp only at t2 ⊢
          obtain z | z := t2
          · exact .inl (by omega)
          · exact .inr ⟨by omega, (lv_cons _ _ _ _).mpr (.inr ⟨rfl, z.2⟩)⟩
      · have np : b.2 = false := by
          cases q : b.2 with
          | false => rfl
          | true => exact absurd (h2 q) c
        have h3' : Feas size L ps (e + b.1.2) (r || decide (L ≤ e - e)) st := h3.mono (by omega) fun z => by
          rw [Bool.or_eq_true, decide_eq_true_iff] at *
          obtain z | z := z
          · exact .inl (.inl z)
          · exact .inr (by omega)
        have t := hT (e + b.1.2) (r || decide (L ≤ e - e)) (by omega)
        cases q : T (e + b.1.2, r || decide (L ≤ e - e)) with
        | none => rw [q] at t; exact absurd h3' (t _)
        | some x =>
          obtain ⟨c1, st1⟩ := x
          rw [q] at t
          refine ⟨_, key e (by rw [if_neg (by simp [np])]; simp) (Int.le_refl _) c1 st1 q, ?_⟩
          have t2 := t.2.2 st h3'
          rw [lv_pair] at t2 ⊢
          rw [costF, if_neg c]
          dsimp only at t2 ⊢
          by_cases d : e = b.1.1
          · rw [if_pos d]
            exact .inl (by obtain z | z := t2 <;> omega)
          · rw [if_neg d]
            obtain z | z := t2
            · exact .inl (by omega)
            · refine .inr ⟨by omega, (lv_cons _ _ _ _).mpr ?_⟩
              by_cases d2 : e = s
              · exact .inr ⟨d2.symm, z.2⟩
              · exact .inl (by omega)
  by_cases c : chF L T b e r = []
  · rw [c]
    intro st hf
    obtain ⟨x, hx, _⟩ := cmp st hf
    rw [c] at hx
    cases hx
  · obtain ⟨m, h1, h2, h3⟩ := minF_least c
    rw [h1]
    obtain ⟨st, f, rfl⟩ := snd m h2
    refine ⟨f, rfl, fun st' hf => ?_⟩
    obtain ⟨x, hx, hl⟩ := cmp st' hf
    exact lv_le (h3 x hx) hl
theorem ch_len {ps : List PB} {T : Int × Bool → Option (Int × List Int)} (b : PB) (e : Int) (r : Bool) : (chF L T b e r).length ≤ 2 := by
  unfold chF
  refine Nat.le_trans (List.length_filterMap_le _ _) ?_
  split <;> simp
/-! ### places -/
def placesF (gs : List (Int × Int)) (ln : Int) : List Int := gs.flatMap fun g => (List.range (g.2 - ln + 1).toNat).map fun i : Nat => g.1 + (i : Int)
theorem placesF_mem {size ln : Int} (hl : 1 ≤ ln) (p : Int) : ∀ {bs : List (Int × Int)} {e : Int}, VL size e bs → (p ∈ placesF (gapsF size e bs) ln ↔ e ≤ p ∧ p + ln ≤ size ∧ ∀ x ∈ bs, p + ln ≤ x.1 ∨ x.1 + x.2 ≤ p)
  | [], e, h => by
    have h' : e ≤ size := h
    have one : ∀ a c : Int, p ∈ placesF [(a, c)] ln ↔ a ≤ p ∧ p + ln ≤ a + c := by
      intro a c
      unfold placesF
      rw [List.flatMap_singleton, List.mem_map]
      constructor
      · rintro ⟨i, hi, rfl⟩
        have := List.mem_range.mp hi
        simp only at *
        omega
      · rintro ⟨h1, h2⟩
        exact ⟨(p - a).toNat, List.mem_range.mpr (by simp only; omega), by simp only; omega⟩
    rw [gapsF]
    split
    · rw [one]
      simp
      omega
    · simp [placesF]
      omega
  | (s, l) :: r, e, h => by
    obtain ⟨h1, h2, h3⟩ := h
    have ih := placesF_mem hl p h3
    have hm := h3.mem
    have hs := h3.le_size
    have app : ∀ g gs, p ∈ placesF (g :: gs) ln ↔ p ∈ placesF [g] ln ∨ p ∈ placesF gs ln := by
      intro g gs
      unfold placesF
      rw [List.flatMap_cons, List.flatMap_singleton, List.mem_append]
    have one : ∀ a c : Int, p ∈ placesF [(a, c)] ln ↔ a ≤ p ∧ p + ln ≤ a + c := by
      intro a c
      unfold placesF
      rw [List.flatMap_singleton, List.mem_map]
      constructor
      · rintro ⟨i, hi, rfl⟩
        have := List.mem_range.mp hi
        simp only at *
        omega
      · rintro ⟨h1, h2⟩
        exact ⟨(p - a).toNat, List.mem_range.mpr (by simp only; omega), by simp only; omega⟩
    have goal : ((e ≤ p ∧ p + ln ≤ s) ∨ p ∈ placesF (gapsF size (s + l) r) ln) ↔ e ≤ p ∧ p + ln ≤ size ∧ ∀ x ∈ (s, l) :: r, p + ln ≤ x.1 ∨ x.1 + x.2 ≤ p := by
      rw [ih, List.forall_mem_cons]
      simp only
      constructor
      · rintro (⟨a1, a2⟩ | ⟨a1, a2, a3⟩)
        · exact ⟨a1, by omega, .inl a2, fun x hx => .inl (by have := hm x hx; omega)⟩
        · exact ⟨by omega, a2, .inr a1, a3⟩
      · rintro ⟨a1, a2, a3, a4⟩
        rcases a3 with a3 | a3
        · exact .inl ⟨a1, a3⟩
        · exact .inr ⟨a3, a2, a4⟩
    rw [gapsF]
    split
    · rw [app, one, show e + (s - e) = s by omega]
      exact goal
    · rw [← goal]
      constructor
      · exact .inr
      · rintro (⟨a1, a2⟩ | a)
        · omega
        · exact a
theorem placesF_inc {size ln : Int} (hl : 1 ≤ ln) : ∀ {bs : List (Int × Int)} {e : Int}, VL size e bs → (placesF (gapsF size e bs) ln).Pairwise (· < ·) := by
  have rng : ∀ (a : Int) (n : Nat), ((List.range n).map fun i : Nat => a + (i : Int)).Pairwise (· < ·) := by
    intro a n
    rw [List.pairwise_map]
    exact List.pairwise_lt_range.imp fun {x y} h => by omega
  intro bs
  induction bs with
  | nil =>
    intro e h
    rw [gapsF]
    split
    · unfold placesF
      rw [List.flatMap_singleton]
      exact rng _ _
    · simp [placesF]
  | cons b r ih =>
    intro e h
    obtain ⟨s, l⟩ := b
    obtain ⟨h1, h2, h3⟩ := h
    rw [gapsF]
    split
    · have ee : placesF ((e, s - e) :: gapsF size (s + l) r) ln = ((List.range ((s - e) - ln + 1).toNat).map fun i : Nat => e + (i : Int)) ++ placesF (gapsF size (s + l) r) ln := by
        unfold placesF
        rw [List.flatMap_cons]
      rw [ee, List.pairwise_append]
      refine ⟨rng _ _, ih h3, fun x hx y hy => ?_⟩
      obtain ⟨i, hi, rfl⟩ := List.mem_map.mp hx
      have := List.mem_range.mp hi
      have := ((placesF_mem hl y h3).mp hy).1
      omega
    · exact ih h3
/-- the blocks at their new starts lie in their order, each pinned one where it was, and with room -/
def fsts (ps : List PB) : List (Int × Int) := ps.map (·.1)
def PinOk : List PB → List Int → Prop
  | b :: ps, s :: st => (b.2 = true → s = b.1.1) ∧ PinOk ps st
  | _, _ => True
def Room (size L e : Int) (qs : List (Int × Int)) : Prop := ∃ p, e ≤ p ∧ p + L ≤ size ∧ ∀ x ∈ qs, p + L ≤ x.1 ∨ x.1 + x.2 ≤ p
theorem plF_cons (b : Int × Int) (bs : List (Int × Int)) (s : Int) (st : List Int) : plF (b :: bs) (s :: st) = (s, b.2) :: plF bs st := rfl
theorem room_cons {e s l : Int} {qs : List (Int × Int)} (hL : 1 ≤ L) (h : VL size e ((s, l) :: qs)) : Room size L e ((s, l) :: qs) ↔ L ≤ s - e ∨ Room size L (s + l) qs := by
  obtain ⟨h1, h2, h3⟩ := h
  have hs := h3.le_size
  constructor
  · rintro ⟨p, a1, a2, a3⟩
    obtain z | z := a3 (s, l) List.mem_cons_self
    · exact .inl (by dsimp only at z; omega)
    · exact .inr ⟨p, z, a2, fun x hx => a3 x (List.mem_cons_of_mem _ hx)⟩
  · rintro (z | ⟨p, a1, a2, a3⟩)
    · refine ⟨e, Int.le_refl _, by omega, fun x hx => ?_⟩
      obtain q | q := List.mem_cons.mp hx
      · rw [q]; exact .inl (by dsimp only; omega)
      · have := h3.mem x q
        exact .inl (by omega)
    · refine ⟨p, by omega, a2, fun x hx => ?_⟩
      obtain q | q := List.mem_cons.mp hx
      · rw [q]; exact .inr (by dsimp only; omega)
      · exact a3 x q
theorem feas_iff (hL : 1 ≤ L) : ∀ {ps : List PB} {e : Int} {r : Bool} {st : List Int}, LenP ps → (Feas size L ps e r st ↔ st.length = ps.length ∧ VL size e (plF (fsts ps) st) ∧ PinOk ps st ∧ (r = true ∨ Room size L e (plF (fsts ps) st)))
  | [], e, r, st, _ => by
    constructor
    · rintro ⟨rfl, h2, h3⟩
      refine ⟨rfl, h2, trivial, h3.imp id fun z => ⟨e, Int.le_refl _, by omega, fun x hx => by cases hx⟩⟩
    · rintro ⟨h1, h2, _, h3⟩
      have : st = [] := List.length_eq_zero_iff.mp h1
      subst this
      refine ⟨rfl, h2, h3.imp id ?_⟩
      rintro ⟨p, a1, a2, _⟩
      omega
  | b :: ps, e, r, [], _ => by
    constructor
    · exact fun h => h.elim
    · exact fun h => by cases h.1
  | b :: ps, e, r, s :: st, hp => by
    have hb := hp b List.mem_cons_self
    have ih := feas_iff hL (ps := ps) (e := s + b.1.2) (r := r || decide (L ≤ s - e)) (st := st) fun x hx => hp x (List.mem_cons_of_mem _ hx)
    show (e ≤ s ∧ (b.2 = true → s = b.1.1) ∧ Feas size L ps (s + b.1.2) (r || decide (L ≤ s - e)) st) ↔ (s :: st).length = (b :: ps).length ∧ VL size e ((s, b.1.2) :: plF (fsts ps) st) ∧ ((b.2 = true → s = b.1.1) ∧ PinOk ps st) ∧ (r = true ∨ Room size L e ((s, b.1.2) :: plF (fsts ps) st))
    rw [ih, List.length_cons, List.length_cons, Bool.or_eq_true, decide_eq_true_iff]
    constructor
    · rintro ⟨h1, h2, h3, h4, h5, h6⟩
      refine ⟨by omega, ⟨h1, hb, h4⟩, ⟨h2, h5⟩, ?_⟩
      rw [room_cons hL ⟨h1, hb, h4⟩]
      obtain (z | z) | z := h6
      · exact .inl z
      · exact .inr (.inl z)
      · exact .inr (.inr z)
    · rintro ⟨h1, ⟨h2, h3, h4⟩, ⟨h5, h6⟩, h7⟩
      rw [room_cons hL ⟨h2, h3, h4⟩] at h7
      refine ⟨h2, h5, by omega, h4, h6, ?_⟩
      obtain z | z | z := h7
      · exact .inl (.inl z)
      · exact .inl (.inr z)
      · exact .inr z
end
end Pf

namespace Pf
open PySem L2
local macro_rules | `(tactic| walk_at "rd1") => `(tactic| first
  | with_reducible refine r_seqA ?_
  | with_reducible refine r_seqD ?_
  | with_reducible refine r_seqF ?_
  | with_reducible refine r_seqN ?_
  | with_reducible refine r_asg ?_
  | with_reducible refine r_drop ?_
  | with_reducible refine r_ret ?_
  | with_reducible refine r_ifS ?_
  | ((with_reducible refine r_next ?_); try dsimp only)
  | ((with_reducible refine r_name ?_); try dsimp only [List.set_cons_succ, List.set_cons_zero, wipe])
  | ((with_reducible refine' r_var ?rdh ?_); (case rdh => rfl))
  | with_reducible refine r_c ?_
  | with_reducible refine r_op ?_
  | with_reducible refine r_un ?_
  | with_reducible refine r_I0 ?_
  | ((with_reducible refine r_I ?_ ?_); (· first | decide | exact Or.inl (by decide) | exact Or.inr (by decide) | (show _ ∧ _; constructor <;> decide) | (show (0:Int) < _; omega) | (show CDiv _ _; unfold CDiv; omega) ))
  | with_reducible refine r_U ?_
  | with_reducible refine r_eqI ?_
  | with_reducible refine r_neI ?_
  | with_reducible refine r_eqB ?_
  | with_reducible refine r_neB ?_
  | with_reducible refine r_test ?_
  | with_reducible refine r_B ?_
  | with_reducible refine r_bl ?_
  | with_reducible refine r_bl2 ?_
  | with_reducible refine r_yes ?_
  | with_reducible refine r_wipe (by rfl) ?_
  | with_reducible refine r_rfl ?_
  | ((with_reducible refine' r_eqA ?rdh ?_); (case rdh => rfl))
  | with_reducible refine r_and ?_
  | with_reducible refine r_or ?_
  | with_reducible refine r_not ?_
  | with_reducible refine r_andV ?_
  | with_reducible refine r_orV ?_
  | with_reducible refine r_notV ?_
  | with_reducible refine r_ifE ?_
  | with_reducible refine r_nil ?_
  | with_reducible refine r_cons ?_
  | with_reducible refine r_tup ?_
  | with_reducible refine r_lst ?_
  | with_reducible refine r_CB ?_
  | with_reducible refine r_call ?_
  | with_reducible refine r_bm ?_
  | with_reducible refine r_bm0 ?_
  | with_reducible refine r_int ?_
  | with_reducible refine r_i2 ?_
  | with_reducible refine r_i1 ?_
  | with_reducible refine r_gcons ?_
  | with_reducible refine r_gnil ?_
  | with_reducible refine r_gsub ?_
  | with_reducible refine iteT ?_
  | with_reducible refine iteF ?_
  | with_reducible refine ite_notT ?_
  | with_reducible refine ite_notF ?_
  | with_reducible refine r_isi_ib ?_
  | with_reducible refine r_isi_ii ?_
  | with_reducible refine r_isi_bb ?_
  | with_reducible refine r_isi_nb ?_
  | with_reducible refine r_isi_nt ?_
  | ((with_reducible refine' r_isi_ll ?rdh ?_); (case rdh => first | assumption | exact upd_same))
  | ((with_reducible refine' r_isi_tt ?rdh ?_); (case rdh => first | assumption | exact upd_same))
  | with_reducible refine r_sl ?_
  | with_reducible refine r_noPart ?_
  | with_reducible refine r_part ?_
  | with_reducible refine r_int1 ?_
  | with_reducible refine r_tru ?_
  | with_reducible refine r_ckw ?_
  | with_reducible refine r_lc ?_
  | with_reducible refine r_lc2 ?_
  | with_reducible refine r_forS ?_
  | with_reducible refine r_iR1 ?_
  | with_reducible refine r_iR2 ?_
  | with_reducible refine r_iL ?_
  | ((with_reducible refine' r_lenL ?rdh ?_); (case rdh => walk_at "sq"))
  | ((with_reducible refine' r_ixL ?rdh ?rda ?_); (case rdh => walk_at "sq"); (case rda => walk_at "at"))
  | ((with_reducible refine' r_ixT ?rdh ?rda ?_); (case rdh => walk_at "sq"); (case rda => walk_at "at")))
local macro_rules | `(tactic| walk_at "sq") => `(tactic| first
  | assumption
  | exact SqL.of (by assumption)
  | exact SqL.of upd_same
  | exact SqT.of (by assumption)
  | exact SqT.of upd_same)
local macro_rules | `(tactic| walk_at "sml") => `(tactic| (rw [sizeLine_eq]; simp))
local macro_rules | `(tactic| walk_at "at") => `(tactic| first | assumption | rfl)
local macro_rules | `(tactic| walk_at "rd") => `(tactic| repeat walk_at "rd1")
section
variable {w : World} {P : Program} {base : Heap} {K : PySem.W.Frag} {mg : Str → Option Value}
def topS (i : Nat) : Stmt := PySem.Challenge.pw_heapgame_k16_cheapest_room.main.body.getD i (.Pass ⟨0, 0, 0, 0⟩)
abbrev s_law_cell : Stmt := topS 13
theorem sc_law_cell : FnScope ["script", "k"] ["script", "k"] (defScope s_law_cell) := ⟨rfl, rfl, rfl, by decide +kernel, rfl, by decide +kernel, by decide +kernel⟩
abbrev s_law_digits : Stmt := topS 14
theorem sc_law_digits : FnScope ["script", "first", "last", "digits", "k", "cell", "turn", "seed"] ["script", "first", "last"] (defScope s_law_digits) := ⟨rfl, rfl, rfl, by decide +kernel, rfl, by decide +kernel, by decide +kernel⟩
abbrev s_law_draw : Stmt := topS 15
theorem sc_law_draw : FnScope ["box", "many", "at"] ["box", "many"] (defScope s_law_draw) := ⟨rfl, rfl, rfl, by decide +kernel, rfl, by decide +kernel, by decide +kernel⟩
abbrev s_law_blocks : Stmt := topS 21
theorem sc_law_blocks : FnScope ["box", "size", "most", "blocks", "at", "k", "start", "length"] ["box", "size", "most"] (defScope s_law_blocks) := ⟨rfl, rfl, rfl, by decide +kernel, rfl, by decide +kernel, by decide +kernel⟩
abbrev s_law_all : Stmt := topS 25
theorem sc_law_all : FnScope ["size", "layout", "pinned", "rows", "k", "later", "row", "least", "start"] ["size", "layout", "pinned"] (defScope s_law_all) := ⟨rfl, rfl, rfl, by decide +kernel, rfl, by decide +kernel, by decide +kernel⟩
abbrev s_law_start : Stmt := topS 26
theorem sc_law_start : FnScope ["size", "layout", "starts", "length", "start", "free", "k"] ["size", "layout", "starts", "length"] (defScope s_law_start) := ⟨rfl, rfl, rfl, by decide +kernel, rfl, by decide +kernel, by decide +kernel⟩
abbrev s_gaps : Stmt := topS 1
theorem sc_gaps : FnScope ["size", "layout", "found", "end", "start", "length"] ["size", "layout"] (defScope s_gaps) := ⟨rfl, rfl, rfl, by decide +kernel, rfl, by decide +kernel, by decide +kernel⟩
abbrev s_places : Stmt := topS 3
theorem sc_places : FnScope ["size", "layout", "length", "start", "cells", "place"] ["size", "layout", "length"] (defScope s_places) := ⟨rfl, rfl, rfl, by decide +kernel, rfl, by decide +kernel, by decide +kernel⟩
abbrev s_placed : Stmt := topS 5
theorem sc_placed : FnScope ["layout", "starts", "start", "_", "length"] ["layout", "starts"] (defScope s_placed) := ⟨rfl, rfl, rfl, by decide +kernel, rfl, by decide +kernel, by decide +kernel⟩
abbrev s_relocated : Stmt := topS 6
theorem sc_relocated : FnScope ["layout", "starts"] ["layout", "starts"] (defScope s_relocated) := ⟨rfl, rfl, rfl, by decide +kernel, rfl, by decide +kernel, by decide +kernel⟩
abbrev s_room_behind_all : Stmt := topS 9
theorem sc_room_behind_all : FnScope ["size", "length", "found", "end"] ["size", "length"] (defScope s_room_behind_all) := ⟨rfl, rfl, rfl, by decide +kernel, rfl, by decide +kernel, by decide +kernel⟩
abbrev s_choices : Stmt := topS 11
theorem sc_choices : FnScope ["block", "is_pinned", "length", "end", "room", "behind", "start", "cells", "goals", "found", "goal", "key", "price", "starts"] ["block", "is_pinned", "length", "end", "room", "behind"] (defScope s_choices) := ⟨rfl, rfl, rfl, by decide +kernel, rfl, by decide +kernel, by decide +kernel⟩
abbrev s_room_from : Stmt := topS 10
theorem sc_room_from : FnScope ["size", "block", "is_pinned", "length", "behind", "found", "end", "room", "choices"] ["size", "block", "is_pinned", "length", "behind"] (defScope s_room_from) := ⟨rfl, rfl, rfl, by decide +kernel, rfl, by decide +kernel, by decide +kernel⟩
abbrev s_cheapest_room : Stmt := topS 8
theorem sc_cheapest_room : FnScope ["size", "layout", "pinned", "length", "behind", "index", "price", "starts", "found"] ["size", "layout", "pinned", "length"] (defScope s_cheapest_room) := ⟨rfl, rfl, rfl, by decide +kernel, rfl, by decide +kernel, by decide +kernel⟩
abbrev s_law : Stmt := topS 27
theorem sc_law : FnScope ["script", "box", "size", "layout", "pinned", "k", "length", "best", "starts", "start", "price", "kept", "block", "actual"] ["script"] (defScope s_law) := ⟨rfl, rfl, rfl, by decide +kernel, rfl, by decide +kernel, by decide +kernel⟩
structure Txt (mg : Str → Option Value) : Prop where
  int : mg "int" = none
  isinstance : mg "isinstance" = none
  len : mg "len" = none
  min : mg "min" = none
  range : mg "range" = none
  reversed : mg "reversed" = none
  sorted : mg "sorted" = none
  sum : mg "sum" = none
  tuple : mg "tuple" = none
  zip : mg "zip" = none
def sp_cell (K : PySem.W.Frag) : Sp := fun vs H Q _ => ∃ (a : Addr) (ns : List Int) (k : Nat), vs = [.ref a, .int k] ∧ SqL K H a (ns.map V.int) ∧ ∀ c, Q (.int c) H
theorem mk_law_cell {f : Addr} {fd : FuncData} (T : Txt mg) (F : Fun K "_law_cell" "_law_cell" s_law_cell f fd) (m : mg "_law_cell" = some (.ref f)) (b : Binds K fd ["script", "k"] []) :
    Cal P w K mg base "_law_cell" 1 f fd ["script", "k"] (sp_cell K) := by
  refine ⟨F.ok sc_law_cell (fun vs H Q E h => ?_) (fun cdv A outer s H vs Q E hr h => ?_), m, F.kp, b⟩
  · rcases h with ⟨a, ns, k, rfl, _⟩
    rfl
  obtain ⟨a, ns, k, rfl, hS, q⟩ := h
  refine ⟨_, (pss_cons (ps_if (pt_cmpR op_lt (pv 1) (pe_callB (show CallR _ _ (fun xs H Q => ∃ p ys, xs = [V.ref p] ∧ (SqL K H p ys ∨ SqT K H p ys) ∧ Q (.int ys.length) H) from call_len_seq) (by rfl) T.len PySem.boot_len (pa_cons (pv 0) pa_nil)) (nomark _))
      (pss_one (ps_ret (pe_ix (show IxR _ (rIxL K) from ix_list) (pv 0) (pv 1) (fun _ _ => rfl))))
      pss_nil) (pss_one (ps_ret pe_int))), ?_⟩
  try dsimp only [cxOf, Cx.nox, Cx.wish]
  rw [show start ["script", "k"] [V.ref a, V.int k] = [some (V.ref a), some (V.int k)] from rfl]
  refine r_seq ?_
  walk_at "rd"
  refine r_ite (fun c => ?_) (fun c => ?_)
  · rw [List.length_map] at c
    walk_at "rd"
    refine r_ixL hS (at_int (by omega) (by omega)) ?_
    exact q _
  · walk_at "rd"
    exact q _
def sp_digits (K : PySem.W.Frag) : Sp := fun vs H Q _ => ∃ (a : Addr) (ns : List Int) (f l : Nat), vs = [.ref a, .int f, .int l] ∧ SqL K H a (ns.map V.int) ∧ f ≤ l ∧ l ≤ 63 ∧
  ∀ (p : Addr) (ds : List Int) (H' : Hp), H p = none → Same H H' → H' p = some (.lst (ds.map V.int)) → ds.length ≤ 60 * (l - f) → Q (.ref p) H'
theorem mk_law_digits {f f1 : Addr} {fd fd1 : FuncData} (T : Txt mg) (F : Fun K "_law_digits" "_law_digits" s_law_digits f fd) (m : mg "_law_digits" = some (.ref f)) (b : Binds K fd ["script", "first", "last"] [])
    (C_law_cell : Cal P w K mg base "_law_cell" 1 f1 fd1 ["script", "k"] (sp_cell K)) :
    Cal P w K mg base "_law_digits" 2 f fd ["script", "first", "last"] (sp_digits K) := by
  refine ⟨F.ok sc_law_digits (fun vs H Q E h => ?_) (fun cdv A outer s H vs Q E hr h => ?_), m, F.kp, b⟩
  · obtain ⟨a, ns, f, l, rfl, _⟩ := h
    rfl
  obtain ⟨a, ns, f, l, rfl, hS, hfl, hl, q⟩ := h
  refine ⟨_, (pss_cons (ps_set (i := 3) sc_law_digits.nd rfl (Or.inl rfl) (pe_lst pa_nil)) (pss_cons (ps_for PassesOwn.never rfl (pi_range2 rfl T.range (pa_cons (pv 1) (pa_cons (pv 2) pa_nil))) (pg_name (i := 4) sc_law_digits.nd rfl (Or.inl rfl))
      (pss_cons (ps_set (i := 5) sc_law_digits.nd rfl (Or.inl rfl) (pe_call C_law_cell.ok (hr.mono (by first | decide | omega)) rfl C_law_cell.mg C_law_cell.kp C_law_cell.b .nil pass0 (pa_cons (pv 0) (pa_cons (pv 4) pa_nil)))) (pss_cons (ps_if (pt_cmpR op_lt (pv 5) pe_int (nomark _))
      (pss_one (ps_set (i := 5) sc_law_digits.nd rfl (Or.inl rfl) (pe_op op_sub pe_int (pe_op op_mul pe_int (pv 5)))))
      pss_nil) (pss_one (ps_if (pt_cmpR op_ge (pv 5) (pe_op op_pow pe_int pe_int) (nomark _))
      (pss_one (ps_for PassesOwn.never rfl (pi_range1 rfl T.range (pa_cons pe_int pa_nil)) (pg_name (i := 6) sc_law_digits.nd rfl (Or.inl rfl))
      (pss_one (ps_if (pt_cmpR op_gt (pv 5) pe_int (nomark _))
      (pss_cons (ps_expr (pe_bm PySem.F.plainAttrs_list PySem.F.slot_list_append PySem.F.type_list_append mt_append (pv 3) (pa_cons (pe_op op_mod (pe_callTy call_int1 (by rfl) T.int (by decide +kernel) (pa_cons (pv 5) pa_nil)) pe_int) pa_nil))) (pss_one (ps_set (i := 5) sc_law_digits.nd rfl (Or.inl rfl) (pe_op op_fdiv (pv 5) pe_int))))
      pss_nil))))
      (pss_cons (ps_set (i := 7) sc_law_digits.nd rfl (Or.inl rfl) (pe_op op_mod (pe_callTy call_int1 (by rfl) T.int (by decide +kernel) (pa_cons (pe_op op_add (pe_op op_add (pe_op op_mul (pv 5) pe_int) (pe_op op_mul (pv 4) pe_int)) pe_int) pa_nil)) pe_int)) (pss_one (ps_for PassesOwn.never rfl (pi_range1 rfl T.range (pa_cons pe_int pa_nil)) (pg_name (i := 6) sc_law_digits.nd rfl (Or.inl rfl))
      (pss_cons (ps_set (i := 7) sc_law_digits.nd rfl (Or.inl rfl) (pe_op op_mod (pe_callTy call_int1 (by rfl) T.int (by decide +kernel) (pa_cons (pe_op op_add (pe_op op_add (pe_op op_mul (pv 7) pe_int) (pe_op op_mul pe_int (pv 6))) pe_int) pa_nil)) pe_int)) (pss_one (ps_expr (pe_bm PySem.F.plainAttrs_list PySem.F.slot_list_append PySem.F.type_list_append mt_append (pv 3) (pa_cons (pe_op op_mod (pe_callTy call_int1 (by rfl) T.int (by decide +kernel) (pa_cons (pe_op op_fdiv (pv 7) pe_int) pa_nil)) pe_int) pa_nil))))))))))))) (pss_one (ps_ret (pv 3))))), ?_⟩
  try dsimp only [cxOf, Cx.nox, Cx.wish]
  rw [show start ["script", "first", "last", "digits", "k", "cell", "turn", "seed"] [V.ref a, V.int f, V.int l] = [some (V.ref a), some (V.int f), some (V.int l), none, none, none, none, none] from rfl]
  walk_at "rd"
  refine ⟨by decide, fun p np => ?_⟩
  walk_at "rd"
  refine ⟨by omega, ?_⟩
  refine for_range (lo := (f : Int)) (n := ((l : Int) - f).toNat) (fun i σ H' => ∃ x4 x5 x6 x7 ds, σ = [some (.ref a), some (.int f), some (.int l), some (.ref p), x4, x5, x6, x7] ∧ Same H H' ∧ H' p = some (.lst (ds.map V.int)) ∧ ds.length ≤ 60 * i)
    ⟨none, none, none, none, [], rfl, same_upd np, upd_same, by simp⟩ ?_ ?_
  · rintro i σ H1 hi ⟨x4, x5, x6, x7, ds, rfl, s1, hp, hd⟩
    have npa : ∀ z, H1 p = some z → True := fun _ _ => trivial
    walk_at "rd"
    refine ⟨a, ns, f + i, by simp, s1.seq hS, fun c => ?_⟩
    walk_at "rd"
    refine r_seqG fun R hR => ?_
    have key : ∀ c2 : Int, R [some (.ref a), some (.int f), some (.int l), some (.ref p), some (.int (f + i)), some (.int c2), x6, x7] H1 := by
      intro c2
      refine hR _ _ ?_
      walk_at "rd"
      refine r_ite (fun c => ?_) (fun c => ?_)
      · walk_at "rd"
        refine ⟨by decide, by decide, ?_⟩
        refine for_range (lo := 0) (n := 60) (fun j σ H' => ∃ (y6 : Option V) (es : List Int) (c3 : Int), σ = [some (.ref a), some (.int f), some (.int l), some (.ref p), some (.int (f + i)), some (.int c3), y6, x7] ∧ Same H H' ∧ H' p = some (.lst (es.map V.int)) ∧ es.length ≤ 60 * i + j)
          ⟨x6, ds, c2, rfl, s1, hp, by omega⟩ ?_ ?_
        · rintro j σ H2 hj ⟨y6, es, c3, rfl, s2, hp2, he⟩
          walk_at "rd"
          refine r_ite (fun c => ?_) (fun c => ?_)
          · walk_at "rd"
            refine ⟨ty_lst hp2, ?_⟩
            walk_at "rd"
            refine r_app hp2 (by rw [List.length_map, sizeLine_eq]; omega) fun H3 hp3 u3 => ?_
            walk_at "rd"
            exact ⟨_, es ++ [c3 % 1000], _, rfl, u3.new np s2, by rw [hp3, List.map_append]; rfl, by rw [List.length_append]; simp; omega⟩
          · walk_at "rd"
            exact ⟨_, es, c3, rfl, s2, hp2, by omega⟩
        · rintro σ H2 ⟨y6, es, c3, rfl, s2, hp2, he⟩
          exact ⟨_, _, _, _, es, rfl, s2, hp2, by omega⟩
      · walk_at "rd"
        refine ⟨by decide, by decide, ?_⟩
        refine for_range (lo := 0) (n := 12) (fun j σ H' => ∃ (y6 : Option V) (es : List Int) (c3 : Int), σ = [some (.ref a), some (.int f), some (.int l), some (.ref p), some (.int (f + i)), some (.int c2), y6, some (.int c3)] ∧ Same H H' ∧ H' p = some (.lst (es.map V.int)) ∧ es.length ≤ 60 * i + j)
          ⟨x6, ds, _, rfl, s1, hp, by omega⟩ ?_ ?_
        · rintro j σ H2 hj ⟨y6, es, c3, rfl, s2, hp2, he⟩
          walk_at "rd"
          refine ⟨ty_lst hp2, ?_⟩
          walk_at "rd"
          refine r_app hp2 (by rw [List.length_map, sizeLine_eq]; omega) fun H3 hp3 u3 => ?_
          walk_at "rd"
          exact ⟨_, es ++ [_], _, rfl, u3.new np s2, by rw [hp3, List.map_append]; rfl, by rw [List.length_append]; simp; omega⟩
        · rintro σ H2 ⟨y6, es, c3, rfl, s2, hp2, he⟩
          exact ⟨_, _, _, _, es, rfl, s2, hp2, by omega⟩
    walk_at "rd"
    refine r_ite (fun c => ?_) (fun c => ?_)
    · walk_at "rd"
      exact key _
    · walk_at "rd"
      exact key _
  · rintro σ H1 ⟨x4, x5, x6, x7, ds, rfl, s1, hp, hd⟩
    walk_at "rd"
    exact q p ds H1 np s1 hp (by omega)
theorem mk_law_draw {f : Addr} {fd : FuncData} (T : Txt mg) (F : Fun K "_law_draw" "_law_draw" s_law_draw f fd) (m : mg "_law_draw" = some (.ref f)) (b : Binds K fd ["box", "many"] []) :
    Cal P w K mg base "_law_draw" 1 f fd ["box", "many"] (spB (fun bx (i : Int × Unit) => drawF bx i.1)) := by
  refine ⟨F.ok sc_law_draw (fun vs H Q E h => ?_) (fun cdv A outer s H vs Q E hr h => ?_), m, F.kp, b⟩
  · obtain ⟨ms, b, us, bx0, bx', ⟨i, ⟨⟩⟩, r, rfl, _, _, _, ⟨v, _, rfl, f1, e0⟩, _⟩ := h
    cases e0
    rfl
  obtain ⟨ms, b, us, ⟨ds, k⟩, ⟨ds', k'⟩, ⟨i, ⟨⟩⟩, r, rfl, hbm, al, ⟨d, hb, nd, ndm, hd⟩, ⟨v, _, rfl, f1, e0⟩, hm, Q⟩ := h
  cases e0
  obtain rfl : v = V.int i := f1
  have hm : drawF (ds, k) i = some (r, (ds', k')) := hm
  unfold drawF at hm
  split at hm
  case isFalse => cases hm
  rename_i hi
  obtain ⟨e1, e2⟩ := Prod.mk.inj (Option.some.inj hm)
  obtain ⟨e3, e4⟩ := Prod.mk.inj e2
  subst e1 e3 e4
  dsimp only at hb hd
  refine ⟨_, (pss_cons (ps_set (i := 2) sc_law_draw.nd rfl (Or.inl rfl) (pe_ix (show IxR _ (rIxL K) from ix_list) (pv 0) pe_int (fun _ _ => rfl))) (pss_cons (ps_asg (pe_op op_add (pv 2) pe_int) (pg_sub (pv 0) pe_int set_list)) (pss_cons (ps_if (pt_cmpR op_lt (pv 2) (pe_callB (show CallR _ _ (fun xs H Q => ∃ p ys, xs = [V.ref p] ∧ (SqL K H p ys ∨ SqT K H p ys) ∧ Q (.int ys.length) H) from call_len_seq) (by rfl) T.len PySem.boot_len (pa_cons (pe_ix (show IxR _ (rIxL K) from ix_list) (pv 0) pe_int (fun _ _ => rfl)) pa_nil)) (nomark _))
      (pss_one (ps_ret (pe_op op_mod (pe_callTy call_int1 (by rfl) T.int (by decide +kernel) (pa_cons (pe_ix (show IxR _ (rIxL K) from ix_list) (pe_ix (show IxR _ (rIxL K) from ix_list) (pv 0) pe_int (fun _ _ => rfl)) (pv 2) (fun _ _ => rfl)) pa_nil)) (pv 1))))
      pss_nil) (pss_one (ps_ret pe_int))))), ?_⟩
  try dsimp only [cxOf, Cx.nox, Cx.wish]
  rw [show start ["box", "many", "at"] [V.ref b, V.int i] = [some (V.ref b), some (V.int i), none] from rfl]
  walk_at "rd"
  refine r_setL hb (j := 1) rfl fun H1 hb1 u1 => ?_
  have hd1 := u1 _ _ nd hd
  have al1 := al.but u1 hb1
  have bu : Bu [b] H H1 := ⟨fun a o n e => u1 a o (fun z => n (by rw [z]; exact List.mem_cons_self)) e, fun a e => by
    by_cases q : a = b
    · rw [q, hb1]; exact fun z => by cases z
    · cases h' : H a with
      | none => exact absurd h' e
      | some o' => rw [u1 a o' q h']; exact fun z => by cases z⟩
  have hq1 : Bxs b (ds, k + 1) ms H1 := ⟨d, hb1, nd, ndm, hd1⟩
  refine r_seq ?_
  walk_at "rd"
  refine r_ite (fun c => ?_) (fun c => ?_)
  · rw [List.length_map] at c
    walk_at "rd"
    refine r_ixL (SqL.of hd1) (at_int (by omega) (by omega)) ?_
    walk_at "rd"
    refine Q _ _ bu hq1 ?_
    rw [if_pos (by dsimp only; omega)]
    rfl
  · walk_at "rd"
    refine Q _ _ bu hq1 ?_
    rw [List.length_map] at c
    rw [if_neg (by dsimp only; omega)]
    rfl
end
end Pf

namespace Pf
open PySem L2
local macro_rules | `(tactic| walk_at "rd1") => `(tactic| first
  | with_reducible refine r_seqA ?_
  | with_reducible refine r_seqD ?_
  | with_reducible refine r_seqF ?_
  | with_reducible refine r_seqN ?_
  | with_reducible refine r_asg ?_
  | with_reducible refine r_drop ?_
  | with_reducible refine r_ret ?_
  | with_reducible refine r_ifS ?_
  | ((with_reducible refine r_next ?_); try dsimp only)
  | ((with_reducible refine r_name ?_); try dsimp only [List.set_cons_succ, List.set_cons_zero, wipe])
  | ((with_reducible refine' r_var ?rdh ?_); (case rdh => rfl))
  | with_reducible refine r_c ?_
  | with_reducible refine r_op ?_
  | with_reducible refine r_un ?_
  | with_reducible refine r_I0 ?_
  | ((with_reducible refine r_I ?_ ?_); (· first | decide | exact Or.inl (by decide) | exact Or.inr (by decide) | (show _ ∧ _; constructor <;> decide) | (show (0:Int) < _; omega) | (show CDiv _ _; unfold CDiv; omega) ))
  | with_reducible refine r_U ?_
  | with_reducible refine r_eqI ?_
  | with_reducible refine r_neI ?_
  | with_reducible refine r_eqB ?_
  | with_reducible refine r_neB ?_
  | with_reducible refine r_test ?_
  | with_reducible refine r_B ?_
  | with_reducible refine r_bl ?_
  | with_reducible refine r_bl2 ?_
  | with_reducible refine r_yes ?_
  | with_reducible refine r_wipe (by rfl) ?_
  | with_reducible refine r_rfl ?_
  | ((with_reducible refine' r_eqA ?rdh ?_); (case rdh => rfl))
  | with_reducible refine r_and ?_
  | with_reducible refine r_or ?_
  | with_reducible refine r_not ?_
  | with_reducible refine r_andV ?_
  | with_reducible refine r_orV ?_
  | with_reducible refine r_notV ?_
  | with_reducible refine r_ifE ?_
  | with_reducible refine r_nil ?_
  | with_reducible refine r_cons ?_
  | with_reducible refine r_tup ?_
  | with_reducible refine r_lst ?_
  | with_reducible refine r_CB ?_
  | with_reducible refine r_call ?_
  | with_reducible refine r_bm ?_
  | with_reducible refine r_bm0 ?_
  | with_reducible refine r_int ?_
  | with_reducible refine r_i2 ?_
  | with_reducible refine r_i1 ?_
  | with_reducible refine r_gcons ?_
  | with_reducible refine r_gnil ?_
  | with_reducible refine r_gsub ?_
  | with_reducible refine iteT ?_
  | with_reducible refine iteF ?_
  | with_reducible refine ite_notT ?_
  | with_reducible refine ite_notF ?_
  | with_reducible refine r_isi_ib ?_
  | with_reducible refine r_isi_ii ?_
  | with_reducible refine r_isi_bb ?_
  | with_reducible refine r_isi_nb ?_
  | with_reducible refine r_isi_nt ?_
  | ((with_reducible refine' r_isi_ll ?rdh ?_); (case rdh => first | assumption | exact upd_same))
  | ((with_reducible refine' r_isi_tt ?rdh ?_); (case rdh => first | assumption | exact upd_same))
  | with_reducible refine r_sl ?_
  | with_reducible refine r_noPart ?_
  | with_reducible refine r_part ?_
  | with_reducible refine r_int1 ?_
  | with_reducible refine r_tru ?_
  | with_reducible refine r_ckw ?_
  | with_reducible refine r_lc ?_
  | with_reducible refine r_lc2 ?_
  | with_reducible refine r_forS ?_
  | with_reducible refine r_iR1 ?_
  | with_reducible refine r_iR2 ?_
  | with_reducible refine r_iL ?_
  | ((with_reducible refine' r_lenL ?rdh ?_); (case rdh => walk_at "sq"))
  | ((with_reducible refine' r_ixL ?rdh ?rda ?_); (case rdh => walk_at "sq"); (case rda => walk_at "at"))
  | ((with_reducible refine' r_ixT ?rdh ?rda ?_); (case rdh => walk_at "sq"); (case rda => walk_at "at")))
local macro_rules | `(tactic| walk_at "sq") => `(tactic| first
  | assumption
  | exact SqL.of (by assumption)
  | exact SqL.of upd_same
  | exact SqT.of (by assumption)
  | exact SqT.of upd_same)
local macro_rules | `(tactic| walk_at "sml") => `(tactic| (rw [sizeLine_eq]; simp))
local macro_rules | `(tactic| walk_at "at") => `(tactic| first | assumption | rfl)
local macro_rules | `(tactic| walk_at "rd") => `(tactic| repeat walk_at "rd1")
section
variable {w : World} {P : Program} {base : Heap} {K : PySem.W.Frag} {mg : Str → Option Value}
def law_blocksM (bx0 : List Int × Nat) (p_size : Int) (p_most : Int) : Option ((List (Int × Int)) × (List Int × Nat)) :=
  bnd (([] : List (Int × Int))) fun blocks_1 => bnd ((0 : Int)) fun at_3 => (rng1 p_most).bind fun rg_6 => (fold (fun (y_13 : Int) (x : ((List (Int × Int)) × Int × (List Int × Nat))) => match x with | (blocks_9, at_10, bx_11) => (law_drawM bx_11 (6 : Int)).bind fun (t_17, bx_18) => (atI [(0 : Int), (0 : Int), (0 : Int), (1 : Int), (1 : Int), (2 : Int)] t_17).bind fun t_19 => bnd ((at_10 + t_19)) fun start_20 => (law_drawM bx_18 (6 : Int)).bind fun (t_23, bx_24) => (atI [(0 : Int), (0 : Int), (1 : Int), (1 : Int), (2 : Int), (3 : Int)] t_23).bind fun t_25 => bnd (((1 : Int) + t_25)) fun length_26 => (if (decide ((start_20 + length_26) ≤ p_size)) = true then (law_drawM bx_24 (6 : Int)).bind fun (t_31, bx_32) => some ((decide ((0 : Int) < t_31)), bx_32) else some (false, bx_24)).bind fun (t_33, bx_34) => if t_33 = true then ((appF blocks_9 (start_20, length_26)).bind fun blocks_36 => bnd ((start_20 + length_26)) fun at_38 => some (blocks_36, at_38, bx_34)) else (some (blocks_9, at_10, bx_34)) : Int → ((List (Int × Int)) × Int × (List Int × Nat)) → Option ((List (Int × Int)) × Int × (List Int × Nat))) rg_6 (blocks_1, at_3, bx0)).bind fun x => match x with | (blocks_9, at_10, bx_11) => some (blocks_9, bx_11)
theorem mk_law_blocks {f f1 : Addr} {fd fd1 : FuncData} (T : Txt mg) (F : Fun K "_law_blocks" "_law_blocks" s_law_blocks f fd) (m : mg "_law_blocks" = some (.ref f)) (b : Binds K fd ["box", "size", "most"] [])
    (C_law_draw : Cal P w K mg base "_law_draw" 1 f1 fd1 ["box", "many"] (spB (fun bx (i : Int × Unit) => law_drawM bx i.1))) :
    Cal P w K mg base "_law_blocks" 2 f fd ["box", "size", "most"] (spB (fun bx (i : Int × Int × Unit) => law_blocksM bx i.1 i.2.1)) := by
  refine ⟨F.ok sc_law_blocks (fun vs H Q E h => ?_) (fun cdv A outer s H vs Q E hr h => ?_), m, F.kp, b⟩
  · obtain ⟨ms, b, us, bx0, bx', ⟨p_size, p_most, ⟨⟩⟩, r, rfl, _, _, _, ⟨v_p_size, _, rfl, f_p_size, ⟨v_p_most, _, rfl, f_p_most, e0⟩⟩, _⟩ := h
    cases e0
    rfl
  obtain ⟨ms, b, us, bx0, bx', ⟨p_size, p_most, ⟨⟩⟩, r, rfl, hb, al, hq, ⟨v_p_size, _, rfl, f_p_size, ⟨v_p_most, _, rfl, f_p_most, e0⟩⟩, hm, Q⟩ := h
  cases e0
  obtain rfl : v_p_size = V.int p_size := f_p_size
  obtain rfl : v_p_most = V.int p_most := f_p_most
  refine ⟨_, (pss_cons (ps_set (i := 3) sc_law_blocks.nd rfl (Or.inl rfl) (pe_lst pa_nil)) (pss_cons (ps_set (i := 4) sc_law_blocks.nd rfl (Or.inl rfl) pe_int) (pss_cons (ps_for PassesOwn.never rfl (pi_range1 rfl T.range (pa_cons (pv 2) pa_nil)) (pg_name (i := 5) sc_law_blocks.nd rfl (Or.inl rfl))
      (pss_cons (ps_set (i := 6) sc_law_blocks.nd rfl (Or.inl rfl) (pe_op op_add (pv 4) (pe_ix (show IxR _ (rIxL K) from ix_list) (pe_lst (pa_cons pe_int (pa_cons pe_int (pa_cons pe_int (pa_cons pe_int (pa_cons pe_int (pa_cons pe_int pa_nil))))))) (pe_call C_law_draw.ok (hr.mono (by first | decide | omega)) rfl C_law_draw.mg C_law_draw.kp C_law_draw.b .nil pass0 (pa_cons (pv 0) (pa_cons pe_int pa_nil))) (fun _ _ => rfl)))) (pss_cons (ps_set (i := 7) sc_law_blocks.nd rfl (Or.inl rfl) (pe_op op_add pe_int (pe_ix (show IxR _ (rIxL K) from ix_list) (pe_lst (pa_cons pe_int (pa_cons pe_int (pa_cons pe_int (pa_cons pe_int (pa_cons pe_int (pa_cons pe_int pa_nil))))))) (pe_call C_law_draw.ok (hr.mono (by first | decide | omega)) rfl C_law_draw.mg C_law_draw.kp C_law_draw.b .nil pass0 (pa_cons (pv 0) (pa_cons pe_int pa_nil))) (fun _ _ => rfl)))) (pss_one (ps_if (PW.pt (pw_and (pt_cmpR op_le (pe_op op_add (pv 6) (pv 7)) (pv 1) (nomark _)) (pw_and1 (pt_cmpR op_gt (pe_call C_law_draw.ok (hr.mono (by first | decide | omega)) rfl C_law_draw.mg C_law_draw.kp C_law_draw.b .nil pass0 (pa_cons (pv 0) (pa_cons pe_int pa_nil))) pe_int (nomark _)))))
      (pss_cons (ps_expr (pe_bm PySem.F.plainAttrs_list PySem.F.slot_list_append PySem.F.type_list_append mt_append (pv 3) (pa_cons (pe_tup (pa_cons (pv 6) (pa_cons (pv 7) pa_nil))) pa_nil))) (pss_one (ps_set (i := 4) sc_law_blocks.nd rfl (Or.inl rfl) (pe_op op_add (pv 6) (pv 7)))))
      pss_nil))))) (pss_one (ps_ret (pv 3)))))), ?_⟩
  try dsimp only [cxOf, Cx.nox, Cx.wish]
  rw [show start ["box", "size", "most", "blocks", "at", "k", "start", "length"] [V.ref b, V.int p_size, V.int p_most] = [some (V.ref b), some (V.int p_size), some (V.int p_most), none, none, none, none, none] from rfl]
  have hB0 : ∀ a ∈ [b], a ∈ ms := fun a h => by rw [List.mem_singleton.mp h]; exact hb
  have W : Wd [b] ms H := ⟨hB0, al⟩
  have hm : law_blocksM bx0 p_size p_most = some (r, bx') := hm
  have u : Bu [b] H H := Bu.refl _ H
  unfold law_blocksM at hm
  obtain ⟨blocks_1, e_blocks_1, hm⟩ := bnd_inv hm
  refine r_seqA ?_
  refine En.mk W (en_lst (xs := ([] : List (Int × Int))) W sb_bxs (by simp) es_nil) hq fun ablocks_1 H_2 bb na hq' W' M l_ablocks_1 => ?_
  rw [← e_blocks_1] at l_ablocks_1
  have o_ablocks_1 := W.al.not na
  have n_ablocks_1 : ablocks_1 ∉ [b] := fun z => W.al.not na (W.hB _ z)
  have m_ablocks_1 : ablocks_1 ∈ ablocks_1 :: ms := List.mem_cons_self
  have h_ablocks_1 := u.none na
  have u := u.trans bb
  have W := W'
  have hq := hq'
  refine r_name ?_
  dsimp only [List.set_cons_succ, List.set_cons_zero]
  obtain ⟨at_3, e_at_3, hm⟩ := bnd_inv hm
  refine r_seqA ?_
  refine Ex.go W (ex_int 0) hq fun v_5 H_4 bb hq W M rv => ?_
  rw [← e_at_3] at rv
  have l_ablocks_1 := l_ablocks_1.step M fun o e => bb.1 _ o n_ablocks_1 e
  have u := u.trans bb
  obtain rfl : v_5 = V.int at_3 := rv
  refine (bnd_name : Bnd _ _ _ _ _) _ ?_
  dsimp only [List.set_cons_succ, List.set_cons_zero]
  obtain ⟨rg_6, e_rg_6, hm⟩ := bind_inv hm
  refine r_seqF' ?_
  refine r_for W (ei_rng1 (ea_cons W (ex_vi rfl) ea_nil) e_rg_6) hq fun J N_8 H_7 bb hq W M st_nN_8 nN_8 ok_N_8 => ?_
  have l_ablocks_1 := l_ablocks_1.step M fun o e => bb.1 _ o n_ablocks_1 e
  have u := u.trans bb
  obtain ⟨out_14, e_out_14, hm⟩ := bind_inv hm
  have hgoN_8 := hm
  clear hm
  refine wk_fold (ms := ablocks_1 :: ms) ok_N_8 e_out_14 (fun x σ H' => match x with | (blocks_9, at_10, bx_11) => ∃ (xl_k : Option V), ∃ (xl_start : Option V), ∃ (xl_length : Option V), σ = [some (.ref b), some (.int p_size), some (.int p_most), some (.ref ablocks_1), some (.int at_10), xl_k, xl_start, xl_length] ∧ Bu [b] H H' ∧ (Bxs b bx_11) (ablocks_1 :: ms) H' ∧ Wd [b] (ablocks_1 :: ms) H' ∧ N_8 (ablocks_1 :: ms) H' ∧ Ls (ablocks_1 :: ms) H' ablocks_1 blocks_9) ⟨_, _, _, rfl, u, hq, W, nN_8, l_ablocks_1⟩ ?_ ?_ ?_
  · intro x σ H' hI
    obtain ⟨blocks_9, at_10, bx_11⟩ := x
    try dsimp only at hI
    obtain ⟨xl_k, xl_start, xl_length, rfl, u, hq, W, nN_8, l_ablocks_1⟩ := hI
    exact ⟨nN_8, W.al⟩
  · intro y_13 v x x' σ H_15 H_16 hI s1 rv hf
    obtain ⟨blocks_9, at_10, bx_11⟩ := x
    try dsimp only at hI
    obtain ⟨xl_k, xl_start, xl_length, rfl, u, hq, W, nN_8, l_ablocks_1⟩ := hI
    have hm := hf
    try dsimp only at hm
    have bb : Bu [b] H_15 H_16 := Bu.same s1
    have M : Mv (ablocks_1 :: ms) H_15 (ablocks_1 :: ms) H_16 := Mv.same s1
    have hq := sb_bxs.same s1 hq
    have W := W.bu bb
    have l_ablocks_1 := l_ablocks_1.step M fun o e => bb.1 _ o n_ablocks_1 e
    have nN_8 := st_nN_8.mv nN_8 M
    have u := u.trans bb
    obtain rfl : v = V.int y_13 := rv
    refine (bnd_name : Bnd _ _ _ _ _) _ ?_
    dsimp only [List.set_cons_succ, List.set_cons_zero]
    obtain ⟨⟨t_17, bx_18⟩, e_t_17, hm⟩ := bind_inv hm
    dsimp only at hm
    obtain ⟨t_19, e_t_19, hm⟩ := bind_inv hm
    obtain ⟨start_20, e_start_20, hm⟩ := bnd_inv hm
    refine r_seqA ?_
    refine Ex.go W (ex_opI0 (z := (at_10 + t_19)) (fun _ _ => rfl) (ex_vi rfl) (ex_ixL (el_of W.hB (En.ex sb_bxs (en_lst (xs := [(0 : Int), (0 : Int), (0 : Int), (1 : Int), (1 : Int), (2 : Int)]) W sb_bxs (by simp) (es_cons W (ex_int 0) (es_cons W (ex_int 0) (es_cons W (ex_int 0) (es_cons W (ex_int 1) (es_cons W (ex_int 1) (es_cons W (ex_int 2) es_nil))))))))) (ex_callB (i := ((6 : Int), ())) W (v := 0) rfl (ea_cons W (ex_int 6) ea_nil) e_t_17) W e_t_19)) hq fun v_22 H_21 bb hq W M rv => ?_
    rw [← e_start_20] at rv
    have l_ablocks_1 := l_ablocks_1.step M fun o e => bb.1 _ o n_ablocks_1 e
    have nN_8 := st_nN_8.mv nN_8 M
    have u := u.trans bb
    obtain rfl : v_22 = V.int start_20 := rv
    refine (bnd_name : Bnd _ _ _ _ _) _ ?_
    dsimp only [List.set_cons_succ, List.set_cons_zero]
    obtain ⟨⟨t_23, bx_24⟩, e_t_23, hm⟩ := bind_inv hm
    dsimp only at hm
    obtain ⟨t_25, e_t_25, hm⟩ := bind_inv hm
    obtain ⟨length_26, e_length_26, hm⟩ := bnd_inv hm
    refine r_seqA ?_
    refine Ex.go W (ex_opI0 (z := ((1 : Int) + t_25)) (fun _ _ => rfl) (ex_int 1) (ex_ixL (el_of W.hB (En.ex sb_bxs (en_lst (xs := [(0 : Int), (0 : Int), (1 : Int), (1 : Int), (2 : Int), (3 : Int)]) W sb_bxs (by simp) (es_cons W (ex_int 0) (es_cons W (ex_int 0) (es_cons W (ex_int 1) (es_cons W (ex_int 1) (es_cons W (ex_int 2) (es_cons W (ex_int 3) es_nil))))))))) (ex_callB (i := ((6 : Int), ())) W (v := 0) rfl (ea_cons W (ex_int 6) ea_nil) e_t_23) W e_t_25)) hq fun v_28 H_27 bb hq W M rv => ?_
    rw [← e_length_26] at rv
    have l_ablocks_1 := l_ablocks_1.step M fun o e => bb.1 _ o n_ablocks_1 e
    have nN_8 := st_nN_8.mv nN_8 M
    have u := u.trans bb
    obtain rfl : v_28 = V.int length_26 := rv
    refine (bnd_name : Bnd _ _ _ _ _) _ ?_
    dsimp only [List.set_cons_succ, List.set_cons_zero]
    obtain ⟨⟨t_33, bx_34⟩, e_t_33, hm⟩ := bind_inv hm
    dsimp only at hm
    refine r_ifS ?_
    refine Et.go W (et_and (d := t_33) (r := Bxs b bx_34) (et_test (ex_opI0 (z := (decide ((start_20 + length_26) ≤ p_size))) (fun _ _ => rfl) (ex_opI0 (z := (start_20 + length_26)) (fun _ _ => rfl) (ex_vi rfl) (ex_vi rfl)) (ex_vi rfl))) (fun c => by
            have hm := (if_pos c).symm.trans e_t_33
            obtain ⟨⟨t_31, bx_32⟩, e_t_31, hm⟩ := bind_inv hm
            dsimp only at hm
            rw [← (Prod.mk.inj (Option.some.inj hm)).1, ← (Prod.mk.inj (Option.some.inj hm)).2]
            exact (et_test (ex_opI0 (z := (decide ((0 : Int) < t_31))) (fun _ _ => rfl) (ex_callB (i := ((6 : Int), ())) W (v := 0) rfl (ea_cons W (ex_int 6) ea_nil) e_t_31) (ex_int 0))))
            (fun c => by
            have hm := (if_neg (by rw [c]; decide)).symm.trans e_t_33
            cases hm
            exact ⟨rfl, fun _ h => h⟩)) hq fun H_35 bb hq W M => ?_
    have l_ablocks_1 := l_ablocks_1.step M fun o e => bb.1 _ o n_ablocks_1 e
    have nN_8 := st_nN_8.mv nN_8 M
    have u := u.trans bb
    refine ite_by (fun hc => ?_) (fun hc => ?_)
    · have hm := (if_pos hc).symm.trans hm
      obtain ⟨blocks_36, e_blocks_36, hm⟩ := bind_inv hm
      refine r_seqD ?_
      refine s_app rfl W rfl l_ablocks_1 m_ablocks_1 n_ablocks_1 sb_bxs (ea_cons W (ex_tup2 W sb_bxs (u := (start_20, length_26)) (ea_cons W (ex_vi rfl) (ea_cons W (ex_vi rfl) ea_nil))) ea_nil) hq e_blocks_36 fun H_37 bb hq W M l_ablocks_1 => ?_
      have nN_8 := st_nN_8.mv nN_8 M
      have u := u.own2 h_ablocks_1 bb
      obtain ⟨at_38, e_at_38, hm⟩ := bnd_inv hm
      refine r_asg ?_
      refine Ex.go W (ex_opI0 (z := (start_20 + length_26)) (fun _ _ => rfl) (ex_vi rfl) (ex_vi rfl)) hq fun v_40 H_39 bb hq W M rv => ?_
      rw [← e_at_38] at rv
      have l_ablocks_1 := l_ablocks_1.step M fun o e => bb.1 _ o n_ablocks_1 e
      have nN_8 := st_nN_8.mv nN_8 M
      have u := u.trans bb
      obtain rfl : v_40 = V.int at_38 := rv
      refine (bnd_name : Bnd _ _ _ _ _) _ ?_
      dsimp only [List.set_cons_succ, List.set_cons_zero]
      try dsimp only
      try dsimp only
      try dsimp only
      cases hm
      exact ⟨_, _, _, rfl, u, hq, W, nN_8, l_ablocks_1⟩
    · have hm := (if_neg hc).symm.trans hm
      refine r_next ?_
      try dsimp only
      try dsimp only
      cases hm
      exact ⟨_, _, _, rfl, u, hq, W, nN_8, l_ablocks_1⟩
  · intro σ H_12 hI
    obtain ⟨blocks_9, at_10, bx_11⟩ := out_14
    try dsimp only at hI
    obtain ⟨xl_k, xl_start, xl_length, rfl, u, hq, W, nN_8, l_ablocks_1⟩ := hI
    have hm := hgoN_8
    try dsimp only at hm
    try dsimp only
    have sub : ∀ a ∈ ms, a ∈ ablocks_1 :: ms := ((.cons _ (.refl _)) : List.Sublist (ms) (ablocks_1 :: ms)).subset
    have M : Mv (ablocks_1 :: ms) H_12 (ms) H_12 := Mv.less sub
    have hq := sb_bxs _ _ _ _ hq M fun _ _ _ e => e
    have W : Wd [b] (ms) H_12 := ⟨fun a h => hB0 a h, W.al.less sub⟩
    have f_blocks_9 : Rp.rp (ms) H_12 (.ref ablocks_1) blocks_9 := ⟨ablocks_1, rfl, o_ablocks_1, l_ablocks_1.less sub⟩
    obtain ⟨hm1, hm2⟩ := Prod.mk.inj (Option.some.inj hm)
    subst hm1
    subst hm2
    refine r_ret' ?_
    refine Ex.go W (ex_var W rfl f_blocks_9) hq fun v H_41 bb hq W M rv => ?_
    exact Q v _ (u.trans bb) (hq) (rv)
end
end Pf

namespace Pf
open PySem L2
local macro_rules | `(tactic| walk_at "rd1") => `(tactic| first
  | with_reducible refine r_seqA ?_
  | with_reducible refine r_seqD ?_
  | with_reducible refine r_seqF ?_
  | with_reducible refine r_seqN ?_
  | with_reducible refine r_asg ?_
  | with_reducible refine r_drop ?_
  | with_reducible refine r_ret ?_
  | with_reducible refine r_ifS ?_
  | ((with_reducible refine r_next ?_); try dsimp only)
  | ((with_reducible refine r_name ?_); try dsimp only [List.set_cons_succ, List.set_cons_zero, wipe])
  | ((with_reducible refine' r_var ?rdh ?_); (case rdh => rfl))
  | with_reducible refine r_c ?_
  | with_reducible refine r_op ?_
  | with_reducible refine r_un ?_
  | with_reducible refine r_I0 ?_
  | ((with_reducible refine r_I ?_ ?_); (· first | decide | exact Or.inl (by decide) | exact Or.inr (by decide) | (show _ ∧ _; constructor <;> decide) | (show (0:Int) < _; omega) | (show CDiv _ _; unfold CDiv; omega) ))
  | with_reducible refine r_U ?_
  | with_reducible refine r_eqI ?_
  | with_reducible refine r_neI ?_
  | with_reducible refine r_eqB ?_
  | with_reducible refine r_neB ?_
  | with_reducible refine r_test ?_
  | with_reducible refine r_B ?_
  | with_reducible refine r_bl ?_
  | with_reducible refine r_bl2 ?_
  | with_reducible refine r_yes ?_
  | with_reducible refine r_wipe (by rfl) ?_
  | with_reducible refine r_rfl ?_
  | ((with_reducible refine' r_eqA ?rdh ?_); (case rdh => rfl))
  | with_reducible refine r_and ?_
  | with_reducible refine r_or ?_
  | with_reducible refine r_not ?_
  | with_reducible refine r_andV ?_
  | with_reducible refine r_orV ?_
  | with_reducible refine r_notV ?_
  | with_reducible refine r_ifE ?_
  | with_reducible refine r_nil ?_
  | with_reducible refine r_cons ?_
  | with_reducible refine r_tup ?_
  | with_reducible refine r_lst ?_
  | with_reducible refine r_CB ?_
  | with_reducible refine r_call ?_
  | with_reducible refine r_bm ?_
  | with_reducible refine r_bm0 ?_
  | with_reducible refine r_int ?_
  | with_reducible refine r_i2 ?_
  | with_reducible refine r_i1 ?_
  | with_reducible refine r_gcons ?_
  | with_reducible refine r_gnil ?_
  | with_reducible refine r_gsub ?_
  | with_reducible refine iteT ?_
  | with_reducible refine iteF ?_
  | with_reducible refine ite_notT ?_
  | with_reducible refine ite_notF ?_
  | with_reducible refine r_isi_ib ?_
  | with_reducible refine r_isi_ii ?_
  | with_reducible refine r_isi_bb ?_
  | with_reducible refine r_isi_nb ?_
  | with_reducible refine r_isi_nt ?_
  | ((with_reducible refine' r_isi_ll ?rdh ?_); (case rdh => first | assumption | exact upd_same))
  | ((with_reducible refine' r_isi_tt ?rdh ?_); (case rdh => first | assumption | exact upd_same))
  | with_reducible refine r_sl ?_
  | with_reducible refine r_noPart ?_
  | with_reducible refine r_part ?_
  | with_reducible refine r_int1 ?_
  | with_reducible refine r_tru ?_
  | with_reducible refine r_ckw ?_
  | with_reducible refine r_lc ?_
  | with_reducible refine r_lc2 ?_
  | with_reducible refine r_forS ?_
  | with_reducible refine r_iR1 ?_
  | with_reducible refine r_iR2 ?_
  | with_reducible refine r_iL ?_
  | ((with_reducible refine' r_lenL ?rdh ?_); (case rdh => walk_at "sq"))
  | ((with_reducible refine' r_ixL ?rdh ?rda ?_); (case rdh => walk_at "sq"); (case rda => walk_at "at"))
  | ((with_reducible refine' r_ixT ?rdh ?rda ?_); (case rdh => walk_at "sq"); (case rda => walk_at "at")))
local macro_rules | `(tactic| walk_at "sq") => `(tactic| first
  | assumption
  | exact SqL.of (by assumption)
  | exact SqL.of upd_same
  | exact SqT.of (by assumption)
  | exact SqT.of upd_same)
local macro_rules | `(tactic| walk_at "sml") => `(tactic| (rw [sizeLine_eq]; simp))
local macro_rules | `(tactic| walk_at "at") => `(tactic| first | assumption | rfl)
local macro_rules | `(tactic| walk_at "rd") => `(tactic| repeat walk_at "rd1")
section
variable {w : World} {P : Program} {base : Heap} {K : PySem.W.Frag} {mg : Str → Option Value}
def law_allM (p_size : Int) (p_layout : (List (Int × Int))) (p_pinned : (List Int)) : Option (List (List Int)) :=
  bnd ([([] : List Int)]) fun rows_42 => (rng1 (p_layout.length : Int)).bind fun rg_45 => (fold (fun (y_50 : Int) (rows_48 : (List (List Int))) => bnd (([] : List (List Int))) fun later_54 => (fold (fun (y_60 : (List Int)) (later_58 : (List (List Int))) => bnd ((0 : Int)) fun least_64 => (if (decide ((0 : Int) < y_50)) = true then ((atI y_60 (-1 : Int)).bind fun t_72 => (atI p_layout (y_50 - (1 : Int))).bind fun t_74 => bnd ((t_72 + t_74.2)) fun least_75 => some least_75) else (some least_64)).bind fun least_68 => (atI p_layout y_50).bind fun t_81 => (rng2 least_68 ((p_size - t_81.2) + (1 : Int))).bind fun rg_82 => (fold (fun (y_87 : Int) (later_85 : (List (List Int))) => (if ((!decide (y_50 ∈ p_pinned))) = false then (atI p_layout y_50).bind fun t_94 => some (decide (y_87 = t_94.1)) else some true).bind fun t_95 => if t_95 = true then ((catF y_60 [y_87]).bind fun t_97 => (appF later_85 t_97).bind fun later_98 => some later_98) else (some later_85) : Int → (List (List Int)) → Option (List (List Int))) rg_82 later_58).bind fun later_85 => some later_85 : (List Int) → (List (List Int)) → Option (List (List Int))) rows_48 later_54).bind fun later_58 => bnd (later_58) fun rows_100 => some rows_100 : Int → (List (List Int)) → Option (List (List Int))) rg_45 rows_42).bind fun rows_48 => some rows_48
theorem mk_law_all {f  : Addr} {fd  : FuncData} (T : Txt mg) (F : Fun K "_law_all" "_law_all" s_law_all f fd) (m : mg "_law_all" = some (.ref f)) (b : Binds K fd ["size", "layout", "pinned"] []) :
    Cal P w K mg base "_law_all" 1 f fd ["size", "layout", "pinned"] (spP (fun (i : Int × (List (Int × Int)) × (List Int) × Unit) => law_allM i.1 i.2.1 i.2.2.1)) := by
  refine ⟨F.ok sc_law_all (fun vs H Q E h => ?_) (fun cdv A outer s H vs Q E hr h => ?_), m, F.kp, b⟩
  · obtain ⟨ms, ⟨p_size, p_layout, p_pinned, ⟨⟩⟩, r, _, ⟨v_p_size, _, rfl, f_p_size, ⟨v_p_layout, _, rfl, f_p_layout, ⟨v_p_pinned, _, rfl, f_p_pinned, e0⟩⟩⟩, _⟩ := h
    cases e0
    rfl
  obtain ⟨ms, ⟨p_size, p_layout, p_pinned, ⟨⟩⟩, r, al, ⟨v_p_size, _, rfl, f_p_size, ⟨v_p_layout, _, rfl, f_p_layout, ⟨v_p_pinned, _, rfl, f_p_pinned, e0⟩⟩⟩, hm, Q⟩ := h
  cases e0
  obtain rfl : v_p_size = V.int p_size := f_p_size
  refine ⟨_, (pss_cons (ps_set (i := 3) sc_law_all.nd rfl (Or.inl rfl) (pe_lst (pa_cons (pe_lst pa_nil) pa_nil))) (pss_cons (ps_for PassesOwn.never rfl (pi_range1 rfl T.range (pa_cons (pe_callB (show CallR _ _ (fun xs H Q => ∃ p ys, xs = [V.ref p] ∧ (SqL K H p ys ∨ SqT K H p ys) ∧ Q (.int ys.length) H) from call_len_seq) (by rfl) T.len PySem.boot_len (pa_cons (pv 1) pa_nil)) pa_nil)) (pg_name (i := 4) sc_law_all.nd rfl (Or.inl rfl))
      (pss_cons (ps_set (i := 5) sc_law_all.nd rfl (Or.inl rfl) (pe_lst pa_nil)) (pss_cons (ps_for PassesOwn.never rfl (pi_list (pv 3)) (pg_name (i := 6) sc_law_all.nd rfl (Or.inl rfl))
      (pss_cons (ps_set (i := 7) sc_law_all.nd rfl (Or.inl rfl) pe_int) (pss_cons (ps_if (pt_cmpR op_gt (pv 4) pe_int (nomark _))
      (pss_one (ps_set (i := 7) sc_law_all.nd rfl (Or.inl rfl) (pe_op op_add (pe_ix (show IxR _ (rIxL K) from ix_list) (pv 6) (pe_un un_neg pe_int) (fun _ _ => rfl)) (pe_ix (show IxR _ (rIxT K) from ix_tup) (pe_ix (show IxR _ (rIxL K) from ix_list) (pv 1) (pe_op op_sub (pv 4) pe_int) (fun _ _ => rfl)) pe_int (fun _ _ => rfl)))))
      pss_nil) (pss_one (ps_for PassesOwn.never rfl (pi_range2 rfl T.range (pa_cons (pv 7) (pa_cons (pe_op op_add (pe_op op_sub (pv 0) (pe_ix (show IxR _ (rIxT K) from ix_tup) (pe_ix (show IxR _ (rIxL K) from ix_list) (pv 1) (pv 4) (fun _ _ => rfl)) pe_int (fun _ _ => rfl))) pe_int) pa_nil))) (pg_name (i := 8) sc_law_all.nd rfl (Or.inl rfl))
      (pss_one (ps_if (PW.pt (pw_or (pt_cmpR (show OpR _ _ (rIn K true) from op_notIn_seq) (pv 4) (pv 2) (by rfl)) (pw_or1 (pt_cmpR op_eq (pv 8) (pe_ix (show IxR _ (rIxT K) from ix_tup) (pe_ix (show IxR _ (rIxL K) from ix_list) (pv 1) (pv 4) (fun _ _ => rfl)) pe_int (fun _ _ => rfl)) (nomark _)))))
      (pss_one (ps_expr (pe_bm PySem.F.plainAttrs_list PySem.F.slot_list_append PySem.F.type_list_append mt_append (pv 5) (pa_cons (pe_op op_cat (pv 6) (pe_lst (pa_cons (pv 8) pa_nil))) pa_nil))))
      pss_nil))))))) (pss_one (ps_set (i := 3) sc_law_all.nd rfl (Or.inl rfl) (pv 5)))))) (pss_one (ps_ret (pv 3))))), ?_⟩
  try dsimp only [cxOf, Cx.nox, Cx.wish]
  rw [show start ["size", "layout", "pinned", "rows", "k", "later", "row", "least", "start"] [V.int p_size, v_p_layout, v_p_pinned] = [some (V.int p_size), some (v_p_layout), some (v_p_pinned), none, none, none, none, none, none] from rfl]
  have W : Wd [] ms H := ⟨fun a h => (by cases h), al⟩
  have hq : Tr ms H := trivial
  have hm : law_allM p_size p_layout p_pinned = some r := hm
  have u : Bu [] H H := Bu.refl _ H
  unfold law_allM at hm
  obtain ⟨rows_42, e_rows_42, hm⟩ := bnd_inv hm
  refine r_seqA ?_
  refine Ex.go W (En.ex (sb_tr (B := [])) (en_lst (xs := [([] : List Int)]) W (sb_tr (B := [])) (by simp) (es_cons W (En.ex (sb_tr (B := [])) (en_lst (xs := ([] : List Int)) W (sb_tr (B := [])) (by simp) es_nil)) es_nil))) hq fun v_44 H_43 bb hq W M rv => ?_
  rw [← e_rows_42] at rv
  have f_p_layout := Rp.mv f_p_layout M
  have f_p_pinned := Rp.mv f_p_pinned M
  have u := u.trans bb
  have f_rows_42 := rv
  refine (bnd_name : Bnd _ _ _ _ _) _ ?_
  dsimp only [List.set_cons_succ, List.set_cons_zero]
  obtain ⟨rg_45, e_rg_45, hm⟩ := bind_inv hm
  refine r_seqF' ?_
  refine r_for W (ei_rng1 (ea_cons W (ex_len (el_of W.hB (ex_var W rfl f_p_layout))) ea_nil) e_rg_45) hq fun J N_47 H_46 bb hq W M st_nN_47 nN_47 ok_N_47 => ?_
  have f_p_layout := Rp.mv f_p_layout M
  have f_p_pinned := Rp.mv f_p_pinned M
  have f_rows_42 := Rp.mv f_rows_42 M
  have u := u.trans bb
  obtain ⟨out_51, e_out_51, hm⟩ := bind_inv hm
  have hgoN_47 := hm
  clear hm
  refine wk_fold (ms := ms) ok_N_47 e_out_51 (fun rows_48 σ H' => ∃ (vj_rows_48 : V), ∃ (xl_k : Option V), ∃ (xl_later : Option V), ∃ (xl_row : Option V), ∃ (xl_least : Option V), ∃ (xl_start : Option V), σ = [some (.int p_size), some v_p_layout, some v_p_pinned, some vj_rows_48, xl_k, xl_later, xl_row, xl_least, xl_start] ∧ Bu [] H H' ∧ Tr (ms) H' ∧ Wd [] (ms) H' ∧ N_47 (ms) H' ∧ Rp.rp (ms) H' (v_p_layout) p_layout ∧ Rp.rp (ms) H' (v_p_pinned) p_pinned ∧ Rp.rp (ms) H' (vj_rows_48) rows_48) ⟨_, _, _, _, _, _, rfl, u, hq, W, nN_47, f_p_layout, f_p_pinned, f_rows_42⟩ ?_ ?_ ?_
  · intro rows_48 σ H' hI
    try dsimp only at hI
    obtain ⟨vj_rows_48, xl_k, xl_later, xl_row, xl_least, xl_start, rfl, u, hq, W, nN_47, f_p_layout, f_p_pinned, f_rows_48⟩ := hI
    exact ⟨nN_47, W.al⟩
  · intro y_50 v rows_48 x' σ H_52 H_53 hI s1 rv hf
    try dsimp only at hI
    obtain ⟨vj_rows_48, xl_k, xl_later, xl_row, xl_least, xl_start, rfl, u, hq, W, nN_47, f_p_layout, f_p_pinned, f_rows_48⟩ := hI
    have hm := hf
    try dsimp only at hm
    have bb : Bu [] H_52 H_53 := Bu.same s1
    have M : Mv (ms) H_52 (ms) H_53 := Mv.same s1
    have hq := (sb_tr (B := [])).same s1 hq
    have W := W.bu bb
    have f_p_layout := Rp.mv f_p_layout M
    have f_p_pinned := Rp.mv f_p_pinned M
    have f_rows_48 := Rp.mv f_rows_48 M
    have nN_47 := st_nN_47.mv nN_47 M
    have u := u.trans bb
    obtain rfl : v = V.int y_50 := rv
    refine (bnd_name : Bnd _ _ _ _ _) _ ?_
    dsimp only [List.set_cons_succ, List.set_cons_zero]
    obtain ⟨later_54, e_later_54, hm⟩ := bnd_inv hm
    refine r_seqA ?_
    refine En.mk W (en_lst (xs := ([] : List (List Int))) W (sb_tr (B := [])) (by simp) es_nil) hq fun alater_54 H_55 bb na hq' W' M l_alater_54 => ?_
    rw [← e_later_54] at l_alater_54
    have o_alater_54 := W.al.not na
    have n_alater_54 : alater_54 ∉ [] := fun z => W.al.not na (W.hB _ z)
    have m_alater_54 : alater_54 ∈ alater_54 :: ms := List.mem_cons_self
    have h_alater_54 := u.none na
    have f_p_layout := Rp.mv f_p_layout M
    have f_p_pinned := Rp.mv f_p_pinned M
    have f_rows_48 := Rp.mv f_rows_48 M
    have nN_47 := st_nN_47.mv nN_47 M
    have u := u.trans bb
    have W := W'
    have hq := hq'
    refine r_name ?_
    dsimp only [List.set_cons_succ, List.set_cons_zero]
    refine r_seqF' ?_
    refine r_for W (ei_list (ex_var W rfl f_rows_48)) hq fun J N_57 H_56 bb hq W M st_nN_57 nN_57 ok_N_57 => ?_
    have f_p_layout := Rp.mv f_p_layout M
    have f_p_pinned := Rp.mv f_p_pinned M
    have f_rows_48 := Rp.mv f_rows_48 M
    have l_alater_54 := l_alater_54.step M fun o e => bb.1 _ o n_alater_54 e
    have nN_47 := st_nN_47.mv nN_47 M
    have u := u.trans bb
    obtain ⟨out_61, e_out_61, hm⟩ := bind_inv hm
    have hgoN_57 := hm
    clear hm
    refine wk_fold (ms := alater_54 :: ms) ok_N_57 e_out_61 (fun later_58 σ H' => ∃ (xl_row : Option V), ∃ (xl_least : Option V), ∃ (xl_start : Option V), σ = [some (.int p_size), some v_p_layout, some v_p_pinned, some vj_rows_48, some (.int y_50), some (.ref alater_54), xl_row, xl_least, xl_start] ∧ Bu [] H H' ∧ Tr (alater_54 :: ms) H' ∧ Wd [] (alater_54 :: ms) H' ∧ N_47 (alater_54 :: ms) H' ∧ N_57 (alater_54 :: ms) H' ∧ Rp.rp (alater_54 :: ms) H' (v_p_layout) p_layout ∧ Rp.rp (alater_54 :: ms) H' (v_p_pinned) p_pinned ∧ Rp.rp (alater_54 :: ms) H' (vj_rows_48) rows_48 ∧ Ls (alater_54 :: ms) H' alater_54 later_58) ⟨_, _, _, rfl, u, hq, W, nN_47, nN_57, f_p_layout, f_p_pinned, f_rows_48, l_alater_54⟩ ?_ ?_ ?_
    · intro later_58 σ H' hI
      try dsimp only at hI
      obtain ⟨xl_row, xl_least, xl_start, rfl, u, hq, W, nN_47, nN_57, f_p_layout, f_p_pinned, f_rows_48, l_alater_54⟩ := hI
      exact ⟨nN_57, W.al⟩
    · intro y_60 v later_58 x' σ H_62 H_63 hI s1 rv hf
      try dsimp only at hI
      obtain ⟨xl_row, xl_least, xl_start, rfl, u, hq, W, nN_47, nN_57, f_p_layout, f_p_pinned, f_rows_48, l_alater_54⟩ := hI
      have hm := hf
      try dsimp only at hm
      have bb : Bu [] H_62 H_63 := Bu.same s1
      have M : Mv (alater_54 :: ms) H_62 (alater_54 :: ms) H_63 := Mv.same s1
      have hq := (sb_tr (B := [])).same s1 hq
      have W := W.bu bb
      have f_p_layout := Rp.mv f_p_layout M
      have f_p_pinned := Rp.mv f_p_pinned M
      have f_rows_48 := Rp.mv f_rows_48 M
      have l_alater_54 := l_alater_54.step M fun o e => bb.1 _ o n_alater_54 e
      have nN_47 := st_nN_47.mv nN_47 M
      have nN_57 := st_nN_57.mv nN_57 M
      have u := u.trans bb
      have f_y_60 := rv
      refine (bnd_name : Bnd _ _ _ _ _) _ ?_
      dsimp only [List.set_cons_succ, List.set_cons_zero]
      obtain ⟨least_64, e_least_64, hm⟩ := bnd_inv hm
      refine r_seqA ?_
      refine Ex.go W (ex_int 0) hq fun v_66 H_65 bb hq W M rv => ?_
      rw [← e_least_64] at rv
      have f_p_layout := Rp.mv f_p_layout M
      have f_p_pinned := Rp.mv f_p_pinned M
      have f_rows_48 := Rp.mv f_rows_48 M
      have l_alater_54 := l_alater_54.step M fun o e => bb.1 _ o n_alater_54 e
      have f_y_60 := Rp.mv f_y_60 M
      have nN_47 := st_nN_47.mv nN_47 M
      have nN_57 := st_nN_57.mv nN_57 M
      have u := u.trans bb
      obtain rfl : v_66 = V.int least_64 := rv
      refine (bnd_name : Bnd _ _ _ _ _) _ ?_
      dsimp only [List.set_cons_succ, List.set_cons_zero]
      obtain ⟨least_68, e_j_70, hm⟩ := bind_inv hm
      try dsimp only at hm
      refine r_seqG fun R hR => ?_
      have key : ∀ H_69, Bu [] H H_69 → Tr (alater_54 :: ms) H_69 → Wd [] (alater_54 :: ms) H_69 → N_47 (alater_54 :: ms) H_69 → N_57 (alater_54 :: ms) H_69 → Rp.rp (alater_54 :: ms) H_69 (v_p_layout) p_layout → Rp.rp (alater_54 :: ms) H_69 (v_p_pinned) p_pinned → Rp.rp (alater_54 :: ms) H_69 (vj_rows_48) rows_48 → Ls (alater_54 :: ms) H_69 alater_54 later_58 → Rp.rp (alater_54 :: ms) H_69 (v) y_60 → R [some (.int p_size), some v_p_layout, some v_p_pinned, some vj_rows_48, some (.int y_50), some (.ref alater_54), some v, some (.int least_68), xl_start] H_69 := by
        intro H_69 u hq W nN_47 nN_57 f_p_layout f_p_pinned f_rows_48 l_alater_54 f_y_60
        refine hR _ _ ?_
        obtain ⟨t_81, e_t_81, hm⟩ := bind_inv hm
        obtain ⟨rg_82, e_rg_82, hm⟩ := bind_inv hm
        refine r_forL ?_
        refine r_for W (ei_rng2 (ea_cons W (ex_vi rfl) (ea_cons W (ex_opI0 (z := ((p_size - t_81.2) + (1 : Int))) (fun _ _ => rfl) (ex_opI0 (z := (p_size - t_81.2)) (fun _ _ => rfl) (ex_vi rfl) (ex_snd (u := t_81) (ex_ixL (el_of W.hB (ex_var W rfl f_p_layout)) (ex_vi rfl) W e_t_81))) (ex_int 1)) ea_nil)) e_rg_82) hq fun J N_84 H_83 bb hq W M st_nN_84 nN_84 ok_N_84 => ?_
        have f_p_layout := Rp.mv f_p_layout M
        have f_p_pinned := Rp.mv f_p_pinned M
        have f_rows_48 := Rp.mv f_rows_48 M
        have l_alater_54 := l_alater_54.step M fun o e => bb.1 _ o n_alater_54 e
        have f_y_60 := Rp.mv f_y_60 M
        have nN_47 := st_nN_47.mv nN_47 M
        have nN_57 := st_nN_57.mv nN_57 M
        have u := u.trans bb
        obtain ⟨out_88, e_out_88, hm⟩ := bind_inv hm
        have hgoN_84 := hm
        clear hm
        refine wk_fold (ms := alater_54 :: ms) ok_N_84 e_out_88 (fun later_85 σ H' => ∃ (xl_start : Option V), σ = [some (.int p_size), some v_p_layout, some v_p_pinned, some vj_rows_48, some (.int y_50), some (.ref alater_54), some v, some (.int least_68), xl_start] ∧ Bu [] H H' ∧ Tr (alater_54 :: ms) H' ∧ Wd [] (alater_54 :: ms) H' ∧ N_47 (alater_54 :: ms) H' ∧ N_57 (alater_54 :: ms) H' ∧ N_84 (alater_54 :: ms) H' ∧ Rp.rp (alater_54 :: ms) H' (v_p_layout) p_layout ∧ Rp.rp (alater_54 :: ms) H' (v_p_pinned) p_pinned ∧ Rp.rp (alater_54 :: ms) H' (vj_rows_48) rows_48 ∧ Ls (alater_54 :: ms) H' alater_54 later_85 ∧ Rp.rp (alater_54 :: ms) H' (v) y_60) ⟨_, rfl, u, hq, W, nN_47, nN_57, nN_84, f_p_layout, f_p_pinned, f_rows_48, l_alater_54, f_y_60⟩ ?_ ?_ ?_
        · intro later_85 σ H' hI
          try dsimp only at hI
          obtain ⟨xl_start, rfl, u, hq, W, nN_47, nN_57, nN_84, f_p_layout, f_p_pinned, f_rows_48, l_alater_54, f_y_60⟩ := hI
          exact ⟨nN_84, W.al⟩
        · intro y_87 v later_85 x' σ H_89 H_90 hI s1 rv hf
          try dsimp only at hI
          obtain ⟨xl_start, rfl, u, hq, W, nN_47, nN_57, nN_84, f_p_layout, f_p_pinned, f_rows_48, l_alater_54, f_y_60⟩ := hI
          have hm := hf
          try dsimp only at hm
          have bb : Bu [] H_89 H_90 := Bu.same s1
          have M : Mv (alater_54 :: ms) H_89 (alater_54 :: ms) H_90 := Mv.same s1
          have hq := (sb_tr (B := [])).same s1 hq
          have W := W.bu bb
          have f_p_layout := Rp.mv f_p_layout M
          have f_p_pinned := Rp.mv f_p_pinned M
          have f_rows_48 := Rp.mv f_rows_48 M
          have l_alater_54 := l_alater_54.step M fun o e => bb.1 _ o n_alater_54 e
          have f_y_60 := Rp.mv f_y_60 M
          have nN_47 := st_nN_47.mv nN_47 M
          have nN_57 := st_nN_57.mv nN_57 M
          have nN_84 := st_nN_84.mv nN_84 M
          have u := u.trans bb
          obtain rfl : v = V.int y_87 := rv
          refine (bnd_name : Bnd _ _ _ _ _) _ ?_
          dsimp only [List.set_cons_succ, List.set_cons_zero]
          obtain ⟨t_95, e_t_95, hm⟩ := bind_inv hm
          refine r_ifS ?_
          refine Et.go W (et_or (d := t_95) (et_test (ex_notIn W (ex_vi rfl) (el_of W.hB (ex_var W rfl f_p_pinned)))) (fun c => by
                  have hm := (if_pos c).symm.trans e_t_95
                  obtain ⟨t_94, e_t_94, hm⟩ := bind_inv hm
                  rw [← Option.some.inj hm]
                  exact (et_test (ex_eqI (ex_vi rfl) (ex_fst (u := t_94) (ex_ixL (el_of W.hB (ex_var W rfl f_p_layout)) (ex_vi rfl) W e_t_94)))))
                  (fun c => by
                  have hm := (if_neg (by rw [c]; decide)).symm.trans e_t_95
                  cases hm
                  exact ⟨rfl, fun _ h => h⟩)) hq fun H_96 bb hq W M => ?_
          have f_p_layout := Rp.mv f_p_layout M
          have f_p_pinned := Rp.mv f_p_pinned M
          have f_rows_48 := Rp.mv f_rows_48 M
          have l_alater_54 := l_alater_54.step M fun o e => bb.1 _ o n_alater_54 e
          have f_y_60 := Rp.mv f_y_60 M
          have nN_47 := st_nN_47.mv nN_47 M
          have nN_57 := st_nN_57.mv nN_57 M
          have nN_84 := st_nN_84.mv nN_84 M
          have u := u.trans bb
          refine ite_by (fun hc => ?_) (fun hc => ?_)
          · have hm := (if_pos hc).symm.trans hm
            obtain ⟨t_97, e_t_97, hm⟩ := bind_inv hm
            obtain ⟨later_98, e_later_98, hm⟩ := bind_inv hm
            refine r_drop ?_
            refine s_app rfl W rfl l_alater_54 m_alater_54 n_alater_54 (sb_tr (B := [])) (ea_cons W (En.ex (sb_tr (B := [])) (en_cat W (sb_tr (B := [])) (el_of W.hB (ex_var W rfl f_y_60)) (el_of W.hB (En.ex (sb_tr (B := [])) (en_lst (xs := [y_87]) W (sb_tr (B := [])) (by simp) (es_cons W (ex_vi rfl) es_nil)))) e_t_97)) ea_nil) hq e_later_98 fun H_99 bb hq W M l_alater_54 => ?_
            have f_p_layout := Rp.mv f_p_layout M
            have f_p_pinned := Rp.mv f_p_pinned M
            have f_rows_48 := Rp.mv f_rows_48 M
            have f_y_60 := Rp.mv f_y_60 M
            have nN_47 := st_nN_47.mv nN_47 M
            have nN_57 := st_nN_57.mv nN_57 M
            have nN_84 := st_nN_84.mv nN_84 M
            have u := u.own2 h_alater_54 bb
            try dsimp only
            try dsimp only
            try dsimp only
            cases hm
            exact ⟨_, rfl, u, hq, W, nN_47, nN_57, nN_84, f_p_layout, f_p_pinned, f_rows_48, l_alater_54, f_y_60⟩
          · have hm := (if_neg hc).symm.trans hm
            refine r_next ?_
            try dsimp only
            try dsimp only
            cases hm
            exact ⟨_, rfl, u, hq, W, nN_47, nN_57, nN_84, f_p_layout, f_p_pinned, f_rows_48, l_alater_54, f_y_60⟩
        · intro σ H_86 hI
          obtain ⟨later_85, hE⟩ : ∃ z, z = out_88 := ⟨_, rfl⟩
          rw [← hE] at hI hgoN_84
          try dsimp only at hI
          obtain ⟨xl_start, rfl, u, hq, W, nN_47, nN_57, nN_84, f_p_layout, f_p_pinned, f_rows_48, l_alater_54, f_y_60⟩ := hI
          have hm := hgoN_84
          try dsimp only at hm
          try dsimp only
          try dsimp only
          cases hm
          exact ⟨_, _, _, rfl, u, hq, W, nN_47, nN_57, f_p_layout, f_p_pinned, f_rows_48, l_alater_54⟩
      clear hR
      have hm := e_j_70
      refine r_ifS ?_
      refine Et.go W (et_test (ex_opI0 (z := (decide ((0 : Int) < y_50))) (fun _ _ => rfl) (ex_vi rfl) (ex_int 0))) hq fun H_67 bb hq W M => ?_
      have f_p_layout := Rp.mv f_p_layout M
      have f_p_pinned := Rp.mv f_p_pinned M
      have f_rows_48 := Rp.mv f_rows_48 M
      have l_alater_54 := l_alater_54.step M fun o e => bb.1 _ o n_alater_54 e
      have f_y_60 := Rp.mv f_y_60 M
      have nN_47 := st_nN_47.mv nN_47 M
      have nN_57 := st_nN_57.mv nN_57 M
      have u := u.trans bb
      refine ite_by (fun hc => ?_) (fun hc => ?_)
      · have hm := (if_pos hc).symm.trans hm
        obtain ⟨t_72, e_t_72, hm⟩ := bind_inv hm
        obtain ⟨t_74, e_t_74, hm⟩ := bind_inv hm
        obtain ⟨least_75, e_least_75, hm⟩ := bnd_inv hm
        refine r_asg ?_
        refine Ex.go W (ex_opI0 (z := (t_72 + t_74.2)) (fun _ _ => rfl) (ex_ixL (el_of W.hB (ex_var W rfl f_y_60)) (ex_opU (z := (-1 : Int)) (fun _ _ => rfl) (ex_int 1)) W e_t_72) (ex_snd (u := t_74) (ex_ixL (el_of W.hB (ex_var W rfl f_p_layout)) (ex_opI0 (z := (y_50 - (1 : Int))) (fun _ _ => rfl) (ex_vi rfl) (ex_int 1)) W e_t_74))) hq fun v_77 H_76 bb hq W M rv => ?_
        rw [← e_least_75] at rv
        have f_p_layout := Rp.mv f_p_layout M
        have f_p_pinned := Rp.mv f_p_pinned M
        have f_rows_48 := Rp.mv f_rows_48 M
        have l_alater_54 := l_alater_54.step M fun o e => bb.1 _ o n_alater_54 e
        have f_y_60 := Rp.mv f_y_60 M
        have nN_47 := st_nN_47.mv nN_47 M
        have nN_57 := st_nN_57.mv nN_57 M
        have u := u.trans bb
        obtain rfl : v_77 = V.int least_75 := rv
        refine (bnd_name : Bnd _ _ _ _ _) _ ?_
        dsimp only [List.set_cons_succ, List.set_cons_zero]
        try dsimp only
        try dsimp only
        cases hm
        exact key _ u hq W nN_47 nN_57 f_p_layout f_p_pinned f_rows_48 l_alater_54 f_y_60
      · have hm := (if_neg hc).symm.trans hm
        refine r_next ?_
        try dsimp only
        cases hm
        exact key _ u hq W nN_47 nN_57 f_p_layout f_p_pinned f_rows_48 l_alater_54 f_y_60
    · intro σ H_59 hI
      obtain ⟨later_58, hE⟩ : ∃ z, z = out_61 := ⟨_, rfl⟩
      rw [← hE] at hI hgoN_57
      try dsimp only at hI
      obtain ⟨xl_row, xl_least, xl_start, rfl, u, hq, W, nN_47, nN_57, f_p_layout, f_p_pinned, f_rows_48, l_alater_54⟩ := hI
      have hm := hgoN_57
      try dsimp only at hm
      try dsimp only
      have sub : ∀ a ∈ ms, a ∈ alater_54 :: ms := ((.cons _ (.refl _)) : List.Sublist (ms) (alater_54 :: ms)).subset
      have M : Mv (alater_54 :: ms) H_59 (ms) H_59 := Mv.less sub
      have hq := (sb_tr (B := [])) _ _ _ _ hq M fun _ _ _ e => e
      have W : Wd [] (ms) H_59 := ⟨fun a h => (by cases h), W.al.less sub⟩
      have f_p_layout := Rp.mv f_p_layout M
      have f_p_pinned := Rp.mv f_p_pinned M
      have f_rows_48 := Rp.mv f_rows_48 M
      have f_later_58 : Rp.rp (ms) H_59 (.ref alater_54) later_58 := ⟨alater_54, rfl, o_alater_54, l_alater_54.less sub⟩
      have nN_47 := st_nN_47.mv nN_47 M
      obtain ⟨rows_100, e_rows_100, hm⟩ := bnd_inv hm
      refine r_asg ?_
      refine Ex.go W (ex_var W rfl f_later_58) hq fun v_102 H_101 bb hq W M rv => ?_
      rw [← e_rows_100] at rv
      have f_p_layout := Rp.mv f_p_layout M
      have f_p_pinned := Rp.mv f_p_pinned M
      have f_rows_48 := Rp.mv f_rows_48 M
      have f_later_58 := Rp.mv f_later_58 M
      have nN_47 := st_nN_47.mv nN_47 M
      have u := u.trans bb
      have f_rows_100 := rv
      refine (bnd_name : Bnd _ _ _ _ _) _ ?_
      dsimp only [List.set_cons_succ, List.set_cons_zero]
      try dsimp only
      try dsimp only
      cases hm
      exact ⟨_, _, _, _, _, _, rfl, u, hq, W, nN_47, f_p_layout, f_p_pinned, f_rows_100⟩
  · intro σ H_49 hI
    obtain ⟨rows_48, hE⟩ : ∃ z, z = out_51 := ⟨_, rfl⟩
    rw [← hE] at hI hgoN_47
    try dsimp only at hI
    obtain ⟨vj_rows_48, xl_k, xl_later, xl_row, xl_least, xl_start, rfl, u, hq, W, nN_47, f_p_layout, f_p_pinned, f_rows_48⟩ := hI
    have hm := hgoN_47
    try dsimp only at hm
    try dsimp only
    have hm := Option.some.inj hm
    subst hm
    refine r_ret' ?_
    refine Ex.go W (ex_var W rfl f_rows_48) hq fun v H_103 bb hq W M rv => ?_
    exact Q v _ (Bu.to_same (u.trans bb)) (rv)
end
end Pf

namespace Pf
open PySem L2
local macro_rules | `(tactic| walk_at "rd1") => `(tactic| first
  | with_reducible refine r_seqA ?_
  | with_reducible refine r_seqD ?_
  | with_reducible refine r_seqF ?_
  | with_reducible refine r_seqN ?_
  | with_reducible refine r_asg ?_
  | with_reducible refine r_drop ?_
  | with_reducible refine r_ret ?_
  | with_reducible refine r_ifS ?_
  | ((with_reducible refine r_next ?_); try dsimp only)
  | ((with_reducible refine r_name ?_); try dsimp only [List.set_cons_succ, List.set_cons_zero, wipe])
  | ((with_reducible refine' r_var ?rdh ?_); (case rdh => rfl))
  | with_reducible refine r_c ?_
  | with_reducible refine r_op ?_
  | with_reducible refine r_un ?_
  | with_reducible refine r_I0 ?_
  | ((with_reducible refine r_I ?_ ?_); (· first | decide | exact Or.inl (by decide) | exact Or.inr (by decide) | (show _ ∧ _; constructor <;> decide) | (show (0:Int) < _; omega) | (show CDiv _ _; unfold CDiv; omega) ))
  | with_reducible refine r_U ?_
  | with_reducible refine r_eqI ?_
  | with_reducible refine r_neI ?_
  | with_reducible refine r_eqB ?_
  | with_reducible refine r_neB ?_
  | with_reducible refine r_test ?_
  | with_reducible refine r_B ?_
  | with_reducible refine r_bl ?_
  | with_reducible refine r_bl2 ?_
  | with_reducible refine r_yes ?_
  | with_reducible refine r_wipe (by rfl) ?_
  | with_reducible refine r_rfl ?_
  | ((with_reducible refine' r_eqA ?rdh ?_); (case rdh => rfl))
  | with_reducible refine r_and ?_
  | with_reducible refine r_or ?_
  | with_reducible refine r_not ?_
  | with_reducible refine r_andV ?_
  | with_reducible refine r_orV ?_
  | with_reducible refine r_notV ?_
  | with_reducible refine r_ifE ?_
  | with_reducible refine r_nil ?_
  | with_reducible refine r_cons ?_
  | with_reducible refine r_tup ?_
  | with_reducible refine r_lst ?_
  | with_reducible refine r_CB ?_
  | with_reducible refine r_call ?_
  | with_reducible refine r_bm ?_
  | with_reducible refine r_bm0 ?_
  | with_reducible refine r_int ?_
  | with_reducible refine r_i2 ?_
  | with_reducible refine r_i1 ?_
  | with_reducible refine r_gcons ?_
  | with_reducible refine r_gnil ?_
  | with_reducible refine r_gsub ?_
  | with_reducible refine iteT ?_
  | with_reducible refine iteF ?_
  | with_reducible refine ite_notT ?_
  | with_reducible refine ite_notF ?_
  | with_reducible refine r_isi_ib ?_
  | with_reducible refine r_isi_ii ?_
  | with_reducible refine r_isi_bb ?_
  | with_reducible refine r_isi_nb ?_
  | with_reducible refine r_isi_nt ?_
  | ((with_reducible refine' r_isi_ll ?rdh ?_); (case rdh => first | assumption | exact upd_same))
  | ((with_reducible refine' r_isi_tt ?rdh ?_); (case rdh => first | assumption | exact upd_same))
  | with_reducible refine r_sl ?_
  | with_reducible refine r_noPart ?_
  | with_reducible refine r_part ?_
  | with_reducible refine r_int1 ?_
  | with_reducible refine r_tru ?_
  | with_reducible refine r_ckw ?_
  | with_reducible refine r_lc ?_
  | with_reducible refine r_lc2 ?_
  | with_reducible refine r_forS ?_
  | with_reducible refine r_iR1 ?_
  | with_reducible refine r_iR2 ?_
  | with_reducible refine r_iL ?_
  | ((with_reducible refine' r_lenL ?rdh ?_); (case rdh => walk_at "sq"))
  | ((with_reducible refine' r_ixL ?rdh ?rda ?_); (case rdh => walk_at "sq"); (case rda => walk_at "at"))
  | ((with_reducible refine' r_ixT ?rdh ?rda ?_); (case rdh => walk_at "sq"); (case rda => walk_at "at")))
local macro_rules | `(tactic| walk_at "sq") => `(tactic| first
  | assumption
  | exact SqL.of (by assumption)
  | exact SqL.of upd_same
  | exact SqT.of (by assumption)
  | exact SqT.of upd_same)
local macro_rules | `(tactic| walk_at "sml") => `(tactic| (rw [sizeLine_eq]; simp))
local macro_rules | `(tactic| walk_at "at") => `(tactic| first | assumption | rfl)
local macro_rules | `(tactic| walk_at "rd") => `(tactic| repeat walk_at "rd1")
section
variable {w : World} {P : Program} {base : Heap} {K : PySem.W.Frag} {mg : Str → Option Value}
def law_startM (p_size : Int) (p_layout : (List (Int × Int))) (p_starts : (List Int)) (p_length : Int) : Option Int :=
  (rng1 ((p_size - p_length) + (1 : Int))).bind fun rg_104 => (loop (fun (y_108 : Int) (x : Unit) => bnd (true) fun free_112 => (rng1 (p_layout.length : Int)).bind fun rg_115 => (fold (fun (y_120 : Int) (free_118 : Bool) => (atI p_starts y_120).bind fun t_129 => (atI p_layout y_120).bind fun t_131 => (if (decide (y_108 < (t_129 + t_131.2))) = true then (atI p_starts y_120).bind fun t_133 => some (decide (t_133 < (y_108 + p_length))) else some false).bind fun t_134 => if t_134 = true then (bnd (false) fun free_136 => some free_136) else (some free_118) : Int → Bool → Option Bool) rg_115 free_112).bind fun free_118 => if free_118 = true then (some (.ret y_108)) else (some (.go ())) : Int → Unit → Option (Fl Int Unit)) rg_104 ()).bind fun fl => match fl with | .ret r' => some r' | .go x => some (-1 : Int)
theorem mk_law_start {f  : Addr} {fd  : FuncData} (T : Txt mg) (F : Fun K "_law_start" "_law_start" s_law_start f fd) (m : mg "_law_start" = some (.ref f)) (b : Binds K fd ["size", "layout", "starts", "length"] []) :
    Cal P w K mg base "_law_start" 1 f fd ["size", "layout", "starts", "length"] (spP (fun (i : Int × (List (Int × Int)) × (List Int) × Int × Unit) => law_startM i.1 i.2.1 i.2.2.1 i.2.2.2.1)) := by
  refine ⟨F.ok sc_law_start (fun vs H Q E h => ?_) (fun cdv A outer s H vs Q E hr h => ?_), m, F.kp, b⟩
  · obtain ⟨ms, ⟨p_size, p_layout, p_starts, p_length, ⟨⟩⟩, r, _, ⟨v_p_size, _, rfl, f_p_size, ⟨v_p_layout, _, rfl, f_p_layout, ⟨v_p_starts, _, rfl, f_p_starts, ⟨v_p_length, _, rfl, f_p_length, e0⟩⟩⟩⟩, _⟩ := h
    cases e0
    rfl
  obtain ⟨ms, ⟨p_size, p_layout, p_starts, p_length, ⟨⟩⟩, r, al, ⟨v_p_size, _, rfl, f_p_size, ⟨v_p_layout, _, rfl, f_p_layout, ⟨v_p_starts, _, rfl, f_p_starts, ⟨v_p_length, _, rfl, f_p_length, e0⟩⟩⟩⟩, hm, Q⟩ := h
  cases e0
  obtain rfl : v_p_size = V.int p_size := f_p_size
  obtain rfl : v_p_length = V.int p_length := f_p_length
  refine ⟨_, (pss_cons (ps_for PassesOwn.never rfl (pi_range1 rfl T.range (pa_cons (pe_op op_add (pe_op op_sub (pv 0) (pv 3)) pe_int) pa_nil)) (pg_name (i := 4) sc_law_start.nd rfl (Or.inl rfl))
      (pss_cons (ps_set (i := 5) sc_law_start.nd rfl (Or.inl rfl) pe_bl) (pss_cons (ps_for PassesOwn.never rfl (pi_range1 rfl T.range (pa_cons (pe_callB (show CallR _ _ (fun xs H Q => ∃ p ys, xs = [V.ref p] ∧ (SqL K H p ys ∨ SqT K H p ys) ∧ Q (.int ys.length) H) from call_len_seq) (by rfl) T.len PySem.boot_len (pa_cons (pv 1) pa_nil)) pa_nil)) (pg_name (i := 6) sc_law_start.nd rfl (Or.inl rfl))
      (pss_one (ps_if (PW.pt (pw_and (pt_cmpR op_lt (pv 4) (pe_op op_add (pe_ix (show IxR _ (rIxL K) from ix_list) (pv 2) (pv 6) (fun _ _ => rfl)) (pe_ix (show IxR _ (rIxT K) from ix_tup) (pe_ix (show IxR _ (rIxL K) from ix_list) (pv 1) (pv 6) (fun _ _ => rfl)) pe_int (fun _ _ => rfl))) (nomark _)) (pw_and1 (pt_cmpR op_lt (pe_ix (show IxR _ (rIxL K) from ix_list) (pv 2) (pv 6) (fun _ _ => rfl)) (pe_op op_add (pv 4) (pv 3)) (nomark _)))))
      (pss_one (ps_set (i := 5) sc_law_start.nd rfl (Or.inl rfl) pe_bl))
      pss_nil))) (pss_one (ps_if (pt_val (pv 5))
      (pss_one (ps_ret (pv 4)))
      pss_nil))))) (pss_one (ps_ret (pe_un un_neg pe_int)))), ?_⟩
  try dsimp only [cxOf, Cx.nox, Cx.wish]
  rw [show start ["size", "layout", "starts", "length", "start", "free", "k"] [V.int p_size, v_p_layout, v_p_starts, V.int p_length] = [some (V.int p_size), some (v_p_layout), some (v_p_starts), some (V.int p_length), none, none, none] from rfl]
  have W : Wd [] ms H := ⟨fun a h => (by cases h), al⟩
  have hq : Tr ms H := trivial
  have hm : law_startM p_size p_layout p_starts p_length = some r := hm
  have u : Bu [] H H := Bu.refl _ H
  unfold law_startM at hm
  obtain ⟨rg_104, e_rg_104, hm⟩ := bind_inv hm
  refine r_seqF' ?_
  refine r_for W (ei_rng1 (ea_cons W (ex_opI0 (z := ((p_size - p_length) + (1 : Int))) (fun _ _ => rfl) (ex_opI0 (z := (p_size - p_length)) (fun _ _ => rfl) (ex_vi rfl) (ex_vi rfl)) (ex_int 1)) ea_nil) e_rg_104) hq fun J N_106 H_105 bb hq W M st_nN_106 nN_106 ok_N_106 => ?_
  have f_p_layout := Rp.mv f_p_layout M
  have f_p_starts := Rp.mv f_p_starts M
  have u := u.trans bb
  obtain ⟨out_109, e_out_109, hm⟩ := bind_inv hm
  have hretN_106 : ∀ r', out_109 = .ret r' → some r' = some r := fun r' e => by
    rw [e] at hm
    exact hm
  have hgoN_106 := hm
  clear hm
  refine wk_loop (ms := ms) ok_N_106 e_out_109 (fun x σ H' => ∃ (xl_start : Option V), ∃ (xl_free : Option V), ∃ (xl_k : Option V), σ = [some (.int p_size), some v_p_layout, some v_p_starts, some (.int p_length), xl_start, xl_free, xl_k] ∧ Bu [] H H' ∧ Tr (ms) H' ∧ Wd [] (ms) H' ∧ N_106 (ms) H' ∧ Rp.rp (ms) H' (v_p_layout) p_layout ∧ Rp.rp (ms) H' (v_p_starts) p_starts) ⟨_, _, _, rfl, u, hq, W, nN_106, f_p_layout, f_p_starts⟩ ?_ ?_ ?_
  · intro x σ H' hI
    obtain ⟨⟩ := x
    try dsimp only at hI
    obtain ⟨xl_start, xl_free, xl_k, rfl, u, hq, W, nN_106, f_p_layout, f_p_starts⟩ := hI
    exact ⟨nN_106, W.al⟩
  · intro y_108 v x flN_106 σ H_110 H_111 hI s1 rv hf hret
    obtain ⟨⟩ := x
    try dsimp only at hI
    obtain ⟨xl_start, xl_free, xl_k, rfl, u, hq, W, nN_106, f_p_layout, f_p_starts⟩ := hI
    have hm := hf
    try dsimp only at hm
    have hretN_106' := hret
    have hretN_106 := fun r' e => hretN_106 r' (hretN_106' r' e)
    have bb : Bu [] H_110 H_111 := Bu.same s1
    have M : Mv (ms) H_110 (ms) H_111 := Mv.same s1
    have hq := (sb_tr (B := [])).same s1 hq
    have W := W.bu bb
    have f_p_layout := Rp.mv f_p_layout M
    have f_p_starts := Rp.mv f_p_starts M
    have nN_106 := st_nN_106.mv nN_106 M
    have u := u.trans bb
    obtain rfl : v = V.int y_108 := rv
    refine (bnd_name : Bnd _ _ _ _ _) _ ?_
    dsimp only [List.set_cons_succ, List.set_cons_zero]
    obtain ⟨free_112, e_free_112, hm⟩ := bnd_inv hm
    refine r_seqA ?_
    refine Ex.go W (ex_bl true) hq fun v_114 H_113 bb hq W M rv => ?_
    rw [← e_free_112] at rv
    have f_p_layout := Rp.mv f_p_layout M
    have f_p_starts := Rp.mv f_p_starts M
    have nN_106 := st_nN_106.mv nN_106 M
    have u := u.trans bb
    obtain rfl : v_114 = V.bl free_112 := rv
    refine (bnd_name : Bnd _ _ _ _ _) _ ?_
    dsimp only [List.set_cons_succ, List.set_cons_zero]
    obtain ⟨rg_115, e_rg_115, hm⟩ := bind_inv hm
    refine r_seqF' ?_
    refine r_for W (ei_rng1 (ea_cons W (ex_len (el_of W.hB (ex_var W rfl f_p_layout))) ea_nil) e_rg_115) hq fun J N_117 H_116 bb hq W M st_nN_117 nN_117 ok_N_117 => ?_
    have f_p_layout := Rp.mv f_p_layout M
    have f_p_starts := Rp.mv f_p_starts M
    have nN_106 := st_nN_106.mv nN_106 M
    have u := u.trans bb
    obtain ⟨out_121, e_out_121, hm⟩ := bind_inv hm
    have hgoN_117 := hm
    clear hm
    refine wk_fold (ms := ms) ok_N_117 e_out_121 (fun free_118 σ H' => ∃ (xl_k : Option V), σ = [some (.int p_size), some v_p_layout, some v_p_starts, some (.int p_length), some (.int y_108), some (.bl free_118), xl_k] ∧ Bu [] H H' ∧ Tr (ms) H' ∧ Wd [] (ms) H' ∧ N_106 (ms) H' ∧ N_117 (ms) H' ∧ Rp.rp (ms) H' (v_p_layout) p_layout ∧ Rp.rp (ms) H' (v_p_starts) p_starts) ⟨_, rfl, u, hq, W, nN_106, nN_117, f_p_layout, f_p_starts⟩ ?_ ?_ ?_
    · intro free_118 σ H' hI
      try dsimp only at hI
      obtain ⟨xl_k, rfl, u, hq, W, nN_106, nN_117, f_p_layout, f_p_starts⟩ := hI
      exact ⟨nN_117, W.al⟩
    · intro y_120 v free_118 x' σ H_122 H_123 hI s1 rv hf
      try dsimp only at hI
      obtain ⟨xl_k, rfl, u, hq, W, nN_106, nN_117, f_p_layout, f_p_starts⟩ := hI
      have hm := hf
      try dsimp only at hm
      have bb : Bu [] H_122 H_123 := Bu.same s1
      have M : Mv (ms) H_122 (ms) H_123 := Mv.same s1
      have hq := (sb_tr (B := [])).same s1 hq
      have W := W.bu bb
      have f_p_layout := Rp.mv f_p_layout M
      have f_p_starts := Rp.mv f_p_starts M
      have nN_106 := st_nN_106.mv nN_106 M
      have nN_117 := st_nN_117.mv nN_117 M
      have u := u.trans bb
      obtain rfl : v = V.int y_120 := rv
      refine (bnd_name : Bnd _ _ _ _ _) _ ?_
      dsimp only [List.set_cons_succ, List.set_cons_zero]
      obtain ⟨t_129, e_t_129, hm⟩ := bind_inv hm
      obtain ⟨t_131, e_t_131, hm⟩ := bind_inv hm
      obtain ⟨t_134, e_t_134, hm⟩ := bind_inv hm
      refine r_ifS ?_
      refine Et.go W (et_and (d := t_134) (et_test (ex_opI0 (z := (decide (y_108 < (t_129 + t_131.2)))) (fun _ _ => rfl) (ex_vi rfl) (ex_opI0 (z := (t_129 + t_131.2)) (fun _ _ => rfl) (ex_ixL (el_of W.hB (ex_var W rfl f_p_starts)) (ex_vi rfl) W e_t_129) (ex_snd (u := t_131) (ex_ixL (el_of W.hB (ex_var W rfl f_p_layout)) (ex_vi rfl) W e_t_131))))) (fun c => by
              have hm := (if_pos c).symm.trans e_t_134
              obtain ⟨t_133, e_t_133, hm⟩ := bind_inv hm
              rw [← Option.some.inj hm]
              exact (et_test (ex_opI0 (z := (decide (t_133 < (y_108 + p_length)))) (fun _ _ => rfl) (ex_ixL (el_of W.hB (ex_var W rfl f_p_starts)) (ex_vi rfl) W e_t_133) (ex_opI0 (z := (y_108 + p_length)) (fun _ _ => rfl) (ex_vi rfl) (ex_vi rfl)))))
              (fun c => by
              have hm := (if_neg (by rw [c]; decide)).symm.trans e_t_134
              cases hm
              exact ⟨rfl, fun _ h => h⟩)) hq fun H_135 bb hq W M => ?_
      have f_p_layout := Rp.mv f_p_layout M
      have f_p_starts := Rp.mv f_p_starts M
      have nN_106 := st_nN_106.mv nN_106 M
      have nN_117 := st_nN_117.mv nN_117 M
      have u := u.trans bb
      refine ite_by (fun hc => ?_) (fun hc => ?_)
      · have hm := (if_pos hc).symm.trans hm
        obtain ⟨free_136, e_free_136, hm⟩ := bnd_inv hm
        refine r_asg ?_
        refine Ex.go W (ex_bl false) hq fun v_138 H_137 bb hq W M rv => ?_
        rw [← e_free_136] at rv
        have f_p_layout := Rp.mv f_p_layout M
        have f_p_starts := Rp.mv f_p_starts M
        have nN_106 := st_nN_106.mv nN_106 M
        have nN_117 := st_nN_117.mv nN_117 M
        have u := u.trans bb
        obtain rfl : v_138 = V.bl free_136 := rv
        refine (bnd_name : Bnd _ _ _ _ _) _ ?_
        dsimp only [List.set_cons_succ, List.set_cons_zero]
        try dsimp only
        try dsimp only
        try dsimp only
        cases hm
        exact ⟨_, rfl, u, hq, W, nN_106, nN_117, f_p_layout, f_p_starts⟩
      · have hm := (if_neg hc).symm.trans hm
        refine r_next ?_
        try dsimp only
        try dsimp only
        cases hm
        exact ⟨_, rfl, u, hq, W, nN_106, nN_117, f_p_layout, f_p_starts⟩
    · intro σ H_119 hI
      obtain ⟨free_118, hE⟩ : ∃ z, z = out_121 := ⟨_, rfl⟩
      rw [← hE] at hI hgoN_117
      try dsimp only at hI
      obtain ⟨xl_k, rfl, u, hq, W, nN_106, nN_117, f_p_layout, f_p_starts⟩ := hI
      have hm := hgoN_117
      try dsimp only at hm
      try dsimp only
      refine r_ifS ?_
      refine Et.go W (et_val (ex_vb rfl)) hq fun H_139 bb hq W M => ?_
      have f_p_layout := Rp.mv f_p_layout M
      have f_p_starts := Rp.mv f_p_starts M
      have nN_106 := st_nN_106.mv nN_106 M
      have u := u.trans bb
      refine ite_by (fun hc => ?_) (fun hc => ?_)
      · have hm := (if_pos hc).symm.trans hm
        have hm := hretN_106 _ (Option.some.inj hm).symm
        have hm := Option.some.inj hm
        subst hm
        refine r_ret' ?_
        refine Ex.go W (ex_vi rfl) hq fun v H_140 bb hq W M rv => ?_
        exact Q v _ (Bu.to_same (u.trans bb)) (rv)
      · have hm := (if_neg hc).symm.trans hm
        refine r_next ?_
        try dsimp only
        try dsimp only
        cases hm
        exact ⟨_, rfl, ⟨_, _, _, rfl, u, hq, W, nN_106, f_p_layout, f_p_starts⟩⟩
  · intro x σ H_107 eo hI
    obtain ⟨⟩ := x
    try dsimp only at hI
    obtain ⟨xl_start, xl_free, xl_k, rfl, u, hq, W, nN_106, f_p_layout, f_p_starts⟩ := hI
    have hm := hgoN_106
    rw [eo] at hm
    try dsimp only at hm
    try dsimp only
    have hm := Option.some.inj hm
    subst hm
    refine r_ret' ?_
    refine Ex.go W (ex_opU (z := (-1 : Int)) (fun _ _ => rfl) (ex_int 1)) hq fun v H_141 bb hq W M rv => ?_
    exact Q v _ (Bu.to_same (u.trans bb)) (rv)
end
end Pf

namespace Pf
open PySem L2
local macro_rules | `(tactic| walk_at "rd1") => `(tactic| first
  | with_reducible refine r_seqA ?_
  | with_reducible refine r_seqD ?_
  | with_reducible refine r_seqF ?_
  | with_reducible refine r_seqN ?_
  | with_reducible refine r_asg ?_
  | with_reducible refine r_drop ?_
  | with_reducible refine r_ret ?_
  | with_reducible refine r_ifS ?_
  | ((with_reducible refine r_next ?_); try dsimp only)
  | ((with_reducible refine r_name ?_); try dsimp only [List.set_cons_succ, List.set_cons_zero, wipe])
  | ((with_reducible refine' r_var ?rdh ?_); (case rdh => rfl))
  | with_reducible refine r_c ?_
  | with_reducible refine r_op ?_
  | with_reducible refine r_un ?_
  | with_reducible refine r_I0 ?_
  | ((with_reducible refine r_I ?_ ?_); (· first | decide | exact Or.inl (by decide) | exact Or.inr (by decide) | (show _ ∧ _; constructor <;> decide) | (show (0:Int) < _; omega) | (show CDiv _ _; unfold CDiv; omega) ))
  | with_reducible refine r_U ?_
  | with_reducible refine r_eqI ?_
  | with_reducible refine r_neI ?_
  | with_reducible refine r_eqB ?_
  | with_reducible refine r_neB ?_
  | with_reducible refine r_test ?_
  | with_reducible refine r_B ?_
  | with_reducible refine r_bl ?_
  | with_reducible refine r_bl2 ?_
  | with_reducible refine r_yes ?_
  | with_reducible refine r_wipe (by rfl) ?_
  | with_reducible refine r_rfl ?_
  | ((with_reducible refine' r_eqA ?rdh ?_); (case rdh => rfl))
  | with_reducible refine r_and ?_
  | with_reducible refine r_or ?_
  | with_reducible refine r_not ?_
  | with_reducible refine r_andV ?_
  | with_reducible refine r_orV ?_
  | with_reducible refine r_notV ?_
  | with_reducible refine r_ifE ?_
  | with_reducible refine r_nil ?_
  | with_reducible refine r_cons ?_
  | with_reducible refine r_tup ?_
  | with_reducible refine r_lst ?_
  | with_reducible refine r_CB ?_
  | with_reducible refine r_call ?_
  | with_reducible refine r_bm ?_
  | with_reducible refine r_bm0 ?_
  | with_reducible refine r_int ?_
  | with_reducible refine r_i2 ?_
  | with_reducible refine r_i1 ?_
  | with_reducible refine r_gcons ?_
  | with_reducible refine r_gnil ?_
  | with_reducible refine r_gsub ?_
  | with_reducible refine iteT ?_
  | with_reducible refine iteF ?_
  | with_reducible refine ite_notT ?_
  | with_reducible refine ite_notF ?_
  | with_reducible refine r_isi_ib ?_
  | with_reducible refine r_isi_ii ?_
  | with_reducible refine r_isi_bb ?_
  | with_reducible refine r_isi_nb ?_
  | with_reducible refine r_isi_nt ?_
  | ((with_reducible refine' r_isi_ll ?rdh ?_); (case rdh => first | assumption | exact upd_same))
  | ((with_reducible refine' r_isi_tt ?rdh ?_); (case rdh => first | assumption | exact upd_same))
  | with_reducible refine r_sl ?_
  | with_reducible refine r_noPart ?_
  | with_reducible refine r_part ?_
  | with_reducible refine r_int1 ?_
  | with_reducible refine r_tru ?_
  | with_reducible refine r_ckw ?_
  | with_reducible refine r_lc ?_
  | with_reducible refine r_lc2 ?_
  | with_reducible refine r_forS ?_
  | with_reducible refine r_iR1 ?_
  | with_reducible refine r_iR2 ?_
  | with_reducible refine r_iL ?_
  | ((with_reducible refine' r_lenL ?rdh ?_); (case rdh => walk_at "sq"))
  | ((with_reducible refine' r_ixL ?rdh ?rda ?_); (case rdh => walk_at "sq"); (case rda => walk_at "at"))
  | ((with_reducible refine' r_ixT ?rdh ?rda ?_); (case rdh => walk_at "sq"); (case rda => walk_at "at")))
local macro_rules | `(tactic| walk_at "sq") => `(tactic| first
  | assumption
  | exact SqL.of (by assumption)
  | exact SqL.of upd_same
  | exact SqT.of (by assumption)
  | exact SqT.of upd_same)
local macro_rules | `(tactic| walk_at "sml") => `(tactic| (rw [sizeLine_eq]; simp))
local macro_rules | `(tactic| walk_at "at") => `(tactic| first | assumption | rfl)
local macro_rules | `(tactic| walk_at "rd") => `(tactic| repeat walk_at "rd1")
section
variable {w : World} {P : Program} {base : Heap} {K : PySem.W.Frag} {mg : Str → Option Value}
def gapsM (p_size : Int) (p_layout : (List (Int × Int))) : Option (List (Int × Int)) :=
  bnd (([] : List (Int × Int))) fun found_142 => bnd ((0 : Int)) fun end_144 => (catF p_layout [(p_size, (0 : Int))]).bind fun t_148 => (fold (fun (y_154 : (Int × Int)) (x : ((List (Int × Int)) × Int)) => match x with | (found_151, end_152) => bnd (y_154.1) fun start_159 => bnd (y_154.2) fun length_160 => (if (decide (end_152 < start_159)) = true then ((appF found_151 (end_152, (start_159 - end_152))).bind fun found_165 => some found_165) else (some found_151)).bind fun found_162 => bnd ((start_159 + length_160)) fun end_167 => some (found_162, end_167) : (Int × Int) → ((List (Int × Int)) × Int) → Option ((List (Int × Int)) × Int)) t_148 (found_142, end_144)).bind fun x => match x with | (found_151, end_152) => some found_151
theorem mk_gaps {f  : Addr} {fd  : FuncData} (T : Txt mg) (F : Fun K "gaps" "gaps" s_gaps f fd) (m : mg "gaps" = some (.ref f)) (b : Binds K fd ["size", "layout"] []) :
    Cal P w K mg base "gaps" 1 f fd ["size", "layout"] (spP (fun (i : Int × (List (Int × Int)) × Unit) => gapsM i.1 i.2.1)) := by
  refine ⟨F.ok sc_gaps (fun vs H Q E h => ?_) (fun cdv A outer s H vs Q E hr h => ?_), m, F.kp, b⟩
  · obtain ⟨ms, ⟨p_size, p_layout, ⟨⟩⟩, r, _, ⟨v_p_size, _, rfl, f_p_size, ⟨v_p_layout, _, rfl, f_p_layout, e0⟩⟩, _⟩ := h
    cases e0
    rfl
  obtain ⟨ms, ⟨p_size, p_layout, ⟨⟩⟩, r, al, ⟨v_p_size, _, rfl, f_p_size, ⟨v_p_layout, _, rfl, f_p_layout, e0⟩⟩, hm, Q⟩ := h
  cases e0
  obtain rfl : v_p_size = V.int p_size := f_p_size
  refine ⟨_, (pss_cons (ps_set (i := 2) sc_gaps.nd rfl (Or.inl rfl) (pe_lst pa_nil)) (pss_cons (ps_set (i := 3) sc_gaps.nd rfl (Or.inl rfl) pe_int) (pss_cons (ps_for PassesOwn.never rfl (pi_list (pe_op op_cat (pv 1) (pe_lst (pa_cons (pe_tup (pa_cons (pv 0) (pa_cons pe_int pa_nil))) pa_nil)))) (pg_tup rfl (pgs_cons (pg_name (i := 4) sc_gaps.nd rfl (Or.inl rfl)) (pgs_cons (pg_name (i := 5) sc_gaps.nd rfl (Or.inl rfl)) pgs_nil)))
      (pss_cons (ps_if (pt_cmpR op_gt (pv 4) (pv 3) (nomark _))
      (pss_one (ps_expr (pe_bm PySem.F.plainAttrs_list PySem.F.slot_list_append PySem.F.type_list_append mt_append (pv 2) (pa_cons (pe_tup (pa_cons (pv 3) (pa_cons (pe_op op_sub (pv 4) (pv 3)) pa_nil))) pa_nil))))
      pss_nil) (pss_one (ps_set (i := 3) sc_gaps.nd rfl (Or.inl rfl) (pe_op op_add (pv 4) (pv 5)))))) (pss_one (ps_ret (pv 2)))))), ?_⟩
  try dsimp only [cxOf, Cx.nox, Cx.wish]
  rw [show start ["size", "layout", "found", "end", "start", "length"] [V.int p_size, v_p_layout] = [some (V.int p_size), some (v_p_layout), none, none, none, none] from rfl]
  have W : Wd [] ms H := ⟨fun a h => (by cases h), al⟩
  have hq : Tr ms H := trivial
  have hm : gapsM p_size p_layout = some r := hm
  have u : Bu [] H H := Bu.refl _ H
  unfold gapsM at hm
  obtain ⟨found_142, e_found_142, hm⟩ := bnd_inv hm
  refine r_seqA ?_
  refine En.mk W (en_lst (xs := ([] : List (Int × Int))) W (sb_tr (B := [])) (by simp) es_nil) hq fun afound_142 H_143 bb na hq' W' M l_afound_142 => ?_
  rw [← e_found_142] at l_afound_142
  have o_afound_142 := W.al.not na
  have n_afound_142 : afound_142 ∉ [] := fun z => W.al.not na (W.hB _ z)
  have m_afound_142 : afound_142 ∈ afound_142 :: ms := List.mem_cons_self
  have h_afound_142 := u.none na
  have f_p_layout := Rp.mv f_p_layout M
  have u := u.trans bb
  have W := W'
  have hq := hq'
  refine r_name ?_
  dsimp only [List.set_cons_succ, List.set_cons_zero]
  obtain ⟨end_144, e_end_144, hm⟩ := bnd_inv hm
  refine r_seqA ?_
  refine Ex.go W (ex_int 0) hq fun v_146 H_145 bb hq W M rv => ?_
  rw [← e_end_144] at rv
  have f_p_layout := Rp.mv f_p_layout M
  have l_afound_142 := l_afound_142.step M fun o e => bb.1 _ o n_afound_142 e
  have u := u.trans bb
  obtain rfl : v_146 = V.int end_144 := rv
  refine (bnd_name : Bnd _ _ _ _ _) _ ?_
  dsimp only [List.set_cons_succ, List.set_cons_zero]
  obtain ⟨t_148, e_t_148, hm⟩ := bind_inv hm
  refine r_seqF' ?_
  refine r_for W (ei_list (En.ex (sb_tr (B := [])) (en_cat W (sb_tr (B := [])) (el_of W.hB (ex_var W rfl f_p_layout)) (el_of W.hB (En.ex (sb_tr (B := [])) (en_lst (xs := [(p_size, (0 : Int))]) W (sb_tr (B := [])) (by simp) (es_cons W (ex_tup2 W (sb_tr (B := [])) (u := (p_size, (0 : Int))) (ea_cons W (ex_vi rfl) (ea_cons W (ex_int 0) ea_nil))) es_nil)))) e_t_148))) hq fun J N_150 H_149 bb hq W M st_nN_150 nN_150 ok_N_150 => ?_
  have f_p_layout := Rp.mv f_p_layout M
  have l_afound_142 := l_afound_142.step M fun o e => bb.1 _ o n_afound_142 e
  have u := u.trans bb
  obtain ⟨out_155, e_out_155, hm⟩ := bind_inv hm
  have hgoN_150 := hm
  clear hm
  refine wk_fold (ms := afound_142 :: ms) ok_N_150 e_out_155 (fun x σ H' => match x with | (found_151, end_152) => ∃ (xl_start : Option V), ∃ (xl_length : Option V), σ = [some (.int p_size), some v_p_layout, some (.ref afound_142), some (.int end_152), xl_start, xl_length] ∧ Bu [] H H' ∧ Tr (afound_142 :: ms) H' ∧ Wd [] (afound_142 :: ms) H' ∧ N_150 (afound_142 :: ms) H' ∧ Rp.rp (afound_142 :: ms) H' (v_p_layout) p_layout ∧ Ls (afound_142 :: ms) H' afound_142 found_151) ⟨_, _, rfl, u, hq, W, nN_150, f_p_layout, l_afound_142⟩ ?_ ?_ ?_
  · intro x σ H' hI
    obtain ⟨found_151, end_152⟩ := x
    try dsimp only at hI
    obtain ⟨xl_start, xl_length, rfl, u, hq, W, nN_150, f_p_layout, l_afound_142⟩ := hI
    exact ⟨nN_150, W.al⟩
  · intro y_154 v x x' σ H_156 H_157 hI s1 rv hf
    obtain ⟨found_151, end_152⟩ := x
    try dsimp only at hI
    obtain ⟨xl_start, xl_length, rfl, u, hq, W, nN_150, f_p_layout, l_afound_142⟩ := hI
    have hm := hf
    try dsimp only at hm
    have bb : Bu [] H_156 H_157 := Bu.same s1
    have M : Mv (afound_142 :: ms) H_156 (afound_142 :: ms) H_157 := Mv.same s1
    have hq := (sb_tr (B := [])).same s1 hq
    have W := W.bu bb
    have f_p_layout := Rp.mv f_p_layout M
    have l_afound_142 := l_afound_142.step M fun o e => bb.1 _ o n_afound_142 e
    have nN_150 := st_nN_150.mv nN_150 M
    have u := u.trans bb
    obtain ⟨start_159, e_start_159, hm⟩ := bnd_inv hm
    obtain ⟨length_160, e_length_160, hm⟩ := bnd_inv hm
    obtain ⟨a_k_158, u0_k_158, u1_k_158, rfl, n_k_158, eh_k_158, r0_k_158, r1_k_158⟩ := rv
    rw [← e_start_159] at r0_k_158
    obtain rfl : u0_k_158 = V.int start_159 := r0_k_158
    rw [← e_length_160] at r1_k_158
    obtain rfl : u1_k_158 = V.int length_160 := r1_k_158
    refine ((bnd_tup2 eh_k_158 bnd_name bnd_name) : Bnd _ _ _ _ _) _ ?_
    dsimp only [List.set_cons_succ, List.set_cons_zero]
    obtain ⟨found_162, e_j_164, hm⟩ := bind_inv hm
    try dsimp only at hm
    refine r_seqG fun R hR => ?_
    have key : ∀ H_163, Bu [] H H_163 → Tr (afound_142 :: ms) H_163 → Wd [] (afound_142 :: ms) H_163 → N_150 (afound_142 :: ms) H_163 → Rp.rp (afound_142 :: ms) H_163 (v_p_layout) p_layout → Ls (afound_142 :: ms) H_163 afound_142 found_162 → R [some (.int p_size), some v_p_layout, some (.ref afound_142), some (.int end_152), some (.int start_159), some (.int length_160)] H_163 := by
      intro H_163 u hq W nN_150 f_p_layout l_afound_142
      refine hR _ _ ?_
      obtain ⟨end_167, e_end_167, hm⟩ := bnd_inv hm
      refine r_asg ?_
      refine Ex.go W (ex_opI0 (z := (start_159 + length_160)) (fun _ _ => rfl) (ex_vi rfl) (ex_vi rfl)) hq fun v_169 H_168 bb hq W M rv => ?_
      rw [← e_end_167] at rv
      have f_p_layout := Rp.mv f_p_layout M
      have l_afound_142 := l_afound_142.step M fun o e => bb.1 _ o n_afound_142 e
      have nN_150 := st_nN_150.mv nN_150 M
      have u := u.trans bb
      obtain rfl : v_169 = V.int end_167 := rv
      refine (bnd_name : Bnd _ _ _ _ _) _ ?_
      dsimp only [List.set_cons_succ, List.set_cons_zero]
      try dsimp only
      try dsimp only
      cases hm
      exact ⟨_, _, rfl, u, hq, W, nN_150, f_p_layout, l_afound_142⟩
    clear hR
    have hm := e_j_164
    refine r_ifS ?_
    refine Et.go W (et_test (ex_opI0 (z := (decide (end_152 < start_159))) (fun _ _ => rfl) (ex_vi rfl) (ex_vi rfl))) hq fun H_161 bb hq W M => ?_
    have f_p_layout := Rp.mv f_p_layout M
    have l_afound_142 := l_afound_142.step M fun o e => bb.1 _ o n_afound_142 e
    have nN_150 := st_nN_150.mv nN_150 M
    have u := u.trans bb
    refine ite_by (fun hc => ?_) (fun hc => ?_)
    · have hm := (if_pos hc).symm.trans hm
      obtain ⟨found_165, e_found_165, hm⟩ := bind_inv hm
      refine r_drop ?_
      refine s_app rfl W rfl l_afound_142 m_afound_142 n_afound_142 (sb_tr (B := [])) (ea_cons W (ex_tup2 W (sb_tr (B := [])) (u := (end_152, (start_159 - end_152))) (ea_cons W (ex_vi rfl) (ea_cons W (ex_opI0 (z := (start_159 - end_152)) (fun _ _ => rfl) (ex_vi rfl) (ex_vi rfl)) ea_nil))) ea_nil) hq e_found_165 fun H_166 bb hq W M l_afound_142 => ?_
      have f_p_layout := Rp.mv f_p_layout M
      have nN_150 := st_nN_150.mv nN_150 M
      have u := u.own2 h_afound_142 bb
      try dsimp only
      try dsimp only
      cases hm
      exact key _ u hq W nN_150 f_p_layout l_afound_142
    · have hm := (if_neg hc).symm.trans hm
      refine r_next ?_
      try dsimp only
      cases hm
      exact key _ u hq W nN_150 f_p_layout l_afound_142
  · intro σ H_153 hI
    obtain ⟨found_151, end_152⟩ := out_155
    try dsimp only at hI
    obtain ⟨xl_start, xl_length, rfl, u, hq, W, nN_150, f_p_layout, l_afound_142⟩ := hI
    have hm := hgoN_150
    try dsimp only at hm
    try dsimp only
    have sub : ∀ a ∈ ms, a ∈ afound_142 :: ms := ((.cons _ (.refl _)) : List.Sublist (ms) (afound_142 :: ms)).subset
    have M : Mv (afound_142 :: ms) H_153 (ms) H_153 := Mv.less sub
    have hq := (sb_tr (B := [])) _ _ _ _ hq M fun _ _ _ e => e
    have W : Wd [] (ms) H_153 := ⟨fun a h => (by cases h), W.al.less sub⟩
    have f_p_layout := Rp.mv f_p_layout M
    have f_found_151 : Rp.rp (ms) H_153 (.ref afound_142) found_151 := ⟨afound_142, rfl, o_afound_142, l_afound_142.less sub⟩
    have hm := Option.some.inj hm
    subst hm
    refine r_ret' ?_
    refine Ex.go W (ex_var W rfl f_found_151) hq fun v H_170 bb hq W M rv => ?_
    exact Q v _ (Bu.to_same (u.trans bb)) (rv)
def placesM (p_size : Int) (p_layout : (List (Int × Int))) (p_length : Int) : Option (List Int) :=
  (gapsM p_size p_layout).bind fun t_172 => (col2L (fun (y_173 : (Int × Int)) => bnd (y_173.1) fun start_175 => bnd (y_173.2) fun cells_176 => (rng2 start_175 (((start_175 + cells_176) - p_length) + (1 : Int))).bind fun rg_178 => some rg_178)
      (fun (y_173 : (Int × Int)) (y_179 : Int) => bnd (y_173.1) fun start_175 => bnd (y_173.2) fun cells_176 => some (some y_179)) t_172).bind fun cs_177 => some cs_177
theorem mk_places {f f1 : Addr} {fd fd1 : FuncData} (T : Txt mg) (F : Fun K "places" "places" s_places f fd) (m : mg "places" = some (.ref f)) (b : Binds K fd ["size", "layout", "length"] [])
    (C_gaps : Cal P w K mg base "gaps" 1 f1 fd1 ["size", "layout"] (spP (fun (i : Int × (List (Int × Int)) × Unit) => gapsM i.1 i.2.1))) :
    Cal P w K mg base "places" 2 f fd ["size", "layout", "length"] (spP (fun (i : Int × (List (Int × Int)) × Int × Unit) => placesM i.1 i.2.1 i.2.2.1)) := by
  refine ⟨F.ok sc_places (fun vs H Q E h => ?_) (fun cdv A outer s H vs Q E hr h => ?_), m, F.kp, b⟩
  · obtain ⟨ms, ⟨p_size, p_layout, p_length, ⟨⟩⟩, r, _, ⟨v_p_size, _, rfl, f_p_size, ⟨v_p_layout, _, rfl, f_p_layout, ⟨v_p_length, _, rfl, f_p_length, e0⟩⟩⟩, _⟩ := h
    cases e0
    rfl
  obtain ⟨ms, ⟨p_size, p_layout, p_length, ⟨⟩⟩, r, al, ⟨v_p_size, _, rfl, f_p_size, ⟨v_p_layout, _, rfl, f_p_layout, ⟨v_p_length, _, rfl, f_p_length, e0⟩⟩⟩, hm, Q⟩ := h
  cases e0
  obtain rfl : v_p_size = V.int p_size := f_p_size
  obtain rfl : v_p_length = V.int p_length := f_p_length
  refine ⟨_, (pss_one (ps_ret (show PE _ _ (tLc2 _ _ _ _ _ _ _ [3, 4, 5] [5]) from pe_lc2 (own := [("start", 3), ("cells", 4), ("place", 5)]) (vs1 := [5]) (g := gTup K 2 (gCons (gName 3) (gCons (gName 4) gNil))) (g1 := gName 5) (tt := tYes) (tt1 := tYes) rfl sc_places.nd (pi_list (pe_call C_gaps.ok (hr.mono (by first | decide | omega)) rfl C_gaps.mg C_gaps.kp C_gaps.b .nil pass0 (pa_cons (pv 0) (pa_cons (pv 1) pa_nil)))) (blkOk_by (own := [("start", 3), ("cells", 4), ("place", 5)]) (N := ["size", "layout", "length", "start", "cells", "place"]) (sc := defScope s_places) (by decide +kernel)) (by decide) (fun _ _ _ _ _ => (pg_tup rfl (pgs_cons (pg_name (i := 3) sc_places.nd rfl (Or.inl rfl)) (pgs_cons (pg_name (i := 4) sc_places.nd rfl (Or.inl rfl)) pgs_nil)))) (fun _ _ _ _ _ => pts_nil) (fun _ _ _ _ _ => (pi_range2 rfl T.range (pa_cons (pv 3) (pa_cons (pe_op op_add (pe_op op_sub (pe_op op_add (pv 3) (pv 4)) (pv 2)) pe_int) pa_nil)))) (fun _ _ _ _ _ => (pg_name (i := 5) sc_places.nd rfl (Or.inl rfl))) (fun _ _ _ _ _ => pts_nil) (fun _ _ _ _ _ => (pv 5))))), ?_⟩
  try dsimp only [cxOf, Cx.nox, Cx.wish]
  rw [show start ["size", "layout", "length", "start", "cells", "place"] [V.int p_size, v_p_layout, V.int p_length] = [some (V.int p_size), some (v_p_layout), some (V.int p_length), none, none, none] from rfl]
  have W : Wd [] ms H := ⟨fun a h => (by cases h), al⟩
  have hq : Tr ms H := trivial
  have hm : placesM p_size p_layout p_length = some r := hm
  have u : Bu [] H H := Bu.refl _ H
  unfold placesM at hm
  obtain ⟨t_172, e_t_172, hm⟩ := bind_inv hm
  obtain ⟨cs_177, e_cs_177, hm⟩ := bind_inv hm
  have hm := Option.some.inj hm
  subst hm
  refine r_ret' ?_
  refine Ex.go W (En.ex (sb_tr (B := [])) (en_lc2L (gg := fun (y_173 : (Int × Int)) => bnd (y_173.1) fun start_175 => bnd (y_173.2) fun cells_176 => (rng2 start_175 (((start_175 + cells_176) - p_length) + (1 : Int))).bind fun rg_178 => some rg_178)
          (f := fun (y_173 : (Int × Int)) (y_179 : Int) => bnd (y_173.1) fun start_175 => bnd (y_173.2) fun cells_176 => some (some y_179)) W (sb_tr (B := [])) (ei_list (ex_call (i := (p_size, p_layout, ())) W (sb_tr (B := [])) (ea_cons W (ex_vi rfl) (ea_cons W (ex_var W rfl f_p_layout) ea_nil)) e_t_172)) e_cs_177 (fun ms' H' y_173 v cs' L hq' rv hm => by
          have f0_p_layout := f_p_layout
          have W := L.W
          have f_p_layout := Rp.mv f_p_layout L.M
          obtain ⟨start_175, e_start_175, hm⟩ := bnd_inv hm
          obtain ⟨cells_176, e_cells_176, hm⟩ := bnd_inv hm
          obtain ⟨a_k_174, u0_k_174, u1_k_174, rfl, n_k_174, eh_k_174, r0_k_174, r1_k_174⟩ := rv
          rw [← e_start_175] at r0_k_174
          obtain rfl : u0_k_174 = V.int start_175 := r0_k_174
          rw [← e_cells_176] at r1_k_174
          obtain rfl : u1_k_174 = V.int cells_176 := r1_k_174
          obtain ⟨rg_178, e_rg_178, hm⟩ := bind_inv hm
          cases hm
          refine ⟨_, (bnd_tup2 eh_k_174 bnd_name bnd_name), rfl, (ei_rng2 (ea_cons W (ex_vi rfl) (ea_cons W (ex_opI0 (z := (((start_175 + cells_176) - p_length) + (1 : Int))) (fun _ _ => rfl) (ex_opI0 (z := ((start_175 + cells_176) - p_length)) (fun _ _ => rfl) (ex_opI0 (z := (start_175 + cells_176)) (fun _ _ => rfl) (ex_vi rfl) (ex_vi rfl)) (ex_vi rfl)) (ex_int 1)) ea_nil)) e_rg_178), fun ms' H' y_179 u' r' L2 hq' rv2 ru hm2 => ?_⟩
          have W := L2.W
          have f_p_layout := Rp.mv f0_p_layout L2.M
          obtain ⟨z_180, e_z_180, hm2⟩ := bnd_inv hm2
          obtain rfl : start_175 = z_180 := e_start_175.trans e_z_180.symm
          obtain ⟨z_181, e_z_181, hm2⟩ := bnd_inv hm2
          obtain rfl : cells_176 = z_181 := e_cells_176.trans e_z_181.symm
          obtain rfl : u' = V.int y_179 := ru
          cases hm2
          exact ⟨_, bnd_name, rfl, _, rfl, (ex_vi rfl)⟩))) hq fun v H_182 bb hq W M rv => ?_
  exact Q v _ (Bu.to_same (u.trans bb)) (rv)
def placedM (p_layout : (List (Int × Int))) (p_starts : (List Int)) : Option (List (Int × Int)) :=
  (colL (fun (y_183 : ((Int × Int) × Int)) => bnd (y_183.1) fun p_185 => bnd (p_185.1) fun __187 => bnd (p_185.2) fun length_188 => bnd (y_183.2) fun start_189 => some (some (start_189, length_188))) (p_layout.zip p_starts)).bind fun cs_190 => some cs_190
theorem mk_placed {f  : Addr} {fd  : FuncData} (T : Txt mg) (F : Fun K "placed" "placed" s_placed f fd) (m : mg "placed" = some (.ref f)) (b : Binds K fd ["layout", "starts"] []) :
    Cal P w K mg base "placed" 1 f fd ["layout", "starts"] (spP (fun (i : (List (Int × Int)) × (List Int) × Unit) => placedM i.1 i.2.1)) := by
  refine ⟨F.ok sc_placed (fun vs H Q E h => ?_) (fun cdv A outer s H vs Q E hr h => ?_), m, F.kp, b⟩
  · obtain ⟨ms, ⟨p_layout, p_starts, ⟨⟩⟩, r, _, ⟨v_p_layout, _, rfl, f_p_layout, ⟨v_p_starts, _, rfl, f_p_starts, e0⟩⟩, _⟩ := h
    cases e0
    rfl
  obtain ⟨ms, ⟨p_layout, p_starts, ⟨⟩⟩, r, al, ⟨v_p_layout, _, rfl, f_p_layout, ⟨v_p_starts, _, rfl, f_p_starts, e0⟩⟩, hm, Q⟩ := h
  cases e0
  refine ⟨_, (pss_one (ps_ret (show PE _ _ (tLc _ _ _ _ [2, 3, 4]) from pe_lc (own := [("start", 2), ("_", 3), ("length", 4)]) (g := gTup K 2 (gCons (gTup K 2 (gCons (gName 3) (gCons (gName 4) gNil))) (gCons (gName 2) gNil))) (tt := tYes) rfl sc_placed.nd (pi_zip rfl T.zip (pa_cons (pv 0) (pa_cons (pv 1) pa_nil))) (blkOk_by (own := [("start", 2), ("_", 3), ("length", 4)]) (N := ["layout", "starts", "start", "_", "length"]) (sc := defScope s_placed) (by decide +kernel)) (fun _ _ _ _ _ => (pg_tup rfl (pgs_cons (pg_tup rfl (pgs_cons (pg_name (i := 3) sc_placed.nd rfl (Or.inl rfl)) (pgs_cons (pg_name (i := 4) sc_placed.nd rfl (Or.inl rfl)) pgs_nil))) (pgs_cons (pg_name (i := 2) sc_placed.nd rfl (Or.inl rfl)) pgs_nil)))) (fun _ _ _ _ _ => pts_nil) (fun _ _ _ _ _ => (pe_tup (pa_cons (pv 2) (pa_cons (pv 4) pa_nil))))))), ?_⟩
  try dsimp only [cxOf, Cx.nox, Cx.wish]
  rw [show start ["layout", "starts", "start", "_", "length"] [v_p_layout, v_p_starts] = [some (v_p_layout), some (v_p_starts), none, none, none] from rfl]
  have W : Wd [] ms H := ⟨fun a h => (by cases h), al⟩
  have hq : Tr ms H := trivial
  have hm : placedM p_layout p_starts = some r := hm
  have u : Bu [] H H := Bu.refl _ H
  unfold placedM at hm
  obtain ⟨cs_190, e_cs_190, hm⟩ := bind_inv hm
  have hm := Option.some.inj hm
  subst hm
  refine r_ret' ?_
  refine Ex.go W (En.ex (sb_tr (B := [])) (en_lcL (f := fun (y_183 : ((Int × Int) × Int)) => bnd (y_183.1) fun p_185 => bnd (p_185.1) fun __187 => bnd (p_185.2) fun length_188 => bnd (y_183.2) fun start_189 => some (some (start_189, length_188))) W (sb_tr (B := [])) (Ei.ej (ei_zip (ea_cons W (ex_var W rfl f_p_layout) (ea_cons W (ex_var W rfl f_p_starts) ea_nil)))) e_cs_190 (fun ms' H' y_183 v r' L hq' rv hm => by
          have W := L.W
          have f_p_layout := Rp.mv f_p_layout L.M
          have f_p_starts := Rp.mv f_p_starts L.M
          obtain ⟨p_185, e_p_185, hm⟩ := bnd_inv hm
          obtain ⟨__187, e___187, hm⟩ := bnd_inv hm
          obtain ⟨length_188, e_length_188, hm⟩ := bnd_inv hm
          obtain ⟨start_189, e_start_189, hm⟩ := bnd_inv hm
          obtain ⟨a_k_184, u0_k_184, u1_k_184, rfl, n_k_184, eh_k_184, r0_k_184, r1_k_184⟩ := rv
          rw [← e_p_185] at r0_k_184
          obtain ⟨a_k_186, u0_k_186, u1_k_186, rfl, n_k_186, eh_k_186, r0_k_186, r1_k_186⟩ := r0_k_184
          rw [← e___187] at r0_k_186
          obtain rfl : u0_k_186 = V.int __187 := r0_k_186
          rw [← e_length_188] at r1_k_186
          obtain rfl : u1_k_186 = V.int length_188 := r1_k_186
          rw [← e_start_189] at r1_k_184
          obtain rfl : u1_k_184 = V.int start_189 := r1_k_184
          cases hm
          exact ⟨_, (bnd_tup2 eh_k_184 (bnd_tup2 eh_k_186 bnd_name bnd_name) bnd_name), rfl, true, et_yes, fun h => (by cases h), fun _ => ⟨_, rfl, (ex_tup2 W (sb_tr (B := [])) (u := (start_189, length_188)) (ea_cons W (ex_vi rfl) (ea_cons W (ex_vi rfl) ea_nil)))⟩⟩))) hq fun v H_191 bb hq W M rv => ?_
  exact Q v _ (Bu.to_same (u.trans bb)) (rv)
def relocatedM (p_layout : (List (Int × Int))) (p_starts : (List Int)) : Option (List (Int × Int)) :=
  (placedM p_layout p_starts).bind fun t_192 => some (sortP t_192)
theorem mk_relocated {f f1 : Addr} {fd fd1 : FuncData} (T : Txt mg) (F : Fun K "relocated" "relocated" s_relocated f fd) (m : mg "relocated" = some (.ref f)) (b : Binds K fd ["layout", "starts"] [])
    (C_placed : Cal P w K mg base "placed" 1 f1 fd1 ["layout", "starts"] (spP (fun (i : (List (Int × Int)) × (List Int) × Unit) => placedM i.1 i.2.1))) :
    Cal P w K mg base "relocated" 2 f fd ["layout", "starts"] (spP (fun (i : (List (Int × Int)) × (List Int) × Unit) => relocatedM i.1 i.2.1)) := by
  refine ⟨F.ok sc_relocated (fun vs H Q E h => ?_) (fun cdv A outer s H vs Q E hr h => ?_), m, F.kp, b⟩
  · obtain ⟨ms, ⟨p_layout, p_starts, ⟨⟩⟩, r, _, ⟨v_p_layout, _, rfl, f_p_layout, ⟨v_p_starts, _, rfl, f_p_starts, e0⟩⟩, _⟩ := h
    cases e0
    rfl
  obtain ⟨ms, ⟨p_layout, p_starts, ⟨⟩⟩, r, al, ⟨v_p_layout, _, rfl, f_p_layout, ⟨v_p_starts, _, rfl, f_p_starts, e0⟩⟩, hm, Q⟩ := h
  cases e0
  refine ⟨_, (pss_one (ps_ret (pe_callB (show CallR _ _ (rSortedPO K) from cr_sortedPO) (by rfl) T.sorted (by decide +kernel) (pa_cons (pe_call C_placed.ok (hr.mono (by first | decide | omega)) rfl C_placed.mg C_placed.kp C_placed.b .nil pass0 (pa_cons (pv 0) (pa_cons (pv 1) pa_nil))) pa_nil)))), ?_⟩
  try dsimp only [cxOf, Cx.nox, Cx.wish]
  rw [show start ["layout", "starts"] [v_p_layout, v_p_starts] = [some (v_p_layout), some (v_p_starts)] from rfl]
  have W : Wd [] ms H := ⟨fun a h => (by cases h), al⟩
  have hq : Tr ms H := trivial
  have hm : relocatedM p_layout p_starts = some r := hm
  have u : Bu [] H H := Bu.refl _ H
  unfold relocatedM at hm
  obtain ⟨t_192, e_t_192, hm⟩ := bind_inv hm
  have hm := Option.some.inj hm
  subst hm
  refine r_ret' ?_
  refine Ex.go W (En.ex (sb_tr (B := [])) (en_sortP W (sb_tr (B := [])) (el_of W.hB (ex_call (i := (p_layout, p_starts, ())) W (sb_tr (B := [])) (ea_cons W (ex_var W rfl f_p_layout) (ea_cons W (ex_var W rfl f_p_starts) ea_nil)) e_t_192)))) hq fun v H_193 bb hq W M rv => ?_
  exact Q v _ (Bu.to_same (u.trans bb)) (rv)
end
end Pf

namespace Pf
open PySem L2
local macro_rules | `(tactic| walk_at "rd1") => `(tactic| first
  | with_reducible refine r_seqA ?_
  | with_reducible refine r_seqD ?_
  | with_reducible refine r_seqF ?_
  | with_reducible refine r_seqN ?_
  | with_reducible refine r_asg ?_
  | with_reducible refine r_drop ?_
  | with_reducible refine r_ret ?_
  | with_reducible refine r_ifS ?_
  | ((with_reducible refine r_next ?_); try dsimp only)
  | ((with_reducible refine r_name ?_); try dsimp only [List.set_cons_succ, List.set_cons_zero, wipe])
  | ((with_reducible refine' r_var ?rdh ?_); (case rdh => rfl))
  | with_reducible refine r_c ?_
  | with_reducible refine r_op ?_
  | with_reducible refine r_un ?_
  | with_reducible refine r_I0 ?_
  | ((with_reducible refine r_I ?_ ?_); (· first | decide | exact Or.inl (by decide) | exact Or.inr (by decide) | (show _ ∧ _; constructor <;> decide) | (show (0:Int) < _; omega) | (show CDiv _ _; unfold CDiv; omega) ))
  | with_reducible refine r_U ?_
  | with_reducible refine r_eqI ?_
  | with_reducible refine r_neI ?_
  | with_reducible refine r_eqB ?_
  | with_reducible refine r_neB ?_
  | with_reducible refine r_test ?_
  | with_reducible refine r_B ?_
  | with_reducible refine r_bl ?_
  | with_reducible refine r_bl2 ?_
  | with_reducible refine r_yes ?_
  | with_reducible refine r_wipe (by rfl) ?_
  | with_reducible refine r_rfl ?_
  | ((with_reducible refine' r_eqA ?rdh ?_); (case rdh => rfl))
  | with_reducible refine r_and ?_
  | with_reducible refine r_or ?_
  | with_reducible refine r_not ?_
  | with_reducible refine r_andV ?_
  | with_reducible refine r_orV ?_
  | with_reducible refine r_notV ?_
  | with_reducible refine r_ifE ?_
  | with_reducible refine r_nil ?_
  | with_reducible refine r_cons ?_
  | with_reducible refine r_tup ?_
  | with_reducible refine r_lst ?_
  | with_reducible refine r_CB ?_
  | with_reducible refine r_call ?_
  | with_reducible refine r_bm ?_
  | with_reducible refine r_bm0 ?_
  | with_reducible refine r_int ?_
  | with_reducible refine r_i2 ?_
  | with_reducible refine r_i1 ?_
  | with_reducible refine r_gcons ?_
  | with_reducible refine r_gnil ?_
  | with_reducible refine r_gsub ?_
  | with_reducible refine iteT ?_
  | with_reducible refine iteF ?_
  | with_reducible refine ite_notT ?_
  | with_reducible refine ite_notF ?_
  | with_reducible refine r_isi_ib ?_
  | with_reducible refine r_isi_ii ?_
  | with_reducible refine r_isi_bb ?_
  | with_reducible refine r_isi_nb ?_
  | with_reducible refine r_isi_nt ?_
  | ((with_reducible refine' r_isi_ll ?rdh ?_); (case rdh => first | assumption | exact upd_same))
  | ((with_reducible refine' r_isi_tt ?rdh ?_); (case rdh => first | assumption | exact upd_same))
  | with_reducible refine r_sl ?_
  | with_reducible refine r_noPart ?_
  | with_reducible refine r_part ?_
  | with_reducible refine r_int1 ?_
  | with_reducible refine r_tru ?_
  | with_reducible refine r_ckw ?_
  | with_reducible refine r_lc ?_
  | with_reducible refine r_lc2 ?_
  | with_reducible refine r_forS ?_
  | with_reducible refine r_iR1 ?_
  | with_reducible refine r_iR2 ?_
  | with_reducible refine r_iL ?_
  | ((with_reducible refine' r_lenL ?rdh ?_); (case rdh => walk_at "sq"))
  | ((with_reducible refine' r_ixL ?rdh ?rda ?_); (case rdh => walk_at "sq"); (case rda => walk_at "at"))
  | ((with_reducible refine' r_ixT ?rdh ?rda ?_); (case rdh => walk_at "sq"); (case rda => walk_at "at")))
local macro_rules | `(tactic| walk_at "sq") => `(tactic| first
  | assumption
  | exact SqL.of (by assumption)
  | exact SqL.of upd_same
  | exact SqT.of (by assumption)
  | exact SqT.of upd_same)
local macro_rules | `(tactic| walk_at "sml") => `(tactic| (rw [sizeLine_eq]; simp))
local macro_rules | `(tactic| walk_at "at") => `(tactic| first | assumption | rfl)
local macro_rules | `(tactic| walk_at "rd") => `(tactic| repeat walk_at "rd1")
section
variable {w : World} {P : Program} {base : Heap} {K : PySem.W.Frag} {mg : Str → Option Value}
def room_behind_allM (p_size : Int) (p_length : Int) : Option (DN (Int × Bool) (Int × (List Int))) :=
  bnd ((⟨[]⟩ : (DN (Int × Bool) (Int × (List Int))))) fun found_194 => (rng1 (p_size + (1 : Int))).bind fun rg_196 => (fold (fun (y_201 : Int) (found_199 : (DN (Int × Bool) (Int × (List Int)))) => (putD found_199 (y_201, true) ((0 : Int), ([] : List Int))).bind fun found_205 => if (decide (p_length ≤ (p_size - y_201))) = true then ((putD found_205 (y_201, false) ((0 : Int), ([] : List Int))).bind fun found_208 => some found_208) else (some found_205) : Int → (DN (Int × Bool) (Int × (List Int))) → Option (DN (Int × Bool) (Int × (List Int)))) rg_196 found_194).bind fun found_199 => some found_199
theorem mk_room_behind_all {f  : Addr} {fd  : FuncData} (T : Txt mg) (F : Fun K "_room_behind_all" "_room_behind_all" s_room_behind_all f fd) (m : mg "_room_behind_all" = some (.ref f)) (b : Binds K fd ["size", "length"] []) :
    Cal P w K mg base "_room_behind_all" 1 f fd ["size", "length"] (spP (fun (i : Int × Int × Unit) => room_behind_allM i.1 i.2.1)) := by
  refine ⟨F.ok sc_room_behind_all (fun vs H Q E h => ?_) (fun cdv A outer s H vs Q E hr h => ?_), m, F.kp, b⟩
  · obtain ⟨ms, ⟨p_size, p_length, ⟨⟩⟩, r, _, ⟨v_p_size, _, rfl, f_p_size, ⟨v_p_length, _, rfl, f_p_length, e0⟩⟩, _⟩ := h
    cases e0
    rfl
  obtain ⟨ms, ⟨p_size, p_length, ⟨⟩⟩, r, al, ⟨v_p_size, _, rfl, f_p_size, ⟨v_p_length, _, rfl, f_p_length, e0⟩⟩, hm, Q⟩ := h
  cases e0
  obtain rfl : v_p_size = V.int p_size := f_p_size
  obtain rfl : v_p_length = V.int p_length := f_p_length
  refine ⟨_, (pss_cons (ps_set (i := 2) sc_room_behind_all.nd rfl (Or.inl rfl) pe_dnewN) (pss_cons (ps_for PassesOwn.never rfl (pi_range1 rfl T.range (pa_cons (pe_op op_add (pv 0) pe_int) pa_nil)) (pg_name (i := 3) sc_room_behind_all.nd rfl (Or.inl rfl))
      (pss_cons (ps_nput (roomIn hr) (pv 2) (pe_tup (pa_cons (pv 3) (pa_cons pe_bl pa_nil))) (pe_tup (pa_cons pe_int (pa_cons (pe_lst pa_nil) pa_nil))) rfl) (pss_one (ps_if (pt_cmpR op_ge (pe_op op_sub (pv 0) (pv 3)) (pv 1) (nomark _))
      (pss_one (ps_nput (roomIn hr) (pv 2) (pe_tup (pa_cons (pv 3) (pa_cons pe_bl pa_nil))) (pe_tup (pa_cons pe_int (pa_cons (pe_lst pa_nil) pa_nil))) rfl))
      pss_nil)))) (pss_one (ps_ret (pv 2))))), ?_⟩
  try dsimp only [cxOf, Cx.nox, Cx.wish]
  rw [show start ["size", "length", "found", "end"] [V.int p_size, V.int p_length] = [some (V.int p_size), some (V.int p_length), none, none] from rfl]
  have W : Wd [] ms H := ⟨fun a h => (by cases h), al⟩
  have hq : Tr ms H := trivial
  have hm : room_behind_allM p_size p_length = some r := hm
  have u : Bu [] H H := Bu.refl _ H
  unfold room_behind_allM at hm
  obtain ⟨found_194, e_found_194, hm⟩ := bnd_inv hm
  refine r_seqA ?_
  refine nn_mk (Int × Bool) (Int × (List Int)) W (sb_tr (B := [])) hq fun afound_194 H_195 bb na hq' W' M l_afound_194 => ?_
  rw [← e_found_194] at l_afound_194
  have o_afound_194 := W.al.not na
  have n_afound_194 : afound_194 ∉ [] := fun z => W.al.not na (W.hB _ z)
  have m_afound_194 : afound_194 ∈ afound_194 :: ms := List.mem_cons_self
  have h_afound_194 := u.none na
  have u := u.trans bb
  have W := W'
  have hq := hq'
  refine r_name ?_
  dsimp only [List.set_cons_succ, List.set_cons_zero]
  obtain ⟨rg_196, e_rg_196, hm⟩ := bind_inv hm
  refine r_seqF' ?_
  refine r_for W (ei_rng1 (ea_cons W (ex_opI0 (z := (p_size + (1 : Int))) (fun _ _ => rfl) (ex_vi rfl) (ex_int 1)) ea_nil) e_rg_196) hq fun J N_198 H_197 bb hq W M st_nN_198 nN_198 ok_N_198 => ?_
  have l_afound_194 := l_afound_194.step M fun o e => bb.1 _ o n_afound_194 e
  have u := u.trans bb
  obtain ⟨out_202, e_out_202, hm⟩ := bind_inv hm
  have hgoN_198 := hm
  clear hm
  refine wk_fold (ms := afound_194 :: ms) ok_N_198 e_out_202 (fun found_199 σ H' => ∃ (xl_end : Option V), σ = [some (.int p_size), some (.int p_length), some (.ref afound_194), xl_end] ∧ Bu [] H H' ∧ Tr (afound_194 :: ms) H' ∧ Wd [] (afound_194 :: ms) H' ∧ N_198 (afound_194 :: ms) H' ∧ Dn (afound_194 :: ms) H' afound_194 found_199) ⟨_, rfl, u, hq, W, nN_198, l_afound_194⟩ ?_ ?_ ?_
  · intro found_199 σ H' hI
    try dsimp only at hI
    obtain ⟨xl_end, rfl, u, hq, W, nN_198, l_afound_194⟩ := hI
    exact ⟨nN_198, W.al⟩
  · intro y_201 v found_199 x' σ H_203 H_204 hI s1 rv hf
    try dsimp only at hI
    obtain ⟨xl_end, rfl, u, hq, W, nN_198, l_afound_194⟩ := hI
    have hm := hf
    try dsimp only at hm
    have bb : Bu [] H_203 H_204 := Bu.same s1
    have M : Mv (afound_194 :: ms) H_203 (afound_194 :: ms) H_204 := Mv.same s1
    have hq := (sb_tr (B := [])).same s1 hq
    have W := W.bu bb
    have l_afound_194 := l_afound_194.step M fun o e => bb.1 _ o n_afound_194 e
    have nN_198 := st_nN_198.mv nN_198 M
    have u := u.trans bb
    obtain rfl : v = V.int y_201 := rv
    refine (bnd_name : Bnd _ _ _ _ _) _ ?_
    dsimp only [List.set_cons_succ, List.set_cons_zero]
    obtain ⟨found_205, e_found_205, hm⟩ := bind_inv hm
    refine r_seqU ?_
    refine s_nput (by decide) W rfl l_afound_194 m_afound_194 n_afound_194 (sb_tr (B := [])) (ex_tup2 W (sb_tr (B := [])) (u := ((0 : Int), ([] : List Int))) (ea_cons W (ex_int 0) (ea_cons W (En.ex (sb_tr (B := [])) (en_lst (xs := ([] : List Int)) W (sb_tr (B := [])) (by simp) es_nil)) ea_nil))) (ex_tup2 W (sb_tr (B := [])) (u := (y_201, true)) (ea_cons W (ex_vi rfl) (ea_cons W (ex_bl true) ea_nil))) hq e_found_205 fun H_206 bb hq W M l_afound_194 => ?_
    have nN_198 := st_nN_198.mv nN_198 M
    have u := u.own2 h_afound_194 bb
    try dsimp only
    refine r_ifS ?_
    refine Et.go W (et_test (ex_opI0 (z := (decide (p_length ≤ (p_size - y_201)))) (fun _ _ => rfl) (ex_opI0 (z := (p_size - y_201)) (fun _ _ => rfl) (ex_vi rfl) (ex_vi rfl)) (ex_vi rfl))) hq fun H_207 bb hq W M => ?_
    have l_afound_194 := l_afound_194.step M fun o e => bb.1 _ o n_afound_194 e
    have nN_198 := st_nN_198.mv nN_198 M
    have u := u.trans bb
    refine ite_by (fun hc => ?_) (fun hc => ?_)
    · have hm := (if_pos hc).symm.trans hm
      obtain ⟨found_208, e_found_208, hm⟩ := bind_inv hm
      refine r_nextU ?_
      refine s_nput (by decide) W rfl l_afound_194 m_afound_194 n_afound_194 (sb_tr (B := [])) (ex_tup2 W (sb_tr (B := [])) (u := ((0 : Int), ([] : List Int))) (ea_cons W (ex_int 0) (ea_cons W (En.ex (sb_tr (B := [])) (en_lst (xs := ([] : List Int)) W (sb_tr (B := [])) (by simp) es_nil)) ea_nil))) (ex_tup2 W (sb_tr (B := [])) (u := (y_201, false)) (ea_cons W (ex_vi rfl) (ea_cons W (ex_bl false) ea_nil))) hq e_found_208 fun H_209 bb hq W M l_afound_194 => ?_
      have nN_198 := st_nN_198.mv nN_198 M
      have u := u.own2 h_afound_194 bb
      try dsimp only
      try dsimp only
      try dsimp only
      cases hm
      exact ⟨_, rfl, u, hq, W, nN_198, l_afound_194⟩
    · have hm := (if_neg hc).symm.trans hm
      refine r_next ?_
      try dsimp only
      try dsimp only
      cases hm
      exact ⟨_, rfl, u, hq, W, nN_198, l_afound_194⟩
  · intro σ H_200 hI
    obtain ⟨found_199, hE⟩ : ∃ z, z = out_202 := ⟨_, rfl⟩
    rw [← hE] at hI hgoN_198
    try dsimp only at hI
    obtain ⟨xl_end, rfl, u, hq, W, nN_198, l_afound_194⟩ := hI
    have hm := hgoN_198
    try dsimp only at hm
    try dsimp only
    have sub : ∀ a ∈ ms, a ∈ afound_194 :: ms := ((.cons _ (.refl _)) : List.Sublist (ms) (afound_194 :: ms)).subset
    have M : Mv (afound_194 :: ms) H_200 (ms) H_200 := Mv.less sub
    have hq := (sb_tr (B := [])) _ _ _ _ hq M fun _ _ _ e => e
    have W : Wd [] (ms) H_200 := ⟨fun a h => (by cases h), W.al.less sub⟩
    have f_found_199 : Rp.rp (ms) H_200 (.ref afound_194) found_199 := ⟨afound_194, rfl, o_afound_194, l_afound_194.less sub⟩
    have hm := Option.some.inj hm
    subst hm
    refine r_ret' ?_
    refine Ex.go W (ex_var W rfl f_found_199) hq fun v H_210 bb hq W M rv => ?_
    exact Q v _ (Bu.to_same (u.trans bb)) (rv)
end
end Pf

namespace Pf
open PySem L2
local macro_rules | `(tactic| walk_at "rd1") => `(tactic| first
  | with_reducible refine r_seqA ?_
  | with_reducible refine r_seqD ?_
  | with_reducible refine r_seqF ?_
  | with_reducible refine r_seqN ?_
  | with_reducible refine r_asg ?_
  | with_reducible refine r_drop ?_
  | with_reducible refine r_ret ?_
  | with_reducible refine r_ifS ?_
  | ((with_reducible refine r_next ?_); try dsimp only)
  | ((with_reducible refine r_name ?_); try dsimp only [List.set_cons_succ, List.set_cons_zero, wipe])
  | ((with_reducible refine' r_var ?rdh ?_); (case rdh => rfl))
  | with_reducible refine r_c ?_
  | with_reducible refine r_op ?_
  | with_reducible refine r_un ?_
  | with_reducible refine r_I0 ?_
  | ((with_reducible refine r_I ?_ ?_); (· first | decide | exact Or.inl (by decide) | exact Or.inr (by decide) | (show _ ∧ _; constructor <;> decide) | (show (0:Int) < _; omega) | (show CDiv _ _; unfold CDiv; omega) ))
  | with_reducible refine r_U ?_
  | with_reducible refine r_eqI ?_
  | with_reducible refine r_neI ?_
  | with_reducible refine r_eqB ?_
  | with_reducible refine r_neB ?_
  | with_reducible refine r_test ?_
  | with_reducible refine r_B ?_
  | with_reducible refine r_bl ?_
  | with_reducible refine r_bl2 ?_
  | with_reducible refine r_yes ?_
  | with_reducible refine r_wipe (by rfl) ?_
  | with_reducible refine r_rfl ?_
  | ((with_reducible refine' r_eqA ?rdh ?_); (case rdh => rfl))
  | with_reducible refine r_and ?_
  | with_reducible refine r_or ?_
  | with_reducible refine r_not ?_
  | with_reducible refine r_andV ?_
  | with_reducible refine r_orV ?_
  | with_reducible refine r_notV ?_
  | with_reducible refine r_ifE ?_
  | with_reducible refine r_nil ?_
  | with_reducible refine r_cons ?_
  | with_reducible refine r_tup ?_
  | with_reducible refine r_lst ?_
  | with_reducible refine r_CB ?_
  | with_reducible refine r_call ?_
  | with_reducible refine r_bm ?_
  | with_reducible refine r_bm0 ?_
  | with_reducible refine r_int ?_
  | with_reducible refine r_i2 ?_
  | with_reducible refine r_i1 ?_
  | with_reducible refine r_gcons ?_
  | with_reducible refine r_gnil ?_
  | with_reducible refine r_gsub ?_
  | with_reducible refine iteT ?_
  | with_reducible refine iteF ?_
  | with_reducible refine ite_notT ?_
  | with_reducible refine ite_notF ?_
  | with_reducible refine r_isi_ib ?_
  | with_reducible refine r_isi_ii ?_
  | with_reducible refine r_isi_bb ?_
  | with_reducible refine r_isi_nb ?_
  | with_reducible refine r_isi_nt ?_
  | ((with_reducible refine' r_isi_ll ?rdh ?_); (case rdh => first | assumption | exact upd_same))
  | ((with_reducible refine' r_isi_tt ?rdh ?_); (case rdh => first | assumption | exact upd_same))
  | with_reducible refine r_sl ?_
  | with_reducible refine r_noPart ?_
  | with_reducible refine r_part ?_
  | with_reducible refine r_int1 ?_
  | with_reducible refine r_tru ?_
  | with_reducible refine r_ckw ?_
  | with_reducible refine r_lc ?_
  | with_reducible refine r_lc2 ?_
  | with_reducible refine r_forS ?_
  | with_reducible refine r_iR1 ?_
  | with_reducible refine r_iR2 ?_
  | with_reducible refine r_iL ?_
  | ((with_reducible refine' r_lenL ?rdh ?_); (case rdh => walk_at "sq"))
  | ((with_reducible refine' r_ixL ?rdh ?rda ?_); (case rdh => walk_at "sq"); (case rda => walk_at "at"))
  | ((with_reducible refine' r_ixT ?rdh ?rda ?_); (case rdh => walk_at "sq"); (case rda => walk_at "at")))
local macro_rules | `(tactic| walk_at "sq") => `(tactic| first
  | assumption
  | exact SqL.of (by assumption)
  | exact SqL.of upd_same
  | exact SqT.of (by assumption)
  | exact SqT.of upd_same)
local macro_rules | `(tactic| walk_at "sml") => `(tactic| (rw [sizeLine_eq]; simp))
local macro_rules | `(tactic| walk_at "at") => `(tactic| first | assumption | rfl)
local macro_rules | `(tactic| walk_at "rd") => `(tactic| repeat walk_at "rd1")
section
variable {w : World} {P : Program} {base : Heap} {K : PySem.W.Frag} {mg : Str → Option Value}
def choicesM (p_block : (Int × Int)) (p_is_pinned : Bool) (p_length : Int) (p_end : Int) (p_room : Bool) (p_behind : (DN (Int × Bool) (Int × (List Int)))) : Option (List (Int × (List Int))) :=
  bnd (p_block) fun t_211 => bnd (t_211.1) fun start_215 => bnd (t_211.2) fun cells_216 => (if p_is_pinned = true then some [start_215] else some [start_215, p_end]).bind fun t_217 => bnd (t_217) fun goals_218 => bnd (([] : List (Int × (List Int)))) fun found_221 => (fold (fun (y_227 : Int) (found_225 : (List (Int × (List Int)))) => bnd (((y_227 + cells_216), (p_room || (decide (p_length ≤ (y_227 - p_end)))))) fun key_231 => if ((decide (p_end ≤ y_227)) && (getM p_behind.m key_231).isSome) = true then ((getM p_behind.m key_231).bind fun t_235 => bnd (t_235) fun t_236 => bnd (t_236.1) fun price_240 => bnd (t_236.2) fun starts_241 => (if (decide (y_227 = start_215)) = true then some (0 : Int) else some cells_216).bind fun t_242 => (catF [y_227] starts_241).bind fun t_243 => (appF found_225 ((price_240 + t_242), t_243)).bind fun found_244 => some found_244) else (some found_225) : Int → (List (Int × (List Int))) → Option (List (Int × (List Int)))) goals_218 found_221).bind fun found_225 => some found_225
theorem mk_choices {f  : Addr} {fd  : FuncData} (T : Txt mg) (F : Fun K "_choices" "_choices" s_choices f fd) (m : mg "_choices" = some (.ref f)) (b : Binds K fd ["block", "is_pinned", "length", "end", "room", "behind"] []) :
    Cal P w K mg base "_choices" 1 f fd ["block", "is_pinned", "length", "end", "room", "behind"] (spP (fun (i : (Int × Int) × Bool × Int × Int × Bool × (DN (Int × Bool) (Int × (List Int))) × Unit) => choicesM i.1 i.2.1 i.2.2.1 i.2.2.2.1 i.2.2.2.2.1 i.2.2.2.2.2.1)) := by
  refine ⟨F.ok sc_choices (fun vs H Q E h => ?_) (fun cdv A outer s H vs Q E hr h => ?_), m, F.kp, b⟩
  · obtain ⟨ms, ⟨p_block, p_is_pinned, p_length, p_end, p_room, p_behind, ⟨⟩⟩, r, _, ⟨v_p_block, _, rfl, f_p_block, ⟨v_p_is_pinned, _, rfl, f_p_is_pinned, ⟨v_p_length, _, rfl, f_p_length, ⟨v_p_end, _, rfl, f_p_end, ⟨v_p_room, _, rfl, f_p_room, ⟨v_p_behind, _, rfl, f_p_behind, e0⟩⟩⟩⟩⟩⟩, _⟩ := h
    cases e0
    rfl
  obtain ⟨ms, ⟨p_block, p_is_pinned, p_length, p_end, p_room, p_behind, ⟨⟩⟩, r, al, ⟨v_p_block, _, rfl, f_p_block, ⟨v_p_is_pinned, _, rfl, f_p_is_pinned, ⟨v_p_length, _, rfl, f_p_length, ⟨v_p_end, _, rfl, f_p_end, ⟨v_p_room, _, rfl, f_p_room, ⟨v_p_behind, _, rfl, f_p_behind, e0⟩⟩⟩⟩⟩⟩, hm, Q⟩ := h
  cases e0
  obtain rfl : v_p_is_pinned = V.bl p_is_pinned := f_p_is_pinned
  obtain rfl : v_p_length = V.int p_length := f_p_length
  obtain rfl : v_p_end = V.int p_end := f_p_end
  obtain rfl : v_p_room = V.bl p_room := f_p_room
  refine ⟨_, (pss_cons (ps_asg (pv 0) (pg_tup rfl (pgs_cons (pg_name (i := 6) sc_choices.nd rfl (Or.inl rfl)) (pgs_cons (pg_name (i := 7) sc_choices.nd rfl (Or.inl rfl)) pgs_nil)))) (pss_cons (ps_set (i := 8) sc_choices.nd rfl (Or.inl rfl) (pe_ifExp (pt_val (pv 1)) (pe_lst (pa_cons (pv 6) pa_nil)) (pe_lst (pa_cons (pv 6) (pa_cons (pv 3) pa_nil))))) (pss_cons (ps_set (i := 9) sc_choices.nd rfl (Or.inl rfl) (pe_lst pa_nil)) (pss_cons (ps_for PassesOwn.never rfl (pi_list (pv 8)) (pg_name (i := 10) sc_choices.nd rfl (Or.inl rfl))
      (pss_cons (ps_set (i := 11) sc_choices.nd rfl (Or.inl rfl) (pe_tup (pa_cons (pe_op op_add (pv 10) (pv 7)) (pa_cons (pe_or (pv 4) (pe_one (pe_cmpR op_ge (pe_op op_sub (pv 10) (pv 3)) (pv 2) (nomark _)))) pa_nil)))) (pss_one (ps_if (PW.pt (pw_and (pt_cmpR op_ge (pv 10) (pv 3) (nomark _)) (pw_and1 (pt_cmp (pc_nin (roomIn hr) (pv 11) (pv 5))))))
      (pss_cons (ps_asg (pe_nget (roomIn hr) (pv 5) (pv 11) (fun _ _ => rfl)) (pg_tup rfl (pgs_cons (pg_name (i := 12) sc_choices.nd rfl (Or.inl rfl)) (pgs_cons (pg_name (i := 13) sc_choices.nd rfl (Or.inl rfl)) pgs_nil)))) (pss_one (ps_expr (pe_bm PySem.F.plainAttrs_list PySem.F.slot_list_append PySem.F.type_list_append mt_append (pv 9) (pa_cons (pe_tup (pa_cons (pe_op op_add (pv 12) (pe_ifExp (pt_cmpR op_eq (pv 10) (pv 6) (nomark _)) pe_int (pv 7))) (pa_cons (pe_op op_cat (pe_lst (pa_cons (pv 10) pa_nil)) (pv 13)) pa_nil))) pa_nil)))))
      pss_nil)))) (pss_one (ps_ret (pv 9))))))), ?_⟩
  try dsimp only [cxOf, Cx.nox, Cx.wish]
  rw [show start ["block", "is_pinned", "length", "end", "room", "behind", "start", "cells", "goals", "found", "goal", "key", "price", "starts"] [v_p_block, V.bl p_is_pinned, V.int p_length, V.int p_end, V.bl p_room, v_p_behind] = [some (v_p_block), some (V.bl p_is_pinned), some (V.int p_length), some (V.int p_end), some (V.bl p_room), some (v_p_behind), none, none, none, none, none, none, none, none] from rfl]
  have W : Wd [] ms H := ⟨fun a h => (by cases h), al⟩
  have hq : Tr ms H := trivial
  have hm : choicesM p_block p_is_pinned p_length p_end p_room p_behind = some r := hm
  have u : Bu [] H H := Bu.refl _ H
  unfold choicesM at hm
  obtain ⟨t_211, e_t_211, hm⟩ := bnd_inv hm
  refine r_seqA ?_
  refine Ex.go W (ex_var W rfl f_p_block) hq fun v_213 H_212 bb hq W M rv => ?_
  rw [← e_t_211] at rv
  have f_p_block := Rp.mv f_p_block M
  have f_p_behind := Rp.mv f_p_behind M
  have u := u.trans bb
  obtain ⟨start_215, e_start_215, hm⟩ := bnd_inv hm
  obtain ⟨cells_216, e_cells_216, hm⟩ := bnd_inv hm
  obtain ⟨a_k_214, u0_k_214, u1_k_214, rfl, n_k_214, eh_k_214, r0_k_214, r1_k_214⟩ := rv
  rw [← e_start_215] at r0_k_214
  obtain rfl : u0_k_214 = V.int start_215 := r0_k_214
  rw [← e_cells_216] at r1_k_214
  obtain rfl : u1_k_214 = V.int cells_216 := r1_k_214
  refine ((bnd_tup2 eh_k_214 bnd_name bnd_name) : Bnd _ _ _ _ _) _ ?_
  dsimp only [List.set_cons_succ, List.set_cons_zero]
  obtain ⟨t_217, e_t_217, hm⟩ := bind_inv hm
  obtain ⟨goals_218, e_goals_218, hm⟩ := bnd_inv hm
  refine r_seqA ?_
  refine Ex.go W (ex_if (x := t_217) (et_val (ex_vb rfl)) (fun c => by
          have hm := (if_pos c).symm.trans e_t_217
          
          rw [← Option.some.inj hm]
          exact (En.ex (sb_tr (B := [])) (en_lst (xs := [start_215]) W (sb_tr (B := [])) (by simp) (es_cons W (ex_vi rfl) es_nil))))
          (fun c => by
          have hm := (if_neg (by rw [c]; decide)).symm.trans e_t_217
          
          rw [← Option.some.inj hm]
          exact (En.ex (sb_tr (B := [])) (en_lst (xs := [start_215, p_end]) W (sb_tr (B := [])) (by simp) (es_cons W (ex_vi rfl) (es_cons W (ex_vi rfl) es_nil)))))) hq fun v_220 H_219 bb hq W M rv => ?_
  rw [← e_goals_218] at rv
  have f_p_block := Rp.mv f_p_block M
  have f_p_behind := Rp.mv f_p_behind M
  have u := u.trans bb
  have f_goals_218 := rv
  refine (bnd_name : Bnd _ _ _ _ _) _ ?_
  dsimp only [List.set_cons_succ, List.set_cons_zero]
  obtain ⟨found_221, e_found_221, hm⟩ := bnd_inv hm
  refine r_seqA ?_
  refine En.mk W (en_lst (xs := ([] : List (Int × (List Int)))) W (sb_tr (B := [])) (by simp) es_nil) hq fun afound_221 H_222 bb na hq' W' M l_afound_221 => ?_
  rw [← e_found_221] at l_afound_221
  have o_afound_221 := W.al.not na
  have n_afound_221 : afound_221 ∉ [] := fun z => W.al.not na (W.hB _ z)
  have m_afound_221 : afound_221 ∈ afound_221 :: ms := List.mem_cons_self
  have h_afound_221 := u.none na
  have f_p_block := Rp.mv f_p_block M
  have f_p_behind := Rp.mv f_p_behind M
  have f_goals_218 := Rp.mv f_goals_218 M
  have u := u.trans bb
  have W := W'
  have hq := hq'
  refine r_name ?_
  dsimp only [List.set_cons_succ, List.set_cons_zero]
  refine r_seqF' ?_
  refine r_for W (ei_list (ex_var W rfl f_goals_218)) hq fun J N_224 H_223 bb hq W M st_nN_224 nN_224 ok_N_224 => ?_
  have f_p_block := Rp.mv f_p_block M
  have f_p_behind := Rp.mv f_p_behind M
  have f_goals_218 := Rp.mv f_goals_218 M
  have l_afound_221 := l_afound_221.step M fun o e => bb.1 _ o n_afound_221 e
  have u := u.trans bb
  obtain ⟨out_228, e_out_228, hm⟩ := bind_inv hm
  have hgoN_224 := hm
  clear hm
  refine wk_fold (ms := afound_221 :: ms) ok_N_224 e_out_228 (fun found_225 σ H' => ∃ (xl_goal : Option V), ∃ (xl_key : Option V), ∃ (xl_price : Option V), ∃ (xl_starts : Option V), σ = [some v_p_block, some (.bl p_is_pinned), some (.int p_length), some (.int p_end), some (.bl p_room), some v_p_behind, some (.int start_215), some (.int cells_216), some v_220, some (.ref afound_221), xl_goal, xl_key, xl_price, xl_starts] ∧ Bu [] H H' ∧ Tr (afound_221 :: ms) H' ∧ Wd [] (afound_221 :: ms) H' ∧ N_224 (afound_221 :: ms) H' ∧ Rp.rp (afound_221 :: ms) H' (v_p_block) p_block ∧ Rp.rp (afound_221 :: ms) H' (v_p_behind) p_behind ∧ Rp.rp (afound_221 :: ms) H' (v_220) goals_218 ∧ Ls (afound_221 :: ms) H' afound_221 found_225) ⟨_, _, _, _, rfl, u, hq, W, nN_224, f_p_block, f_p_behind, f_goals_218, l_afound_221⟩ ?_ ?_ ?_
  · intro found_225 σ H' hI
    try dsimp only at hI
    obtain ⟨xl_goal, xl_key, xl_price, xl_starts, rfl, u, hq, W, nN_224, f_p_block, f_p_behind, f_goals_218, l_afound_221⟩ := hI
    exact ⟨nN_224, W.al⟩
  · intro y_227 v found_225 x' σ H_229 H_230 hI s1 rv hf
    try dsimp only at hI
    obtain ⟨xl_goal, xl_key, xl_price, xl_starts, rfl, u, hq, W, nN_224, f_p_block, f_p_behind, f_goals_218, l_afound_221⟩ := hI
    have hm := hf
    try dsimp only at hm
    have bb : Bu [] H_229 H_230 := Bu.same s1
    have M : Mv (afound_221 :: ms) H_229 (afound_221 :: ms) H_230 := Mv.same s1
    have hq := (sb_tr (B := [])).same s1 hq
    have W := W.bu bb
    have f_p_block := Rp.mv f_p_block M
    have f_p_behind := Rp.mv f_p_behind M
    have f_goals_218 := Rp.mv f_goals_218 M
    have l_afound_221 := l_afound_221.step M fun o e => bb.1 _ o n_afound_221 e
    have nN_224 := st_nN_224.mv nN_224 M
    have u := u.trans bb
    obtain rfl : v = V.int y_227 := rv
    refine (bnd_name : Bnd _ _ _ _ _) _ ?_
    dsimp only [List.set_cons_succ, List.set_cons_zero]
    obtain ⟨key_231, e_key_231, hm⟩ := bnd_inv hm
    refine r_seqA ?_
    refine Ex.go W (ex_tup2 W (sb_tr (B := [])) (u := ((y_227 + cells_216), (p_room || (decide (p_length ≤ (y_227 - p_end)))))) (ea_cons W (ex_opI0 (z := (y_227 + cells_216)) (fun _ _ => rfl) (ex_vi rfl) (ex_vi rfl)) (ea_cons W (ex_or' (ex_vb rfl) fun _ => (ex_opI0 (z := (decide (p_length ≤ (y_227 - p_end)))) (fun _ _ => rfl) (ex_opI0 (z := (y_227 - p_end)) (fun _ _ => rfl) (ex_vi rfl) (ex_vi rfl)) (ex_vi rfl))) ea_nil))) hq fun v_233 H_232 bb hq W M rv => ?_
    rw [← e_key_231] at rv
    have f_p_block := Rp.mv f_p_block M
    have f_p_behind := Rp.mv f_p_behind M
    have f_goals_218 := Rp.mv f_goals_218 M
    have l_afound_221 := l_afound_221.step M fun o e => bb.1 _ o n_afound_221 e
    have nN_224 := st_nN_224.mv nN_224 M
    have u := u.trans bb
    have f_key_231 := rv
    refine (bnd_name : Bnd _ _ _ _ _) _ ?_
    dsimp only [List.set_cons_succ, List.set_cons_zero]
    refine r_ifS ?_
    refine Et.go W (et_and' (et_test (ex_opI0 (z := (decide (p_end ≤ y_227))) (fun _ _ => rfl) (ex_vi rfl) (ex_vi rfl))) fun _ => (et_val (ex_nin (by decide) W (ex_var W rfl f_key_231) (ed2_of W.hB (ex_var W rfl f_p_behind))))) hq fun H_234 bb hq W M => ?_
    have f_p_block := Rp.mv f_p_block M
    have f_p_behind := Rp.mv f_p_behind M
    have f_goals_218 := Rp.mv f_goals_218 M
    have l_afound_221 := l_afound_221.step M fun o e => bb.1 _ o n_afound_221 e
    have f_key_231 := Rp.mv f_key_231 M
    have nN_224 := st_nN_224.mv nN_224 M
    have u := u.trans bb
    refine ite_by (fun hc => ?_) (fun hc => ?_)
    · have hm := (if_pos hc).symm.trans hm
      obtain ⟨t_235, e_t_235, hm⟩ := bind_inv hm
      obtain ⟨t_236, e_t_236, hm⟩ := bnd_inv hm
      refine r_seqA ?_
      refine Ex.go W (ex_nget (by decide) (ed2_of W.hB (ex_var W rfl f_p_behind)) (ex_var W rfl f_key_231) W e_t_235) hq fun v_238 H_237 bb hq W M rv => ?_
      rw [← e_t_236] at rv
      have f_p_block := Rp.mv f_p_block M
      have f_p_behind := Rp.mv f_p_behind M
      have f_goals_218 := Rp.mv f_goals_218 M
      have l_afound_221 := l_afound_221.step M fun o e => bb.1 _ o n_afound_221 e
      have f_key_231 := Rp.mv f_key_231 M
      have nN_224 := st_nN_224.mv nN_224 M
      have u := u.trans bb
      obtain ⟨price_240, e_price_240, hm⟩ := bnd_inv hm
      obtain ⟨starts_241, e_starts_241, hm⟩ := bnd_inv hm
      obtain ⟨a_k_239, u0_k_239, u1_k_239, rfl, n_k_239, eh_k_239, r0_k_239, r1_k_239⟩ := rv
      rw [← e_price_240] at r0_k_239
      obtain rfl : u0_k_239 = V.int price_240 := r0_k_239
      rw [← e_starts_241] at r1_k_239
      have f_starts_241 := r1_k_239
      refine ((bnd_tup2 eh_k_239 bnd_name bnd_name) : Bnd _ _ _ _ _) _ ?_
      dsimp only [List.set_cons_succ, List.set_cons_zero]
      obtain ⟨t_242, e_t_242, hm⟩ := bind_inv hm
      obtain ⟨t_243, e_t_243, hm⟩ := bind_inv hm
      obtain ⟨found_244, e_found_244, hm⟩ := bind_inv hm
      refine r_drop ?_
      refine s_app rfl W rfl l_afound_221 m_afound_221 n_afound_221 (sb_tr (B := [])) (ea_cons W (ex_tup2 W (sb_tr (B := [])) (u := ((price_240 + t_242), t_243)) (ea_cons W (ex_opI0 (z := (price_240 + t_242)) (fun _ _ => rfl) (ex_vi rfl) (ex_if (x := t_242) (et_test (ex_eqI (ex_vi rfl) (ex_vi rfl))) (fun c => by
              have hm := (if_pos c).symm.trans e_t_242
              
              rw [← Option.some.inj hm]
              exact (ex_int 0))
              (fun c => by
              have hm := (if_neg (by rw [c]; decide)).symm.trans e_t_242
              
              rw [← Option.some.inj hm]
              exact (ex_vi rfl)))) (ea_cons W (En.ex (sb_tr (B := [])) (en_cat W (sb_tr (B := [])) (el_of W.hB (En.ex (sb_tr (B := [])) (en_lst (xs := [y_227]) W (sb_tr (B := [])) (by simp) (es_cons W (ex_vi rfl) es_nil)))) (el_of W.hB (ex_var W rfl f_starts_241)) e_t_243)) ea_nil))) ea_nil) hq e_found_244 fun H_245 bb hq W M l_afound_221 => ?_
      have f_p_block := Rp.mv f_p_block M
      have f_p_behind := Rp.mv f_p_behind M
      have f_goals_218 := Rp.mv f_goals_218 M
      have f_key_231 := Rp.mv f_key_231 M
      have f_starts_241 := Rp.mv f_starts_241 M
      have nN_224 := st_nN_224.mv nN_224 M
      have u := u.own2 h_afound_221 bb
      try dsimp only
      try dsimp only
      try dsimp only
      cases hm
      exact ⟨_, _, _, _, rfl, u, hq, W, nN_224, f_p_block, f_p_behind, f_goals_218, l_afound_221⟩
    · have hm := (if_neg hc).symm.trans hm
      refine r_next ?_
      try dsimp only
      try dsimp only
      cases hm
      exact ⟨_, _, _, _, rfl, u, hq, W, nN_224, f_p_block, f_p_behind, f_goals_218, l_afound_221⟩
  · intro σ H_226 hI
    obtain ⟨found_225, hE⟩ : ∃ z, z = out_228 := ⟨_, rfl⟩
    rw [← hE] at hI hgoN_224
    try dsimp only at hI
    obtain ⟨xl_goal, xl_key, xl_price, xl_starts, rfl, u, hq, W, nN_224, f_p_block, f_p_behind, f_goals_218, l_afound_221⟩ := hI
    have hm := hgoN_224
    try dsimp only at hm
    try dsimp only
    have sub : ∀ a ∈ ms, a ∈ afound_221 :: ms := ((.cons _ (.refl _)) : List.Sublist (ms) (afound_221 :: ms)).subset
    have M : Mv (afound_221 :: ms) H_226 (ms) H_226 := Mv.less sub
    have hq := (sb_tr (B := [])) _ _ _ _ hq M fun _ _ _ e => e
    have W : Wd [] (ms) H_226 := ⟨fun a h => (by cases h), W.al.less sub⟩
    have f_p_block := Rp.mv f_p_block M
    have f_p_behind := Rp.mv f_p_behind M
    have f_goals_218 := Rp.mv f_goals_218 M
    have f_found_225 : Rp.rp (ms) H_226 (.ref afound_221) found_225 := ⟨afound_221, rfl, o_afound_221, l_afound_221.less sub⟩
    have hm := Option.some.inj hm
    subst hm
    refine r_ret' ?_
    refine Ex.go W (ex_var W rfl f_found_225) hq fun v H_246 bb hq W M rv => ?_
    exact Q v _ (Bu.to_same (u.trans bb)) (rv)
end
end Pf

namespace Pf
open PySem L2
local macro_rules | `(tactic| walk_at "rd1") => `(tactic| first
  | with_reducible refine r_seqA ?_
  | with_reducible refine r_seqD ?_
  | with_reducible refine r_seqF ?_
  | with_reducible refine r_seqN ?_
  | with_reducible refine r_asg ?_
  | with_reducible refine r_drop ?_
  | with_reducible refine r_ret ?_
  | with_reducible refine r_ifS ?_
  | ((with_reducible refine r_next ?_); try dsimp only)
  | ((with_reducible refine r_name ?_); try dsimp only [List.set_cons_succ, List.set_cons_zero, wipe])
  | ((with_reducible refine' r_var ?rdh ?_); (case rdh => rfl))
  | with_reducible refine r_c ?_
  | with_reducible refine r_op ?_
  | with_reducible refine r_un ?_
  | with_reducible refine r_I0 ?_
  | ((with_reducible refine r_I ?_ ?_); (· first | decide | exact Or.inl (by decide) | exact Or.inr (by decide) | (show _ ∧ _; constructor <;> decide) | (show (0:Int) < _; omega) | (show CDiv _ _; unfold CDiv; omega) ))
  | with_reducible refine r_U ?_
  | with_reducible refine r_eqI ?_
  | with_reducible refine r_neI ?_
  | with_reducible refine r_eqB ?_
  | with_reducible refine r_neB ?_
  | with_reducible refine r_test ?_
  | with_reducible refine r_B ?_
  | with_reducible refine r_bl ?_
  | with_reducible refine r_bl2 ?_
  | with_reducible refine r_yes ?_
  | with_reducible refine r_wipe (by rfl) ?_
  | with_reducible refine r_rfl ?_
  | ((with_reducible refine' r_eqA ?rdh ?_); (case rdh => rfl))
  | with_reducible refine r_and ?_
  | with_reducible refine r_or ?_
  | with_reducible refine r_not ?_
  | with_reducible refine r_andV ?_
  | with_reducible refine r_orV ?_
  | with_reducible refine r_notV ?_
  | with_reducible refine r_ifE ?_
  | with_reducible refine r_nil ?_
  | with_reducible refine r_cons ?_
  | with_reducible refine r_tup ?_
  | with_reducible refine r_lst ?_
  | with_reducible refine r_CB ?_
  | with_reducible refine r_call ?_
  | with_reducible refine r_bm ?_
  | with_reducible refine r_bm0 ?_
  | with_reducible refine r_int ?_
  | with_reducible refine r_i2 ?_
  | with_reducible refine r_i1 ?_
  | with_reducible refine r_gcons ?_
  | with_reducible refine r_gnil ?_
  | with_reducible refine r_gsub ?_
  | with_reducible refine iteT ?_
  | with_reducible refine iteF ?_
  | with_reducible refine ite_notT ?_
  | with_reducible refine ite_notF ?_
  | with_reducible refine r_isi_ib ?_
  | with_reducible refine r_isi_ii ?_
  | with_reducible refine r_isi_bb ?_
  | with_reducible refine r_isi_nb ?_
  | with_reducible refine r_isi_nt ?_
  | ((with_reducible refine' r_isi_ll ?rdh ?_); (case rdh => first | assumption | exact upd_same))
  | ((with_reducible refine' r_isi_tt ?rdh ?_); (case rdh => first | assumption | exact upd_same))
  | with_reducible refine r_sl ?_
  | with_reducible refine r_noPart ?_
  | with_reducible refine r_part ?_
  | with_reducible refine r_int1 ?_
  | with_reducible refine r_tru ?_
  | with_reducible refine r_ckw ?_
  | with_reducible refine r_lc ?_
  | with_reducible refine r_lc2 ?_
  | with_reducible refine r_forS ?_
  | with_reducible refine r_iR1 ?_
  | with_reducible refine r_iR2 ?_
  | with_reducible refine r_iL ?_
  | ((with_reducible refine' r_lenL ?rdh ?_); (case rdh => walk_at "sq"))
  | ((with_reducible refine' r_ixL ?rdh ?rda ?_); (case rdh => walk_at "sq"); (case rda => walk_at "at"))
  | ((with_reducible refine' r_ixT ?rdh ?rda ?_); (case rdh => walk_at "sq"); (case rda => walk_at "at")))
local macro_rules | `(tactic| walk_at "sq") => `(tactic| first
  | assumption
  | exact SqL.of (by assumption)
  | exact SqL.of upd_same
  | exact SqT.of (by assumption)
  | exact SqT.of upd_same)
local macro_rules | `(tactic| walk_at "sml") => `(tactic| (rw [sizeLine_eq]; simp))
local macro_rules | `(tactic| walk_at "at") => `(tactic| first | assumption | rfl)
local macro_rules | `(tactic| walk_at "rd") => `(tactic| repeat walk_at "rd1")
section
variable {w : World} {P : Program} {base : Heap} {K : PySem.W.Frag} {mg : Str → Option Value}
def room_fromM (p_size : Int) (p_block : (Int × Int)) (p_is_pinned : Bool) (p_length : Int) (p_behind : (DN (Int × Bool) (Int × (List Int)))) : Option (DN (Int × Bool) (Int × (List Int))) :=
  bnd ((⟨[]⟩ : (DN (Int × Bool) (Int × (List Int))))) fun found_247 => (rng1 (p_size + (1 : Int))).bind fun rg_249 => (fold (fun (y_254 : Int) (found_252 : (DN (Int × Bool) (Int × (List Int)))) => (fold (fun (y_262 : Bool) (found_260 : (DN (Int × Bool) (Int × (List Int)))) => (choicesM p_block p_is_pinned p_length y_254 y_262 p_behind).bind fun t_266 => bnd (t_266) fun choices_267 => if (!choices_267.isEmpty) = true then ((minF choices_267).bind fun t_271 => (putD found_260 (y_254, y_262) t_271).bind fun found_272 => some found_272) else (some found_260) : Bool → (DN (Int × Bool) (Int × (List Int))) → Option (DN (Int × Bool) (Int × (List Int)))) [(false, true).1, (false, true).2] found_252).bind fun found_260 => some found_260 : Int → (DN (Int × Bool) (Int × (List Int))) → Option (DN (Int × Bool) (Int × (List Int)))) rg_249 found_247).bind fun found_252 => some found_252
theorem mk_room_from {f f1 : Addr} {fd fd1 : FuncData} (T : Txt mg) (F : Fun K "_room_from" "_room_from" s_room_from f fd) (m : mg "_room_from" = some (.ref f)) (b : Binds K fd ["size", "block", "is_pinned", "length", "behind"] [])
    (C_choices : Cal P w K mg base "_choices" 1 f1 fd1 ["block", "is_pinned", "length", "end", "room", "behind"] (spP (fun (i : (Int × Int) × Bool × Int × Int × Bool × (DN (Int × Bool) (Int × (List Int))) × Unit) => choicesM i.1 i.2.1 i.2.2.1 i.2.2.2.1 i.2.2.2.2.1 i.2.2.2.2.2.1))) :
    Cal P w K mg base "_room_from" 2 f fd ["size", "block", "is_pinned", "length", "behind"] (spP (fun (i : Int × (Int × Int) × Bool × Int × (DN (Int × Bool) (Int × (List Int))) × Unit) => room_fromM i.1 i.2.1 i.2.2.1 i.2.2.2.1 i.2.2.2.2.1)) := by
  refine ⟨F.ok sc_room_from (fun vs H Q E h => ?_) (fun cdv A outer s H vs Q E hr h => ?_), m, F.kp, b⟩
  · obtain ⟨ms, ⟨p_size, p_block, p_is_pinned, p_length, p_behind, ⟨⟩⟩, r, _, ⟨v_p_size, _, rfl, f_p_size, ⟨v_p_block, _, rfl, f_p_block, ⟨v_p_is_pinned, _, rfl, f_p_is_pinned, ⟨v_p_length, _, rfl, f_p_length, ⟨v_p_behind, _, rfl, f_p_behind, e0⟩⟩⟩⟩⟩, _⟩ := h
    cases e0
    rfl
  obtain ⟨ms, ⟨p_size, p_block, p_is_pinned, p_length, p_behind, ⟨⟩⟩, r, al, ⟨v_p_size, _, rfl, f_p_size, ⟨v_p_block, _, rfl, f_p_block, ⟨v_p_is_pinned, _, rfl, f_p_is_pinned, ⟨v_p_length, _, rfl, f_p_length, ⟨v_p_behind, _, rfl, f_p_behind, e0⟩⟩⟩⟩⟩, hm, Q⟩ := h
  cases e0
  obtain rfl : v_p_size = V.int p_size := f_p_size
  obtain rfl : v_p_is_pinned = V.bl p_is_pinned := f_p_is_pinned
  obtain rfl : v_p_length = V.int p_length := f_p_length
  refine ⟨_, (pss_cons (ps_set (i := 5) sc_room_from.nd rfl (Or.inl rfl) pe_dnewN) (pss_cons (ps_for PassesOwn.never rfl (pi_range1 rfl T.range (pa_cons (pe_op op_add (pv 0) pe_int) pa_nil)) (pg_name (i := 6) sc_room_from.nd rfl (Or.inl rfl))
      (pss_one (ps_for PassesOwn.never rfl (pi_tup (pe_tup (pa_cons pe_bl (pa_cons pe_bl pa_nil)))) (pg_name (i := 7) sc_room_from.nd rfl (Or.inl rfl))
      (pss_cons (ps_set (i := 8) sc_room_from.nd rfl (Or.inl rfl) (pe_call C_choices.ok (hr.mono (by first | decide | omega)) rfl C_choices.mg C_choices.kp C_choices.b .nil pass0 (pa_cons (pv 1) (pa_cons (pv 2) (pa_cons (pv 3) (pa_cons (pv 6) (pa_cons (pv 7) (pa_cons (pv 4) pa_nil)))))))) (pss_one (ps_if (pt_truthN (pv 8))
      (pss_one (ps_nput (roomIn hr) (pv 5) (pe_tup (pa_cons (pv 6) (pa_cons (pv 7) pa_nil))) (pe_callB (show CallR _ _ (rMinE K) from cr_minE rfl (room70 hr)) (by rfl) T.min (by decide +kernel) (pa_cons (pv 8) pa_nil)) rfl))
      pss_nil)))))) (pss_one (ps_ret (pv 5))))), ?_⟩
  try dsimp only [cxOf, Cx.nox, Cx.wish]
  rw [show start ["size", "block", "is_pinned", "length", "behind", "found", "end", "room", "choices"] [V.int p_size, v_p_block, V.bl p_is_pinned, V.int p_length, v_p_behind] = [some (V.int p_size), some (v_p_block), some (V.bl p_is_pinned), some (V.int p_length), some (v_p_behind), none, none, none, none] from rfl]
  have W : Wd [] ms H := ⟨fun a h => (by cases h), al⟩
  have hq : Tr ms H := trivial
  have hm : room_fromM p_size p_block p_is_pinned p_length p_behind = some r := hm
  have u : Bu [] H H := Bu.refl _ H
  unfold room_fromM at hm
  obtain ⟨found_247, e_found_247, hm⟩ := bnd_inv hm
  refine r_seqA ?_
  refine nn_mk (Int × Bool) (Int × (List Int)) W (sb_tr (B := [])) hq fun afound_247 H_248 bb na hq' W' M l_afound_247 => ?_
  rw [← e_found_247] at l_afound_247
  have o_afound_247 := W.al.not na
  have n_afound_247 : afound_247 ∉ [] := fun z => W.al.not na (W.hB _ z)
  have m_afound_247 : afound_247 ∈ afound_247 :: ms := List.mem_cons_self
  have h_afound_247 := u.none na
  have f_p_block := Rp.mv f_p_block M
  have f_p_behind := Rp.mv f_p_behind M
  have u := u.trans bb
  have W := W'
  have hq := hq'
  refine r_name ?_
  dsimp only [List.set_cons_succ, List.set_cons_zero]
  obtain ⟨rg_249, e_rg_249, hm⟩ := bind_inv hm
  refine r_seqF' ?_
  refine r_for W (ei_rng1 (ea_cons W (ex_opI0 (z := (p_size + (1 : Int))) (fun _ _ => rfl) (ex_vi rfl) (ex_int 1)) ea_nil) e_rg_249) hq fun J N_251 H_250 bb hq W M st_nN_251 nN_251 ok_N_251 => ?_
  have f_p_block := Rp.mv f_p_block M
  have f_p_behind := Rp.mv f_p_behind M
  have l_afound_247 := l_afound_247.step M fun o e => bb.1 _ o n_afound_247 e
  have u := u.trans bb
  obtain ⟨out_255, e_out_255, hm⟩ := bind_inv hm
  have hgoN_251 := hm
  clear hm
  refine wk_fold (ms := afound_247 :: ms) ok_N_251 e_out_255 (fun found_252 σ H' => ∃ (xl_end : Option V), ∃ (xl_room : Option V), ∃ (xl_choices : Option V), σ = [some (.int p_size), some v_p_block, some (.bl p_is_pinned), some (.int p_length), some v_p_behind, some (.ref afound_247), xl_end, xl_room, xl_choices] ∧ Bu [] H H' ∧ Tr (afound_247 :: ms) H' ∧ Wd [] (afound_247 :: ms) H' ∧ N_251 (afound_247 :: ms) H' ∧ Rp.rp (afound_247 :: ms) H' (v_p_block) p_block ∧ Rp.rp (afound_247 :: ms) H' (v_p_behind) p_behind ∧ Dn (afound_247 :: ms) H' afound_247 found_252) ⟨_, _, _, rfl, u, hq, W, nN_251, f_p_block, f_p_behind, l_afound_247⟩ ?_ ?_ ?_
  · intro found_252 σ H' hI
    try dsimp only at hI
    obtain ⟨xl_end, xl_room, xl_choices, rfl, u, hq, W, nN_251, f_p_block, f_p_behind, l_afound_247⟩ := hI
    exact ⟨nN_251, W.al⟩
  · intro y_254 v found_252 x' σ H_256 H_257 hI s1 rv hf
    try dsimp only at hI
    obtain ⟨xl_end, xl_room, xl_choices, rfl, u, hq, W, nN_251, f_p_block, f_p_behind, l_afound_247⟩ := hI
    have hm := hf
    try dsimp only at hm
    have bb : Bu [] H_256 H_257 := Bu.same s1
    have M : Mv (afound_247 :: ms) H_256 (afound_247 :: ms) H_257 := Mv.same s1
    have hq := (sb_tr (B := [])).same s1 hq
    have W := W.bu bb
    have f_p_block := Rp.mv f_p_block M
    have f_p_behind := Rp.mv f_p_behind M
    have l_afound_247 := l_afound_247.step M fun o e => bb.1 _ o n_afound_247 e
    have nN_251 := st_nN_251.mv nN_251 M
    have u := u.trans bb
    obtain rfl : v = V.int y_254 := rv
    refine (bnd_name : Bnd _ _ _ _ _) _ ?_
    dsimp only [List.set_cons_succ, List.set_cons_zero]
    refine r_forL ?_
    refine r_for W (ei_tup2 (u := (false, true)) (ex_tup2 W (sb_tr (B := [])) (u := (false, true)) (ea_cons W (ex_bl false) (ea_cons W (ex_bl true) ea_nil)))) hq fun J N_259 H_258 bb hq W M st_nN_259 nN_259 ok_N_259 => ?_
    have f_p_block := Rp.mv f_p_block M
    have f_p_behind := Rp.mv f_p_behind M
    have l_afound_247 := l_afound_247.step M fun o e => bb.1 _ o n_afound_247 e
    have nN_251 := st_nN_251.mv nN_251 M
    have u := u.trans bb
    obtain ⟨out_263, e_out_263, hm⟩ := bind_inv hm
    have hgoN_259 := hm
    clear hm
    refine wk_fold (ms := afound_247 :: ms) ok_N_259 e_out_263 (fun found_260 σ H' => ∃ (xl_room : Option V), ∃ (xl_choices : Option V), σ = [some (.int p_size), some v_p_block, some (.bl p_is_pinned), some (.int p_length), some v_p_behind, some (.ref afound_247), some (.int y_254), xl_room, xl_choices] ∧ Bu [] H H' ∧ Tr (afound_247 :: ms) H' ∧ Wd [] (afound_247 :: ms) H' ∧ N_251 (afound_247 :: ms) H' ∧ N_259 (afound_247 :: ms) H' ∧ Rp.rp (afound_247 :: ms) H' (v_p_block) p_block ∧ Rp.rp (afound_247 :: ms) H' (v_p_behind) p_behind ∧ Dn (afound_247 :: ms) H' afound_247 found_260) ⟨_, _, rfl, u, hq, W, nN_251, nN_259, f_p_block, f_p_behind, l_afound_247⟩ ?_ ?_ ?_
    · intro found_260 σ H' hI
      try dsimp only at hI
      obtain ⟨xl_room, xl_choices, rfl, u, hq, W, nN_251, nN_259, f_p_block, f_p_behind, l_afound_247⟩ := hI
      exact ⟨nN_259, W.al⟩
    · intro y_262 v found_260 x' σ H_264 H_265 hI s1 rv hf
      try dsimp only at hI
      obtain ⟨xl_room, xl_choices, rfl, u, hq, W, nN_251, nN_259, f_p_block, f_p_behind, l_afound_247⟩ := hI
      have hm := hf
      try dsimp only at hm
      have bb : Bu [] H_264 H_265 := Bu.same s1
      have M : Mv (afound_247 :: ms) H_264 (afound_247 :: ms) H_265 := Mv.same s1
      have hq := (sb_tr (B := [])).same s1 hq
      have W := W.bu bb
      have f_p_block := Rp.mv f_p_block M
      have f_p_behind := Rp.mv f_p_behind M
      have l_afound_247 := l_afound_247.step M fun o e => bb.1 _ o n_afound_247 e
      have nN_251 := st_nN_251.mv nN_251 M
      have nN_259 := st_nN_259.mv nN_259 M
      have u := u.trans bb
      obtain rfl : v = V.bl y_262 := rv
      refine (bnd_name : Bnd _ _ _ _ _) _ ?_
      dsimp only [List.set_cons_succ, List.set_cons_zero]
      obtain ⟨t_266, e_t_266, hm⟩ := bind_inv hm
      obtain ⟨choices_267, e_choices_267, hm⟩ := bnd_inv hm
      refine r_seqA ?_
      refine Ex.go W (ex_call (i := (p_block, p_is_pinned, p_length, y_254, y_262, p_behind, ())) W (sb_tr (B := [])) (ea_cons W (ex_var W rfl f_p_block) (ea_cons W (ex_vb rfl) (ea_cons W (ex_vi rfl) (ea_cons W (ex_vi rfl) (ea_cons W (ex_vb rfl) (ea_cons W (ex_var W rfl f_p_behind) ea_nil)))))) e_t_266) hq fun v_269 H_268 bb hq W M rv => ?_
      rw [← e_choices_267] at rv
      have f_p_block := Rp.mv f_p_block M
      have f_p_behind := Rp.mv f_p_behind M
      have l_afound_247 := l_afound_247.step M fun o e => bb.1 _ o n_afound_247 e
      have nN_251 := st_nN_251.mv nN_251 M
      have nN_259 := st_nN_259.mv nN_259 M
      have u := u.trans bb
      have f_choices_267 := rv
      refine (bnd_name : Bnd _ _ _ _ _) _ ?_
      dsimp only [List.set_cons_succ, List.set_cons_zero]
      refine r_ifS ?_
      refine Et.go W (et_truL (el_of W.hB (ex_var W rfl f_choices_267))) hq fun H_270 bb hq W M => ?_
      have f_p_block := Rp.mv f_p_block M
      have f_p_behind := Rp.mv f_p_behind M
      have l_afound_247 := l_afound_247.step M fun o e => bb.1 _ o n_afound_247 e
      have f_choices_267 := Rp.mv f_choices_267 M
      have nN_251 := st_nN_251.mv nN_251 M
      have nN_259 := st_nN_259.mv nN_259 M
      have u := u.trans bb
      refine ite_by (fun hc => ?_) (fun hc => ?_)
      · have hm := (if_pos hc).symm.trans hm
        obtain ⟨t_271, e_t_271, hm⟩ := bind_inv hm
        obtain ⟨found_272, e_found_272, hm⟩ := bind_inv hm
        refine r_nextU ?_
        refine s_nput (by decide) W rfl l_afound_247 m_afound_247 n_afound_247 (sb_tr (B := [])) (ex_minE W (by decide) (el_of W.hB (ex_var W rfl f_choices_267)) e_t_271) (ex_tup2 W (sb_tr (B := [])) (u := (y_254, y_262)) (ea_cons W (ex_vi rfl) (ea_cons W (ex_vb rfl) ea_nil))) hq e_found_272 fun H_273 bb hq W M l_afound_247 => ?_
        have f_p_block := Rp.mv f_p_block M
        have f_p_behind := Rp.mv f_p_behind M
        have f_choices_267 := Rp.mv f_choices_267 M
        have nN_251 := st_nN_251.mv nN_251 M
        have nN_259 := st_nN_259.mv nN_259 M
        have u := u.own2 h_afound_247 bb
        try dsimp only
        try dsimp only
        try dsimp only
        cases hm
        exact ⟨_, _, rfl, u, hq, W, nN_251, nN_259, f_p_block, f_p_behind, l_afound_247⟩
      · have hm := (if_neg hc).symm.trans hm
        refine r_next ?_
        try dsimp only
        try dsimp only
        cases hm
        exact ⟨_, _, rfl, u, hq, W, nN_251, nN_259, f_p_block, f_p_behind, l_afound_247⟩
    · intro σ H_261 hI
      obtain ⟨found_260, hE⟩ : ∃ z, z = out_263 := ⟨_, rfl⟩
      rw [← hE] at hI hgoN_259
      try dsimp only at hI
      obtain ⟨xl_room, xl_choices, rfl, u, hq, W, nN_251, nN_259, f_p_block, f_p_behind, l_afound_247⟩ := hI
      have hm := hgoN_259
      try dsimp only at hm
      try dsimp only
      try dsimp only
      cases hm
      exact ⟨_, _, _, rfl, u, hq, W, nN_251, f_p_block, f_p_behind, l_afound_247⟩
  · intro σ H_253 hI
    obtain ⟨found_252, hE⟩ : ∃ z, z = out_255 := ⟨_, rfl⟩
    rw [← hE] at hI hgoN_251
    try dsimp only at hI
    obtain ⟨xl_end, xl_room, xl_choices, rfl, u, hq, W, nN_251, f_p_block, f_p_behind, l_afound_247⟩ := hI
    have hm := hgoN_251
    try dsimp only at hm
    try dsimp only
    have sub : ∀ a ∈ ms, a ∈ afound_247 :: ms := ((.cons _ (.refl _)) : List.Sublist (ms) (afound_247 :: ms)).subset
    have M : Mv (afound_247 :: ms) H_253 (ms) H_253 := Mv.less sub
    have hq := (sb_tr (B := [])) _ _ _ _ hq M fun _ _ _ e => e
    have W : Wd [] (ms) H_253 := ⟨fun a h => (by cases h), W.al.less sub⟩
    have f_p_block := Rp.mv f_p_block M
    have f_p_behind := Rp.mv f_p_behind M
    have f_found_252 : Rp.rp (ms) H_253 (.ref afound_247) found_252 := ⟨afound_247, rfl, o_afound_247, l_afound_247.less sub⟩
    have hm := Option.some.inj hm
    subst hm
    refine r_ret' ?_
    refine Ex.go W (ex_var W rfl f_found_252) hq fun v H_274 bb hq W M rv => ?_
    exact Q v _ (Bu.to_same (u.trans bb)) (rv)
end
end Pf

namespace Pf
open PySem L2
local macro_rules | `(tactic| walk_at "rd1") => `(tactic| first
  | with_reducible refine r_seqA ?_
  | with_reducible refine r_seqD ?_
  | with_reducible refine r_seqF ?_
  | with_reducible refine r_seqN ?_
  | with_reducible refine r_asg ?_
  | with_reducible refine r_drop ?_
  | with_reducible refine r_ret ?_
  | with_reducible refine r_ifS ?_
  | ((with_reducible refine r_next ?_); try dsimp only)
  | ((with_reducible refine r_name ?_); try dsimp only [List.set_cons_succ, List.set_cons_zero, wipe])
  | ((with_reducible refine' r_var ?rdh ?_); (case rdh => rfl))
  | with_reducible refine r_c ?_
  | with_reducible refine r_op ?_
  | with_reducible refine r_un ?_
  | with_reducible refine r_I0 ?_
  | ((with_reducible refine r_I ?_ ?_); (· first | decide | exact Or.inl (by decide) | exact Or.inr (by decide) | (show _ ∧ _; constructor <;> decide) | (show (0:Int) < _; omega) | (show CDiv _ _; unfold CDiv; omega) ))
  | with_reducible refine r_U ?_
  | with_reducible refine r_eqI ?_
  | with_reducible refine r_neI ?_
  | with_reducible refine r_eqB ?_
  | with_reducible refine r_neB ?_
  | with_reducible refine r_test ?_
  | with_reducible refine r_B ?_
  | with_reducible refine r_bl ?_
  | with_reducible refine r_bl2 ?_
  | with_reducible refine r_yes ?_
  | with_reducible refine r_wipe (by rfl) ?_
  | with_reducible refine r_rfl ?_
  | ((with_reducible refine' r_eqA ?rdh ?_); (case rdh => rfl))
  | with_reducible refine r_and ?_
  | with_reducible refine r_or ?_
  | with_reducible refine r_not ?_
  | with_reducible refine r_andV ?_
  | with_reducible refine r_orV ?_
  | with_reducible refine r_notV ?_
  | with_reducible refine r_ifE ?_
  | with_reducible refine r_nil ?_
  | with_reducible refine r_cons ?_
  | with_reducible refine r_tup ?_
  | with_reducible refine r_lst ?_
  | with_reducible refine r_CB ?_
  | with_reducible refine r_call ?_
  | with_reducible refine r_bm ?_
  | with_reducible refine r_bm0 ?_
  | with_reducible refine r_int ?_
  | with_reducible refine r_i2 ?_
  | with_reducible refine r_i1 ?_
  | with_reducible refine r_gcons ?_
  | with_reducible refine r_gnil ?_
  | with_reducible refine r_gsub ?_
  | with_reducible refine iteT ?_
  | with_reducible refine iteF ?_
  | with_reducible refine ite_notT ?_
  | with_reducible refine ite_notF ?_
  | with_reducible refine r_isi_ib ?_
  | with_reducible refine r_isi_ii ?_
  | with_reducible refine r_isi_bb ?_
  | with_reducible refine r_isi_nb ?_
  | with_reducible refine r_isi_nt ?_
  | ((with_reducible refine' r_isi_ll ?rdh ?_); (case rdh => first | assumption | exact upd_same))
  | ((with_reducible refine' r_isi_tt ?rdh ?_); (case rdh => first | assumption | exact upd_same))
  | with_reducible refine r_sl ?_
  | with_reducible refine r_noPart ?_
  | with_reducible refine r_part ?_
  | with_reducible refine r_int1 ?_
  | with_reducible refine r_tru ?_
  | with_reducible refine r_ckw ?_
  | with_reducible refine r_lc ?_
  | with_reducible refine r_lc2 ?_
  | with_reducible refine r_forS ?_
  | with_reducible refine r_iR1 ?_
  | with_reducible refine r_iR2 ?_
  | with_reducible refine r_iL ?_
  | ((with_reducible refine' r_lenL ?rdh ?_); (case rdh => walk_at "sq"))
  | ((with_reducible refine' r_ixL ?rdh ?rda ?_); (case rdh => walk_at "sq"); (case rda => walk_at "at"))
  | ((with_reducible refine' r_ixT ?rdh ?rda ?_); (case rdh => walk_at "sq"); (case rda => walk_at "at")))
local macro_rules | `(tactic| walk_at "sq") => `(tactic| first
  | assumption
  | exact SqL.of (by assumption)
  | exact SqL.of upd_same
  | exact SqT.of (by assumption)
  | exact SqT.of upd_same)
local macro_rules | `(tactic| walk_at "sml") => `(tactic| (rw [sizeLine_eq]; simp))
local macro_rules | `(tactic| walk_at "at") => `(tactic| first | assumption | rfl)
local macro_rules | `(tactic| walk_at "rd") => `(tactic| repeat walk_at "rd1")
section
variable {w : World} {P : Program} {base : Heap} {K : PySem.W.Frag} {mg : Str → Option Value}
def cheapest_roomM (p_size : Int) (p_layout : (List (Int × Int))) (p_pinned : (List Int)) (p_length : Int) : Option (Option (T3 (List Int) Int Int)) :=
  (room_behind_allM p_size p_length).bind fun t_275 => bnd (t_275) fun behind_276 => (rrg1 (p_layout.length : Int)).bind fun rg_279 => (fold (fun (y_284 : Int) (behind_282 : (DN (Int × Bool) (Int × (List Int)))) => (atI p_layout y_284).bind fun t_288 => (room_fromM p_size t_288 (decide (y_284 ∈ p_pinned)) p_length behind_282).bind fun t_289 => bnd (t_289) fun behind_290 => some behind_290 : Int → (DN (Int × Bool) (Int × (List Int))) → Option (DN (Int × Bool) (Int × (List Int)))) rg_279 behind_276).bind fun behind_282 => if (!(getM behind_282.m ((0 : Int), false)).isSome) = true then (some (none : (Option (T3 (List Int) Int Int)))) else ((getM behind_282.m ((0 : Int), false)).bind fun t_295 => bnd (t_295) fun t_296 => bnd (t_296.1) fun price_300 => bnd (t_296.2) fun starts_301 => (relocatedM p_layout starts_301).bind fun t_302 => (placesM p_size t_302 p_length).bind fun t_303 => bnd (t_303) fun found_304 => (if (!found_304.isEmpty) = true then (atI found_304 (0 : Int)).bind fun t_308 => some t_308 else some p_size).bind fun t_309 => some (some (T3.mk starts_301 t_309 price_300)))
theorem mk_cheapest_room {f f1 f2 f3 f4 : Addr} {fd fd1 fd2 fd3 fd4 : FuncData} (T : Txt mg) (F : Fun K "cheapest_room" "cheapest_room" s_cheapest_room f fd) (m : mg "cheapest_room" = some (.ref f)) (b : Binds K fd ["size", "layout", "pinned", "length"] [])
    (C_places : Cal P w K mg base "places" 2 f1 fd1 ["size", "layout", "length"] (spP (fun (i : Int × (List (Int × Int)) × Int × Unit) => placesM i.1 i.2.1 i.2.2.1)))
    (C_relocated : Cal P w K mg base "relocated" 2 f2 fd2 ["layout", "starts"] (spP (fun (i : (List (Int × Int)) × (List Int) × Unit) => relocatedM i.1 i.2.1)))
    (C_room_behind_all : Cal P w K mg base "_room_behind_all" 1 f3 fd3 ["size", "length"] (spP (fun (i : Int × Int × Unit) => room_behind_allM i.1 i.2.1)))
    (C_room_from : Cal P w K mg base "_room_from" 2 f4 fd4 ["size", "block", "is_pinned", "length", "behind"] (spP (fun (i : Int × (Int × Int) × Bool × Int × (DN (Int × Bool) (Int × (List Int))) × Unit) => room_fromM i.1 i.2.1 i.2.2.1 i.2.2.2.1 i.2.2.2.2.1))) :
    Cal P w K mg base "cheapest_room" 3 f fd ["size", "layout", "pinned", "length"] (spP (fun (i : Int × (List (Int × Int)) × (List Int) × Int × Unit) => cheapest_roomM i.1 i.2.1 i.2.2.1 i.2.2.2.1)) := by
  refine ⟨F.ok sc_cheapest_room (fun vs H Q E h => ?_) (fun cdv A outer s H vs Q E hr h => ?_), m, F.kp, b⟩
  · obtain ⟨ms, ⟨p_size, p_layout, p_pinned, p_length, ⟨⟩⟩, r, _, ⟨v_p_size, _, rfl, f_p_size, ⟨v_p_layout, _, rfl, f_p_layout, ⟨v_p_pinned, _, rfl, f_p_pinned, ⟨v_p_length, _, rfl, f_p_length, e0⟩⟩⟩⟩, _⟩ := h
    cases e0
    rfl
  obtain ⟨ms, ⟨p_size, p_layout, p_pinned, p_length, ⟨⟩⟩, r, al, ⟨v_p_size, _, rfl, f_p_size, ⟨v_p_layout, _, rfl, f_p_layout, ⟨v_p_pinned, _, rfl, f_p_pinned, ⟨v_p_length, _, rfl, f_p_length, e0⟩⟩⟩⟩, hm, Q⟩ := h
  cases e0
  obtain rfl : v_p_size = V.int p_size := f_p_size
  obtain rfl : v_p_length = V.int p_length := f_p_length
  refine ⟨_, (pss_cons (ps_set (i := 4) sc_cheapest_room.nd rfl (Or.inl rfl) (pe_call C_room_behind_all.ok (hr.mono (by first | decide | omega)) rfl C_room_behind_all.mg C_room_behind_all.kp C_room_behind_all.b .nil pass0 (pa_cons (pv 0) (pa_cons (pv 3) pa_nil)))) (pss_cons (ps_for PassesOwn.never rfl (pi_revR rfl T.reversed (prg_1 rfl T.range (pe_callB (show CallR _ _ (fun xs H Q => ∃ p ys, xs = [V.ref p] ∧ (SqL K H p ys ∨ SqT K H p ys) ∧ Q (.int ys.length) H) from call_len_seq) (by rfl) T.len PySem.boot_len (pa_cons (pv 1) pa_nil)))) (pg_name (i := 5) sc_cheapest_room.nd rfl (Or.inl rfl))
      (pss_one (ps_set (i := 4) sc_cheapest_room.nd rfl (Or.inl rfl) (pe_call C_room_from.ok (hr.mono (by first | decide | omega)) rfl C_room_from.mg C_room_from.kp C_room_from.b .nil pass0 (pa_cons (pv 0) (pa_cons (pe_ix (show IxR _ (rIxL K) from ix_list) (pv 1) (pv 5) (fun _ _ => rfl)) (pa_cons (pe_cmpR (show OpR _ _ (rIn K false) from op_in_seq) (pv 5) (pv 2) (by rfl)) (pa_cons (pv 3) (pa_cons (pv 4) pa_nil))))))))) (pss_cons (ps_if (pt_cmp (pc_nnotin (roomIn hr) (pe_tup (pa_cons pe_int (pa_cons pe_bl pa_nil))) (pv 4)))
      (pss_one (ps_ret pe_non))
      pss_nil) (pss_cons (ps_asg (pe_nget (roomIn hr) (pv 4) (pe_tup (pa_cons pe_int (pa_cons pe_bl pa_nil))) (fun _ _ => rfl)) (pg_tup rfl (pgs_cons (pg_name (i := 6) sc_cheapest_room.nd rfl (Or.inl rfl)) (pgs_cons (pg_name (i := 7) sc_cheapest_room.nd rfl (Or.inl rfl)) pgs_nil)))) (pss_cons (ps_set (i := 8) sc_cheapest_room.nd rfl (Or.inl rfl) (pe_call C_places.ok (hr.mono (by first | decide | omega)) rfl C_places.mg C_places.kp C_places.b .nil pass0 (pa_cons (pv 0) (pa_cons (pe_call C_relocated.ok (hr.mono (by first | decide | omega)) rfl C_relocated.mg C_relocated.kp C_relocated.b .nil pass0 (pa_cons (pv 1) (pa_cons (pv 7) pa_nil))) (pa_cons (pv 3) pa_nil))))) (pss_one (ps_ret (pe_tup (pa_cons (pv 7) (pa_cons (pe_ifExp (pt_truthN (pv 8)) (pe_ix (show IxR _ (rIxL K) from ix_list) (pv 8) pe_int (fun _ _ => rfl)) (pv 0)) (pa_cons (pv 6) pa_nil))))))))))), ?_⟩
  try dsimp only [cxOf, Cx.nox, Cx.wish]
  rw [show start ["size", "layout", "pinned", "length", "behind", "index", "price", "starts", "found"] [V.int p_size, v_p_layout, v_p_pinned, V.int p_length] = [some (V.int p_size), some (v_p_layout), some (v_p_pinned), some (V.int p_length), none, none, none, none, none] from rfl]
  have W : Wd [] ms H := ⟨fun a h => (by cases h), al⟩
  have hq : Tr ms H := trivial
  have hm : cheapest_roomM p_size p_layout p_pinned p_length = some r := hm
  have u : Bu [] H H := Bu.refl _ H
  unfold cheapest_roomM at hm
  obtain ⟨t_275, e_t_275, hm⟩ := bind_inv hm
  obtain ⟨behind_276, e_behind_276, hm⟩ := bnd_inv hm
  refine r_seqA ?_
  refine Ex.go W (ex_call (i := (p_size, p_length, ())) W (sb_tr (B := [])) (ea_cons W (ex_vi rfl) (ea_cons W (ex_vi rfl) ea_nil)) e_t_275) hq fun v_278 H_277 bb hq W M rv => ?_
  rw [← e_behind_276] at rv
  have f_p_layout := Rp.mv f_p_layout M
  have f_p_pinned := Rp.mv f_p_pinned M
  have u := u.trans bb
  have f_behind_276 := rv
  refine (bnd_name : Bnd _ _ _ _ _) _ ?_
  dsimp only [List.set_cons_succ, List.set_cons_zero]
  obtain ⟨rg_279, e_rg_279, hm⟩ := bind_inv hm
  refine r_seqF' ?_
  refine r_for W (ei_rrg1 (ex_len (el_of W.hB (ex_var W rfl f_p_layout))) e_rg_279) hq fun J N_281 H_280 bb hq W M st_nN_281 nN_281 ok_N_281 => ?_
  have f_p_layout := Rp.mv f_p_layout M
  have f_p_pinned := Rp.mv f_p_pinned M
  have f_behind_276 := Rp.mv f_behind_276 M
  have u := u.trans bb
  obtain ⟨out_285, e_out_285, hm⟩ := bind_inv hm
  have hgoN_281 := hm
  clear hm
  refine wk_fold (ms := ms) ok_N_281 e_out_285 (fun behind_282 σ H' => ∃ (vj_behind_282 : V), ∃ (xl_index : Option V), σ = [some (.int p_size), some v_p_layout, some v_p_pinned, some (.int p_length), some vj_behind_282, xl_index, none, none, none] ∧ Bu [] H H' ∧ Tr (ms) H' ∧ Wd [] (ms) H' ∧ N_281 (ms) H' ∧ Rp.rp (ms) H' (v_p_layout) p_layout ∧ Rp.rp (ms) H' (v_p_pinned) p_pinned ∧ Rp.rp (ms) H' (vj_behind_282) behind_282) ⟨_, _, rfl, u, hq, W, nN_281, f_p_layout, f_p_pinned, f_behind_276⟩ ?_ ?_ ?_
  · intro behind_282 σ H' hI
    try dsimp only at hI
    obtain ⟨vj_behind_282, xl_index, rfl, u, hq, W, nN_281, f_p_layout, f_p_pinned, f_behind_282⟩ := hI
    exact ⟨nN_281, W.al⟩
  · intro y_284 v behind_282 x' σ H_286 H_287 hI s1 rv hf
    try dsimp only at hI
    obtain ⟨vj_behind_282, xl_index, rfl, u, hq, W, nN_281, f_p_layout, f_p_pinned, f_behind_282⟩ := hI
    have hm := hf
    try dsimp only at hm
    have bb : Bu [] H_286 H_287 := Bu.same s1
    have M : Mv (ms) H_286 (ms) H_287 := Mv.same s1
    have hq := (sb_tr (B := [])).same s1 hq
    have W := W.bu bb
    have f_p_layout := Rp.mv f_p_layout M
    have f_p_pinned := Rp.mv f_p_pinned M
    have f_behind_282 := Rp.mv f_behind_282 M
    have nN_281 := st_nN_281.mv nN_281 M
    have u := u.trans bb
    obtain rfl : v = V.int y_284 := rv
    refine (bnd_name : Bnd _ _ _ _ _) _ ?_
    dsimp only [List.set_cons_succ, List.set_cons_zero]
    obtain ⟨t_288, e_t_288, hm⟩ := bind_inv hm
    obtain ⟨t_289, e_t_289, hm⟩ := bind_inv hm
    obtain ⟨behind_290, e_behind_290, hm⟩ := bnd_inv hm
    refine r_asg ?_
    refine Ex.go W (ex_call (i := (p_size, t_288, (decide (y_284 ∈ p_pinned)), p_length, behind_282, ())) W (sb_tr (B := [])) (ea_cons W (ex_vi rfl) (ea_cons W (ex_ixL (el_of W.hB (ex_var W rfl f_p_layout)) (ex_vi rfl) W e_t_288) (ea_cons W (ex_in W (ex_vi rfl) (el_of W.hB (ex_var W rfl f_p_pinned))) (ea_cons W (ex_vi rfl) (ea_cons W (ex_var W rfl f_behind_282) ea_nil))))) e_t_289) hq fun v_292 H_291 bb hq W M rv => ?_
    rw [← e_behind_290] at rv
    have f_p_layout := Rp.mv f_p_layout M
    have f_p_pinned := Rp.mv f_p_pinned M
    have f_behind_282 := Rp.mv f_behind_282 M
    have nN_281 := st_nN_281.mv nN_281 M
    have u := u.trans bb
    have f_behind_290 := rv
    refine (bnd_name : Bnd _ _ _ _ _) _ ?_
    dsimp only [List.set_cons_succ, List.set_cons_zero]
    try dsimp only
    try dsimp only
    cases hm
    exact ⟨_, _, rfl, u, hq, W, nN_281, f_p_layout, f_p_pinned, f_behind_290⟩
  · intro σ H_283 hI
    obtain ⟨behind_282, hE⟩ : ∃ z, z = out_285 := ⟨_, rfl⟩
    rw [← hE] at hI hgoN_281
    try dsimp only at hI
    obtain ⟨vj_behind_282, xl_index, rfl, u, hq, W, nN_281, f_p_layout, f_p_pinned, f_behind_282⟩ := hI
    have hm := hgoN_281
    try dsimp only at hm
    try dsimp only
    refine r_seq ?_
    refine r_ifS ?_
    refine Et.go W (et_val (ex_nnotin (by decide) W (ex_tup2 W (sb_tr (B := [])) (u := ((0 : Int), false)) (ea_cons W (ex_int 0) (ea_cons W (ex_bl false) ea_nil))) (ed2_of W.hB (ex_var W rfl f_behind_282)))) hq fun H_293 bb hq W M => ?_
    have f_p_layout := Rp.mv f_p_layout M
    have f_p_pinned := Rp.mv f_p_pinned M
    have f_behind_282 := Rp.mv f_behind_282 M
    have u := u.trans bb
    refine ite_by (fun hc => ?_) (fun hc => ?_)
    · have hm := (if_pos hc).symm.trans hm
      have hm := Option.some.inj hm
      subst hm
      refine r_ret' ?_
      refine Ex.go W (ex_non (α := (T3 (List Int) Int Int))) hq fun v H_294 bb hq W M rv => ?_
      exact Q v _ (Bu.to_same (u.trans bb)) (rv)
    · have hm := (if_neg hc).symm.trans hm
      refine r_next ?_
      try dsimp only
      obtain ⟨t_295, e_t_295, hm⟩ := bind_inv hm
      obtain ⟨t_296, e_t_296, hm⟩ := bnd_inv hm
      refine r_seqA ?_
      refine Ex.go W (ex_nget (by decide) (ed2_of W.hB (ex_var W rfl f_behind_282)) (ex_tup2 W (sb_tr (B := [])) (u := ((0 : Int), false)) (ea_cons W (ex_int 0) (ea_cons W (ex_bl false) ea_nil))) W e_t_295) hq fun v_298 H_297 bb hq W M rv => ?_
      rw [← e_t_296] at rv
      have f_p_layout := Rp.mv f_p_layout M
      have f_p_pinned := Rp.mv f_p_pinned M
      have f_behind_282 := Rp.mv f_behind_282 M
      have u := u.trans bb
      obtain ⟨price_300, e_price_300, hm⟩ := bnd_inv hm
      obtain ⟨starts_301, e_starts_301, hm⟩ := bnd_inv hm
      obtain ⟨a_k_299, u0_k_299, u1_k_299, rfl, n_k_299, eh_k_299, r0_k_299, r1_k_299⟩ := rv
      rw [← e_price_300] at r0_k_299
      obtain rfl : u0_k_299 = V.int price_300 := r0_k_299
      rw [← e_starts_301] at r1_k_299
      have f_starts_301 := r1_k_299
      refine ((bnd_tup2 eh_k_299 bnd_name bnd_name) : Bnd _ _ _ _ _) _ ?_
      dsimp only [List.set_cons_succ, List.set_cons_zero]
      obtain ⟨t_302, e_t_302, hm⟩ := bind_inv hm
      obtain ⟨t_303, e_t_303, hm⟩ := bind_inv hm
      obtain ⟨found_304, e_found_304, hm⟩ := bnd_inv hm
      refine r_seqA ?_
      refine Ex.go W (ex_call (i := (p_size, t_302, p_length, ())) W (sb_tr (B := [])) (ea_cons W (ex_vi rfl) (ea_cons W (ex_call (i := (p_layout, starts_301, ())) W (sb_tr (B := [])) (ea_cons W (ex_var W rfl f_p_layout) (ea_cons W (ex_var W rfl f_starts_301) ea_nil)) e_t_302) (ea_cons W (ex_vi rfl) ea_nil))) e_t_303) hq fun v_306 H_305 bb hq W M rv => ?_
      rw [← e_found_304] at rv
      have f_p_layout := Rp.mv f_p_layout M
      have f_p_pinned := Rp.mv f_p_pinned M
      have f_behind_282 := Rp.mv f_behind_282 M
      have f_starts_301 := Rp.mv f_starts_301 M
      have u := u.trans bb
      have f_found_304 := rv
      refine (bnd_name : Bnd _ _ _ _ _) _ ?_
      dsimp only [List.set_cons_succ, List.set_cons_zero]
      obtain ⟨t_309, e_t_309, hm⟩ := bind_inv hm
      have hm := Option.some.inj hm
      subst hm
      refine r_ret' ?_
      refine Ex.go W (ex_some (ex_tup3 W (sb_tr (B := [])) (u := T3.mk starts_301 t_309 price_300) (ea_cons W (ex_var W rfl f_starts_301) (ea_cons W (ex_if (x := t_309) (et_truL (el_of W.hB (ex_var W rfl f_found_304))) (fun c => by
              have hm := (if_pos c).symm.trans e_t_309
              obtain ⟨t_308, e_t_308, hm⟩ := bind_inv hm
              rw [← Option.some.inj hm]
              exact (ex_ixL (el_of W.hB (ex_var W rfl f_found_304)) (ex_int 0) W e_t_308))
              (fun c => by
              have hm := (if_neg (by rw [c]; decide)).symm.trans e_t_309
              
              rw [← Option.some.inj hm]
              exact (ex_vi rfl))) (ea_cons W (ex_vi rfl) ea_nil))))) hq fun v H_310 bb hq W M rv => ?_
      exact Q v _ (Bu.to_same (u.trans bb)) (rv)
end
end Pf

namespace Pf
open PySem L2
local macro_rules | `(tactic| walk_at "rd1") => `(tactic| first
  | with_reducible refine r_seqA ?_
  | with_reducible refine r_seqD ?_
  | with_reducible refine r_seqF ?_
  | with_reducible refine r_seqN ?_
  | with_reducible refine r_asg ?_
  | with_reducible refine r_drop ?_
  | with_reducible refine r_ret ?_
  | with_reducible refine r_ifS ?_
  | ((with_reducible refine r_next ?_); try dsimp only)
  | ((with_reducible refine r_name ?_); try dsimp only [List.set_cons_succ, List.set_cons_zero, wipe])
  | ((with_reducible refine' r_var ?rdh ?_); (case rdh => rfl))
  | with_reducible refine r_c ?_
  | with_reducible refine r_op ?_
  | with_reducible refine r_un ?_
  | with_reducible refine r_I0 ?_
  | ((with_reducible refine r_I ?_ ?_); (· first | decide | exact Or.inl (by decide) | exact Or.inr (by decide) | (show _ ∧ _; constructor <;> decide) | (show (0:Int) < _; omega) | (show CDiv _ _; unfold CDiv; omega) ))
  | with_reducible refine r_U ?_
  | with_reducible refine r_eqI ?_
  | with_reducible refine r_neI ?_
  | with_reducible refine r_eqB ?_
  | with_reducible refine r_neB ?_
  | with_reducible refine r_test ?_
  | with_reducible refine r_B ?_
  | with_reducible refine r_bl ?_
  | with_reducible refine r_bl2 ?_
  | with_reducible refine r_yes ?_
  | with_reducible refine r_wipe (by rfl) ?_
  | with_reducible refine r_rfl ?_
  | ((with_reducible refine' r_eqA ?rdh ?_); (case rdh => rfl))
  | with_reducible refine r_and ?_
  | with_reducible refine r_or ?_
  | with_reducible refine r_not ?_
  | with_reducible refine r_andV ?_
  | with_reducible refine r_orV ?_
  | with_reducible refine r_notV ?_
  | with_reducible refine r_ifE ?_
  | with_reducible refine r_nil ?_
  | with_reducible refine r_cons ?_
  | with_reducible refine r_tup ?_
  | with_reducible refine r_lst ?_
  | with_reducible refine r_CB ?_
  | with_reducible refine r_call ?_
  | with_reducible refine r_bm ?_
  | with_reducible refine r_bm0 ?_
  | with_reducible refine r_int ?_
  | with_reducible refine r_i2 ?_
  | with_reducible refine r_i1 ?_
  | with_reducible refine r_gcons ?_
  | with_reducible refine r_gnil ?_
  | with_reducible refine r_gsub ?_
  | with_reducible refine iteT ?_
  | with_reducible refine iteF ?_
  | with_reducible refine ite_notT ?_
  | with_reducible refine ite_notF ?_
  | with_reducible refine r_isi_ib ?_
  | with_reducible refine r_isi_ii ?_
  | with_reducible refine r_isi_bb ?_
  | with_reducible refine r_isi_nb ?_
  | with_reducible refine r_isi_nt ?_
  | ((with_reducible refine' r_isi_ll ?rdh ?_); (case rdh => first | assumption | exact upd_same))
  | ((with_reducible refine' r_isi_tt ?rdh ?_); (case rdh => first | assumption | exact upd_same))
  | with_reducible refine r_sl ?_
  | with_reducible refine r_noPart ?_
  | with_reducible refine r_part ?_
  | with_reducible refine r_int1 ?_
  | with_reducible refine r_tru ?_
  | with_reducible refine r_ckw ?_
  | with_reducible refine r_lc ?_
  | with_reducible refine r_lc2 ?_
  | with_reducible refine r_forS ?_
  | with_reducible refine r_iR1 ?_
  | with_reducible refine r_iR2 ?_
  | with_reducible refine r_iL ?_
  | ((with_reducible refine' r_lenL ?rdh ?_); (case rdh => walk_at "sq"))
  | ((with_reducible refine' r_ixL ?rdh ?rda ?_); (case rdh => walk_at "sq"); (case rda => walk_at "at"))
  | ((with_reducible refine' r_ixT ?rdh ?rda ?_); (case rdh => walk_at "sq"); (case rda => walk_at "at")))
local macro_rules | `(tactic| walk_at "sq") => `(tactic| first
  | assumption
  | exact SqL.of (by assumption)
  | exact SqL.of upd_same
  | exact SqT.of (by assumption)
  | exact SqT.of upd_same)
local macro_rules | `(tactic| walk_at "sml") => `(tactic| (rw [sizeLine_eq]; simp))
local macro_rules | `(tactic| walk_at "at") => `(tactic| first | assumption | rfl)
local macro_rules | `(tactic| walk_at "rd") => `(tactic| repeat walk_at "rd1")
section
variable {w : World} {P : Program} {base : Heap} {K : PySem.W.Frag} {mg : Str → Option Value}
def gf : Int → List (Int × Int) → List (Int × Int)
  | _, [] => []
  | e, (s, l) :: r => (if s > e then [(e, s - e)] else []) ++ gf (s + l) r
theorem gf_gaps (size : Int) : ∀ (bs : List (Int × Int)) (e : Int), gf e (bs ++ [(size, 0)]) = gapsF size e bs
  | [], e => by
    show (if size > e then [(e, size - e)] else []) ++ [] = gapsF size e []
    rw [List.append_nil, gapsF]
  | (s, l) :: r, e => by
    show (if s > e then [(e, s - e)] else []) ++ gf (s + l) (r ++ [(size, 0)]) = _
    rw [gf_gaps size r, gapsF]
    by_cases c : s > e
    · rw [if_pos c, if_pos c]; rfl
    · rw [if_neg c, if_neg c]; rfl
theorem gapsM_ok {size : Int} {bs : List (Int × Int)} (hl : bs.length ≤ 1000) : gapsM size bs = some (gapsF size 0 bs) := by
  unfold gapsM
  simp only [bnd, catF_ok (xs := bs) (ys := [(size, 0)]) (by simp; omega), Option.bind_some]
  generalize hf : (fun (y : Int × Int) (x : List (Int × Int) × Int) => _) = f
  have step : ∀ s l acc e, acc.length ≤ 5000 → f (s, l) (acc, e) = some (acc ++ (if s > e then [(e, s - e)] else []), s + l) := by
    intro s l acc e h
    rw [← hf]
    dsimp only
    by_cases c : s > e
    · rw [if_pos (decide_eq_true c), appF_ok (by omega), if_pos c]; rfl
    · rw [if_neg (by simpa using c), if_neg c, List.append_nil]; rfl
  have go : ∀ (bs : List (Int × Int)) acc e, acc.length + bs.length ≤ 4000 → ∃ e', fold f bs (acc, e) = some (acc ++ gf e bs, e') := by
    intro bs
    induction bs with
    | nil => intro acc e _; exact ⟨e, by rw [gf, List.append_nil]; rfl⟩
    | cons b r ih =>
      obtain ⟨s, l⟩ := b
      intro acc e h
      rw [List.length_cons] at h
      show ∃ e', (f (s, l) (acc, e)).bind _ = _
      rw [step s l acc e (by omega)]
      obtain ⟨e', h2⟩ := ih (acc ++ (if s > e then [(e, s - e)] else [])) (s + l) (by rw [List.length_append]; split <;> simp <;> omega)
      exact ⟨e', by rw [Option.bind_some, h2, gf, List.append_assoc]⟩
  obtain ⟨e', h⟩ := go (bs ++ [(size, 0)]) [] 0 (by simp; omega)
  rw [h, List.nil_append, gf_gaps]
  rfl

theorem blocksM_ok (bx : List Int × Nat) {size most : Int} (h0 : 0 ≤ size) (h1 : 0 ≤ most) (h2 : most ≤ 1000) : ∃ bs bx', law_blocksM bx size most = some (bs, bx') ∧ VL size 0 bs ∧ (bs.length : Int) ≤ most := by
  unfold law_blocksM
  simp only [bnd, rng1_ok (j := most) (by omega), Option.bind_some]
  generalize hF : fold _ _ _ = z
  have key : ∃ out, z = some out ∧ VL size 0 out.1 ∧ endOf 0 out.1 = out.2.1 ∧ (out.1.length : Int) ≤ (rngL 0 most.toNat).length := by
    rw [← hF]
    refine fold_ex (fun i (x : List (Int × Int) × Int × (List Int × Nat)) => VL size 0 x.1 ∧ endOf 0 x.1 = x.2.1 ∧ (x.1.length : Int) ≤ i) ⟨h0, rfl, by simp⟩ ?_
    rintro i a ⟨bs, e, bx⟩ ha ⟨hv, he, hl⟩
    have hi := (List.getElem?_eq_some_iff.mp ha).1
    rw [rngL_len] at hi
    dsimp only at hv he hl ⊢
    obtain ⟨r1, n1, e1, p1, q1⟩ := drawF_ok (bx := bx) (m := 6) (by decide)
    obtain ⟨v1, m1, w1⟩ := at_mem (xs := [(0 : Int), 0, 0, 1, 1, 2]) p1 q1
    obtain ⟨r2, n2, e2, p2, q2⟩ := drawF_ok (bx := (bx.1, n1)) (m := 6) (by decide)
    obtain ⟨v2, m2, w2⟩ := at_mem (xs := [(0 : Int), 0, 1, 1, 2, 3]) p2 q2
    obtain ⟨r3, n3, e3, p3, q3⟩ := drawF_ok (bx := (bx.1, n2)) (m := 6) (by decide)
    have g1 : 0 ≤ v1 := by simp at m1; omega
    have g2 : 0 ≤ v2 := by simp at m2; omega
    simp only [e1, w1, e2, w2, Option.bind_some, decide_eq_true_eq]
    by_cases c : e + v1 + (1 + v2) ≤ size
    · simp only [c, if_true, e3, Option.bind_some, decide_eq_true_eq]
      by_cases c2 : 0 < r3
      · simp only [c2, if_true]
        rw [appF_ok (by omega)]
        refine ⟨_, rfl, hv.snoc (by omega) (by omega) (by omega), ?_, ?_⟩
        · dsimp only; rw [endOf_snoc]
        · dsimp only; rw [List.length_append]; simp; omega
      · simp only [c2, if_false]
        exact ⟨_, rfl, hv, he, by dsimp only; omega⟩
    · simp only [c, if_false, Option.bind_some]
      exact ⟨_, rfl, hv, he, by dsimp only; omega⟩
  obtain ⟨⟨bs, e, bx'⟩, rfl, k1, k2, k3⟩ := key
  rw [rngL_len] at k3
  exact ⟨bs, bx', rfl, k1, by dsimp only at k3; omega⟩

theorem placedM_ok {bs : List (Int × Int)} {st : List Int} (hl : bs.length ≤ 1000) : placedM bs st = some (plF bs st) := by
  unfold placedM
  simp only [bnd]
  rw [colL_map (g := fun p : (Int × Int) × Int => (p.2, p.1.2)) (by rw [List.length_zip]; omega) (fun _ _ => rfl)]
  rfl

theorem relocatedM_ok {bs : List (Int × Int)} {st : List Int} (hl : bs.length ≤ 1000) : relocatedM bs st = some (sortP (plF bs st)) := by
  unfold relocatedM
  exact bind_of (placedM_ok hl) rfl
end
end Pf

namespace Pf
open PySem L2
local macro_rules | `(tactic| walk_at "rd1") => `(tactic| first
  | with_reducible refine r_seqA ?_
  | with_reducible refine r_seqD ?_
  | with_reducible refine r_seqF ?_
  | with_reducible refine r_seqN ?_
  | with_reducible refine r_asg ?_
  | with_reducible refine r_drop ?_
  | with_reducible refine r_ret ?_
  | with_reducible refine r_ifS ?_
  | ((with_reducible refine r_next ?_); try dsimp only)
  | ((with_reducible refine r_name ?_); try dsimp only [List.set_cons_succ, List.set_cons_zero, wipe])
  | ((with_reducible refine' r_var ?rdh ?_); (case rdh => rfl))
  | with_reducible refine r_c ?_
  | with_reducible refine r_op ?_
  | with_reducible refine r_un ?_
  | with_reducible refine r_I0 ?_
  | ((with_reducible refine r_I ?_ ?_); (· first | decide | exact Or.inl (by decide) | exact Or.inr (by decide) | (show _ ∧ _; constructor <;> decide) | (show (0:Int) < _; omega) | (show CDiv _ _; unfold CDiv; omega) ))
  | with_reducible refine r_U ?_
  | with_reducible refine r_eqI ?_
  | with_reducible refine r_neI ?_
  | with_reducible refine r_eqB ?_
  | with_reducible refine r_neB ?_
  | with_reducible refine r_test ?_
  | with_reducible refine r_B ?_
  | with_reducible refine r_bl ?_
  | with_reducible refine r_bl2 ?_
  | with_reducible refine r_yes ?_
  | with_reducible refine r_wipe (by rfl) ?_
  | with_reducible refine r_rfl ?_
  | ((with_reducible refine' r_eqA ?rdh ?_); (case rdh => rfl))
  | with_reducible refine r_and ?_
  | with_reducible refine r_or ?_
  | with_reducible refine r_not ?_
  | with_reducible refine r_andV ?_
  | with_reducible refine r_orV ?_
  | with_reducible refine r_notV ?_
  | with_reducible refine r_ifE ?_
  | with_reducible refine r_nil ?_
  | with_reducible refine r_cons ?_
  | with_reducible refine r_tup ?_
  | with_reducible refine r_lst ?_
  | with_reducible refine r_CB ?_
  | with_reducible refine r_call ?_
  | with_reducible refine r_bm ?_
  | with_reducible refine r_bm0 ?_
  | with_reducible refine r_int ?_
  | with_reducible refine r_i2 ?_
  | with_reducible refine r_i1 ?_
  | with_reducible refine r_gcons ?_
  | with_reducible refine r_gnil ?_
  | with_reducible refine r_gsub ?_
  | with_reducible refine iteT ?_
  | with_reducible refine iteF ?_
  | with_reducible refine ite_notT ?_
  | with_reducible refine ite_notF ?_
  | with_reducible refine r_isi_ib ?_
  | with_reducible refine r_isi_ii ?_
  | with_reducible refine r_isi_bb ?_
  | with_reducible refine r_isi_nb ?_
  | with_reducible refine r_isi_nt ?_
  | ((with_reducible refine' r_isi_ll ?rdh ?_); (case rdh => first | assumption | exact upd_same))
  | ((with_reducible refine' r_isi_tt ?rdh ?_); (case rdh => first | assumption | exact upd_same))
  | with_reducible refine r_sl ?_
  | with_reducible refine r_noPart ?_
  | with_reducible refine r_part ?_
  | with_reducible refine r_int1 ?_
  | with_reducible refine r_tru ?_
  | with_reducible refine r_ckw ?_
  | with_reducible refine r_lc ?_
  | with_reducible refine r_lc2 ?_
  | with_reducible refine r_forS ?_
  | with_reducible refine r_iR1 ?_
  | with_reducible refine r_iR2 ?_
  | with_reducible refine r_iL ?_
  | ((with_reducible refine' r_lenL ?rdh ?_); (case rdh => walk_at "sq"))
  | ((with_reducible refine' r_ixL ?rdh ?rda ?_); (case rdh => walk_at "sq"); (case rda => walk_at "at"))
  | ((with_reducible refine' r_ixT ?rdh ?rda ?_); (case rdh => walk_at "sq"); (case rda => walk_at "at")))
local macro_rules | `(tactic| walk_at "sq") => `(tactic| first
  | assumption
  | exact SqL.of (by assumption)
  | exact SqL.of upd_same
  | exact SqT.of (by assumption)
  | exact SqT.of upd_same)
local macro_rules | `(tactic| walk_at "sml") => `(tactic| (rw [sizeLine_eq]; simp))
local macro_rules | `(tactic| walk_at "at") => `(tactic| first | assumption | rfl)
local macro_rules | `(tactic| walk_at "rd") => `(tactic| repeat walk_at "rd1")
section
variable {w : World} {P : Program} {base : Heap} {K : PySem.W.Frag} {mg : Str → Option Value}
abbrev RT := DN (Int × Bool) (Int × (List Int))
def TabF (size L : Int) (ps : List PB) (d : RT) : Prop := TabOk size L ps (getM d.m) ∧ ∀ e r, e < 0 → getM d.m (e, r) = none
theorem TabF.lens {size L : Int} {ps : List PB} {d : RT} (h : TabF size L ps d) {k : Int × Bool} {c : Int} {st : List Int} (e : getM d.m k = some (c, st)) : st.length = ps.length := by
  obtain ⟨e0, r⟩ := k
  by_cases q : 0 ≤ e0
  · have t := h.1 e0 r q
    rw [e] at t
    exact t.1.len
  · rw [h.2 e0 r (by omega)] at e
    cases e
theorem placesM_ok {size L : Int} {bs : List (Int × Int)} (hl : bs.length ≤ 100) (h0 : 0 ≤ size) (h1 : size ≤ 100) (hv : VL size 0 bs) (hL : 1 ≤ L) (hL2 : L ≤ 100) : placesM size bs L = some (placesF (gapsF size 0 bs) L) := by
  unfold placesM
  refine bind_of (gapsM_ok (by omega)) ?_
  have hin : ∀ g ∈ gapsF size 0 bs, 0 ≤ g.1 ∧ g.1 + g.2 ≤ size ∧ 0 ≤ g.2 := by
    suffices h : ∀ (bs : List (Int × Int)) (e : Int), VL size e bs → 0 ≤ e → ∀ g ∈ gapsF size e bs, 0 ≤ g.1 ∧ g.1 + g.2 ≤ size ∧ 0 ≤ g.2 from h bs 0 hv (Int.le_refl _)
    intro bs
    induction bs with
    | nil =>
      intro e hv he g hg
      rw [gapsF] at hg
      split at hg
      · rw [List.mem_singleton.mp hg]; dsimp only; omega
      · cases hg
    | cons b r ih =>
      intro e hv he g hg
      obtain ⟨s, l⟩ := b
      obtain ⟨v1, v2, v3⟩ := hv
      have := v3.le_size
      rw [gapsF] at hg
      split at hg
      · obtain z | z := List.mem_cons.mp hg
        · rw [z]; dsimp only; omega
        · exact ih _ v3 (by omega) g z
      · exact ih _ v3 (by omega) g hg
  have hlen : (placesF (gapsF size 0 bs) L).length ≤ 101 := by
    refine Nat.le_trans (nodup_le ((placesF_inc hL hv).imp fun {a b} h => by omega) (ys := rngL 0 (size + 1).toNat) fun x hx => ?_) (by rw [rngL_len]; omega)
    have := (placesF_mem hL x hv).mp hx
    rw [rngL_mem]
    omega
  have e2 : ((gapsF size 0 bs).flatMap fun x => (rngL x.1 (x.2 - L + 1).toNat).map id) = placesF (gapsF size 0 bs) L := by
    unfold placesF rngL
    congr 1
    funext g
    rw [List.map_id]
  refine bind_of (col2L_flat (G := fun g => rngL g.1 (g.2 - L + 1).toNat) (F := fun _ y => y) ?_ ?_ ?_) ?_
  · refine Nat.le_trans (Nat.le_of_eq (congrArg List.length e2)) (by omega)
  · intro x hx
    have := hin x hx
    refine bnd_of (bnd_of (bind_of (rng2_ok (by omega) (by omega) (by omega) (by omega)) ?_))
    rw [show x.1 + x.2 - L + 1 - x.1 = x.2 - L + 1 by omega]
  · intro x hx c hc
    rfl
  · exact congrArg some e2
theorem choicesM_ok {b : Int × Int} {pin : Bool} {L e : Int} {r : Bool} {d : RT} (hl : ∀ k c st, getM d.m k = some (c, st) → st.length ≤ 1000) : choicesM b pin L e r d = some (chF L (getM d.m) (b, pin) e r) := by
  unfold choicesM
  refine bnd_of (bnd_of (bnd_of (bind_of (a := if pin = true then [b.1] else [b.1, e]) (by split <;> rfl) (bnd_of (bnd_of ?_)))))
  have hgl : (if pin = true then [b.1] else [b.1, e]).length ≤ 2 := by split <;> simp
  refine bind_of (fold_flat (g := fun g => (oneF L (getM d.m) b e r g).toList) 100 ?_ ?_) ?_
  · intro g hg found hlen
    refine bnd_of ?_
    unfold oneF
    by_cases c : e ≤ g
    · rw [if_pos c]
      cases q : getM d.m (g + b.2, r || decide (L ≤ g - e)) with
      | none =>
        rw [if_neg (by simp)]
        simp
      | some x =>
        obtain ⟨c1, st⟩ := x
        have h1 := hl _ _ _ q
        refine if_of (by simp [c]) ?_
        refine bind_of rfl (bnd_of (bnd_of (bnd_of ?_)))
        refine bind_of (a := if g = b.1 then 0 else b.2) ?_ ?_
        · by_cases z : g = b.1
          · rw [if_pos (decide_eq_true z), if_pos z]
          · rw [if_neg (by simp [z]), if_neg z]
        · refine bind_of (catF_ok (by simp; omega)) ?_
          refine bind_of (appF_ok (by omega)) ?_
          rfl
    · rw [if_neg c, if_neg (by simp [c])]
      simp
  · have : ∀ (xs : List Int), (xs.flatMap fun g => (oneF L (getM d.m) b e r g).toList).length ≤ xs.length := fun xs => by
      rw [← filterMap_flat]
      exact List.length_filterMap_le _ _
    have := this (if pin = true then [b.1] else [b.1, e])
    simp only [List.length_nil]
    omega
  · rw [List.nil_append, ← filterMap_flat]
    rfl
theorem behindM_ok {size L : Int} (h0 : 0 ≤ size) (h1 : size ≤ 100) (hL : 1 ≤ L) (hL2 : L ≤ 100) : ∃ d, room_behind_allM size L = some d ∧ TabF size L [] d := by
  unfold room_behind_allM
  refine exb_bnd (exb (rng1_ok (by omega)) ?_)
  refine exb_ex (Q := fun d : RT => ∀ e r, getM d.m (e, r) = if 0 ≤ e ∧ e ≤ size then (if r = true ∨ L ≤ size - e then some (0, []) else none) else none) ?_ ?_
  · refine fold_exQ (fun i (d : RT) => d.m.length ≤ 2 * i ∧ ∀ e r, getM d.m (e, r) = if 0 ≤ e ∧ e < i then (if r = true ∨ L ≤ size - e then some ((0 : Int), ([] : List Int)) else none) else none) ⟨Nat.zero_le _, fun e r => by rw [if_neg (by omega)]; rfl⟩ ?_ ?_
    · rintro out ⟨h2, h3⟩ e r
      rw [h3 e r, rngL_len]
      by_cases c : 0 ≤ e ∧ e ≤ size
      · rw [if_pos c, if_pos (by omega)]
      · rw [if_neg c, if_neg (by omega)]
    · rintro i a d ha ⟨hl, hI⟩
      have hi : i < (size + 1).toNat := by
        have := (List.getElem?_eq_some_iff.mp ha).1
        rwa [rngL_len] at this
      rw [rngL_get hi] at ha
      have ea : a = i := by have := Option.some.inj ha; omega
      subst ea
      refine exb (putD_ok (by omega)) ?_
      have l1 := putM_len d.m ((i : Int), true) ((0 : Int), ([] : List Int))
      by_cases c : L ≤ size - (i : Int)
      · refine exb_if (by simpa using c) (exb (putD_ok (by dsimp only; omega)) ⟨_, rfl, ?_, fun e r => ?_⟩)
        · have l2 := putM_len (putM d.m ((i : Int), true) ((0 : Int), ([] : List Int))) ((i : Int), false) ((0 : Int), ([] : List Int))
          dsimp only
          omega
        · dsimp only
          rw [getM_put, getM_put, hI]
          by_cases q : e = i
          · subst q
            cases r <;> simp <;> omega
          · have n1 : ¬ (e, r) = ((i : Int), false) := fun z => q (Prod.mk.inj z).1
            have n2 : ¬ (e, r) = ((i : Int), true) := fun z => q (Prod.mk.inj z).1
            rw [if_neg n1, if_neg n2]
            have hw : (0 ≤ e ∧ e < ((i + 1 : Nat) : Int)) ↔ (0 ≤ e ∧ e < (i : Int)) := by omega
            simp only [hw]
      · refine exb_else (by simpa using c) ⟨_, rfl, by dsimp only; omega, fun e r => ?_⟩
        dsimp only
        rw [getM_put, hI]
        by_cases q : e = i
        · subst q
          cases r <;> simp <;> omega
        · have n2 : ¬ (e, r) = ((i : Int), true) := fun z => q (Prod.mk.inj z).1
          rw [if_neg n2]
          have hw : (0 ≤ e ∧ e < ((i + 1 : Nat) : Int)) ↔ (0 ≤ e ∧ e < (i : Int)) := by omega
          simp only [hw]
  · intro d hd
    refine ⟨d, rfl, fun e r he => ?_, fun e r he => ?_⟩
    · rw [hd]
      by_cases c : 0 ≤ e ∧ e ≤ size
      · rw [if_pos c]
        by_cases c2 : r = true ∨ L ≤ size - e
        · rw [if_pos c2]
          refine ⟨⟨rfl, c.2, c2⟩, rfl, fun st h => ?_⟩
          rw [h.1]
          exact Lv.irr _
        · rw [if_neg c2]
          exact fun st h => c2 h.2.2
      · rw [if_neg c]
        exact fun st h => c ⟨he, h.2.1⟩
    · rw [hd, if_neg (by omega)]
theorem fromM_ok {size L : Int} (h0 : 0 ≤ size) (h1 : size ≤ 100) {ps : List PB} {d : RT} (hp : LenP ps) (hps : ps.length ≤ 100) (hd : TabF size L ps d) {b : Int × Int} (hb0 : 0 ≤ b.1) (hb : 1 ≤ b.2) (pin : Bool) : ∃ d', room_fromM size b pin L d = some d' ∧ TabF size L ((b, pin) :: ps) d' := by
  unfold room_fromM
  have hlen : ∀ k c st, getM d.m k = some (c, st) → st.length ≤ 1000 := fun k c st e => by
    have := hd.lens e
    omega
  refine exb_bnd (exb (rng1_ok (by omega)) ?_)
  refine exb_ex (Q := fun d' : RT => ∀ e r, getM d'.m (e, r) = if 0 ≤ e ∧ e ≤ size then minF (chF L (getM d.m) (b, pin) e r) else none) ?_ ?_
  · refine fold_exQ (fun i (d' : RT) => d'.m.length ≤ 2 * i ∧ ∀ e r, getM d'.m (e, r) = if 0 ≤ e ∧ e < i then minF (chF L (getM d.m) (b, pin) e r) else none) ⟨Nat.zero_le _, fun e r => by rw [if_neg (by omega)]; rfl⟩ ?_ ?_
    · rintro out ⟨h2, h3⟩ e r
      rw [h3 e r, rngL_len]
      by_cases c : 0 ≤ e ∧ e ≤ size
      · rw [if_pos c, if_pos (by omega)]
      · rw [if_neg c, if_neg (by omega)]
    · rintro i a f ha ⟨hl, hI⟩
      have hi : i < (size + 1).toNat := by
        have := (List.getElem?_eq_some_iff.mp ha).1
        rwa [rngL_len] at this
      rw [rngL_get hi] at ha
      have ea : a = i := by have := Option.some.inj ha; omega
      subst ea
      generalize hf : (fun (y : Bool) (g : RT) => _) = F
      have one : ∀ (r : Bool) (g : RT), g.m.length ≤ 1000 → ∃ g', F r g = some g' ∧ g'.m.length ≤ g.m.length + 1 ∧ ∀ k, getM g'.m k = if k = ((i : Int), r) then (minF (chF L (getM d.m) (b, pin) i r)).or (getM g.m k) else getM g.m k := by
        intro r g hg
        rw [← hf]
        refine exb (choicesM_ok hlen) (exb_bnd ?_)
        by_cases c : chF L (getM d.m) (b, pin) i r = []
        · refine exb_else (by rw [c]; simp) ⟨g, rfl, by omega, fun k => ?_⟩
          rw [c]
          show _ = if _ then (none : Option _).or _ else _
          simp
        · obtain ⟨m, m1, _⟩ := minF_least c
          refine exb_if (by cases q : chF L (getM d.m) (b, pin) i r with
            | nil => exact absurd q c
            | cons _ _ => rfl) (exb m1 (exb (putD_ok (by omega)) ⟨_, rfl, putM_len _ _ _, fun k => ?_⟩))
          rw [m1]
          show getM (putM g.m _ _) k = _
          rw [getM_put]
          rfl
      obtain ⟨g1, a1, a2, a3⟩ := one false f (by omega)
      obtain ⟨g2, b1, b2, b3⟩ := one true g1 (by omega)
      refine ⟨g2, ?_, by omega, fun e r => ?_⟩
      · refine bind_of (a := g2) ?_ rfl
        show (F false f).bind _ = _
        rw [a1]
        show (F true g1).bind _ = _
        rw [b1]
        rfl
      · rw [b3, a3, hI]
        by_cases q : e = i
        · subst q
          cases r <;> simp <;> omega
        · have n1 : ¬ (e, r) = ((i : Int), false) := fun z => q (Prod.mk.inj z).1
          have n2 : ¬ (e, r) = ((i : Int), true) := fun z => q (Prod.mk.inj z).1
          rw [if_neg n2, if_neg n1]
          have hw : (0 ≤ e ∧ e < ((i + 1 : Nat) : Int)) ↔ (0 ≤ e ∧ e < (i : Int)) := by omega
          simp only [hw]
  · intro d' hd'
    refine ⟨d', rfl, fun e r he => ?_, fun e r he => ?_⟩
    · rw [hd']
      by_cases c : 0 ≤ e ∧ e ≤ size
      · rw [if_pos c]
        exact best_step hp hd.1 hb0 hb he
      · rw [if_neg c]
        intro st h
        have := h.le (fun x hx => by
          obtain z | z := List.mem_cons.mp hx
          · rw [z]; exact hb
          · exact hp x z)
        omega
    · rw [hd', if_neg (by omega)]
/-- the blocks with their pins -/
def psF (bs : List (Int × Int)) (pinned : List Int) : List PB := bs.mapIdx fun i b => (b, decide ((i : Int) ∈ pinned))
theorem ps_len (bs : List (Int × Int)) (pinned : List Int) : (psF bs pinned).length = bs.length := List.length_mapIdx
theorem ps_get {bs : List (Int × Int)} {pinned : List Int} {i : Nat} {b : Int × Int} (h : bs[i]? = some b) : (psF bs pinned)[i]? = some (b, decide ((i : Int) ∈ pinned)) := by
  unfold psF
  rw [List.getElem?_mapIdx, h]
  rfl
theorem ps_fst (bs : List (Int × Int)) (pinned : List Int) : fsts (psF bs pinned) = bs := by
  unfold fsts psF
  refine List.ext_getElem? fun i => ?_
  rw [List.getElem?_map, List.getElem?_mapIdx]
  cases bs[i]? <;> rfl
theorem ps_lens {size : Int} {bs : List (Int × Int)} {pinned : List Int} (hv : VL size 0 bs) : LenP (psF bs pinned) := by
  intro b hb
  have : b.1 ∈ fsts (psF bs pinned) := List.mem_map_of_mem hb
  rw [ps_fst] at this
  exact (hv.mem _ this).2.1
def RoomAns (size L : Int) (ps : List PB) (o : Option (T3 (List Int) Int Int)) : Prop :=
  (o = none ∧ ∀ st, ¬ Feas size L ps 0 false st) ∨ ∃ st p, o = some ⟨st, p, costF ps st⟩ ∧ Feas size L ps 0 false st ∧ (∀ st', Feas size L ps 0 false st' → Lv.lt (costF ps st', st') (costF ps st, st) = false) ∧ (0 ≤ p ∧ p + L ≤ size ∧ ∀ x ∈ plF (fsts ps) st, p + L ≤ x.1 ∨ x.1 + x.2 ≤ p) ∧ ∀ q, 0 ≤ q → q + L ≤ size → (∀ x ∈ plF (fsts ps) st, q + L ≤ x.1 ∨ x.1 + x.2 ≤ q) → p ≤ q
theorem drop_one {α : Type} {xs : List α} {i : Nat} {x : α} (h : xs[i]? = some x) : xs.drop i = x :: xs.drop (i + 1) := by
  obtain ⟨h1, h2⟩ := List.getElem?_eq_some_iff.mp h
  rw [List.drop_eq_getElem_cons h1, h2]
theorem sortP_vl {size e : Int} {qs : List (Int × Int)} (h : VL size e qs) : sortP qs = qs := (sortP_eq (List.Perm.refl _) h.lex).symm
theorem cheapM_ok {size L : Int} {bs : List (Int × Int)} {pinned : List Int} (h0 : 0 ≤ size) (h1 : size ≤ 100) (hL : 1 ≤ L) (hL2 : L ≤ 100) (hv : VL size 0 bs) (hn : bs.length ≤ 100) : ∃ o, cheapest_roomM size bs pinned L = some o ∧ RoomAns size L (psF bs pinned) o := by
  have hLP : LenP (psF bs pinned) := ps_lens hv
  unfold cheapest_roomM
  obtain ⟨d0, e0, t0⟩ := behindM_ok (size := size) (L := L) h0 h1 hL hL2
  refine exb e0 (exb_bnd ?_)
  refine exb (a := (rngL 0 bs.length).reverse) (by unfold rrg1; rw [if_pos ⟨by omega, by omega, Nat.le_trans (show (bs.length : Int).toNat ≤ 100 by omega) (by decide)⟩]; rfl) ?_
  refine exb_ex (Q := fun d : RT => TabF size L (psF bs pinned) d) ?_ ?_
  · refine fold_exQ (fun i (d : RT) => TabF size L ((psF bs pinned).drop (bs.length - i)) d) (by
        rw [Nat.sub_zero, show bs.length = (psF bs pinned).length from (ps_len _ _).symm, List.drop_length]
        exact t0) ?_ ?_
    · intro out h3
      rw [List.length_reverse, rngL_len, Nat.sub_self, List.drop_zero] at h3
      exact h3
    · intro i a d ha hd
      have hi : i < bs.length := by
        have := (List.getElem?_eq_some_iff.mp ha).1
        rwa [List.length_reverse, rngL_len] at this
      rw [List.getElem?_reverse (by rw [rngL_len]; exact hi), rngL_len, rngL_get (by omega)] at ha
      have ea : a = ((bs.length - 1 - i : Nat) : Int) := by have := Option.some.inj ha; omega
      obtain ⟨b, hb⟩ := get_of_lt (xs := bs) (i := bs.length - 1 - i) (by omega)
      have hm := hv.mem b (List.mem_of_getElem? hb)
      subst ea
      refine exb (at_ok hb) ?_
      have ed : bs.length - i = bs.length - 1 - i + 1 := by omega
      obtain ⟨d', e1, t1⟩ := fromM_ok (L := L) h0 h1 (ps := (psF bs pinned).drop (bs.length - i)) (d := d) (fun x hx => hLP x (List.mem_of_mem_drop hx)) (by rw [List.length_drop, ps_len]; omega) hd (b := b) hm.1 hm.2.1 (decide (((bs.length - 1 - i : Nat) : Int) ∈ pinned))
      refine exb e1 (exb_bnd ⟨d', rfl, ?_⟩)
      rw [show bs.length - (i + 1) = bs.length - 1 - i by omega, drop_one (ps_get hb), ← ed]
      exact t1
  · intro d hd
    have t := hd.1 0 false (Int.le_refl _)
    cases q : getM d.m ((0 : Int), false) with
    | none =>
      rw [q] at t
      exact exb_if (by rfl) ⟨_, rfl, .inl ⟨rfl, t⟩⟩
    | some x =>
      obtain ⟨c, st⟩ := x
      rw [q] at t
      obtain ⟨t1, t2, t3⟩ := t
      refine exb_else (by simp) (exb rfl (exb_bnd (exb_bnd (exb_bnd ?_))))
      have f := (feas_iff hL hLP).mp t1
      rw [ps_fst] at f
      obtain ⟨f1, f2, f3, f4⟩ := f
      have hr : relocatedM bs st = some (plF bs st) := by
        rw [relocatedM_ok (by omega), sortP_vl f2]
      refine exb hr (exb (placesM_ok (by rw [plF_len (by rw [f1, ps_len])]; omega) h0 h1 f2 hL hL2) ?_)
      obtain ⟨p, hp⟩ : ∃ p, p ∈ placesF (gapsF size 0 (plF bs st)) L := by
        obtain z | ⟨p, z⟩ := f4
        · cases z
        · exact ⟨p, (placesF_mem hL p f2).mpr z⟩
      have hinc := placesF_inc hL f2
      have hmem : ∀ p, p ∈ placesF (gapsF size 0 (plF bs st)) L ↔ _ := fun p => placesF_mem hL p f2
      cases w : placesF (gapsF size 0 (plF bs st)) L with
      | nil => rw [w] at hp; cases hp
      | cons p0 pr =>
        rw [w] at hinc hmem
        have hp0 := (hmem p0).mp List.mem_cons_self
        refine exb (a := p0) ((if_pos (by rfl)).trans (bind_of (at_ok (i := 0) rfl) rfl)) ⟨_, rfl, .inr ⟨st, p0, by rw [t2], t1, ?_, ?_, ?_⟩⟩
        · rw [t2]; exact t3
        · rw [ps_fst]
          exact hp0
        · intro q' q0 q1 q2
          rw [ps_fst] at q2
          obtain z | z := List.mem_cons.mp ((hmem q').mpr ⟨q0, q1, q2⟩)
          · omega
          · have := (List.pairwise_cons.mp hinc).1 q' z
            omega
end
end Pf

namespace Pf
open PySem L2
local macro_rules | `(tactic| walk_at "rd1") => `(tactic| first
  | with_reducible refine r_seqA ?_
  | with_reducible refine r_seqD ?_
  | with_reducible refine r_seqF ?_
  | with_reducible refine r_seqN ?_
  | with_reducible refine r_asg ?_
  | with_reducible refine r_drop ?_
  | with_reducible refine r_ret ?_
  | with_reducible refine r_ifS ?_
  | ((with_reducible refine r_next ?_); try dsimp only)
  | ((with_reducible refine r_name ?_); try dsimp only [List.set_cons_succ, List.set_cons_zero, wipe])
  | ((with_reducible refine' r_var ?rdh ?_); (case rdh => rfl))
  | with_reducible refine r_c ?_
  | with_reducible refine r_op ?_
  | with_reducible refine r_un ?_
  | with_reducible refine r_I0 ?_
  | ((with_reducible refine r_I ?_ ?_); (· first | decide | exact Or.inl (by decide) | exact Or.inr (by decide) | (show _ ∧ _; constructor <;> decide) | (show (0:Int) < _; omega) | (show CDiv _ _; unfold CDiv; omega) ))
  | with_reducible refine r_U ?_
  | with_reducible refine r_eqI ?_
  | with_reducible refine r_neI ?_
  | with_reducible refine r_eqB ?_
  | with_reducible refine r_neB ?_
  | with_reducible refine r_test ?_
  | with_reducible refine r_B ?_
  | with_reducible refine r_bl ?_
  | with_reducible refine r_bl2 ?_
  | with_reducible refine r_yes ?_
  | with_reducible refine r_wipe (by rfl) ?_
  | with_reducible refine r_rfl ?_
  | ((with_reducible refine' r_eqA ?rdh ?_); (case rdh => rfl))
  | with_reducible refine r_and ?_
  | with_reducible refine r_or ?_
  | with_reducible refine r_not ?_
  | with_reducible refine r_andV ?_
  | with_reducible refine r_orV ?_
  | with_reducible refine r_notV ?_
  | with_reducible refine r_ifE ?_
  | with_reducible refine r_nil ?_
  | with_reducible refine r_cons ?_
  | with_reducible refine r_tup ?_
  | with_reducible refine r_lst ?_
  | with_reducible refine r_CB ?_
  | with_reducible refine r_call ?_
  | with_reducible refine r_bm ?_
  | with_reducible refine r_bm0 ?_
  | with_reducible refine r_int ?_
  | with_reducible refine r_i2 ?_
  | with_reducible refine r_i1 ?_
  | with_reducible refine r_gcons ?_
  | with_reducible refine r_gnil ?_
  | with_reducible refine r_gsub ?_
  | with_reducible refine iteT ?_
  | with_reducible refine iteF ?_
  | with_reducible refine ite_notT ?_
  | with_reducible refine ite_notF ?_
  | with_reducible refine r_isi_ib ?_
  | with_reducible refine r_isi_ii ?_
  | with_reducible refine r_isi_bb ?_
  | with_reducible refine r_isi_nb ?_
  | with_reducible refine r_isi_nt ?_
  | ((with_reducible refine' r_isi_ll ?rdh ?_); (case rdh => first | assumption | exact upd_same))
  | ((with_reducible refine' r_isi_tt ?rdh ?_); (case rdh => first | assumption | exact upd_same))
  | with_reducible refine r_sl ?_
  | with_reducible refine r_noPart ?_
  | with_reducible refine r_part ?_
  | with_reducible refine r_int1 ?_
  | with_reducible refine r_tru ?_
  | with_reducible refine r_ckw ?_
  | with_reducible refine r_lc ?_
  | with_reducible refine r_lc2 ?_
  | with_reducible refine r_forS ?_
  | with_reducible refine r_iR1 ?_
  | with_reducible refine r_iR2 ?_
  | with_reducible refine r_iL ?_
  | ((with_reducible refine' r_lenL ?rdh ?_); (case rdh => walk_at "sq"))
  | ((with_reducible refine' r_ixL ?rdh ?rda ?_); (case rdh => walk_at "sq"); (case rda => walk_at "at"))
  | ((with_reducible refine' r_ixT ?rdh ?rda ?_); (case rdh => walk_at "sq"); (case rda => walk_at "at")))
local macro_rules | `(tactic| walk_at "sq") => `(tactic| first
  | assumption
  | exact SqL.of (by assumption)
  | exact SqL.of upd_same
  | exact SqT.of (by assumption)
  | exact SqT.of upd_same)
local macro_rules | `(tactic| walk_at "sml") => `(tactic| (rw [sizeLine_eq]; simp))
local macro_rules | `(tactic| walk_at "at") => `(tactic| first | assumption | rfl)
local macro_rules | `(tactic| walk_at "rd") => `(tactic| repeat walk_at "rd1")
section
variable {w : World} {P : Program} {base : Heap} {K : PySem.W.Frag} {mg : Str → Option Value}
def OrdS (size : Int) (ps : List PB) (st : List Int) : Prop := st.length = ps.length ∧ VL size 0 (plF (fsts ps) st) ∧ PinOk ps st
theorem vl_snoc_iff {size s l : Int} : ∀ {qs : List (Int × Int)} {e : Int}, VL size e (qs ++ [(s, l)]) ↔ VL size e qs ∧ endOf e qs ≤ s ∧ 1 ≤ l ∧ s + l ≤ size
  | [], e => by
    show (e ≤ s ∧ 1 ≤ l ∧ s + l ≤ size) ↔ (e ≤ size ∧ e ≤ s ∧ 1 ≤ l ∧ s + l ≤ size)
    omega
  | (a, c) :: r, e => by
    show (e ≤ a ∧ 1 ≤ c ∧ VL size (a + c) (r ++ [(s, l)])) ↔ (e ≤ a ∧ 1 ≤ c ∧ VL size (a + c) r) ∧ endOf (a + c) r ≤ s ∧ 1 ≤ l ∧ s + l ≤ size
    rw [vl_snoc_iff]
    exact ⟨fun ⟨a, b, c, d⟩ => ⟨⟨a, b, c⟩, d⟩, fun ⟨⟨a, b, c⟩, d⟩ => ⟨a, b, c, d⟩⟩
theorem plF_snoc {bs : List (Int × Int)} {st : List Int} (h : st.length = bs.length) (b : Int × Int) (s : Int) : plF (bs ++ [b]) (st ++ [s]) = plF bs st ++ [(s, b.2)] := by
  unfold plF
  rw [List.zip_append h.symm, List.map_append]
  rfl
theorem pin_snoc : ∀ {ps : List PB} {st : List Int} {b : PB} {s : Int}, st.length = ps.length → (PinOk (ps ++ [b]) (st ++ [s]) ↔ PinOk ps st ∧ (b.2 = true → s = b.1.1))
  | [], [], b, s, _ => ⟨fun h => ⟨trivial, h.1⟩, fun h => ⟨h.2, trivial⟩⟩
  | [], _ :: _, b, s, h => by cases h
  | _ :: _, [], b, s, h => by cases h
  | c :: ps, t :: st, b, s, h => by
    have ih := pin_snoc (ps := ps) (st := st) (b := b) (s := s) (by simpa using h)
    show ((c.2 = true → t = c.1.1) ∧ PinOk (ps ++ [b]) (st ++ [s])) ↔ ((c.2 = true → t = c.1.1) ∧ PinOk ps st) ∧ _
    rw [ih]
    exact ⟨fun ⟨a, b, c⟩ => ⟨⟨a, b⟩, c⟩, fun ⟨⟨a, b⟩, c⟩ => ⟨a, b, c⟩⟩
theorem ord_snoc {size : Int} {ps : List PB} {b : PB} (hb : 1 ≤ b.1.2) {st : List Int} {s : Int} (hl : st.length = ps.length) : OrdS size (ps ++ [b]) (st ++ [s]) ↔ OrdS size ps st ∧ endOf 0 (plF (fsts ps) st) ≤ s ∧ s + b.1.2 ≤ size ∧ (b.2 = true → s = b.1.1) := by
  unfold OrdS
  have e : fsts (ps ++ [b]) = fsts ps ++ [b.1] := by unfold fsts; rw [List.map_append]; rfl
  rw [e, plF_snoc (by unfold fsts; rw [List.length_map]; exact hl), vl_snoc_iff, pin_snoc hl, List.length_append, List.length_append]
  constructor
  · rintro ⟨h1, ⟨h2, h3, h4, h5⟩, h6, h7⟩
    exact ⟨⟨hl, h2, h6⟩, h3, h5, h7⟩
  · rintro ⟨⟨h1, h2, h3⟩, h4, h5, h6⟩
    exact ⟨by rw [hl]; rfl, ⟨h2, h4, hb, h5⟩, h3, h6⟩
/-- the rows that a row becomes -/
def nxR (size : Int) (ps : List PB) (b : PB) (row : List Int) : List (List Int) :=
  (rngL (endOf 0 (plF (fsts ps) row)) (size - b.1.2 + 1 - endOf 0 (plF (fsts ps) row)).toNat).flatMap fun s => if (!b.2 || decide (s = b.1.1)) = true then [row ++ [s]] else []
theorem nxR_mem {size : Int} {ps : List PB} {b : PB} (hb : 1 ≤ b.1.2) {row : List Int} (h : OrdS size ps row) (st : List Int) : st ∈ nxR size ps b row ↔ ∃ s, st = row ++ [s] ∧ OrdS size (ps ++ [b]) (row ++ [s]) := by
  unfold nxR
  rw [List.mem_flatMap]
  constructor
  · rintro ⟨s, hs, h2⟩
    rw [rngL_mem] at hs
    split at h2
    · rename_i c
      refine ⟨s, List.mem_singleton.mp h2, (ord_snoc hb h.1).mpr ⟨h, by omega, by omega, fun z => ?_⟩⟩
      simpa [z] using c
    · cases h2
  · rintro ⟨s, rfl, h2⟩
    obtain ⟨_, h3, h4, h5⟩ := (ord_snoc hb h.1).mp h2
    refine ⟨s, by rw [rngL_mem]; omega, ?_⟩
    rw [if_pos]
    · exact List.mem_singleton.mpr rfl
    · cases q : b.2 with
      | false => rfl
      | true => simpa using h5 q
theorem lvL_snoc : ∀ {xs ys : List Int} {a b : Int}, xs.length = ys.length → Lv.lt xs ys = true → Lv.lt (xs ++ [a]) (ys ++ [b]) = true
  | [], [], a, b, _, h => by cases h
  | [], _ :: _, a, b, h, _ => by cases h
  | _ :: _, [], a, b, h, _ => by cases h
  | x :: xs, y :: ys, a, b, hl, h => by
    show lvL (x :: (xs ++ [a])) (y :: (ys ++ [b])) = true
    have h' : lvL (x :: xs) (y :: ys) = true := h
    rw [lvL] at h' ⊢
    by_cases e : x = y
    · rw [if_pos e] at h' ⊢
      exact lvL_snoc (by simpa using hl) h'
    · rw [if_neg e] at h' ⊢
      exact h'
theorem lvL_last (xs : List Int) {a b : Int} (h : a < b) : Lv.lt (xs ++ [a]) (xs ++ [b]) = true := by
  induction xs with
  | nil =>
    show lvL [a] [b] = true
    rw [lvL, if_neg (by omega)]
    exact decide_eq_true h
  | cons x xs ih =>
    show lvL (x :: (xs ++ [a])) (x :: (xs ++ [b])) = true
    rw [lvL, if_pos rfl]
    exact ih
theorem nxR_asc (size : Int) (ps : List PB) (b : PB) (row : List Int) : (nxR size ps b row).Pairwise fun x y => Lv.lt x y = true := by
  unfold nxR
  rw [List.pairwise_flatMap]
  refine ⟨fun s _ => ?_, (rngL_asc _ _).imp fun {x y} h => ?_⟩
  · split <;> simp
  · intro u hu v hv
    split at hu
    · split at hv
      · rw [List.mem_singleton.mp hu, List.mem_singleton.mp hv]
        exact lvL_last row h
      · cases hv
    · cases hu
theorem nxR_len {size : Int} (h1 : size ≤ 9) (ps : List PB) {b : PB} (hb : 1 ≤ b.1.2) {row : List Int} (h : VL size 0 (plF (fsts ps) row)) : (nxR size ps b row).length ≤ 10 := by
  unfold nxR
  have h0 : 0 ≤ endOf 0 (plF (fsts ps) row) := by
    suffices k : ∀ (qs : List (Int × Int)) (e : Int), VL size e qs → e ≤ endOf e qs from k _ _ h
    intro qs
    induction qs with
    | nil => intro e _; exact Int.le_refl _
    | cons q r ih =>
      intro e hv
      have := ih _ hv.2.2
      have := hv.1
      have := hv.2.1
      show e ≤ endOf (q.1 + q.2) r
      omega
  refine Nat.le_trans (flat_len (n := 1) fun s _ => by split <;> simp) ?_
  rw [rngL_len]
  omega
def RowsOk (size : Int) (ps : List PB) (rows : List (List Int)) : Prop := rows.length ≤ 10 ^ ps.length ∧ rows.Pairwise (fun x y => Lv.lt x y = true) ∧ ∀ st, st ∈ rows ↔ OrdS size ps st
theorem rows_next {size : Int} (h1 : size ≤ 9) {ps : List PB} {rows : List (List Int)} (h : RowsOk size ps rows) {b : PB} (hb : 1 ≤ b.1.2) : RowsOk size (ps ++ [b]) (rows.flatMap (nxR size ps b)) := by
  obtain ⟨hl, hp, hm⟩ := h
  refine ⟨?_, ?_, fun st => ?_⟩
  · refine Nat.le_trans (flat_len (n := 10) fun r hr => nxR_len h1 ps hb ((hm r).mp hr).2.1) ?_
    rw [List.length_append, List.length_singleton, Nat.pow_succ]
    exact Nat.mul_le_mul_right 10 hl
  · rw [List.pairwise_flatMap]
    refine ⟨fun r _ => nxR_asc _ _ _ _, (List.Pairwise.and_mem.mp hp).imp fun {x y} h u hu v hv => ?_⟩
    have ox := (hm x).mp h.1
    have oy := (hm y).mp h.2.1
    obtain ⟨s, rfl, _⟩ := (nxR_mem hb ox u).mp hu
    obtain ⟨t, rfl, _⟩ := (nxR_mem hb oy v).mp hv
    exact lvL_snoc (ox.1.trans oy.1.symm) h.2.2
  · rw [List.mem_flatMap]
    constructor
    · rintro ⟨r, hr, h2⟩
      obtain ⟨s, rfl, h3⟩ := (nxR_mem hb ((hm r).mp hr) st).mp h2
      exact h3
    · intro ho
      obtain rfl | ⟨r, s, rfl⟩ := snoc_cases st
      · have := ho.1
        rw [List.length_append] at this
        simp at this
      · have hlr : r.length = ps.length := by
          have := ho.1
          rw [List.length_append, List.length_append] at this
          simpa using this
        have o := ((ord_snoc hb hlr).mp ho).1
        exact ⟨r, (hm r).mpr o, (nxR_mem hb o _).mpr ⟨s, rfl, ho⟩⟩
theorem endOf_last {bs : List (Int × Int)} {e : Int} {b : Int × Int} (h : bs.getLast? = some b) : endOf e bs = b.1 + b.2 := by
  obtain rfl | ⟨ys, y, rfl⟩ := snoc_cases bs
  · cases h
  · rw [List.getLast?_append] at h
    have : y = b := by simpa using h
    subst this
    exact endOf_snoc ys e
theorem take_snoc {α : Type} {xs : List α} {i : Nat} {x : α} (h : xs[i]? = some x) : xs.take (i + 1) = xs.take i ++ [x] := by
  rw [List.take_add_one, h]; rfl
theorem allM_ok {size : Int} {bs : List (Int × Int)} {pinned : List Int} (h0 : 0 ≤ size) (h1 : size ≤ 9) (hv : VL size 0 bs) (hn : bs.length ≤ 3) : ∃ rows, law_allM size bs pinned = some rows ∧ RowsOk size (psF bs pinned) rows := by
  unfold law_allM
  refine exb_bnd (exb (rng1_ok (by omega)) ?_)
  refine exb_ex (Q := fun rows => RowsOk size (psF bs pinned) rows) ?_ fun rows h => ⟨rows, rfl, h⟩
  refine fold_exQ (fun i rows => RowsOk size ((psF bs pinned).take i) rows) ?_ ?_ ?_
  · refine ⟨by simp, by simp, fun st => ?_⟩
    rw [List.take_zero, List.mem_singleton]
    constructor
    · rintro rfl; exact ⟨rfl, h0, trivial⟩
    · intro h; exact List.length_eq_zero_iff.mp h.1
  · intro out h
    rw [rngL_len, Int.toNat_natCast, show bs.length = (psF bs pinned).length from (ps_len _ _).symm, List.take_length] at h
    exact h
  · intro i a rows ha hR
    have hi : i < bs.length := by
      have := (List.getElem?_eq_some_iff.mp ha).1
      rwa [rngL_len, Int.toNat_natCast] at this
    rw [rngL_get (by omega)] at ha
    have ea : a = i := by have := Option.some.inj ha; omega
    subst ea
    obtain ⟨b, hb⟩ := get_of_lt hi
    have hbl := (hv.mem b (List.mem_of_getElem? hb)).2.1
    have hbl0 := (hv.mem b (List.mem_of_getElem? hb)).1
    have hbl1 := (hv.mem b (List.mem_of_getElem? hb)).2.2
    have hps := ps_get (pinned := pinned) hb
    have hlp : ((psF bs pinned).take i).length = i := by rw [List.length_take, ps_len]; omega
    have hnx := rows_next h1 hR (b := (b, decide ((i : Int) ∈ pinned))) hbl
    rw [← take_snoc hps] at hnx
    refine exb_bnd (exb (a := rows.flatMap (nxR size ((psF bs pinned).take i) (b, decide ((i : Int) ∈ pinned)))) ?_ (exb_bnd ⟨_, rfl, hnx⟩))
    have hlen : rows.length ≤ 1000 := by
      refine Nat.le_trans hR.1 ?_
      rw [hlp]
      exact Nat.le_trans (Nat.pow_le_pow_right (by decide) (show i ≤ 3 by omega)) (by decide)
    have hlen2 : (rows.flatMap (nxR size ((psF bs pinned).take i) (b, decide ((i : Int) ∈ pinned)))).length ≤ 100000 := by
      refine Nat.le_trans (flat_len (n := 10) fun r hr => nxR_len h1 _ hbl ((hR.2.2 r).mp hr).2.1) (by omega)
    refine (fold_flat (g := nxR size ((psF bs pinned).take i) (b, decide ((i : Int) ∈ pinned))) 200000 ?_ (by rw [List.length_nil]; omega)).trans (by rw [List.nil_append])
    intro row hrow later hll
    have ho := (hR.2.2 row).mp hrow
    have hrl : row.length = i := by rw [ho.1, hlp]
    have hE : ∀ e : Int, e = endOf 0 (plF (fsts ((psF bs pinned).take i)) row) → 0 ≤ e ∧ e ≤ 9 := by
      intro e he
      have := ho.2.1.end_le
      have h0 : 0 ≤ endOf 0 (plF (fsts ((psF bs pinned).take i)) row) := by
        suffices k : ∀ (qs : List (Int × Int)) (e : Int), VL size e qs → e ≤ endOf e qs from k _ _ ho.2.1
        intro qs
        induction qs with
        | nil => intro e _; exact Int.le_refl _
        | cons q r ih =>
          intro e hv
          have := ih _ hv.2.2
          have := hv.1
          have := hv.2.1
          show e ≤ endOf (q.1 + q.2) r
          omega
      omega
    refine bnd_of (bind_of (a := endOf 0 (plF (fsts ((psF bs pinned).take i)) row)) ?_ ?_)
    · have hf : fsts ((psF bs pinned).take i) = bs.take i := by
        unfold fsts
        rw [List.map_take]
        exact congrArg (List.take i) (ps_fst bs pinned)
      by_cases c : 0 < i
      · obtain ⟨b1, hb1⟩ := get_of_lt (xs := bs) (i := i - 1) (by omega)
        obtain ⟨s1, hs1⟩ := get_of_lt (xs := row) (i := i - 1) (by omega)
        obtain rfl | ⟨r0, rl, rfl⟩ := snoc_cases row
        · simp at hrl; omega
        · refine if_of (by simpa using c) (bind_of (at_last _ _) (bind_of (a := b1) ?_ (bnd_of ?_)))
          · rw [show (i : Int) - 1 = ((i - 1 : Nat) : Int) by omega]
            exact at_ok hb1
          · have e1 : bs.take i = bs.take (i - 1) ++ [b1] := by
              conv => lhs; rw [show i = i - 1 + 1 by omega]
              exact take_snoc hb1
            have e2 : r0.length = (bs.take (i - 1)).length := by
              rw [List.length_append] at hrl
              rw [List.length_take]
              simp at hrl
              omega
            rw [hf, e1, plF_snoc e2, endOf_snoc]
      · have c0 : i = 0 := by omega
        subst c0
        refine else_of (by simp) ?_
        rfl
    · refine bind_of (at_ok hb) ?_
      have hE' := hE _ rfl
      refine bind_of (rng2_ok (by omega) (by omega) (by omega) (by omega)) ?_
      refine bind_of (fold_flat 200000 ?_ hll) rfl
      intro s hs x hx
      by_cases c : (i : Int) ∈ pinned
      · refine bind_of (a := decide (s = b.1)) (if_of (by simp [c]) (bind_of (at_ok hb) rfl)) ?_
        by_cases c2 : s = b.1
        · refine if_of (decide_eq_true c2) ?_
          rw [if_pos (by simp [c2])] at hx ⊢
          exact bind_of (catF_ok (by simp; omega)) (bind_of (appF_ok (by simp at hx; omega)) rfl)
        · refine else_of (by simpa using c2) ?_
          rw [if_neg (by simp [c2, c])]
          rw [List.append_nil]
      · refine bind_of (a := true) (else_of (by simp [c]) rfl) ?_
        refine if_of rfl ?_
        rw [if_pos (by simp [c])] at hx ⊢
        exact bind_of (catF_ok (by simp; omega)) (bind_of (appF_ok (by simp at hx; omega)) rfl)
end
end Pf

namespace Pf
open PySem L2
local macro_rules | `(tactic| walk_at "rd1") => `(tactic| first
  | with_reducible refine r_seqA ?_
  | with_reducible refine r_seqD ?_
  | with_reducible refine r_seqF ?_
  | with_reducible refine r_seqN ?_
  | with_reducible refine r_asg ?_
  | with_reducible refine r_drop ?_
  | with_reducible refine r_ret ?_
  | with_reducible refine r_ifS ?_
  | ((with_reducible refine r_next ?_); try dsimp only)
  | ((with_reducible refine r_name ?_); try dsimp only [List.set_cons_succ, List.set_cons_zero, wipe])
  | ((with_reducible refine' r_var ?rdh ?_); (case rdh => rfl))
  | with_reducible refine r_c ?_
  | with_reducible refine r_op ?_
  | with_reducible refine r_un ?_
  | with_reducible refine r_I0 ?_
  | ((with_reducible refine r_I ?_ ?_); (· first | decide | exact Or.inl (by decide) | exact Or.inr (by decide) | (show _ ∧ _; constructor <;> decide) | (show (0:Int) < _; omega) | (show CDiv _ _; unfold CDiv; omega) ))
  | with_reducible refine r_U ?_
  | with_reducible refine r_eqI ?_
  | with_reducible refine r_neI ?_
  | with_reducible refine r_eqB ?_
  | with_reducible refine r_neB ?_
  | with_reducible refine r_test ?_
  | with_reducible refine r_B ?_
  | with_reducible refine r_bl ?_
  | with_reducible refine r_bl2 ?_
  | with_reducible refine r_yes ?_
  | with_reducible refine r_wipe (by rfl) ?_
  | with_reducible refine r_rfl ?_
  | ((with_reducible refine' r_eqA ?rdh ?_); (case rdh => rfl))
  | with_reducible refine r_and ?_
  | with_reducible refine r_or ?_
  | with_reducible refine r_not ?_
  | with_reducible refine r_andV ?_
  | with_reducible refine r_orV ?_
  | with_reducible refine r_notV ?_
  | with_reducible refine r_ifE ?_
  | with_reducible refine r_nil ?_
  | with_reducible refine r_cons ?_
  | with_reducible refine r_tup ?_
  | with_reducible refine r_lst ?_
  | with_reducible refine r_CB ?_
  | with_reducible refine r_call ?_
  | with_reducible refine r_bm ?_
  | with_reducible refine r_bm0 ?_
  | with_reducible refine r_int ?_
  | with_reducible refine r_i2 ?_
  | with_reducible refine r_i1 ?_
  | with_reducible refine r_gcons ?_
  | with_reducible refine r_gnil ?_
  | with_reducible refine r_gsub ?_
  | with_reducible refine iteT ?_
  | with_reducible refine iteF ?_
  | with_reducible refine ite_notT ?_
  | with_reducible refine ite_notF ?_
  | with_reducible refine r_isi_ib ?_
  | with_reducible refine r_isi_ii ?_
  | with_reducible refine r_isi_bb ?_
  | with_reducible refine r_isi_nb ?_
  | with_reducible refine r_isi_nt ?_
  | ((with_reducible refine' r_isi_ll ?rdh ?_); (case rdh => first | assumption | exact upd_same))
  | ((with_reducible refine' r_isi_tt ?rdh ?_); (case rdh => first | assumption | exact upd_same))
  | with_reducible refine r_sl ?_
  | with_reducible refine r_noPart ?_
  | with_reducible refine r_part ?_
  | with_reducible refine r_int1 ?_
  | with_reducible refine r_tru ?_
  | with_reducible refine r_ckw ?_
  | with_reducible refine r_lc ?_
  | with_reducible refine r_lc2 ?_
  | with_reducible refine r_forS ?_
  | with_reducible refine r_iR1 ?_
  | with_reducible refine r_iR2 ?_
  | with_reducible refine r_iL ?_
  | ((with_reducible refine' r_lenL ?rdh ?_); (case rdh => walk_at "sq"))
  | ((with_reducible refine' r_ixL ?rdh ?rda ?_); (case rdh => walk_at "sq"); (case rda => walk_at "at"))
  | ((with_reducible refine' r_ixT ?rdh ?rda ?_); (case rdh => walk_at "sq"); (case rda => walk_at "at")))
local macro_rules | `(tactic| walk_at "sq") => `(tactic| first
  | assumption
  | exact SqL.of (by assumption)
  | exact SqL.of upd_same
  | exact SqT.of (by assumption)
  | exact SqT.of upd_same)
local macro_rules | `(tactic| walk_at "sml") => `(tactic| (rw [sizeLine_eq]; simp))
local macro_rules | `(tactic| walk_at "at") => `(tactic| first | assumption | rfl)
local macro_rules | `(tactic| walk_at "rd") => `(tactic| repeat walk_at "rd1")
section
variable {w : World} {P : Program} {base : Heap} {K : PySem.W.Frag} {mg : Str → Option Value}
theorem coll_any {α β s : Type} {f : α → s → Option (Option β × s)} (h : ∀ x b, ∃ o b', f x b = some (o, b')) : ∀ (xs : List α) (b : s), ∃ zs b', coll f xs b = some (zs, b')
  | [], b => ⟨[], b, rfl⟩
  | x :: xs, b => by
    obtain ⟨o, b1, e1⟩ := h x b
    obtain ⟨zs, b2, e2⟩ := coll_any h xs b1
    refine ⟨o.toList ++ zs, b2, ?_⟩
    unfold coll
    exact bind_of e1 (bind_of e2 rfl)
theorem colS_any {α β s : Type} {f : α → s → Option (Option β × s)} (h : ∀ x b, ∃ o b', f x b = some (o, b')) {xs : List α} (hl : xs.length ≤ 1000000) (b : s) : ∃ zs b', colS f xs b = some (zs, b') := by
  obtain ⟨zs, b', e⟩ := coll_any h xs b
  refine ⟨zs, b', ?_⟩
  unfold colS
  rw [if_pos (Nat.le_trans hl (by decide)), e]
theorem filterMap_eq {α β : Type} {f g : α → Option β} : ∀ {xs : List α}, (∀ x ∈ xs, f x = g x) → xs.filterMap f = xs.filterMap g
  | [], _ => rfl
  | x :: xs, h => by
    rw [List.filterMap_cons, List.filterMap_cons, h x List.mem_cons_self, filterMap_eq fun y hy => h y (List.mem_cons_of_mem _ hy)]
theorem filterMap_rng {α β : Type} (h : α → Option β) (zs : List α) : (rngL 0 zs.length).filterMap (fun y => (zs[y.toNat]?).bind h) = zs.filterMap h := by
  refine List.reverseRecOn' (P := fun zs => (rngL 0 zs.length).filterMap (fun y => (zs[y.toNat]?).bind h) = zs.filterMap h) zs rfl fun ys y ih => ?_
  rw [List.length_append, List.length_singleton, rngL_succ, List.filterMap_append, List.filterMap_append]
  congr 1
  · rw [← ih]
    refine filterMap_eq fun k hk => ?_
    rw [rngL_mem] at hk
    rw [List.getElem?_append_left (by omega)]
  · have e : (0 + (ys.length : Int)).toNat = ys.length := by omega
    simp only [List.filterMap_cons, List.filterMap_nil]
    rw [e, List.getElem?_append_right (Nat.le_refl _), Nat.sub_self]
    rfl
def offF (p : (Int × Int) × Int) : Option Int := if p.2 = p.1.1 then none else some p.1.2
theorem cost_sum : ∀ (ps : List PB) (st : List Int), costF ps st = (((fsts ps).zip st).filterMap offF).sum
  | [], st => by unfold costF fsts; simp
  | b :: ps, [] => by unfold costF; simp
  | b :: ps, s :: st => by
    have ih := cost_sum ps st
    show (if s = b.1.1 then 0 else b.1.2) + costF ps st = (((b.1, s) :: (fsts ps).zip st).filterMap offF).sum
    rw [List.filterMap_cons, ih]
    unfold offF
    dsimp only
    by_cases c : s = b.1.1
    · rw [if_pos c, if_pos c]
      simp
    · rw [if_neg c, if_neg c]
      simp
def FreeAt (L : Int) (qs : List (Int × Int)) (p : Int) : Prop := ∀ x ∈ qs, p + L ≤ x.1 ∨ x.1 + x.2 ≤ p

/-- the price of a row, as the law sums it -/
theorem price_ok {bs : List (Int × Int)} {st : List Int} (hl : st.length = bs.length) (hn : bs.length ≤ 1000) {pinned : List Int} {F : Int → Option (Option Int)} (hF : ∀ (i : Nat) (b : Int × Int) (s : Int), bs[i]? = some b → st[i]? = some s → F (i : Int) = some (offF (b, s))) : ∃ cs, colL F (rngL 0 bs.length) = some cs ∧ cs.sum = costF (psF bs pinned) st := by
  refine ⟨(rngL 0 bs.length).filterMap (fun y => ((bs.zip st)[y.toNat]?).bind offF), colL_filter (by rw [rngL_len]; omega) fun y hy => ?_, ?_⟩
  · rw [rngL_mem] at hy
    obtain ⟨b, hb⟩ := get_of_lt (xs := bs) (i := y.toNat) (by omega)
    obtain ⟨s, hs⟩ := get_of_lt (xs := st) (i := y.toNat) (by omega)
    have := hF y.toNat b s hb hs
    rw [show ((y.toNat : Nat) : Int) = y by omega] at this
    rw [this, show (bs.zip st)[y.toNat]? = some (b, s) from (List.getElem?_zip_eq_some (z := (b, s))).mpr ⟨hb, hs⟩]
    rfl
  · rw [cost_sum, ps_fst, show bs.length = (bs.zip st).length by rw [List.length_zip]; omega, filterMap_rng]
theorem startM_ok {size L : Int} {bs : List (Int × Int)} {st : List Int} (h0 : 0 ≤ size) (h1 : size ≤ 100) (hL : 1 ≤ L) (hL2 : L ≤ 100) (hl : st.length = bs.length) (hn : bs.length ≤ 100) : ∃ o, law_startM size bs st L = some o ∧ ((o = -1 ∧ ∀ p, 0 ≤ p → p + L ≤ size → ¬ FreeAt L (plF bs st) p) ∨ (0 ≤ o ∧ o + L ≤ size ∧ FreeAt L (plF bs st) o ∧ ∀ q, 0 ≤ q → q < o → ¬ FreeAt L (plF bs st) q)) := by
  unfold law_startM
  refine exb (rng1_ok (by omega)) ?_
  have key := loop_ex (f := (fun (y_108 : Int) (x : Unit) => bnd (true) fun free_112 => (rng1 (bs.length : Int)).bind fun rg_115 => (fold (fun (y_120 : Int) (free_118 : Bool) => (atI st y_120).bind fun t_129 => (atI bs y_120).bind fun t_131 => (if (decide (y_108 < (t_129 + t_131.2))) = true then (atI st y_120).bind fun t_133 => some (decide (t_133 < (y_108 + L))) else some false).bind fun t_134 => if t_134 = true then (bnd (false) fun free_136 => some free_136) else (some free_118) : Int → Bool → Option Bool) rg_115 free_112).bind fun free_118 => if free_118 = true then (some (.ret y_108)) else (some (.go ())) : Int → Unit → Option (Fl Int Unit))) (xs := rngL 0 (size - L + 1).toNat) (x0 := ())
    (fun i _ => ∀ q, 0 ≤ q → q < (i : Int) → ¬ FreeAt L (plF bs st) q) (fun o => 0 ≤ o ∧ o + L ≤ size ∧ FreeAt L (plF bs st) o ∧ ∀ q, 0 ≤ q → q < o → ¬ FreeAt L (plF bs st) q) (fun q a b => by omega) ?_
  · obtain ⟨r, e, hr⟩ | ⟨x, e, hx⟩ := key
    · exact exb e ⟨r, rfl, .inr hr⟩
    · refine exb e ⟨_, rfl, .inl ⟨rfl, fun p a b => hx p a ?_⟩⟩
      rw [rngL_len]
      omega
  · intro i a x ha hI
    have hi := lt_of_get ha
    rw [rngL_len] at hi
    rw [rngL_get hi] at ha
    have ea : a = (i : Nat) := by have := Option.some.inj ha; omega
    subst ea
    have hin : ∃ fr : Bool, fold (fun (y_120 : Int) (free_118 : Bool) => (atI st y_120).bind fun t_129 => (atI bs y_120).bind fun t_131 => (if (decide ((i : Int) < (t_129 + t_131.2))) = true then (atI st y_120).bind fun t_133 => some (decide (t_133 < ((i : Int) + L))) else some false).bind fun t_134 => if t_134 = true then (bnd (false) fun free_136 => some free_136) else (some free_118) : Int → Bool → Option Bool) (rngL 0 (bs.length : Int).toNat) true = some fr ∧ (fr = true ↔ FreeAt L (plF bs st) i) := by
      refine fold_exQ (fun j fr => fr = true ↔ ∀ (k : Nat) (x : Int × Int), k < j → (plF bs st)[k]? = some x → (i : Int) + L ≤ x.1 ∨ x.1 + x.2 ≤ i) ?_ ?_ ?_
      · exact ⟨fun _ k x hk => absurd hk (Nat.not_lt_zero _), fun _ => rfl⟩
      · intro out h
        rw [h, rngL_len, Int.toNat_natCast]
        constructor
        · intro h2 x hx
          obtain ⟨k, hk⟩ := List.mem_iff_getElem?.mp hx
          have := lt_of_get hk
          rw [plF_len hl] at this
          exact h2 k x this hk
        · intro h2 k x _ hk
          exact h2 x (List.mem_of_getElem? hk)
      · intro j a fr ha hI
        have hj := lt_of_get ha
        rw [rngL_len] at hj
        rw [rngL_get hj] at ha
        have ea : a = (j : Nat) := by have := Option.some.inj ha; omega
        subst ea
        obtain ⟨b, hb⟩ := get_of_lt (xs := bs) (i := j) (by omega)
        obtain ⟨s, hs⟩ := get_of_lt (xs := st) (i := j) (by omega)
        have hp := plF_get hb hs
        refine exb (at_ok hs) (exb (at_ok hb) ?_)
        refine exb (a := decide ((i : Int) < s + b.2) && decide (s < (i : Int) + L)) ?_ ?_
        · by_cases c : (i : Int) < s + b.2
          · refine if_of (decide_eq_true c) (bind_of (at_ok hs) ?_)
            rw [decide_eq_true c, Bool.true_and]
          · refine else_of (by simpa using c) ?_
            rw [decide_eq_false c, Bool.false_and]
        · have step : (∀ (k : Nat) (x : Int × Int), k < j + 1 → (plF bs st)[k]? = some x → (i : Int) + L ≤ x.1 ∨ x.1 + x.2 ≤ i) ↔ (∀ (k : Nat) (x : Int × Int), k < j → (plF bs st)[k]? = some x → (i : Int) + L ≤ x.1 ∨ x.1 + x.2 ≤ i) ∧ ((i : Int) + L ≤ s ∨ s + b.2 ≤ i) := by
            constructor
            · intro h
              exact ⟨fun k x hk => h k x (by omega), h j _ (by omega) hp⟩
            · rintro ⟨h1, h2⟩ k x hk hx
              by_cases q : k = j
              · subst q
                rw [hp] at hx
                cases hx
                exact h2
              · exact h1 k x (by omega) hx
          by_cases c : (i : Int) < s + b.2 ∧ s < (i : Int) + L
          · refine exb_if (by simpa using c) ⟨_, rfl, ?_⟩
            rw [step]
            constructor
            · intro z; cases z
            · rintro ⟨_, h2⟩; omega
          · refine exb_else (by simpa using c) ⟨_, rfl, ?_⟩
            rw [step, hI]
            exact ⟨fun h => ⟨h, by omega⟩, fun h => h.1⟩
    obtain ⟨fr, e, hf⟩ := hin
    cases fr with
    | true =>
      refine .inl ⟨(i : Int), bnd_of (bind_of (rng1_ok (by omega)) (bind_of e (if_of rfl rfl))), by omega, by omega, hf.mp rfl, hI⟩
    | false =>
      refine .inr ⟨(), bnd_of (bind_of (rng1_ok (by omega)) (bind_of e (else_of (by simp) rfl))), fun q a b => ?_⟩
      by_cases c : q = i
      · subst c
        intro z
        have := hf.mpr z
        cases this
      · exact hI q a (by omega)
end
end Pf

namespace Pf
open PySem L2
local macro_rules | `(tactic| walk_at "rd1") => `(tactic| first
  | with_reducible refine r_seqA ?_
  | with_reducible refine r_seqD ?_
  | with_reducible refine r_seqF ?_
  | with_reducible refine r_seqN ?_
  | with_reducible refine r_asg ?_
  | with_reducible refine r_drop ?_
  | with_reducible refine r_ret ?_
  | with_reducible refine r_ifS ?_
  | ((with_reducible refine r_next ?_); try dsimp only)
  | ((with_reducible refine r_name ?_); try dsimp only [List.set_cons_succ, List.set_cons_zero, wipe])
  | ((with_reducible refine' r_var ?rdh ?_); (case rdh => rfl))
  | with_reducible refine r_c ?_
  | with_reducible refine r_op ?_
  | with_reducible refine r_un ?_
  | with_reducible refine r_I0 ?_
  | ((with_reducible refine r_I ?_ ?_); (· first | decide | exact Or.inl (by decide) | exact Or.inr (by decide) | (show _ ∧ _; constructor <;> decide) | (show (0:Int) < _; omega) | (show CDiv _ _; unfold CDiv; omega) ))
  | with_reducible refine r_U ?_
  | with_reducible refine r_eqI ?_
  | with_reducible refine r_neI ?_
  | with_reducible refine r_eqB ?_
  | with_reducible refine r_neB ?_
  | with_reducible refine r_test ?_
  | with_reducible refine r_B ?_
  | with_reducible refine r_bl ?_
  | with_reducible refine r_bl2 ?_
  | with_reducible refine r_yes ?_
  | with_reducible refine r_wipe (by rfl) ?_
  | with_reducible refine r_rfl ?_
  | ((with_reducible refine' r_eqA ?rdh ?_); (case rdh => rfl))
  | with_reducible refine r_and ?_
  | with_reducible refine r_or ?_
  | with_reducible refine r_not ?_
  | with_reducible refine r_andV ?_
  | with_reducible refine r_orV ?_
  | with_reducible refine r_notV ?_
  | with_reducible refine r_ifE ?_
  | with_reducible refine r_nil ?_
  | with_reducible refine r_cons ?_
  | with_reducible refine r_tup ?_
  | with_reducible refine r_lst ?_
  | with_reducible refine r_CB ?_
  | with_reducible refine r_call ?_
  | with_reducible refine r_bm ?_
  | with_reducible refine r_bm0 ?_
  | with_reducible refine r_int ?_
  | with_reducible refine r_i2 ?_
  | with_reducible refine r_i1 ?_
  | with_reducible refine r_gcons ?_
  | with_reducible refine r_gnil ?_
  | with_reducible refine r_gsub ?_
  | with_reducible refine iteT ?_
  | with_reducible refine iteF ?_
  | with_reducible refine ite_notT ?_
  | with_reducible refine ite_notF ?_
  | with_reducible refine r_isi_ib ?_
  | with_reducible refine r_isi_ii ?_
  | with_reducible refine r_isi_bb ?_
  | with_reducible refine r_isi_nb ?_
  | with_reducible refine r_isi_nt ?_
  | ((with_reducible refine' r_isi_ll ?rdh ?_); (case rdh => first | assumption | exact upd_same))
  | ((with_reducible refine' r_isi_tt ?rdh ?_); (case rdh => first | assumption | exact upd_same))
  | with_reducible refine r_sl ?_
  | with_reducible refine r_noPart ?_
  | with_reducible refine r_part ?_
  | with_reducible refine r_int1 ?_
  | with_reducible refine r_tru ?_
  | with_reducible refine r_ckw ?_
  | with_reducible refine r_lc ?_
  | with_reducible refine r_lc2 ?_
  | with_reducible refine r_forS ?_
  | with_reducible refine r_iR1 ?_
  | with_reducible refine r_iR2 ?_
  | with_reducible refine r_iL ?_
  | ((with_reducible refine' r_lenL ?rdh ?_); (case rdh => walk_at "sq"))
  | ((with_reducible refine' r_ixL ?rdh ?rda ?_); (case rdh => walk_at "sq"); (case rda => walk_at "at"))
  | ((with_reducible refine' r_ixT ?rdh ?rda ?_); (case rdh => walk_at "sq"); (case rda => walk_at "at")))
local macro_rules | `(tactic| walk_at "sq") => `(tactic| first
  | assumption
  | exact SqL.of (by assumption)
  | exact SqL.of upd_same
  | exact SqT.of (by assumption)
  | exact SqT.of upd_same)
local macro_rules | `(tactic| walk_at "sml") => `(tactic| (rw [sizeLine_eq]; simp))
local macro_rules | `(tactic| walk_at "at") => `(tactic| first | assumption | rfl)
local macro_rules | `(tactic| walk_at "rd") => `(tactic| repeat walk_at "rd1")
section
variable {w : World} {P : Program} {base : Heap} {K : PySem.W.Frag} {mg : Str → Option Value}
def lawK1 (size_313 : Int) (layout_318 : (List (Int × Int))) (pinned_330 : (List Int)) (length_335 : Int) (best_345 : (Option (T3 (List Int) Int Int))) : Option Bool :=
  (colL (fun (y_377 : (Int × Int)) => some (some y_377)) layout_318).bind fun cs_378 => bnd (cs_378) fun kept_379 => (cheapest_roomM size_313 layout_318 pinned_330 length_335).bind fun t_382 => bnd (t_382) fun actual_383 => if best_345.isNone = true then (some (actual_383.isNone && (decide (layout_318 = kept_379)))) else (best_345.bind fun best_388 => some (actual_383.isSome && ((decide (actual_383 = (some best_388))) && (decide (layout_318 = kept_379)))))
def lawM (bx0 : List Int × Nat) : Option Bool :=
  (law_drawM bx0 (9 : Int)).bind fun (t_311, bx_312) => bnd (((1 : Int) + t_311)) fun size_313 => (law_blocksM bx_312 size_313 (3 : Int)).bind fun (t_316, bx_317) => bnd (t_316) fun layout_318 => (rng1 (layout_318.length : Int)).bind fun rg_321 => (colS (fun (y_322 : Int) (bx_328 : List Int × Nat) => (law_drawM bx_328 (4 : Int)).bind fun (t_326, bx_327) => if (decide (t_326 = (0 : Int))) = true then some (some y_322, bx_327) else some (none, bx_327)) rg_321 bx_317).bind fun (cs_323, bx_329) => bnd (cs_323) fun pinned_330 => (law_drawM bx_329 (5 : Int)).bind fun (t_333, bx_334) => bnd (((1 : Int) + t_333)) fun length_335 => bnd ((none : (Option (T3 (List Int) Int Int)))) fun best_338 => (law_allM size_313 layout_318 pinned_330).bind fun t_342 => (fold (fun (y_348 : (List Int)) (x : ((Option (T3 (List Int) Int Int)) × (List Int × Nat))) => match x with | (best_345, bx_346) => (law_startM size_313 layout_318 y_348 length_335).bind fun t_352 => bnd (t_352) fun start_353 => (rng1 (layout_318.length : Int)).bind fun rg_356 => (colL (fun (y_357 : Int) => (atI y_348 y_357).bind fun t_362 => (atI layout_318 y_357).bind fun t_364 => if (!decide (t_362 = t_364.1)) = true then (atI layout_318 y_357).bind fun t_366 => some (some t_366.2) else some none) rg_356).bind fun cs_358 => bnd (cs_358.sum) fun price_367 => (if (decide ((0 : Int) ≤ start_353)) = true then (if best_345.isNone = false then best_345.bind fun best_370 => some (decide (price_367 < best_370.c)) else some true).bind fun t_371 => some t_371 else some false).bind fun t_372 => if t_372 = true then (bnd ((some (T3.mk y_348 start_353 price_367))) fun best_374 => some (best_374, bx_346)) else (some (best_345, bx_346)) : (List Int) → ((Option (T3 (List Int) Int Int)) × (List Int × Nat)) → Option ((Option (T3 (List Int) Int Int)) × (List Int × Nat))) t_342 (best_338, bx_334)).bind fun x => match x with | (best_345, bx_346) => lawK1 size_313 layout_318 pinned_330 length_335 best_345
def RmS (size L : Int) (bs : List (Int × Int)) (st : List Int) : Prop := ∃ p, 0 ≤ p ∧ p + L ≤ size ∧ FreeAt L (plF bs st) p
def BestOf (size L : Int) (bs : List (Int × Int)) (pinned : List Int) (R : List (List Int)) : Option (T3 (List Int) Int Int) → Prop
  | none => ∀ st ∈ R, ¬ RmS size L bs st
  | some b => b.a ∈ R ∧ b.c = costF (psF bs pinned) b.a ∧ (0 ≤ b.b ∧ b.b + L ≤ size ∧ FreeAt L (plF bs b.a) b.b ∧ ∀ q, 0 ≤ q → q < b.b → ¬ FreeAt L (plF bs b.a) q) ∧ ∀ st ∈ R, RmS size L bs st → Lv.lt (costF (psF bs pinned) st, st) (b.c, b.a) = false
theorem law_true (ds : List Int) : lawM (ds, 0) = some true := by
  unfold lawM
  obtain ⟨r, n, e1, p1, q1⟩ := drawF_ok (bx := (ds, 0)) (m := 9) (by decide)
  refine bind_of e1 (bnd_of ?_)
  dsimp only
  obtain ⟨bs, bx, e2, hv, hl⟩ := blocksM_ok (ds, n) (size := 1 + r) (most := 3) (by omega) (by decide) (by decide)
  refine bind_of e2 (bnd_of ?_)
  dsimp only
  refine bind_of (rng1_ok (by omega)) ?_
  obtain ⟨pinned, bx2, e3⟩ := colS_any (f := (fun (y_319 : Int) (bx_325 : List Int × Nat) => (law_drawM bx_325 (4 : Int)).bind fun (t_323, bx_324) => if (decide (t_323 = (0 : Int))) = true then some (some y_319, bx_324) else some (none, bx_324))) (fun x b => by
    obtain ⟨r2, n2, e, _⟩ := drawF_ok (bx := b) (m := 4) (by decide)
    by_cases c : r2 = 0
    · exact ⟨_, _, bind_of e (if_of (decide_eq_true c) rfl)⟩
    · exact ⟨_, _, bind_of e (else_of (by simpa using c) rfl)⟩) (xs := rngL 0 (bs.length : Int).toNat) (by rw [rngL_len]; omega) bx
  refine bind_of e3 (bnd_of ?_)
  dsimp only
  obtain ⟨r3, n3, e4, p4, q4⟩ := drawF_ok (bx := bx2) (m := 5) (by decide)
  refine bind_of e4 (bnd_of (bnd_of ?_))
  dsimp only
  obtain ⟨rows, e5, hR⟩ := allM_ok (size := 1 + r) (bs := bs) (pinned := pinned) (by omega) (by omega) hv (by omega)
  refine bind_of e5 ?_
  have hrl : rows.length ≤ 1000 := by
    refine Nat.le_trans hR.1 ?_
    rw [ps_len]
    exact Nat.le_trans (Nat.pow_le_pow_right (by decide) (show bs.length ≤ 3 by omega)) (by decide)
  have hlen : ∀ st ∈ rows, st.length = bs.length := fun st h => by rw [((hR.2.2 st).mp h).1, ps_len]
  refine bind_ex (P := fun x => BestOf (1 + r) (1 + r3) bs pinned rows x.1) ?_ ?_
  · refine fold_exQ (fun i x => BestOf (1 + r) (1 + r3) bs pinned (rows.take i) x.1) ?_ ?_ ?_
    · intro st h; rw [List.take_zero] at h; cases h
    · intro out h; rw [List.take_length] at h; exact h
    · rintro i row ⟨best, bx3⟩ ha hI
      have hrow := List.mem_of_getElem? ha
      have hlt : ∀ st ∈ rows.take i, Lv.lt st row = true := by
        intro st hst
        obtain ⟨j, hj⟩ := List.mem_iff_getElem?.mp hst
        have hj2 := lt_of_get hj
        rw [List.length_take] at hj2
        rw [List.getElem?_take_of_lt (by omega)] at hj
        obtain ⟨a1, a2⟩ := List.getElem?_eq_some_iff.mp hj
        obtain ⟨b1, b2⟩ := List.getElem?_eq_some_iff.mp ha
        have := (List.pairwise_iff_getElem.mp hR.2.1) j i a1 b1 (by omega)
        rw [a2, b2] at this
        exact this
      obtain ⟨o, e6, ho⟩ := startM_ok (size := 1 + r) (L := 1 + r3) (bs := bs) (st := row) (by omega) (by omega) (by omega) (by omega) (hlen row hrow) (by omega)
      obtain ⟨cs, e7, hc⟩ := price_ok (bs := bs) (st := row) (hlen row hrow) (by omega) (pinned := pinned) (F := fun y => (atI row y).bind fun t_359 => (atI bs y).bind fun t_361 => if (!decide (t_359 = t_361.1)) = true then (atI bs y).bind fun t_363 => some (some t_363.2) else some none) (by
        intro k b s hb hs
        refine bind_of (at_ok hs) (bind_of (at_ok hb) ?_)
        unfold offF
        dsimp only
        by_cases c : s = b.1
        · rw [if_pos c]
          exact else_of (by simp [c]) rfl
        · rw [if_neg c]
          exact if_of (by simp [c]) (bind_of (at_ok hb) rfl))
      refine exb e6 (exb_bnd (exb (rng1_ok (by omega)) (exb e7 (exb_bnd ?_))))
      rw [take_snoc ha, hc]
      obtain ⟨rfl, hno⟩ | ⟨h0, h1, h2, h3⟩ := ho
      · refine exb (a := false) (else_of (by decide) rfl) (exb_else (by decide) ⟨_, rfl, ?_⟩)
        have nr : ¬ RmS (1 + r) (1 + r3) bs row := fun ⟨p, a, b, c⟩ => hno p a b c
        dsimp only at hI ⊢
        cases best with
        | none =>
          intro st hst
          obtain z | z := List.mem_append.mp hst
          · exact hI st z
          · rw [List.mem_singleton.mp z]; exact nr
        | some b =>
          obtain ⟨k1, k2, k3, k4⟩ := hI
          refine ⟨List.mem_append_left _ k1, k2, k3, fun st hst hs => ?_⟩
          obtain z | z := List.mem_append.mp hst
          · exact k4 st z hs
          · rw [List.mem_singleton.mp z] at hs; exact absurd hs nr
      · have new : (∀ st ∈ rows.take i, RmS (1 + r) (1 + r3) bs st → costF (psF bs pinned) row < costF (psF bs pinned) st) → BestOf (1 + r) (1 + r3) bs pinned (rows.take i ++ [row]) (some ⟨row, o, costF (psF bs pinned) row⟩) := by
          intro hall
          refine ⟨List.mem_append_right _ (List.mem_singleton.mpr rfl), rfl, ⟨h0, h1, h2, h3⟩, fun st hst hs => ?_⟩
          obtain z | z := List.mem_append.mp hst
          · exact (lv_pair _ _).mpr (.inl (hall st z hs))
          · rw [List.mem_singleton.mp z]
            exact Lv.irr _
        dsimp only at hI ⊢
        cases best with
        | none =>
          refine exb (a := true) (if_of (decide_eq_true h0) (bind_of (else_of (by simp) rfl) rfl)) (exb_if rfl (exb_bnd ⟨_, rfl, ?_⟩))
          exact new fun st hst hs => absurd hs (hI st hst)
        | some b =>
          obtain ⟨k1, k2, k3, k4⟩ := hI
          by_cases c : costF (psF bs pinned) row < b.c
          · refine exb (a := true) (if_of (decide_eq_true h0) (bind_of (if_of rfl (bind_of rfl (by rw [decide_eq_true c]))) rfl)) (exb_if rfl (exb_bnd ⟨_, rfl, ?_⟩))
            refine new fun st hst hs => ?_
            obtain z | z := (lv_pair _ _).mp (k4 st hst hs)
            · dsimp only at z; omega
            · have := z.1
              dsimp only at this
              omega
          · refine exb (a := false) (if_of (decide_eq_true h0) (bind_of (if_of rfl (bind_of rfl (by rw [decide_eq_false c]))) rfl)) (exb_else (by decide) ⟨_, rfl, ?_⟩)
            refine ⟨List.mem_append_left _ k1, k2, k3, fun st hst hs => ?_⟩
            obtain z | z := List.mem_append.mp hst
            · exact k4 st z hs
            · rw [List.mem_singleton.mp z, lv_pair]
              dsimp only
              by_cases d : b.c < costF (psF bs pinned) row
              · exact .inl d
              · exact .inr ⟨by omega, lv_as (hlt b.a k1)⟩
  · rintro ⟨best, bx3⟩ hB
    dsimp only at hB ⊢
    unfold lawK1
    refine bind_of (colL_id (by omega)) (bnd_of ?_)
    obtain ⟨o, e8, hA⟩ := cheapM_ok (size := 1 + r) (L := 1 + r3) (bs := bs) (pinned := pinned) (by omega) (by omega) (by omega) (by omega) hv (by omega)
    refine bind_of e8 (bnd_of ?_)
    have feas : ∀ st, Feas (1 + r) (1 + r3) (psF bs pinned) 0 false st ↔ st ∈ rows ∧ RmS (1 + r) (1 + r3) bs st := by
      intro st
      rw [feas_iff (by omega) (ps_lens hv), hR.2.2, ps_fst]
      unfold OrdS
      rw [ps_fst]
      constructor
      · rintro ⟨a, b, c, d⟩
        refine ⟨⟨a, b, c⟩, ?_⟩
        obtain z | z := d
        · cases z
        · exact z
      · rintro ⟨⟨a, b, c⟩, d⟩
        exact ⟨a, b, c, .inr d⟩
    cases best with
    | none =>
      refine if_of rfl ?_
      obtain ⟨rfl, _⟩ | ⟨st, p, rfl, h1, _⟩ := hA
      · simp
      · have := (feas st).mp h1
        exact absurd this.2 (hB st this.1)
    | some b =>
      obtain ⟨k1, k2, k3, k4⟩ := hB
      have kb : Feas (1 + r) (1 + r3) (psF bs pinned) 0 false b.a := (feas _).mpr ⟨k1, b.b, k3.1, k3.2.1, k3.2.2.1⟩
      refine else_of (by simp) (bind_of rfl ?_)
      obtain ⟨rfl, h⟩ | ⟨st, p, rfl, h1, h2, h3, h4⟩ := hA
      · exact absurd kb (h _)
      · have f1 := (feas st).mp h1
        have l1 := k4 st f1.1 f1.2
        have l2 := h2 b.a kb
        rw [← k2] at l2
        have e : (costF (psF bs pinned) st, st) = (b.c, b.a) := by
          by_cases q : (costF (psF bs pinned) st, st) = (b.c, b.a)
          · exact q
          · have := Lv.tri q
            rw [l1, l2] at this
            cases this
        obtain ⟨ea, eb⟩ := Prod.mk.inj e
        rw [ps_fst, eb] at h3 h4
        have ep : p = b.b := by
          have i1 := h4 b.b k3.1 k3.2.1 k3.2.2.1
          by_cases q : p = b.b
          · exact q
          · exact absurd h3.2.2 (k3.2.2.2 p h3.1 (by omega))
        have : (⟨st, p, costF (psF bs pinned) st⟩ : T3 (List Int) Int Int) = b := by
          rw [ea, eb, ep]
        rw [this]
        simp
end
end Pf

namespace Pf
open PySem L2
local macro_rules | `(tactic| walk_at "rd1") => `(tactic| first
  | with_reducible refine r_seqA ?_
  | with_reducible refine r_seqD ?_
  | with_reducible refine r_seqF ?_
  | with_reducible refine r_seqN ?_
  | with_reducible refine r_asg ?_
  | with_reducible refine r_drop ?_
  | with_reducible refine r_ret ?_
  | with_reducible refine r_ifS ?_
  | ((with_reducible refine r_next ?_); try dsimp only)
  | ((with_reducible refine r_name ?_); try dsimp only [List.set_cons_succ, List.set_cons_zero, wipe])
  | ((with_reducible refine' r_var ?rdh ?_); (case rdh => rfl))
  | with_reducible refine r_c ?_
  | with_reducible refine r_op ?_
  | with_reducible refine r_un ?_
  | with_reducible refine r_I0 ?_
  | ((with_reducible refine r_I ?_ ?_); (· first | decide | exact Or.inl (by decide) | exact Or.inr (by decide) | (show _ ∧ _; constructor <;> decide) | (show (0:Int) < _; omega) | (show CDiv _ _; unfold CDiv; omega) ))
  | with_reducible refine r_U ?_
  | with_reducible refine r_eqI ?_
  | with_reducible refine r_neI ?_
  | with_reducible refine r_eqB ?_
  | with_reducible refine r_neB ?_
  | with_reducible refine r_test ?_
  | with_reducible refine r_B ?_
  | with_reducible refine r_bl ?_
  | with_reducible refine r_bl2 ?_
  | with_reducible refine r_yes ?_
  | with_reducible refine r_wipe (by rfl) ?_
  | with_reducible refine r_rfl ?_
  | ((with_reducible refine' r_eqA ?rdh ?_); (case rdh => rfl))
  | with_reducible refine r_and ?_
  | with_reducible refine r_or ?_
  | with_reducible refine r_not ?_
  | with_reducible refine r_andV ?_
  | with_reducible refine r_orV ?_
  | with_reducible refine r_notV ?_
  | with_reducible refine r_ifE ?_
  | with_reducible refine r_nil ?_
  | with_reducible refine r_cons ?_
  | with_reducible refine r_tup ?_
  | with_reducible refine r_lst ?_
  | with_reducible refine r_CB ?_
  | with_reducible refine r_call ?_
  | with_reducible refine r_bm ?_
  | with_reducible refine r_bm0 ?_
  | with_reducible refine r_int ?_
  | with_reducible refine r_i2 ?_
  | with_reducible refine r_i1 ?_
  | with_reducible refine r_gcons ?_
  | with_reducible refine r_gnil ?_
  | with_reducible refine r_gsub ?_
  | with_reducible refine iteT ?_
  | with_reducible refine iteF ?_
  | with_reducible refine ite_notT ?_
  | with_reducible refine ite_notF ?_
  | with_reducible refine r_isi_ib ?_
  | with_reducible refine r_isi_ii ?_
  | with_reducible refine r_isi_bb ?_
  | with_reducible refine r_isi_nb ?_
  | with_reducible refine r_isi_nt ?_
  | ((with_reducible refine' r_isi_ll ?rdh ?_); (case rdh => first | assumption | exact upd_same))
  | ((with_reducible refine' r_isi_tt ?rdh ?_); (case rdh => first | assumption | exact upd_same))
  | with_reducible refine r_sl ?_
  | with_reducible refine r_noPart ?_
  | with_reducible refine r_part ?_
  | with_reducible refine r_int1 ?_
  | with_reducible refine r_tru ?_
  | with_reducible refine r_ckw ?_
  | with_reducible refine r_lc ?_
  | with_reducible refine r_lc2 ?_
  | with_reducible refine r_forS ?_
  | with_reducible refine r_iR1 ?_
  | with_reducible refine r_iR2 ?_
  | with_reducible refine r_iL ?_
  | ((with_reducible refine' r_lenL ?rdh ?_); (case rdh => walk_at "sq"))
  | ((with_reducible refine' r_ixL ?rdh ?rda ?_); (case rdh => walk_at "sq"); (case rda => walk_at "at"))
  | ((with_reducible refine' r_ixT ?rdh ?rda ?_); (case rdh => walk_at "sq"); (case rda => walk_at "at")))
local macro_rules | `(tactic| walk_at "sq") => `(tactic| first
  | assumption
  | exact SqL.of (by assumption)
  | exact SqL.of upd_same
  | exact SqT.of (by assumption)
  | exact SqT.of upd_same)
local macro_rules | `(tactic| walk_at "sml") => `(tactic| (rw [sizeLine_eq]; simp))
local macro_rules | `(tactic| walk_at "at") => `(tactic| first | assumption | rfl)
local macro_rules | `(tactic| walk_at "rd") => `(tactic| repeat walk_at "rd1")
section
variable {w : World} {P : Program} {base : Heap} {K : PySem.W.Frag} {mg : Str → Option Value}
def sp_law (K : PySem.W.Frag) : Sp := fun vs H Q _ => ∃ (a : Addr) (ns : List Int), vs = [.ref a] ∧ SqL K H a (ns.map V.int) ∧ ns.length ≤ 63 ∧ ∀ H', Q (.bl true) H'
theorem mk_law {f f1 f2 f3 f4 f5 f6 : Addr} {fd fd1 fd2 fd3 fd4 fd5 fd6 : FuncData} (T : Txt mg) (F : Fun K "law" "law" s_law f fd)
    (C_law_digits : Cal P w K mg base "_law_digits" 2 f1 fd1 ["script", "first", "last"] (sp_digits K))
    (C_law_draw : Cal P w K mg base "_law_draw" 1 f2 fd2 ["box", "many"] (spB (fun bx (i : Int × Unit) => law_drawM bx i.1)))
    (C_law_blocks : Cal P w K mg base "_law_blocks" 2 f3 fd3 ["box", "size", "most"] (spB (fun bx (i : Int × Int × Unit) => law_blocksM bx i.1 i.2.1)))
    (C_law_all : Cal P w K mg base "_law_all" 1 f4 fd4 ["size", "layout", "pinned"] (spP (fun (i : Int × (List (Int × Int)) × (List Int) × Unit) => law_allM i.1 i.2.1 i.2.2.1)))
    (C_law_start : Cal P w K mg base "_law_start" 1 f5 fd5 ["size", "layout", "starts", "length"] (spP (fun (i : Int × (List (Int × Int)) × (List Int) × Int × Unit) => law_startM i.1 i.2.1 i.2.2.1 i.2.2.2.1)))
    (C_cheapest_room : Cal P w K mg base "cheapest_room" 3 f6 fd6 ["size", "layout", "pinned", "length"] (spP (fun (i : Int × (List (Int × Int)) × (List Int) × Int × Unit) => cheapest_roomM i.1 i.2.1 i.2.2.1 i.2.2.2.1))) : FnOk P w K mg base CX0 4 f fd ["script"] (sp_law K) := by
  refine F.ok sc_law (fun vs H Q E h => ?_) (fun cdv A outer s H vs Q E hr h => ?_)
  · obtain ⟨a, ns, rfl, _⟩ := h
    rfl
  rcases h with ⟨a, ns, rfl, hS, h63, Q⟩
  refine ⟨_, (pss_cons (ps_set (i := 1) sc_law.nd rfl (Or.inr rfl) (pe_lst (pa_cons (pe_call C_law_digits.ok (hr.mono (by first | decide | omega)) rfl C_law_digits.mg C_law_digits.kp C_law_digits.b .nil pass0 (pa_cons (pv 0) (pa_cons pe_int (pa_cons pe_int pa_nil)))) (pa_cons pe_int pa_nil)))) (pss_cons (ps_set (i := 2) sc_law.nd rfl (Or.inl rfl) (pe_op op_add pe_int (pe_call C_law_draw.ok (hr.mono (by first | decide | omega)) rfl C_law_draw.mg C_law_draw.kp C_law_draw.b .nil pass0 (pa_cons (pv 1) (pa_cons pe_int pa_nil))))) (pss_cons (ps_set (i := 3) sc_law.nd rfl (Or.inr rfl) (pe_call C_law_blocks.ok (hr.mono (by first | decide | omega)) rfl C_law_blocks.mg C_law_blocks.kp C_law_blocks.b .nil pass0 (pa_cons (pv 1) (pa_cons (pv 2) (pa_cons pe_int pa_nil))))) (pss_cons (show PS _ _ (tAsg (tLc _ _ _ _ [5]) _) from ps_setLc (i := 4) (own := [("k", 5)]) (g := gName 5) rfl sc_law.nd rfl rfl (sw_true rfl rfl rfl (by decide +kernel)) (pi_range1 rfl T.range (pa_cons (pe_callB (show CallR _ _ (fun xs H Q => ∃ p ys, xs = [V.ref p] ∧ (SqL K H p ys ∨ SqT K H p ys) ∧ Q (.int ys.length) H) from call_len_seq) (by rfl) T.len PySem.boot_len (pa_cons (pv 3) pa_nil)) pa_nil)) (blkOk_by (own := [("k", 5)]) (N := ["script", "box", "size", "layout", "pinned", "k", "length", "best", "starts", "start", "price", "kept", "block", "actual"]) (sc := defScope s_law) (by decide +kernel)) (fun _ _ _ _ _ => (pg_name (i := 5) sc_law.nd rfl (Or.inl rfl))) (fun _ _ _ _ _ => (pts_one (pt_cmpR op_eq (pe_call C_law_draw.ok (hr.mono (by first | decide | omega)) rfl C_law_draw.mg C_law_draw.kp C_law_draw.b .nil pass0 (pa_cons (pv 1) (pa_cons pe_int pa_nil))) pe_int (nomark _)))) (fun _ _ _ _ _ => (pv 5))) (pss_cons (ps_set (i := 6) sc_law.nd rfl (Or.inl rfl) (pe_op op_add pe_int (pe_call C_law_draw.ok (hr.mono (by first | decide | omega)) rfl C_law_draw.mg C_law_draw.kp C_law_draw.b .nil pass0 (pa_cons (pv 1) (pa_cons pe_int pa_nil))))) (pss_cons (ps_set (i := 7) sc_law.nd rfl (Or.inl rfl) pe_non) (pss_cons (ps_for PassesOwn.never rfl (pi_list (pe_call C_law_all.ok (hr.mono (by first | decide | omega)) rfl C_law_all.mg C_law_all.kp C_law_all.b .nil pass0 (pa_cons (pv 2) (pa_cons (pv 3) (pa_cons (pv 4) pa_nil))))) (pg_name (i := 8) sc_law.nd rfl (Or.inr rfl))
      (pss_cons (ps_set (i := 9) sc_law.nd rfl (Or.inl rfl) (pe_call C_law_start.ok (hr.mono (by first | decide | omega)) rfl C_law_start.mg C_law_start.kp C_law_start.b .nil pass0 (pa_cons (pv 2) (pa_cons (pv 3) (pa_cons (pv 8) (pa_cons (pv 6) pa_nil)))))) (pss_cons (ps_set (i := 10) sc_law.nd rfl (Or.inl rfl) (pe_callB (show CallR _ _ (rSum K) from cr_sum rfl) (by rfl) T.sum (by decide +kernel) (pa_cons (show PE _ _ (tLc _ _ _ _ [5]) from pe_lc (own := [("k", 5)]) (g := gName 5) rfl sc_law.nd (pi_range1 rfl T.range (pa_cons (pe_callB (show CallR _ _ (fun xs H Q => ∃ p ys, xs = [V.ref p] ∧ (SqL K H p ys ∨ SqT K H p ys) ∧ Q (.int ys.length) H) from call_len_seq) (by rfl) T.len PySem.boot_len (pa_cons (pv 3) pa_nil)) pa_nil)) (blkOk_by (own := [("k", 5)]) (N := ["script", "box", "size", "layout", "pinned", "k", "length", "best", "starts", "start", "price", "kept", "block", "actual"]) (sc := defScope s_law) (by decide +kernel)) (fun _ _ _ _ _ => (pg_name (i := 5) sc_law.nd rfl (Or.inl rfl))) (fun _ _ _ _ _ => (pts_one (pt_cmpR op_ne (pe_ix (show IxR _ (rIxL K) from ix_list) (pv 8) (pv 5) (fun _ _ => rfl)) (pe_ix (show IxR _ (rIxT K) from ix_tup) (pe_ix (show IxR _ (rIxL K) from ix_list) (pv 3) (pv 5) (fun _ _ => rfl)) pe_int (fun _ _ => rfl)) (nomark _)))) (fun _ _ _ _ _ => (pe_ix (show IxR _ (rIxT K) from ix_tup) (pe_ix (show IxR _ (rIxL K) from ix_list) (pv 3) (pv 5) (fun _ _ => rfl)) pe_int (fun _ _ => rfl)))) pa_nil))) (pss_one (ps_if (PW.pt (pw_and (pt_cmpR op_ge (pv 9) pe_int (nomark _)) (pw_and1 (PW.pt (pw_or (pt_cmpR op_isN (pv 7) pe_non (nomark _)) (pw_or1 (pt_cmpR op_lt (pv 10) (pe_ix (show IxR _ (rIxT K) from ix_tup) (pv 7) pe_int (fun _ _ => rfl)) (nomark _))))))))
      (pss_one (ps_set (i := 7) sc_law.nd rfl (Or.inl rfl) (pe_tup (pa_cons (pv 8) (pa_cons (pv 9) (pa_cons (pv 10) pa_nil))))))
      pss_nil))))) (pss_cons (show PS _ _ (tAsg (tLc _ _ _ _ [12]) _) from ps_setLc (i := 11) (own := [("block", 12)]) (g := gName 12) (tt := tYes) rfl sc_law.nd rfl rfl (sw_true rfl rfl rfl (by decide +kernel)) (pi_list (pv 3)) (blkOk_by (own := [("block", 12)]) (N := ["script", "box", "size", "layout", "pinned", "k", "length", "best", "starts", "start", "price", "kept", "block", "actual"]) (sc := defScope s_law) (by decide +kernel)) (fun _ _ _ _ _ => (pg_name (i := 12) sc_law.nd rfl (Or.inl rfl))) (fun _ _ _ _ _ => pts_nil) (fun _ _ _ _ _ => (pv 12))) (pss_cons (ps_set (i := 13) sc_law.nd rfl (Or.inl rfl) (pe_call C_cheapest_room.ok (hr.mono (by first | decide | omega)) rfl C_cheapest_room.mg C_cheapest_room.kp C_cheapest_room.b .nil pass0 (pa_cons (pv 2) (pa_cons (pv 3) (pa_cons (pv 4) (pa_cons (pv 6) pa_nil)))))) (pss_cons (ps_if (pt_cmpR op_isN (pv 7) pe_non (nomark _))
      (pss_one (ps_ret (pe_and (pe_cmpR op_isN (pv 13) pe_non (nomark _)) (pe_one (pe_cmpR (show OpR _ _ (rEqD K) from op_eqD hr.units) (pv 3) (pv 11) (nomark _))))))
      pss_nil) (pss_one (ps_ret (pe_and (pe_callB (show CallR _ _ (rIsi K) from call_isi) (by rfl) T.isinstance (by decide +kernel) (pa_cons (pv 13) (pa_cons (pe_bltn (v := .ty "tuple") (u := .type "tuple") rfl T.tuple (by decide +kernel) rfl) pa_nil))) (pe_and (pe_cmpR (show OpR _ _ (rEqD K) from op_eqD hr.units) (pv 13) (pv 7) (nomark _)) (pe_one (pe_cmpR (show OpR _ _ (rEqD K) from op_eqD hr.units) (pv 3) (pv 11) (nomark _))))))))))))))))), ?_⟩
  try dsimp only [cxOf, Cx.nox, Cx.wish]
  rw [show start ["script", "box", "size", "layout", "pinned", "k", "length", "best", "starts", "start", "price", "kept", "block", "actual"] [V.ref a] = [some (V.ref a), none, none, none, none, none, none, none, none, none, none, none, none, none] from rfl]
  walk_at "rd"
  refine ⟨a, ns, 0, 63, rfl, hS, by decide, by decide, fun d ds H1 nd s1 hd hdl => ?_⟩
  walk_at "rd"
  refine ⟨by walk_at "sml", fun b nb => ?_⟩
  refine upd_new nb fun H2 hb s2 => ?_
  have ndb : d ≠ b := ne_of_none hd nb
  generalize hms : [b] = ms
  have hbm : b ∈ ms := by rw [← hms]; exact List.mem_cons_self
  have hq : Bxs b (ds, 0) ms H2 := ⟨d, hb, ndb, by rw [← hms]; simp [ndb], s2 _ _ hd⟩
  have hB0 : ∀ a ∈ [b], a ∈ ms := fun a h => by rw [List.mem_singleton.mp h]; exact hbm
  have W : Wd [b] ms H2 := ⟨hB0, fun c hc => by
    rw [← hms] at hc
    rw [List.mem_singleton.mp hc, hb]
    exact fun z => by cases z⟩
  obtain ⟨bx0, ebx⟩ : ∃ z : List Int × Nat, z = (ds, 0) := ⟨_, rfl⟩
  rw [← ebx] at hq
  have hm : lawM bx0 = some true := by rw [ebx]; exact law_true ds
  unfold lawM at hm
  refine r_name ?_
  dsimp only [List.set_cons_succ, List.set_cons_zero]
  obtain ⟨⟨t_311, bx_312⟩, e_t_311, hm⟩ := bind_inv hm
  dsimp only at hm
  obtain ⟨size_313, e_size_313, hm⟩ := bnd_inv hm
  refine r_seqA ?_
  refine Ex.go W (ex_opI0 (z := ((1 : Int) + t_311)) (fun _ _ => rfl) (ex_int 1) (ex_callB (i := ((9 : Int), ())) W (v := 1) rfl (ea_cons W (ex_int 9) ea_nil) e_t_311)) hq fun v_315 H_314 bb hq W M rv => ?_
  rw [← e_size_313] at rv
  obtain rfl : v_315 = V.int size_313 := rv
  refine (bnd_name : Bnd _ _ _ _ _) _ ?_
  dsimp only [List.set_cons_succ, List.set_cons_zero]
  obtain ⟨⟨t_316, bx_317⟩, e_t_316, hm⟩ := bind_inv hm
  dsimp only at hm
  obtain ⟨layout_318, e_layout_318, hm⟩ := bnd_inv hm
  refine r_seqA ?_
  refine Ex.go W (ex_callB (i := (size_313, (3 : Int), ())) W (v := 1) rfl (ea_cons W (ex_vi rfl) (ea_cons W (ex_int 3) ea_nil)) e_t_316) hq fun v_320 H_319 bb hq W M rv => ?_
  rw [← e_layout_318] at rv
  have f_layout_318 := rv
  refine (bnd_name : Bnd _ _ _ _ _) _ ?_
  dsimp only [List.set_cons_succ, List.set_cons_zero]
  obtain ⟨rg_321, e_rg_321, hm⟩ := bind_inv hm
  obtain ⟨⟨cs_323, bx_329⟩, e_cs_323, hm⟩ := bind_inv hm
  dsimp only at hm
  obtain ⟨pinned_330, e_pinned_330, hm⟩ := bnd_inv hm
  refine r_seqA ?_
  refine Ex.go W (En.ex sb_bxs (en_lcSL (P := fun x => Bxs b x) (f := fun (y_322 : Int) (bx_328 : List Int × Nat) => (law_drawM bx_328 (4 : Int)).bind fun (t_326, bx_327) => if (decide (t_326 = (0 : Int))) = true then some (some y_322, bx_327) else some (none, bx_327)) W (fun _ => sb_bxs) (Ei.ej (ei_rng1 (ea_cons W (ex_len (el_of W.hB (ex_var W rfl f_layout_318))) ea_nil) e_rg_321)) e_cs_323 (fun ms' H' y_322 v r' bx_328 bx' L hq' rv hm => by
          have W := L.W
          have f_layout_318 := Rp.mv f_layout_318 L.M
          obtain rfl : v = V.int y_322 := rv
          obtain ⟨⟨t_326, bx_327⟩, e_t_326, hm⟩ := bind_inv hm
          dsimp only at hm
          refine ⟨_, bnd_name, rfl, _, _, (et_test (ex_eqI (ex_callB (i := ((4 : Int), ())) W (v := 1) rfl (ea_cons W (ex_int 4) ea_nil) e_t_326) (ex_int 0))), fun c => ?_, fun c => ?_⟩
          · have hm := (if_neg (by rw [c]; decide)).symm.trans hm
            cases hm
            exact ⟨rfl, fun _ h => h⟩
          · have hm := (if_pos c).symm.trans hm
            cases hm
            exact ⟨_, rfl, (ex_vi rfl)⟩))) hq fun v_332 H_331 bb hq W M rv => ?_
  rw [← e_pinned_330] at rv
  have f_layout_318 := Rp.mv f_layout_318 M
  have f_pinned_330 := rv
  refine (bnd_name : Bnd _ _ _ _ _) _ ?_
  dsimp only [List.set_cons_succ, List.set_cons_zero]
  obtain ⟨⟨t_333, bx_334⟩, e_t_333, hm⟩ := bind_inv hm
  dsimp only at hm
  obtain ⟨length_335, e_length_335, hm⟩ := bnd_inv hm
  refine r_seqA ?_
  refine Ex.go W (ex_opI0 (z := ((1 : Int) + t_333)) (fun _ _ => rfl) (ex_int 1) (ex_callB (i := ((5 : Int), ())) W (v := 1) rfl (ea_cons W (ex_int 5) ea_nil) e_t_333)) hq fun v_337 H_336 bb hq W M rv => ?_
  rw [← e_length_335] at rv
  have f_layout_318 := Rp.mv f_layout_318 M
  have f_pinned_330 := Rp.mv f_pinned_330 M
  obtain rfl : v_337 = V.int length_335 := rv
  refine (bnd_name : Bnd _ _ _ _ _) _ ?_
  dsimp only [List.set_cons_succ, List.set_cons_zero]
  obtain ⟨best_338, e_best_338, hm⟩ := bnd_inv hm
  refine r_seqA ?_
  refine Ex.go W (ex_non (α := (T3 (List Int) Int Int))) hq fun v_340 H_339 bb hq W M rv => ?_
  rw [← e_best_338] at rv
  have f_layout_318 := Rp.mv f_layout_318 M
  have f_pinned_330 := Rp.mv f_pinned_330 M
  have f_best_338 := rv
  refine (bnd_name : Bnd _ _ _ _ _) _ ?_
  dsimp only [List.set_cons_succ, List.set_cons_zero]
  obtain ⟨t_342, e_t_342, hm⟩ := bind_inv hm
  refine r_seqF' ?_
  refine r_for W (ei_list (ex_call (i := (size_313, layout_318, pinned_330, ())) W sb_bxs (ea_cons W (ex_vi rfl) (ea_cons W (ex_var W rfl f_layout_318) (ea_cons W (ex_var W rfl f_pinned_330) ea_nil))) e_t_342)) hq fun J N_344 H_343 bb hq W M st_nN_344 nN_344 ok_N_344 => ?_
  have f_layout_318 := Rp.mv f_layout_318 M
  have f_pinned_330 := Rp.mv f_pinned_330 M
  have f_best_338 := Rp.mv f_best_338 M
  obtain ⟨out_349, e_out_349, hm⟩ := bind_inv hm
  have hgoN_344 := hm
  clear hm
  refine wk_fold (ms := ms) ok_N_344 e_out_349 (fun x σ H' => match x with | (best_345, bx_346) => ∃ (vj_best_345 : V), ∃ (xl_starts : Option V), ∃ (xl_start : Option V), ∃ (xl_price : Option V), σ = [some (.ref a), some (.ref b), some (.int size_313), some v_320, some v_332, none, some (.int length_335), some vj_best_345, xl_starts, xl_start, xl_price, none, none, none] ∧ (Bxs b bx_346) (ms) H' ∧ Wd [b] (ms) H' ∧ N_344 (ms) H' ∧ Rp.rp (ms) H' (v_320) layout_318 ∧ Rp.rp (ms) H' (v_332) pinned_330 ∧ Rp.rp (ms) H' (vj_best_345) best_345) ⟨_, _, _, _, rfl, hq, W, nN_344, f_layout_318, f_pinned_330, f_best_338⟩ ?_ ?_ ?_
  · intro x σ H' hI
    obtain ⟨best_345, bx_346⟩ := x
    try dsimp only at hI
    obtain ⟨vj_best_345, xl_starts, xl_start, xl_price, rfl, hq, W, nN_344, f_layout_318, f_pinned_330, f_best_345⟩ := hI
    exact ⟨nN_344, W.al⟩
  · intro y_348 v x x' σ H_350 H_351 hI s1 rv hf
    obtain ⟨best_345, bx_346⟩ := x
    try dsimp only at hI
    obtain ⟨vj_best_345, xl_starts, xl_start, xl_price, rfl, hq, W, nN_344, f_layout_318, f_pinned_330, f_best_345⟩ := hI
    have hm := hf
    try dsimp only at hm
    have bb : Bu [b] H_350 H_351 := Bu.same s1
    have M : Mv (ms) H_350 (ms) H_351 := Mv.same s1
    have hq := sb_bxs.same s1 hq
    have W := W.bu bb
    have f_layout_318 := Rp.mv f_layout_318 M
    have f_pinned_330 := Rp.mv f_pinned_330 M
    have f_best_345 := Rp.mv f_best_345 M
    have nN_344 := st_nN_344.mv nN_344 M
    have f_y_348 := rv
    refine (bnd_name : Bnd _ _ _ _ _) _ ?_
    dsimp only [List.set_cons_succ, List.set_cons_zero]
    obtain ⟨t_352, e_t_352, hm⟩ := bind_inv hm
    obtain ⟨start_353, e_start_353, hm⟩ := bnd_inv hm
    refine r_seqA ?_
    refine Ex.go W (ex_call (i := (size_313, layout_318, y_348, length_335, ())) W sb_bxs (ea_cons W (ex_vi rfl) (ea_cons W (ex_var W rfl f_layout_318) (ea_cons W (ex_var W rfl f_y_348) (ea_cons W (ex_vi rfl) ea_nil)))) e_t_352) hq fun v_355 H_354 bb hq W M rv => ?_
    rw [← e_start_353] at rv
    have f_layout_318 := Rp.mv f_layout_318 M
    have f_pinned_330 := Rp.mv f_pinned_330 M
    have f_best_345 := Rp.mv f_best_345 M
    have f_y_348 := Rp.mv f_y_348 M
    have nN_344 := st_nN_344.mv nN_344 M
    obtain rfl : v_355 = V.int start_353 := rv
    refine (bnd_name : Bnd _ _ _ _ _) _ ?_
    dsimp only [List.set_cons_succ, List.set_cons_zero]
    obtain ⟨rg_356, e_rg_356, hm⟩ := bind_inv hm
    obtain ⟨cs_358, e_cs_358, hm⟩ := bind_inv hm
    obtain ⟨price_367, e_price_367, hm⟩ := bnd_inv hm
    refine r_seqA ?_
    refine Ex.go W (ex_sum (el_of W.hB (En.ex sb_bxs (en_lcL (f := fun (y_357 : Int) => (atI y_348 y_357).bind fun t_362 => (atI layout_318 y_357).bind fun t_364 => if (!decide (t_362 = t_364.1)) = true then (atI layout_318 y_357).bind fun t_366 => some (some t_366.2) else some none) W sb_bxs (Ei.ej (ei_rng1 (ea_cons W (ex_len (el_of W.hB (ex_var W rfl f_layout_318))) ea_nil) e_rg_356)) e_cs_358 (fun ms' H' y_357 v r' L hq' rv hm => by
            have W := L.W
            have f_layout_318 := Rp.mv f_layout_318 L.M
            have f_pinned_330 := Rp.mv f_pinned_330 L.M
            have f_best_345 := Rp.mv f_best_345 L.M
            have f_y_348 := Rp.mv f_y_348 L.M
            obtain rfl : v = V.int y_357 := rv
            obtain ⟨t_362, e_t_362, hm⟩ := bind_inv hm
            obtain ⟨t_364, e_t_364, hm⟩ := bind_inv hm
            refine ⟨_, bnd_name, rfl, _, (et_test (ex_neI (ex_ixL (el_of W.hB (ex_var W rfl f_y_348)) (ex_vi rfl) W e_t_362) (ex_fst (u := t_364) (ex_ixL (el_of W.hB (ex_var W rfl f_layout_318)) (ex_vi rfl) W e_t_364)))), fun c => ?_, fun c => ?_⟩
            · have hm := (if_neg (by rw [c]; decide)).symm.trans hm
              cases hm
              rfl
            · have hm := (if_pos c).symm.trans hm
              obtain ⟨t_366, e_t_366, hm⟩ := bind_inv hm
              cases hm
              exact ⟨_, rfl, (ex_snd (u := t_366) (ex_ixL (el_of W.hB (ex_var W rfl f_layout_318)) (ex_vi rfl) W e_t_366))⟩))))) hq fun v_369 H_368 bb hq W M rv => ?_
    rw [← e_price_367] at rv
    have f_layout_318 := Rp.mv f_layout_318 M
    have f_pinned_330 := Rp.mv f_pinned_330 M
    have f_best_345 := Rp.mv f_best_345 M
    have f_y_348 := Rp.mv f_y_348 M
    have nN_344 := st_nN_344.mv nN_344 M
    obtain rfl : v_369 = V.int price_367 := rv
    refine (bnd_name : Bnd _ _ _ _ _) _ ?_
    dsimp only [List.set_cons_succ, List.set_cons_zero]
    obtain ⟨t_372, e_t_372, hm⟩ := bind_inv hm
    refine r_ifS ?_
    refine Et.go W (et_and (d := t_372) (et_test (ex_opI0 (z := (decide ((0 : Int) ≤ start_353))) (fun _ _ => rfl) (ex_vi rfl) (ex_int 0))) (fun c => by
            have hm := (if_pos c).symm.trans e_t_372
            obtain ⟨t_371, e_t_371, hm⟩ := bind_inv hm
            rw [← Option.some.inj hm]
            exact (et_or (d := t_371) (et_test (ex_isN (ex_var W rfl f_best_345))) (fun c => by
            have hm := (if_pos c).symm.trans e_t_371
            obtain ⟨best_370, e_best_370, hm⟩ := bind_inv hm
            have f_best_370 := rp_nar e_best_370 f_best_345
            rw [← Option.some.inj hm]
            exact (et_test (ex_opI0 (z := (decide (price_367 < best_370.c))) (fun _ _ => rfl) (ex_vi rfl) (ex_t3 (u := best_370) (ex_var W rfl f_best_370)))))
            (fun c => by
            have hm := (if_neg (by rw [c]; decide)).symm.trans e_t_371
            cases hm
            exact ⟨rfl, fun _ h => h⟩)))
            (fun c => by
            have hm := (if_neg (by rw [c]; decide)).symm.trans e_t_372
            cases hm
            exact ⟨rfl, fun _ h => h⟩)) hq fun H_373 bb hq W M => ?_
    have f_layout_318 := Rp.mv f_layout_318 M
    have f_pinned_330 := Rp.mv f_pinned_330 M
    have f_best_345 := Rp.mv f_best_345 M
    have f_y_348 := Rp.mv f_y_348 M
    have nN_344 := st_nN_344.mv nN_344 M
    refine ite_by (fun hc => ?_) (fun hc => ?_)
    · have hm := (if_pos hc).symm.trans hm
      obtain ⟨best_374, e_best_374, hm⟩ := bnd_inv hm
      refine r_asg ?_
      refine Ex.go W (ex_some (ex_tup3 W sb_bxs (u := T3.mk y_348 start_353 price_367) (ea_cons W (ex_var W rfl f_y_348) (ea_cons W (ex_vi rfl) (ea_cons W (ex_vi rfl) ea_nil))))) hq fun v_376 H_375 bb hq W M rv => ?_
      rw [← e_best_374] at rv
      have f_layout_318 := Rp.mv f_layout_318 M
      have f_pinned_330 := Rp.mv f_pinned_330 M
      have f_best_345 := Rp.mv f_best_345 M
      have f_y_348 := Rp.mv f_y_348 M
      have nN_344 := st_nN_344.mv nN_344 M
      have f_best_374 := rv
      refine (bnd_name : Bnd _ _ _ _ _) _ ?_
      dsimp only [List.set_cons_succ, List.set_cons_zero]
      try dsimp only
      try dsimp only
      try dsimp only
      cases hm
      exact ⟨_, _, _, _, rfl, hq, W, nN_344, f_layout_318, f_pinned_330, f_best_374⟩
    · have hm := (if_neg hc).symm.trans hm
      refine r_next ?_
      try dsimp only
      try dsimp only
      cases hm
      exact ⟨_, _, _, _, rfl, hq, W, nN_344, f_layout_318, f_pinned_330, f_best_345⟩
  · intro σ H_347 hI
    obtain ⟨best_345, bx_346⟩ := out_349
    try dsimp only at hI
    obtain ⟨vj_best_345, xl_starts, xl_start, xl_price, rfl, hq, W, nN_344, f_layout_318, f_pinned_330, f_best_345⟩ := hI
    have hm := hgoN_344
    try dsimp only at hm
    try dsimp only
    unfold lawK1 at hm
    obtain ⟨cs_378, e_cs_378, hm⟩ := bind_inv hm
    obtain ⟨kept_379, e_kept_379, hm⟩ := bnd_inv hm
    refine r_seqA ?_
    refine Ex.go W (En.ex sb_bxs (en_lcL (f := fun (y_377 : (Int × Int)) => some (some y_377)) W sb_bxs (Ei.ej (ei_list (ex_var W rfl f_layout_318))) e_cs_378 (fun ms' H' y_377 v r' L hq' rv hm => by
            have W := L.W
            have f_layout_318 := Rp.mv f_layout_318 L.M
            have f_pinned_330 := Rp.mv f_pinned_330 L.M
            have f_best_345 := Rp.mv f_best_345 L.M
            have f_y_377 := rv
            cases hm
            exact ⟨_, bnd_name, rfl, true, et_yes, fun h => (by cases h), fun _ => ⟨_, rfl, (ex_var W rfl f_y_377)⟩⟩))) hq fun v_381 H_380 bb hq W M rv => ?_
    rw [← e_kept_379] at rv
    have f_layout_318 := Rp.mv f_layout_318 M
    have f_pinned_330 := Rp.mv f_pinned_330 M
    have f_best_345 := Rp.mv f_best_345 M
    have f_kept_379 := rv
    refine (bnd_name : Bnd _ _ _ _ _) _ ?_
    dsimp only [List.set_cons_succ, List.set_cons_zero]
    obtain ⟨t_382, e_t_382, hm⟩ := bind_inv hm
    obtain ⟨actual_383, e_actual_383, hm⟩ := bnd_inv hm
    refine r_seqA ?_
    refine Ex.go W (ex_call (i := (size_313, layout_318, pinned_330, length_335, ())) W sb_bxs (ea_cons W (ex_vi rfl) (ea_cons W (ex_var W rfl f_layout_318) (ea_cons W (ex_var W rfl f_pinned_330) (ea_cons W (ex_vi rfl) ea_nil)))) e_t_382) hq fun v_385 H_384 bb hq W M rv => ?_
    rw [← e_actual_383] at rv
    have f_layout_318 := Rp.mv f_layout_318 M
    have f_pinned_330 := Rp.mv f_pinned_330 M
    have f_best_345 := Rp.mv f_best_345 M
    have f_kept_379 := Rp.mv f_kept_379 M
    have f_actual_383 := rv
    refine (bnd_name : Bnd _ _ _ _ _) _ ?_
    dsimp only [List.set_cons_succ, List.set_cons_zero]
    refine r_seq ?_
    refine r_ifS ?_
    refine Et.go W (et_test (ex_isN (ex_var W rfl f_best_345))) hq fun H_386 bb hq W M => ?_
    have f_layout_318 := Rp.mv f_layout_318 M
    have f_pinned_330 := Rp.mv f_pinned_330 M
    have f_best_345 := Rp.mv f_best_345 M
    have f_kept_379 := Rp.mv f_kept_379 M
    have f_actual_383 := Rp.mv f_actual_383 M
    refine ite_by (fun hc => ?_) (fun hc => ?_)
    · have hm := (if_pos hc).symm.trans hm
      have hm := Option.some.inj hm
      refine r_ret' ?_
      refine Ex.go W (ex_and' (ex_isN (ex_var W rfl f_actual_383)) fun _ => (ex_eqL W (by decide) (el_of W.hB (ex_var W rfl f_layout_318)) (el_of W.hB (ex_var W rfl f_kept_379)))) hq fun v H_387 bb hq W M rv => ?_
      have rv : v = V.bl ((actual_383.isNone && (decide (layout_318 = kept_379)))) := rv
      rw [show ((actual_383.isNone && (decide (layout_318 = kept_379)))) = true from hm] at rv
      rw [rv]
      exact Q _
    · have hm := (if_neg hc).symm.trans hm
      obtain ⟨best_388, e_best_388, hm⟩ := bind_inv hm
      have f_best_388 := rp_nar e_best_388 f_best_345
      refine r_next ?_
      try dsimp only
      have hm := Option.some.inj hm
      refine r_ret' ?_
      refine Ex.go W (ex_and' (ex_isiOT3 (ex_var W rfl f_actual_383)) fun _ => (ex_and' (ex_eqO W (by decide) (ex_var W rfl f_actual_383) (ex_some (ex_var W rfl f_best_388))) fun _ => (ex_eqL W (by decide) (el_of W.hB (ex_var W rfl f_layout_318)) (el_of W.hB (ex_var W rfl f_kept_379))))) hq fun v H_389 bb hq W M rv => ?_
      have rv : v = V.bl ((actual_383.isSome && ((decide (actual_383 = (some best_388))) && (decide (layout_318 = kept_379))))) := rv
      rw [show ((actual_383.isSome && ((decide (actual_383 = (some best_388))) && (decide (layout_318 = kept_379))))) = true from hm] at rv
      rw [rv]
      exact Q _
end
theorem all_mk {l : PySem.W.OpenLaw} {w : World} {K : PySem.W.Frag} {h : Heap} {mg : Str → Option Value} {fa f1 f2 f3 f4 f5 f6 f7 f8 f9 f10 f11 f12 f13 f14 f15 : Addr} (X : K.In h) (G : h.Ns mainGlobals mg) (hfa : mg "law" = some (.ref fa))
    {od1 an1 od2 an2 od3 an3 od4 an4 od5 an5 od6 an6 od7 an7 od8 an8 od9 an9 od10 an10 od11 an11 od12 an12 od13 an13 od14 an14 od15 an15 : Option Addr} {sl1 sl2 sl3 sl4 sl5 sl6 sl7 sl8 sl9 sl10 sl11 sl12 sl13 sl14 sl15 : Array (Option Value)} {oc1 kV1 dc1 pm1 ct1 cd1 oc2 kV2 dc2 pm2 ct2 cd2 oc3 kV3 dc3 pm3 ct3 cd3 oc4 kV4 dc4 pm4 ct4 cd4 oc5 kV5 dc5 pm5 ct5 cd5 oc6 kV6 dc6 pm6 ct6 cd6 oc7 kV7 dc7 pm7 ct7 cd7 oc8 kV8 dc8 pm8 ct8 cd8 oc9 kV9 dc9 pm9 ct9 cd9 oc10 kV10 dc10 pm10 ct10 cd10 oc11 kV11 dc11 pm11 ct11 cd11 oc12 kV12 dc12 pm12 ct12 cd12 oc13 kV13 dc13 pm13 ct13 cd13 oc14 kV14 dc14 pm14 ct14 cd14 oc15 kV15 dc15 pm15 ct15 cd15 : Value}
    (a1 : PySem.W.nsIn K mainGlobals "_law_cell" = some (some (.ref f1))) (l1 : K.lookup f1 = some ⟨oc1, od1, .func (PySem.W.fnOf "_law_cell" "_law_cell" (defArgs s_law_cell) (defBody s_law_cell) (defScope s_law_cell) .none kV1 dc1 pm1 an1 cd1 ct1), sl1⟩) (c1 : PySem.W.codeIn K cd1 "_law_cell" = true) (k1 : PySem.W.keepIn K (.ref f1) = true)
    (a2 : PySem.W.nsIn K mainGlobals "_law_digits" = some (some (.ref f2))) (l2 : K.lookup f2 = some ⟨oc2, od2, .func (PySem.W.fnOf "_law_digits" "_law_digits" (defArgs s_law_digits) (defBody s_law_digits) (defScope s_law_digits) .none kV2 dc2 pm2 an2 cd2 ct2), sl2⟩) (c2 : PySem.W.codeIn K cd2 "_law_digits" = true) (k2 : PySem.W.keepIn K (.ref f2) = true)
    (a3 : PySem.W.nsIn K mainGlobals "_law_draw" = some (some (.ref f3))) (l3 : K.lookup f3 = some ⟨oc3, od3, .func (PySem.W.fnOf "_law_draw" "_law_draw" (defArgs s_law_draw) (defBody s_law_draw) (defScope s_law_draw) .none kV3 dc3 pm3 an3 cd3 ct3), sl3⟩) (c3 : PySem.W.codeIn K cd3 "_law_draw" = true) (k3 : PySem.W.keepIn K (.ref f3) = true)
    (a4 : PySem.W.nsIn K mainGlobals "_law_blocks" = some (some (.ref f4))) (l4 : K.lookup f4 = some ⟨oc4, od4, .func (PySem.W.fnOf "_law_blocks" "_law_blocks" (defArgs s_law_blocks) (defBody s_law_blocks) (defScope s_law_blocks) .none kV4 dc4 pm4 an4 cd4 ct4), sl4⟩) (c4 : PySem.W.codeIn K cd4 "_law_blocks" = true) (k4 : PySem.W.keepIn K (.ref f4) = true)
    (a5 : PySem.W.nsIn K mainGlobals "_law_all" = some (some (.ref f5))) (l5 : K.lookup f5 = some ⟨oc5, od5, .func (PySem.W.fnOf "_law_all" "_law_all" (defArgs s_law_all) (defBody s_law_all) (defScope s_law_all) .none kV5 dc5 pm5 an5 cd5 ct5), sl5⟩) (c5 : PySem.W.codeIn K cd5 "_law_all" = true) (k5 : PySem.W.keepIn K (.ref f5) = true)
    (a6 : PySem.W.nsIn K mainGlobals "_law_start" = some (some (.ref f6))) (l6 : K.lookup f6 = some ⟨oc6, od6, .func (PySem.W.fnOf "_law_start" "_law_start" (defArgs s_law_start) (defBody s_law_start) (defScope s_law_start) .none kV6 dc6 pm6 an6 cd6 ct6), sl6⟩) (c6 : PySem.W.codeIn K cd6 "_law_start" = true) (k6 : PySem.W.keepIn K (.ref f6) = true)
    (a7 : PySem.W.nsIn K mainGlobals "gaps" = some (some (.ref f7))) (l7 : K.lookup f7 = some ⟨oc7, od7, .func (PySem.W.fnOf "gaps" "gaps" (defArgs s_gaps) (defBody s_gaps) (defScope s_gaps) .none kV7 dc7 pm7 an7 cd7 ct7), sl7⟩) (c7 : PySem.W.codeIn K cd7 "gaps" = true) (k7 : PySem.W.keepIn K (.ref f7) = true)
    (a8 : PySem.W.nsIn K mainGlobals "places" = some (some (.ref f8))) (l8 : K.lookup f8 = some ⟨oc8, od8, .func (PySem.W.fnOf "places" "places" (defArgs s_places) (defBody s_places) (defScope s_places) .none kV8 dc8 pm8 an8 cd8 ct8), sl8⟩) (c8 : PySem.W.codeIn K cd8 "places" = true) (k8 : PySem.W.keepIn K (.ref f8) = true)
    (a9 : PySem.W.nsIn K mainGlobals "placed" = some (some (.ref f9))) (l9 : K.lookup f9 = some ⟨oc9, od9, .func (PySem.W.fnOf "placed" "placed" (defArgs s_placed) (defBody s_placed) (defScope s_placed) .none kV9 dc9 pm9 an9 cd9 ct9), sl9⟩) (c9 : PySem.W.codeIn K cd9 "placed" = true) (k9 : PySem.W.keepIn K (.ref f9) = true)
    (a10 : PySem.W.nsIn K mainGlobals "relocated" = some (some (.ref f10))) (l10 : K.lookup f10 = some ⟨oc10, od10, .func (PySem.W.fnOf "relocated" "relocated" (defArgs s_relocated) (defBody s_relocated) (defScope s_relocated) .none kV10 dc10 pm10 an10 cd10 ct10), sl10⟩) (c10 : PySem.W.codeIn K cd10 "relocated" = true) (k10 : PySem.W.keepIn K (.ref f10) = true)
    (a11 : PySem.W.nsIn K mainGlobals "_room_behind_all" = some (some (.ref f11))) (l11 : K.lookup f11 = some ⟨oc11, od11, .func (PySem.W.fnOf "_room_behind_all" "_room_behind_all" (defArgs s_room_behind_all) (defBody s_room_behind_all) (defScope s_room_behind_all) .none kV11 dc11 pm11 an11 cd11 ct11), sl11⟩) (c11 : PySem.W.codeIn K cd11 "_room_behind_all" = true) (k11 : PySem.W.keepIn K (.ref f11) = true)
    (a12 : PySem.W.nsIn K mainGlobals "_choices" = some (some (.ref f12))) (l12 : K.lookup f12 = some ⟨oc12, od12, .func (PySem.W.fnOf "_choices" "_choices" (defArgs s_choices) (defBody s_choices) (defScope s_choices) .none kV12 dc12 pm12 an12 cd12 ct12), sl12⟩) (c12 : PySem.W.codeIn K cd12 "_choices" = true) (k12 : PySem.W.keepIn K (.ref f12) = true)
    (a13 : PySem.W.nsIn K mainGlobals "_room_from" = some (some (.ref f13))) (l13 : K.lookup f13 = some ⟨oc13, od13, .func (PySem.W.fnOf "_room_from" "_room_from" (defArgs s_room_from) (defBody s_room_from) (defScope s_room_from) .none kV13 dc13 pm13 an13 cd13 ct13), sl13⟩) (c13 : PySem.W.codeIn K cd13 "_room_from" = true) (k13 : PySem.W.keepIn K (.ref f13) = true)
    (a14 : PySem.W.nsIn K mainGlobals "cheapest_room" = some (some (.ref f14))) (l14 : K.lookup f14 = some ⟨oc14, od14, .func (PySem.W.fnOf "cheapest_room" "cheapest_room" (defArgs s_cheapest_room) (defBody s_cheapest_room) (defScope s_cheapest_room) .none kV14 dc14 pm14 an14 cd14 ct14), sl14⟩) (c14 : PySem.W.codeIn K cd14 "cheapest_room" = true) (k14 : PySem.W.keepIn K (.ref f14) = true)
    (a15 : PySem.W.nsIn K mainGlobals "law" = some (some (.ref f15))) (l15 : K.lookup f15 = some ⟨oc15, od15, .func (PySem.W.fnOf "law" "law" (defArgs s_law) (defBody s_law) (defScope s_law) .none kV15 dc15 pm15 an15 cd15 ct15), sl15⟩) (c15 : PySem.W.codeIn K cd15 "law" = true) (k15 : PySem.W.keepIn K (.ref f15) = true)
    (z_int : PySem.W.nsIn K mainGlobals "int" = some none)
    (z_isinstance : PySem.W.nsIn K mainGlobals "isinstance" = some none)
    (z_len : PySem.W.nsIn K mainGlobals "len" = some none)
    (z_min : PySem.W.nsIn K mainGlobals "min" = some none)
    (z_range : PySem.W.nsIn K mainGlobals "range" = some none)
    (z_reversed : PySem.W.nsIn K mainGlobals "reversed" = some none)
    (z_sorted : PySem.W.nsIn K mainGlobals "sorted" = some none)
    (z_sum : PySem.W.nsIn K mainGlobals "sum" = some none)
    (z_tuple : PySem.W.nsIn K mainGlobals "tuple" = some none)
    (z_zip : PySem.W.nsIn K mainGlobals "zip" = some none)
    : ∃ fd : FuncData, (∀ (s : Shared) (v : Value), BindsTo s fd ⟨[v], []⟩ [("script", v)]) ∧ ∀ base : Heap, K.In base → base.Ns mainGlobals mg → FnOk l.prog w K mg base CX0 4 fa fd ["script"] (sp_law K) := by
  have e := hfa.symm.trans (PySem.W.mg_of X G a15)
  cases e
  have T : Txt mg := ⟨PySem.W.mg_none_of X G z_int, PySem.W.mg_none_of X G z_isinstance, PySem.W.mg_none_of X G z_len, PySem.W.mg_none_of X G z_min, PySem.W.mg_none_of X G z_range, PySem.W.mg_none_of X G z_reversed, PySem.W.mg_none_of X G z_sorted, PySem.W.mg_none_of X G z_sum, PySem.W.mg_none_of X G z_tuple, PySem.W.mg_none_of X G z_zip⟩
  have F_law_cell := fun_mk (st := s_law_cell) l1 c1 k1
  have B_law_cell := F_law_cell.binds (ps := ["script", "k"]) fun _ _ _ _ _ _ us hl => match us, hl with | [_, _], _ => rfl
  have F_law_digits := fun_mk (st := s_law_digits) l2 c2 k2
  have B_law_digits := F_law_digits.binds (ps := ["script", "first", "last"]) fun _ _ _ _ _ _ us hl => match us, hl with | [_, _, _], _ => rfl
  have F_law_draw := fun_mk (st := s_law_draw) l3 c3 k3
  have B_law_draw := F_law_draw.binds (ps := ["box", "many"]) fun _ _ _ _ _ _ us hl => match us, hl with | [_, _], _ => rfl
  have F_law_blocks := fun_mk (st := s_law_blocks) l4 c4 k4
  have B_law_blocks := F_law_blocks.binds (ps := ["box", "size", "most"]) fun _ _ _ _ _ _ us hl => match us, hl with | [_, _, _], _ => rfl
  have F_law_all := fun_mk (st := s_law_all) l5 c5 k5
  have B_law_all := F_law_all.binds (ps := ["size", "layout", "pinned"]) fun _ _ _ _ _ _ us hl => match us, hl with | [_, _, _], _ => rfl
  have F_law_start := fun_mk (st := s_law_start) l6 c6 k6
  have B_law_start := F_law_start.binds (ps := ["size", "layout", "starts", "length"]) fun _ _ _ _ _ _ us hl => match us, hl with | [_, _, _, _], _ => rfl
  have F_gaps := fun_mk (st := s_gaps) l7 c7 k7
  have B_gaps := F_gaps.binds (ps := ["size", "layout"]) fun _ _ _ _ _ _ us hl => match us, hl with | [_, _], _ => rfl
  have F_places := fun_mk (st := s_places) l8 c8 k8
  have B_places := F_places.binds (ps := ["size", "layout", "length"]) fun _ _ _ _ _ _ us hl => match us, hl with | [_, _, _], _ => rfl
  have F_placed := fun_mk (st := s_placed) l9 c9 k9
  have B_placed := F_placed.binds (ps := ["layout", "starts"]) fun _ _ _ _ _ _ us hl => match us, hl with | [_, _], _ => rfl
  have F_relocated := fun_mk (st := s_relocated) l10 c10 k10
  have B_relocated := F_relocated.binds (ps := ["layout", "starts"]) fun _ _ _ _ _ _ us hl => match us, hl with | [_, _], _ => rfl
  have F_room_behind_all := fun_mk (st := s_room_behind_all) l11 c11 k11
  have B_room_behind_all := F_room_behind_all.binds (ps := ["size", "length"]) fun _ _ _ _ _ _ us hl => match us, hl with | [_, _], _ => rfl
  have F_choices := fun_mk (st := s_choices) l12 c12 k12
  have B_choices := F_choices.binds (ps := ["block", "is_pinned", "length", "end", "room", "behind"]) fun _ _ _ _ _ _ us hl => match us, hl with | [_, _, _, _, _, _], _ => rfl
  have F_room_from := fun_mk (st := s_room_from) l13 c13 k13
  have B_room_from := F_room_from.binds (ps := ["size", "block", "is_pinned", "length", "behind"]) fun _ _ _ _ _ _ us hl => match us, hl with | [_, _, _, _, _], _ => rfl
  have F_cheapest_room := fun_mk (st := s_cheapest_room) l14 c14 k14
  have B_cheapest_room := F_cheapest_room.binds (ps := ["size", "layout", "pinned", "length"]) fun _ _ _ _ _ _ us hl => match us, hl with | [_, _, _, _], _ => rfl
  have F_law := fun_mk (st := s_law) l15 c15 k15
  refine ⟨PySem.W.fnOf "law" "law" (defArgs s_law) (defBody s_law) (defScope s_law) .none kV15 dc15 pm15 an15 cd15 ct15, fun s v => .of_eq rfl, fun base _ _ => ?_⟩
  have C_law_cell := mk_law_cell (P := l.prog) (w := w) (base := base) T F_law_cell (PySem.W.mg_of X G a1) B_law_cell
  have C_law_digits := mk_law_digits (P := l.prog) (w := w) (base := base) T F_law_digits (PySem.W.mg_of X G a2) B_law_digits C_law_cell
  have C_law_draw := mk_law_draw (P := l.prog) (w := w) (base := base) T F_law_draw (PySem.W.mg_of X G a3) B_law_draw
  have C_law_blocks := mk_law_blocks (P := l.prog) (w := w) (base := base) T F_law_blocks (PySem.W.mg_of X G a4) B_law_blocks C_law_draw
  have C_law_all := mk_law_all (P := l.prog) (w := w) (base := base) T F_law_all (PySem.W.mg_of X G a5) B_law_all
  have C_law_start := mk_law_start (P := l.prog) (w := w) (base := base) T F_law_start (PySem.W.mg_of X G a6) B_law_start
  have C_gaps := mk_gaps (P := l.prog) (w := w) (base := base) T F_gaps (PySem.W.mg_of X G a7) B_gaps
  have C_places := mk_places (P := l.prog) (w := w) (base := base) T F_places (PySem.W.mg_of X G a8) B_places C_gaps
  have C_placed := mk_placed (P := l.prog) (w := w) (base := base) T F_placed (PySem.W.mg_of X G a9) B_placed
  have C_relocated := mk_relocated (P := l.prog) (w := w) (base := base) T F_relocated (PySem.W.mg_of X G a10) B_relocated C_placed
  have C_room_behind_all := mk_room_behind_all (P := l.prog) (w := w) (base := base) T F_room_behind_all (PySem.W.mg_of X G a11) B_room_behind_all
  have C_choices := mk_choices (P := l.prog) (w := w) (base := base) T F_choices (PySem.W.mg_of X G a12) B_choices
  have C_room_from := mk_room_from (P := l.prog) (w := w) (base := base) T F_room_from (PySem.W.mg_of X G a13) B_room_from C_choices
  have C_cheapest_room := mk_cheapest_room (P := l.prog) (w := w) (base := base) T F_cheapest_room (PySem.W.mg_of X G a14) B_cheapest_room C_places C_relocated C_room_behind_all C_room_from
  exact mk_law T F_law C_law_digits C_law_draw C_law_blocks C_law_all C_law_start C_cheapest_room
theorem walk {l : PySem.W.OpenLaw} {q : Program} {loose : List Str} {XP : (Str → Option Value) → Heap → Prop} {YP : World → Heap → Prop} {d : DefRec} {K : Params → PySem.W.Frag} (hn : l.most = some 63) (hdf : d.params.defaults = [])
    (hY : ∀ (w : World) (h : Heap), YP w h → (K w.params).In h)
    (F : ∀ (w : World) (mg : Str → Option Value) (fa : Addr) (h : Heap), (K w.params).In h → h.Ns mainGlobals mg → mg d.name = some (.ref fa) →
      ∃ fd : FuncData, (∀ (s : Shared) (u : Value), BindsTo s fd ⟨[u], []⟩ [("script", u)]) ∧ ∀ base : Heap, (K w.params).In base → base.Ns mainGlobals mg → FnOk l.prog w (K w.params) mg base CX0 4 fa fd ["script"] (sp_law (K w.params))) :
    PySem.W.WalkO q loose XP YP l.row.toRowW d [] (fun f vs => PySem.call f vs) :=
  L2.walk_of (n := 63) (k := 4) (x := "script") (CX := fun _ => CX0) (sp := fun w => sp_law (K w.params)) hn (by decide) hdf ⟨rfl, by decide, by decide⟩ hY F (fun _ _ a ns hl _ hS => ⟨a, ns, rfl, hS, hl, fun _ => rfl⟩) fun _ _ _ _ _ z => z
end Pf
open PySem PySem.W PyProof.Rows
set_option maxRecDepth 100000 in
set_option maxHeartbeats 0 in
theorem PySem.Challenge.cw_heapgame_k16_cheapest_room_holds : PySem.Challenge.rw_heapgame_k16_cheapest_room.Holds := by
  w_on; o_law; k_head; (case hw => w_witness2)
  k_fill
  refine Pf.walk (l := PySem.Challenge.rw_heapgame_k16_cheapest_room) rfl rfl (fun w h Y => PySem.W.kIn_of Y) ?F
  case F =>
    intro w mg fa h KX G hmg
    refine' Pf.all_mk KX G hmg ?a1 ?l1 ?c1 ?k1 ?a2 ?l2 ?c2 ?k2 ?a3 ?l3 ?c3 ?k3 ?a4 ?l4 ?c4 ?k4 ?a5 ?l5 ?c5 ?k5 ?a6 ?l6 ?c6 ?k6 ?a7 ?l7 ?c7 ?k7 ?a8 ?l8 ?c8 ?k8 ?a9 ?l9 ?c9 ?k9 ?a10 ?l10 ?c10 ?k10 ?a11 ?l11 ?c11 ?k11 ?a12 ?l12 ?c12 ?k12 ?a13 ?l13 ?c13 ?k13 ?a14 ?l14 ?c14 ?k14 ?a15 ?l15 ?c15 ?k15 ?z_int ?z_isinstance ?z_len ?z_min ?z_range ?z_reversed ?z_sorted ?z_sum ?z_tuple ?z_zip
    (case a1 => k_is)
    (case l1 => k_is)
    (case c1 => k_is)
    (case k1 => k_is)
    (case a2 => k_is)
    (case l2 => k_is)
    (case c2 => k_is)
    (case k2 => k_is)
    (case a3 => k_is)
    (case l3 => k_is)
    (case c3 => k_is)
    (case k3 => k_is)
    (case a4 => k_is)
    (case l4 => k_is)
    (case c4 => k_is)
    (case k4 => k_is)
    (case a5 => k_is)
    (case l5 => k_is)
    (case c5 => k_is)
    (case k5 => k_is)
    (case a6 => k_is)
    (case l6 => k_is)
    (case c6 => k_is)
    (case k6 => k_is)
    (case a7 => k_is)
    (case l7 => k_is)
    (case c7 => k_is)
    (case k7 => k_is)
    (case a8 => k_is)
    (case l8 => k_is)
    (case c8 => k_is)
    (case k8 => k_is)
    (case a9 => k_is)
    (case l9 => k_is)
    (case c9 => k_is)
    (case k9 => k_is)
    (case a10 => k_is)
    (case l10 => k_is)
    (case c10 => k_is)
    (case k10 => k_is)
    (case a11 => k_is)
    (case l11 => k_is)
    (case c11 => k_is)
    (case k11 => k_is)
    (case a12 => k_is)
    (case l12 => k_is)
    (case c12 => k_is)
    (case k12 => k_is)
    (case a13 => k_is)
    (case l13 => k_is)
    (case c13 => k_is)
    (case k13 => k_is)
    (case a14 => k_is)
    (case l14 => k_is)
    (case c14 => k_is)
    (case k14 => k_is)
    (case a15 => k_is)
    (case l15 => k_is)
    (case c15 => k_is)
    (case k15 => k_is)
    (case z_int => k_is)
    (case z_isinstance => k_is)
    (case z_len => k_is)
    (case z_min => k_is)
    (case z_range => k_is)
    (case z_reversed => k_is)
    (case z_sorted => k_is)
    (case z_sum => k_is)
    (case z_tuple => k_is)
    (case z_zip => k_is)
