import PyProof.Rows.All
import Wide.All
import OpenK.AllK
import Wide.FinOn
import HandS.ForMost
import HandS.Evl
import HandS.Wide
import HandS.Walk
import HandS.Conv
import HandS.IsInst
import HandS.Zip
import HandS.Deep
import HandS.SetFor
import HandS.Strs
import HandS.TupSets
import HandS.TupAny
import HandS.TupLe
import HandS.SortOrd
import HandS.SortRule
import HandS.SortInts
import HandS.SortKw
import HandS.Keys
import HandS.Flow
import HandS.SetKeys
import HandS.EndBits
import KE.DataMinMax
import KE.SortData
import PyProof.CallFns
import HandS.Exc
import HandS.ExcIs
import HandS.TryOnly
import HandS.DictComp
import HandS.Style
import PySem.Challenge.RW_fullapart_k21_runs_looked_at
set_option Elab.async false
set_option linter.all false
set_option maxRecDepth 100000
set_option maxHeartbeats 5000000
namespace Fa
open PySem PySem.Spec PyProof.Rows L2
def rIsNone : R2 := fun x y H Q => y = .non ∧ Q (.bl (decide (x = .non))) H
def rNotNone : R2 := fun x y H Q => y = .non ∧ Q (.bl (!decide (x = .non))) H
def rMin2 : List V → Hp → VK → Prop := fun xs H Q => ∃ i j, xs = [.int i, .int j] ∧ Q (.int (if j < i then j else i)) H
section
variable {K : PySem.W.Frag} {D : Ends} {σ : L2.St} {H : Hp} {Q : VK} {ta tb tc te : TE} {t u : TS} {b c : TT} {x y v : V} {r : R2} {i : Nat} {QB : Bool → Hp → Prop} {QA : List V → Hp → Prop}
theorem r_seq (h : t { D with nx := u D } σ H) : tSeq t u D σ H := h
theorem r_asg (h : te σ H fun x H1 => D.nx (σ.set i (some x)) H1) : tAsg te (gName i) D σ H := h
theorem r_asgG {g : TG} (h : te σ H fun x H1 => g x σ H1 D.nx) : tAsg te g D σ H := h
theorem r_par {i j : Nat} {ta : TA} (h : ta σ H fun vs H1 => ∃ v w, vs = [v, w] ∧ D.nx ((σ.set i (some v)).set j (some w)) H1) : tPar i j ta D σ H := h
theorem r_if (h : c σ H fun b H1 => if b = true then t D σ H1 else u D σ H1) : tIfS c t u D σ H := h
theorem r_ret (h : te σ H D.rt) : tRet te D σ H := h
theorem r_drop (h : te σ H fun _ H1 => D.nx σ H1) : tDrop te D σ H := h
theorem r_next (h : D.nx σ H) : tNext D σ H := h
theorem r_var (h : σ[i]? = some (some v)) (q : Q v H) : tVar i σ H Q := ⟨v, h, q⟩
theorem r_c (q : Q v H) : tC v σ H Q := q
theorem r_op (h : ta σ H fun x H1 => tb σ H1 fun y H2 => r x y H2 Q) : tOp r ta tb σ H Q := h
theorem r_un {f : V → Hp → VK → Prop} (h : ta σ H fun x H1 => f x H1 Q) : tUn f ta σ H Q := h
theorem r_I0 {g : Int → Int → V} {i j : Int} (q : Q (g i j) H) : rI0 g (.int i) (.int j) H Q := ⟨i, j, rfl, rfl, q⟩
theorem r_I {C : Int → Int → Prop} {g : Int → Int → V} {i j : Int} (hc : C i j) (q : Q (g i j) H) : rI C g (.int i) (.int j) H Q := ⟨i, j, rfl, rfl, hc, q⟩
theorem r_U {g : Int → V} {i : Int} (q : Q (g i) H) : rU g (.int i) H Q := ⟨i, rfl, q⟩
theorem r_test (h : te σ H fun x H' => ∃ k, x = .bl k ∧ QB k H') : tTest te σ H QB := h
theorem r_B (h : te σ H fun x H' => ∃ k, x = .bl k ∧ QB k H') : tB te σ H QB := h
theorem r_bl {k : Bool} {B : Bool → Prop} (q : B k) : ∃ k', V.bl k = V.bl k' ∧ B k' := ⟨k, rfl, q⟩
theorem r_eq (hs : scal x y = true) (q : Q (.bl (decide (x = y))) H) : rEq x y H Q := ⟨hs, q⟩
theorem r_ne (hs : scal x y = true) (q : Q (.bl (!decide (x = y))) H) : rNe x y H Q := ⟨hs, q⟩
theorem r_eqI {i j : Int} (q : Q (.bl (decide (i = j))) H) : rEq (.int i) (.int j) H Q := ⟨rfl, by
  have e : decide (V.int i = V.int j) = decide (i = j) := by by_cases h : i = j <;> simp [h]
  rw [e]; exact q⟩
theorem r_neI {i j : Int} (q : Q (.bl (!decide (i = j))) H) : rNe (.int i) (.int j) H Q := ⟨rfl, by
  have e : decide (V.int i = V.int j) = decide (i = j) := by by_cases h : i = j <;> simp [h]
  rw [e]; exact q⟩
theorem r_nil (q : QA [] H) : tNil σ H QA := q
theorem r_cons {tr : TA} (h : ta σ H fun x H1 => tr σ H1 fun xs H2 => QA (x :: xs) H2) : tCons ta tr σ H QA := h
theorem r_tup {ta : TA} (h : ta σ H fun xs H1 => xs.length ≤ sizeLine ∧ ∀ p, H1 p = none → Q (.ref p) (upd H1 p (.tup xs))) : tTup ta σ H Q := h
theorem r_lst {ta : TA} (h : ta σ H fun xs H1 => xs.length ≤ sizeLine ∧ ∀ p, H1 p = none → Q (.ref p) (upd H1 p (.lst xs))) : tLst ta σ H Q := h
theorem r_call {sp : Sp} {dvs : List V} {E : XK} {ta : TA} (h : ta σ H fun vs H1 => sp (vs ++ dvs) H1 Q E) : tCall sp dvs E ta σ H Q := h
theorem r_cb {f : List V → Hp → VK → Prop} {ta : TA} (h : ta σ H fun vs H1 => f vs H1 Q) : tCB f ta σ H Q := h
theorem r_and {b c : TT} (h : b σ H fun k H1 => if k = true then c σ H1 QB else QB false H1) : tAnd b c σ H QB := h
theorem r_or {b c : TT} (h : b σ H fun k H1 => if k = true then QB true H1 else c σ H1 QB) : tOr b c σ H QB := h
theorem r_not {b : TT} (h : b σ H fun k H1 => QB (!k) H1) : tNot b σ H QB := h
theorem r_andV (h : ta σ H fun x H1 => ∃ c, x = .bl c ∧ if c = true then tb σ H1 Q else Q (.bl false) H1) : tAndV ta tb σ H Q := h
theorem r_orV (h : ta σ H fun x H1 => ∃ c, x = .bl c ∧ if c = true then Q (.bl true) H1 else tb σ H1 Q) : tOrV ta tb σ H Q := h
theorem r_notV (h : ta σ H fun x H1 => ∃ c, x = .bl c ∧ Q (.bl (!c)) H1) : tNotV ta σ H Q := h
theorem r_ifE (h : b σ H fun c H1 => if c = true then ta σ H1 Q else tb σ H1 Q) : tIf b ta tb σ H Q := h
theorem r_ixL {p : Addr} {xs : List V} {i : Int} (hl : SqL K H p xs) (ha : atI xs i = some v) (q : Q v H) : rIxL K (.ref p) (.int i) H Q := ⟨p, xs, i, v, rfl, rfl, hl, ha, q⟩
theorem r_ixT {p : Addr} {xs : List V} {i : Int} (hl : SqT K H p xs) (ha : atI xs i = some v) (q : Q v H) : rIxT K (.ref p) (.int i) H Q := ⟨p, xs, i, v, rfl, rfl, hl, ha, q⟩
theorem r_gSub {to ti : TE} {ts : TSet} {QS : L2.St → Hp → Prop} (h : to σ H fun o H1 => ti σ H1 fun i H2 => ts o i v H2 fun H3 => QS σ H3) : gSub to ti ts v σ H QS := h
theorem r_setL {p : Addr} {xs : List V} {k : Int} {j : Nat} {QH : Hp → Prop} (hl : H p = some (.lst xs)) (hj : ixN xs.length k = some j) (q : QH (upd H p (.lst (xs.set j v)))) : rSetL (.ref p) (.int k) v H QH := ⟨p, xs, k, j, rfl, rfl, hl, hj, q⟩
theorem r_sl {f : V → Option Int → Option Int → Hp → VK → Prop} {tl th : TO} (h : te σ H fun x H1 => tl σ H1 fun l H2 => th σ H2 fun u H3 => f x l u H3 Q) : tSl f te tl th σ H Q := h
theorem r_noPart {QO : Option Int → Hp → Prop} (h : QO none H) : tNoPart σ H QO := h
theorem r_part {QO : Option Int → Hp → Prop} (h : te σ H fun x H1 => ∃ i, x = .int i ∧ QO (some i) H1) : tPart te σ H QO := h
theorem r_partI {i : Int} {B : Int → Prop} (q : B i) : ∃ i', V.int i = V.int i' ∧ B i' := ⟨i, rfl, q⟩
theorem r_slL {a : Addr} {xs : List V} {lo hi : Option Int} (h : SqL K H a xs) (k : ∀ p, H p = none → Q (.ref p) (upd H p (.lst (cutV xs lo hi)))) : rSlL K (.ref a) lo hi H Q := ⟨a, xs, rfl, h, k⟩
theorem r_for {wi : TI} {g : TG} (h : wi σ H fun J H1 => ∃ W : Nat → Nat → L2.St → Hp → Prop, (∃ m, W 0 m σ H1) ∧ ∀ i m σ H, W i m σ H →
  (J.stop i H ∧ D.nx σ H) ∨ (J.go i H ∧ ∃ N : L2.St → Hp → Prop, (∀ σ' H', N σ' H' → ∃ m', m' < m ∧ W (i + 1) m' σ' H') ∧ ∀ x H', J.yld i H x H' → g x σ H' fun σ2 H2 => t { D with nx := N, ct := N, bk := D.nx } σ2 H2)) : tFor wi g t D σ H := h
theorem r_iList {R : It → Hp → Prop} (h : te σ H fun x H1 => ∃ a, x = .ref a ∧ (∃ xs, SqL K H1 a xs) ∧ R (Itl K a) H1) : iList K te σ H R := h
theorem r_iTup {R : It → Hp → Prop} (h : te σ H fun x H1 => ∃ a, x = .ref a ∧ (∃ xs, SqT K H1 a xs) ∧ R (Itt K a) H1) : iTup K te σ H R := h
theorem r_iRng1 {ta : TA} {R : It → Hp → Prop} (h : ta σ H fun vs H1 => ∃ j : Int, vs = [.int j] ∧ -(2 ^ 62) ≤ j ∧ j < 2 ^ 62 ∧ R (Itr 0 j.toNat) H1) : iRng1 ta σ H R := h
theorem r_iRng2 {ta : TA} {R : It → Hp → Prop} (h : ta σ H fun vs H1 => ∃ i j : Int, vs = [.int i, .int j] ∧ (-(2 ^ 62) ≤ i ∧ i < 2 ^ 62 ∧ -(2 ^ 62) ≤ j ∧ j < 2 ^ 62) ∧ R (Itr i (j - i).toNat) H1) : iRng2 ta σ H R := h
theorem r_iEnum {ta : TA} {R : It → Hp → Prop} (h : ta σ H fun vs H1 => ∃ a xs, vs = [.ref a] ∧ SqL K H1 a xs ∧ R (Ite K a) H1) : iEnum K ta σ H R := h
theorem r_iZip {ta : TA} {R : It → Hp → Prop} (h : ta σ H fun vs H1 => ∃ a b xs ys, vs = [.ref a, .ref b] ∧ SqL K H1 a xs ∧ SqL K H1 b ys ∧ R (Itz K a b) H1) : iZip K ta σ H R := h
theorem r_gName {i : Nat} {QS : L2.St → Hp → Prop} (q : QS (σ.set i (some v)) H) : gName i v σ H QS := q
theorem r_gTup2 {i j n : Nat} {a : Addr} {QS : L2.St → Hp → Prop} (hn : 2 = n) (hs : SqT K H a [x, y]) (q : QS ((σ.set i (some x)).set j (some y)) H) : gTup K n (gCons (gName i) (gCons (gName j) gNil)) (.ref a) σ H QS :=
  ⟨a, [x, y], rfl, hs, hn, x, [y], rfl, y, [], rfl, rfl, q⟩
theorem r_bm {T : String} {f : V → List V → Hp → VK → Prop} {ta : TA} (h : te σ H fun x H1 => tyV K T x H1 ∧ ta σ H1 fun xs H2 => f x xs H2 Q) : tBM K T f te ta σ H Q := h
theorem r_bm0 {T : String} {f : V → List V → Hp → VK → Prop} (h : te σ H fun x H1 => tyV K T x H1 ∧ f x [] H1 Q) : tBM0 K T f te σ H Q := h
theorem r_app {l : Addr} {xs : List V} (h : H l = some (.lst xs)) (hz : xs.length < 100000) (q : Q .non (upd H l (.lst (xs ++ [y])))) : rAppend (.ref l) [y] H Q := ⟨l, xs, y, rfl, rfl, h, Evl.sz_lt hz, q⟩
theorem tyL {a : Addr} {xs : List V} (h : SqL K H a xs) : tyV K "list" (.ref a) H := .inl ⟨rfl, xs, h⟩
theorem r_isN {A : Prop} (q : A) : V.non = V.non ∧ A := ⟨rfl, q⟩
theorem iteRT {c : Bool} {A B : Prop} (h : c = true) (q : A) : if c = true then A else B := by rw [if_pos h]; exact q
theorem iteRF {c : Bool} {A B : Prop} (h : c = false) (q : B) : if c = true then A else B := by rw [if_neg (by rw [h]; decide)]; exact q
theorem iteB {c : Bool} {A B : Prop} (h1 : c = true → A) (h2 : c = false → B) : if c = true then A else B := by
  cases c
  · exact iteF (h2 rfl)
  · exact iteT (h1 rfl)
theorem r_isi {t' : String} {T : String} {b : Bool} (ty : TyX K H x (.type t')) (h : kitB t' T = some b) (q : Q (.bl b) H) : rIsi K [x, .ty T] H Q := ⟨x, .ty T, .type t', .type T, b, rfl, .ty T, ty, kit_ty h, q⟩
theorem r_isiT {t' : String} {T : String} (ty : TyX K H x (.type t')) (h : kitB t' T = some true) (q : Q (.bl true) H) : rIsi K [x, .ty T] H Q := r_isi ty h q
theorem r_isiF {t' : String} {T : String} (ty : TyX K H x (.type t')) (h : kitB t' T = some false) (q : Q (.bl false) H) : rIsi K [x, .ty T] H Q := r_isi ty h q
theorem tyx_L {a : Addr} {xs : List V} (h : SqL K H a xs) : TyX K H (.ref a) (.type "list") := by
  rcases h with (h | ⟨o, h⟩) | ⟨o, its, n, h, c, _⟩
  · exact .base (.lst h)
  · exact .base (.frz h)
  · exact .kList h c
theorem tyx_T {a : Addr} {xs : List V} (h : SqT K H a xs) : TyX K H (.ref a) (.type "tuple") := by
  rcases h with (h | ⟨o, h⟩) | ⟨o, its, n, h, c, _⟩
  · exact .base (.tup h)
  · exact .fTuple h
  · exact .kTuple h c
theorem walk_zipT {a b : Addr} {xs ys : List V} {n : Nat} (hn : n = min xs.length ys.length) : Walk (RZ.ItzT K a b) n (fun H => SqT K H a xs ∧ SqT K H b ys) (YPair (fun i => xs[i]?) (fun i => ys[i]?)) := by
  subst hn
  refine ⟨fun i _ hi q => ?_, fun _ q => ⟨xs, ys, q.1, q.2, by omega⟩, fun i H v H' _ q y => ?_⟩
  · have h1 : i < xs.length := by omega
    have h2 : i < ys.length := by omega
    exact ⟨xs, ys, xs[i], ys[i], q.1, q.2, by simp [h1], by simp [h2]⟩
  · obtain ⟨T', x', z, h1, h2, h3, h4, h5⟩ := y
    exact ⟨T', x', z, h1, h2, h3, h4 xs q.1, h5 ys q.2⟩
theorem r_lc {wi : TI} {g : TG} {tt : TT} {vs : List Nat} (h : wi σ H fun J H1 => ∀ D, H1 D = none → ∃ W : Nat → Nat → Hp → Prop, (∃ m, W 0 m (upd H1 D (.lst []))) ∧ ∀ i m H, W i m H →
  (J.stop i H ∧ Q (.ref D) H) ∨ (J.go i H ∧ ∃ Nx : Hp → Prop, (∀ H', Nx H' → ∃ m', m' < m ∧ W (i + 1) m' H') ∧ ∀ x H', J.yld i H x H' → g x (wipe σ vs) H' fun σ2 H2 => wipe σ2 vs = wipe σ vs ∧ tt σ2 H2 fun b H3 =>
    if b = true then te σ2 H3 fun y H4 => ∃ acc, H4 D = some (.lst acc) ∧ acc.length < sizeLine ∧ Nx (upd H4 D (.lst (acc ++ [y]))) else Nx H3)) : tLc wi g tt te vs σ H Q := h
theorem r_yes (q : QB true H) : tYes σ H QB := q
theorem r_iZipA {ta : TA} {R : It → Hp → Prop} (h : ta σ H fun vs H1 => ∃ a b xs ys, vs = [.ref a, .ref b] ∧ ((SqL K H1 a xs ∧ SqL K H1 b ys ∧ R (Itz K a b) H1) ∨ (SqT K H1 a xs ∧ SqT K H1 b ys ∧ R (RZ.ItzT K a b) H1))) : RZ.iZipA K ta σ H R := h
theorem r_lstRg {f : L2.St → Hp → (Int → Int → Hp → Prop) → Prop} (h : f σ H fun a b H1 => RgOk a b ∧ ∀ q, H1 q = none → Q (.ref q) (upd H1 q (.lst (rgV a b)))) : tLstRg f σ H Q := h
theorem r_rg1 {QR : Int → Int → Hp → Prop} (h : ta σ H fun x H1 => ∃ n, x = .int n ∧ QR 0 n H1) : tRg1 ta σ H QR := h
theorem r_min2 {i j : Int} {B : Int → Int → Prop} (q : B i j) : ∃ i' j', [V.int i, V.int j] = [V.int i', V.int j'] ∧ B i' j' := ⟨i, j, rfl, q⟩
theorem r_par2 {x y : V} {B : V → V → Prop} (q : B x y) : ∃ v w, [x, y] = [v, w] ∧ B v w := ⟨x, y, rfl, q⟩
theorem r_popAt {l : Addr} {xs : List V} {i : Int} {y : V} (h : H l = some (.lst xs)) (h0 : 0 ≤ i) (h1 : i < (xs.length : Int)) (hs : xs.length ≤ 1000000) (hy : xs[i.toNat]? = some y) (q : Q y (upd H l (.lst (xs.eraseIdx i.toNat)))) : rPopAt (.ref l) [.int i] H Q :=
  ⟨l, xs, i, i.toNat, y, rfl, rfl, h, by omega, by omega, seqIndex_of h0 h1, hy, q⟩
theorem r_len {p : Addr} {xs : List V} (hl : SqL K H p xs ∨ SqT K H p xs) (q : Q (.int (xs.length : Int)) H) : (fun xs H Q => ∃ p ys, xs = [.ref p] ∧ (SqL K H p ys ∨ SqT K H p ys) ∧ Q (.int (List.length ys : Int)) H : List V → Hp → VK → Prop) [.ref p] H Q := ⟨p, xs, rfl, hl, q⟩
end
/-- all but what stands at p is as it was -/
def ExB (p : Addr) (H H' : Hp) : Prop := ∀ a o, a ≠ p → H a = some o → H' a = some o
theorem ExB.refl (p : Addr) (H : Hp) : ExB p H H := fun _ _ _ h => h
theorem ExB.trans {p : Addr} {H H1 H2 : Hp} (a : ExB p H H1) (b : ExB p H1 H2) : ExB p H H2 := fun c o n h => b c o n (a c o n h)
theorem ExB.of {p : Addr} {H H' : Hp} (e : Evl.Ex H H') : ExB p H H' := fun a o _ h => e a o h
theorem ExB.upd {p : Addr} {H : Hp} {o : HO} : ExB p H (upd H p o) := fun a u n h => by rw [upd_ne n]; exact h
theorem ExB.new {p q : Addr} {H : Hp} {o : HO} (h : H q = none) : ExB p H (L2.upd H q o) := ExB.of (Evl.Ex.new h)
theorem ExB.mut {p q : Addr} {H H' : Hp} {o : HO} (e : ExB p H H') (h : H q = none) : ExB p H (L2.upd H' q o) := fun a u n ha => by
  rw [upd_ne (ne_of_none ha h)]
  exact e a u n ha
/-- tuples stay -/
def ExT (H H' : Hp) : Prop := ∀ a xs, H a = some (.tup xs) → H' a = some (.tup xs)
/-- the law's pot: its cells at c, a place, a rest -/
def PotC (H : Hp) (p c : Addr) : Prop := ∃ (cs : List Int) (at' r : Int), H p = some (.lst [.ref c, .int at', .int r]) ∧ H c = some (.lst (cs.map V.int)) ∧ c ≠ p ∧ 0 ≤ at' ∧ 0 ≤ r ∧ cs.length ≤ 100
theorem PotC.np {H : Hp} {p c q : Addr} (h : PotC H p c) (n : H q = none) : q ≠ p := by
  obtain ⟨cs, a, r, h1, _⟩ := h
  exact (ne_of_none h1 n).symm
theorem PotC.nc {H : Hp} {p c q : Addr} (h : PotC H p c) (n : H q = none) : q ≠ c := by
  obtain ⟨cs, a, r, h1, h2, _⟩ := h
  exact (ne_of_none h2 n).symm
theorem PotC.upd {H : Hp} {p c q : Addr} {o : HO} (h : PotC H p c) (n1 : q ≠ p) (n2 : q ≠ c) : PotC (L2.upd H q o) p c := by
  obtain ⟨cs, a, r, h1, h2, h3⟩ := h
  exact ⟨cs, a, r, by rw [upd_ne n1.symm]; exact h1, by rw [upd_ne n2.symm]; exact h2, h3⟩
theorem PotC.new {H : Hp} {p c q : Addr} {o : HO} (h : PotC H p c) (n : H q = none) : PotC (L2.upd H q o) p c := h.upd (h.np n) (h.nc n)
theorem PotC.ex {H H' : Hp} {p c : Addr} (h : PotC H p c) (e : Evl.Ex H H') : PotC H' p c := by
  obtain ⟨cs, a, r, h1, h2, h3⟩ := h
  exact ⟨cs, a, r, e _ _ h1, e _ _ h2, h3⟩
theorem PotC.t {H H' : Hp} {p c : Addr} (h : PotC H p c) (e : ExB p H H') : ExT H H' := fun a xs ha => by
  obtain ⟨cs, at', r, h1, _⟩ := h
  exact e a _ (ne_of ha h1 (by intro z; cases z)) ha
theorem ExT.trans {H H1 H2 : Hp} (a : ExT H H1) (b : ExT H1 H2) : ExT H H2 := fun x o h => b x o (a x o h)
theorem ExT.of {H H' : Hp} (e : Evl.Ex H H') : ExT H H' := fun a xs h => e a _ h
theorem ExT.lst {H : Hp} {q : Addr} {xs : List V} {o : HO} (h : H q = some (.lst xs)) : ExT H (L2.upd H q o) := fun a ys ha => by
  rw [upd_ne (ne_of ha h (by intro z; cases z))]
  exact ha
theorem small_up {u : Int} (h0 : 0 < u) (h : u ≤ 100000) : u.natAbs < 2 ^ 1000 := Nat.lt_of_lt_of_le (show u.natAbs < 100001 by omega) (by decide)
theorem atI_of {α : Type} {xs : List α} {i : Int} {v : α} (h0 : 0 ≤ i) (h : xs[i.toNat]? = some v) : atI xs i = some v := by
  have e : ((i.toNat : Nat) : Int) = i := by omega
  rw [← e]
  exact atI_nat h
theorem atI_int {cs : List Int} {i : Int} (h0 : 0 ≤ i) (h1 : i < (cs.length : Int)) : atI (cs.map V.int) i = some (.int (cs.getD i.toNat 0)) := by
  refine atI_of h0 ?_
  have hi : i.toNat < cs.length := by omega
  rw [List.getElem?_map, List.getElem?_eq_getElem hi, List.getD_eq_getElem?_getD, List.getElem?_eq_getElem hi]
  rfl
def cutG {α : Type} (xs : List α) (lo hi : Option Int) : List α := (xs.drop (HT.sIx xs.length 0 lo)).take (HT.sIx xs.length xs.length hi - HT.sIx xs.length 0 lo)
theorem cutV_map {α : Type} (f : α → V) (xs : List α) (lo hi : Option Int) : cutV (xs.map f) lo hi = (cutG xs lo hi).map f := by
  unfold cutV cutG
  rw [List.length_map, List.map_take, List.map_drop]
theorem cutG_take {α : Type} (xs : List α) (k : Nat) : cutG xs none (some (k : Int)) = xs.take k := by
  unfold cutG
  rw [HT.sIx_none, HT.sIx_nat, List.drop_zero, Nat.sub_zero]
  by_cases h : k ≤ xs.length
  · rw [Nat.min_eq_left h]
  · rw [Nat.min_eq_right (by omega), List.take_length, List.take_of_length_le (by omega)]
theorem cutG_drop {α : Type} (xs : List α) (k : Nat) : cutG xs (some (k : Int)) none = xs.drop k := by
  unfold cutG
  rw [HT.sIx_none, HT.sIx_nat]
  by_cases h : k ≤ xs.length
  · rw [Nat.min_eq_left h, List.take_of_length_le (by rw [List.length_drop]; exact Nat.le_refl _)]
  · rw [Nat.min_eq_right (by omega), List.drop_length, List.drop_of_length_le (by omega), List.take_nil]
theorem cutG_len {α : Type} (xs : List α) (i j : Nat) : (cutG xs (some (i : Int)) (some (j : Int))).length ≤ j - i ∧ (xs.length ≤ i → (cutG xs (some (i : Int)) (some (j : Int))).length = 0) := by
  unfold cutG
  rw [HT.sIx_nat, HT.sIx_nat, List.length_take, List.length_drop]
  omega
theorem dpAll_get {K : PySem.W.Frag} {H : Hp} : ∀ {xs : List V} {ds : List PyData}, DpAll K H xs ds → xs.length = ds.length ∧ ∀ (i : Nat) (x : V), xs[i]? = some x → ∃ d, ds[i]? = some d ∧ Dp K H x d
  | _, _, .nil => ⟨rfl, fun i x h => by simp at h⟩
  | _, _, .cons h t => by
    obtain ⟨e, f⟩ := dpAll_get t
    refine ⟨by simp [e], fun i x hx => ?_⟩
    cases i with
    | zero => exact ⟨_, rfl, (Option.some.inj hx) ▸ h⟩
    | succ i => exact f i x hx
mutual
theorem Dp.ex {K : PySem.W.Frag} {H H' : Hp} (e : Evl.Ex H H') : ∀ (d : PyData) (v : V), Dp K H v d → Dp K H' v d
  | .none, _, h => by cases h; exact .non
  | .bool _, _, h => by cases h; exact .bl _
  | .int _, _, h => by cases h; exact .int _
  | .str _, _, h => by cases h; exact .str _
  | .list ds, _, h => by
    cases h with
    | lst h1 h2 => exact .lst (Evl.ex_l e h1) (DpAll.ex e ds _ h2)
  | .tuple ds, _, h => by
    cases h with
    | tup h1 h2 => exact .tup (Evl.ex_t e h1) (DpAll.ex e ds _ h2)
  | .dict _, _, h => by cases h
theorem DpAll.ex {K : PySem.W.Frag} {H H' : Hp} (e : Evl.Ex H H') : ∀ (ds : List PyData) (vs : List V), DpAll K H vs ds → DpAll K H' vs ds
  | [], _, h => by cases h; exact .nil
  | d :: ds, _, h => by
    cases h with
    | cons h1 h2 => exact .cons (Dp.ex e d _ h1) (DpAll.ex e ds _ h2)
end
theorem depthAll_mem : ∀ {ds : List PyData} {d : PyData}, d ∈ ds → d.depth ≤ PyData.depthAll ds
  | x :: r, d, h => by
    rw [PyData.depthAll]
    rcases List.mem_cons.mp h with rfl | h
    · omega
    · have := depthAll_mem h
      omega
theorem inV_rep (n : Nat) : inV (.bl false) (List.replicate n (V.bl true)) = false := by
  induction n with
  | zero => rfl
  | succ n ih => rw [List.replicate_succ]; simp [inV, eqV] at ih ⊢
theorem flat_rep (n : Nat) : (List.replicate n (V.bl true)).all flatV = true := by
  induction n with
  | zero => rfl
  | succ n ih => rw [List.replicate_succ, List.all_cons, ih]; rfl
mutual
def wd : PyData → Bool
  | .list ds => decide (ds.length ≤ 100000) && wdAll ds
  | .tuple ds => decide (ds.length ≤ 100000) && wdAll ds
  | .dict _ => false
  | _ => true
def wdAll : List PyData → Bool
  | [] => true
  | d :: r => wd d && wdAll r
end
theorem wdAll_mem : ∀ {ds : List PyData} {d : PyData}, wdAll ds = true → d ∈ ds → wd d = true
  | x :: r, d, h, hd => by
    rw [wdAll, Bool.and_eq_true] at h
    rcases List.mem_cons.mp hd with rfl | hd
    · exact h.1
    · exact wdAll_mem h.2 hd
/-! ### data -/
theorem shaped_ints (cs : List Int) : SeqAt.shaped (.list (cs.map PyData.int)) = true := by
  have h1 : PyData.canLayAll0 (cs.map PyData.int) = true := by
    induction cs with
    | nil => rfl
    | cons x r ih => simp [PyData.canLayAll0, PyData.canLay0, ih]
  have h2 : PyData.depthAll (cs.map PyData.int) ≤ 1 := by
    induction cs with
    | nil => simp [PyData.depthAll]
    | cons x r ih =>
      have := ih (by rw [List.map_cons, PyData.canLayAll0, Bool.and_eq_true] at h1; exact h1.2)
      simp [PyData.depthAll, PyData.depth]
      omega
  unfold SeqAt.shaped
  rw [Bool.and_eq_true]
  refine ⟨by rw [PyData.canLay0]; exact h1, decide_eq_true ?_⟩
  rw [PyData.depth]
  omega
theorem dpAll_ints {K : PySem.W.Frag} {H : Hp} : ∀ cs : List Int, DpAll K H (cs.map V.int) (cs.map PyData.int)
  | [] => .nil
  | x :: r => .cons (.int x) (dpAll_ints r)
theorem dp_ints {K : PySem.W.Frag} {H : Hp} {c : Addr} {cs : List Int} (h : SqL K H c (cs.map V.int)) : Dp K H (.ref c) (.list (cs.map PyData.int)) := .lst h (dpAll_ints cs)
/-! ### numbers from 0 on -/
def rgI (n : Int) : List Int := (List.range n.toNat).map fun i => ((i : Nat) : Int)
theorem rgI_len (n : Int) : (rgI n).length = n.toNat := by unfold rgI; rw [List.length_map, List.length_range]
theorem rgI_mem {n x : Int} : x ∈ rgI n ↔ 0 ≤ x ∧ x < n := by
  unfold rgI
  rw [List.mem_map]
  constructor
  · rintro ⟨i, hi, rfl⟩
    rw [List.mem_range] at hi
    omega
  · rintro ⟨h0, h1⟩
    exact ⟨x.toNat, List.mem_range.mpr (by omega), by omega⟩
theorem rgI_nd (n : Int) : (rgI n).Nodup := by
  unfold rgI
  refine List.Pairwise.map _ ?_ List.nodup_range
  intro a b h e
  exact h (by omega)
theorem rgV_eq (n : Int) : rgV 0 n = (rgI n).map V.int := by
  unfold rgV rgI
  rw [List.map_map, show n - 0 = n by omega]
  congr 1
  funext i
  show V.int (0 + (i : Nat)) = V.int ((i : Nat) : Int)
  rw [Int.zero_add]
/-! ### webs -/
def Lx (a b : Int × Int) : Prop := a.1 < b.1 ∨ (a.1 = b.1 ∧ a.2 < b.2)
structure WebOk (many : Int) (ties : List (Int × Int)) : Prop where
  lo : 1 ≤ many
  hi : many ≤ 60
  ok : ∀ t ∈ ties, 0 ≤ t.1 ∧ t.1 < t.2 ∧ t.2 < many
  up : ties.Pairwise Lx
def tieD (t : Int × Int) : PyData := .tuple [.int t.1, .int t.2]
def webD (many : Int) (ties : List (Int × Int)) : PyData := .tuple [.int many, .tuple (ties.map tieD)]
/-- the pair of two houses' places, the lesser ahead, as the law's min and max tell it -/
def fP (pl : List Int) (i j : Nat) : Int × Int :=
  (if pl.getD j 0 < pl.getD i 0 then pl.getD j 0 else pl.getD i 0, if pl.getD j 0 > pl.getD i 0 then pl.getD j 0 else pl.getD i 0)
theorem nd_ix {pl : List Int} (h : pl.Nodup) {i j : Nat} (hi : i < pl.length) (hj : j < pl.length) (e : pl.getD i 0 = pl.getD j 0) : i = j := by
  rw [List.getD_eq_getElem?_getD, List.getD_eq_getElem?_getD, List.getElem?_eq_getElem hi, List.getElem?_eq_getElem hj] at e
  have e : pl[i] = pl[j] := e
  have hp := List.pairwise_iff_getElem.mp h
  rcases Nat.lt_trichotomy i j with q | q | q
  · exact absurd e (hp i j hi hj q)
  · exact q
  · exact absurd e.symm (hp j i hj hi q)
theorem fP_inj {pl : List Int} (h : pl.Nodup) {i j i' j' : Nat} (h1 : i < j) (h2 : j < pl.length) (h3 : i' < j') (h4 : j' < pl.length) (e : fP pl i j = fP pl i' j') : i = i' ∧ j = j' := by
  have e1 := congrArg Prod.fst e
  have e2 := congrArg Prod.snd e
  unfold fP at e1 e2
  simp only at e1 e2
  have ne1 : pl.getD i 0 ≠ pl.getD j 0 := fun q => by have := nd_ix h (by omega) h2 q; omega
  have ne2 : pl.getD i' 0 ≠ pl.getD j' 0 := fun q => by have := nd_ix h (by omega) h4 q; omega
  have alt : (pl.getD i 0 = pl.getD i' 0 ∧ pl.getD j 0 = pl.getD j' 0) ∨ (pl.getD i 0 = pl.getD j' 0 ∧ pl.getD j 0 = pl.getD i' 0) := by
    generalize pl.getD i 0 = a at *
    generalize pl.getD j 0 = b at *
    generalize pl.getD i' 0 = c at *
    generalize pl.getD j' 0 = d at *
    split at e1 <;> split at e2 <;> split at e1 <;> split at e2 <;> omega
  rcases alt with ⟨q1, q2⟩ | ⟨q1, q2⟩
  · exact ⟨nd_ix h (by omega) (by omega) q1, nd_ix h (by omega) (by omega) q2⟩
  · have a := nd_ix h (by omega) (by omega) q1
    have b := nd_ix h (by omega) (by omega) q2
    omega
/-- the pairs so far: unlike, each of two indexes ahead of (one, other) -/
structure PsOk (pl : List Int) (ps : List (Int × Int)) (one other : Nat) : Prop where
  nd : ps.Nodup
  of : ∀ t ∈ ps, ∃ i j : Nat, i < j ∧ j < pl.length ∧ (i < one ∨ (i = one ∧ j < other)) ∧ t = fP pl i j
theorem PsOk.mono {pl : List Int} {ps : List (Int × Int)} {a b c d : Nat} (h : PsOk pl ps a b) (hle : ∀ i j : Nat, i < j → j < pl.length → (i < a ∨ (i = a ∧ j < b)) → (i < c ∨ (i = c ∧ j < d))) : PsOk pl ps c d :=
  ⟨h.nd, fun t ht => by
    obtain ⟨i, j, h1, h2, h3, h4⟩ := h.of t ht
    exact ⟨i, j, h1, h2, hle i j h1 h2 h3, h4⟩⟩
theorem PsOk.snoc {pl : List Int} {ps : List (Int × Int)} {a b : Nat} (hn : pl.Nodup) (h : PsOk pl ps a b) (hab : a < b) (hb : b < pl.length) : PsOk pl (ps ++ [fP pl a b]) a (b + 1) := by
  refine ⟨?_, fun t ht => ?_⟩
  · refine List.nodup_append.mpr ⟨h.nd, by simp, fun x hx y hy e => ?_⟩
    rw [List.mem_singleton] at hy
    subst hy
    obtain ⟨i, j, h1, h2, h3, h4⟩ := h.of x hx
    rw [e] at h4
    have := fP_inj hn hab hb h1 h2 h4
    omega
  · rcases List.mem_append.mp ht with ht | ht
    · obtain ⟨i, j, h1, h2, h3, h4⟩ := h.of t ht
      exact ⟨i, j, h1, h2, by omega, h4⟩
    · rw [List.mem_singleton] at ht
      exact ⟨a, b, hab, hb, by omega, ht⟩
theorem PsOk.valid {pl : List Int} {ps : List (Int × Int)} {a b : Nat} {many : Int} (hp : pl.Perm (rgI many)) (h : PsOk pl ps a b) : ∀ t ∈ ps, 0 ≤ t.1 ∧ t.1 < t.2 ∧ t.2 < many := fun t ht => by
  obtain ⟨i, j, h1, h2, h3, rfl⟩ := h.of t ht
  have hn : pl.Nodup := hp.nodup_iff.mpr (rgI_nd many)
  have mem : ∀ k, k < pl.length → 0 ≤ pl.getD k 0 ∧ pl.getD k 0 < many := fun k hk => by
    rw [List.getD_eq_getElem?_getD, List.getElem?_eq_getElem hk]
    exact rgI_mem.mp (hp.mem_iff.mp (List.getElem_mem hk))
  have m1 := mem i (by omega)
  have m2 := mem j h2
  have ne : pl.getD i 0 ≠ pl.getD j 0 := fun q => by have := nd_ix hn (by omega) h2 q; omega
  unfold fP
  simp only
  generalize pl.getD i 0 = x at *
  generalize pl.getD j 0 = y at *
  split <;> split <;> omega
theorem sorted_up {ps ps' : List (Int × Int)} (hn : ps.Nodup) (hp : ps'.Perm ps) (hs : ps'.Pairwise fun a b => SrtO.lexB b a = false) : ps'.Pairwise Lx := by
  have hn' : ps'.Nodup := hp.nodup_iff.mpr hn
  refine List.Pairwise.imp₂ ?_ hs hn'
  intro a b h ne
  have := SrtO.lexB_no.mp h
  obtain ⟨a1, a2⟩ := a
  obtain ⟨b1, b2⟩ := b
  have : ¬ (a1 = b1 ∧ a2 = b2) := fun q => ne (by rw [q.1, q.2])
  unfold Lx
  simp only at *
  omega
/-! ### tuples of two on the heap -/
def TupsAt (H : Hp) (rs : List V) (ps : List (Int × Int)) : Prop := Paired (fun r (p : Int × Int) => ∃ t, r = V.ref t ∧ H t = some (.tup [.int p.1, .int p.2])) rs ps
theorem TupsAt.mono {H H' : Hp} (e : ExT H H') : ∀ {rs : List V} {ps : List (Int × Int)}, TupsAt H rs ps → TupsAt H' rs ps
  | _, _, .nil => .nil
  | _, _, .cons ⟨t, h1, h2⟩ r => .cons ⟨t, h1, e t _ h2⟩ (TupsAt.mono e r)
theorem TupsAt.snoc {H : Hp} {t : Addr} {p : Int × Int} (ht : H t = some (.tup [.int p.1, .int p.2])) : ∀ {rs : List V} {ps : List (Int × Int)}, TupsAt H rs ps → TupsAt H (rs ++ [.ref t]) (ps ++ [p])
  | _, _, .nil => .cons ⟨t, rfl, ht⟩ .nil
  | _, _, .cons h r => .cons h (TupsAt.snoc ht r)
def pairOf (H : Hp) : V → Int × Int
  | .ref t => match H t with
    | some (.tup [.int a, .int b]) => (a, b)
    | _ => (0, 0)
  | _ => (0, 0)
theorem pairOf_at {H : Hp} {t : Addr} {p : Int × Int} (h : H t = some (.tup [.int p.1, .int p.2])) : pairOf H (.ref t) = p := by
  unfold pairOf
  simp only [h]
theorem TupsAt.map : ∀ {H : Hp} {rs : List V} {ps : List (Int × Int)}, TupsAt H rs ps → rs.map (pairOf H) = ps
  | _, _, _, .nil => rfl
  | H, _, _, .cons ⟨t, h1, h2⟩ r => by
    rw [List.map_cons, TupsAt.map r, h1, pairOf_at h2]
theorem TupsAt.all : ∀ {H : Hp} {rs : List V} {ps : List (Int × Int)}, TupsAt H rs ps → ∀ x ∈ rs, ∃ t, x = V.ref t ∧ H t = some (.tup [.int (pairOf H x).1, .int (pairOf H x).2])
  | _, _, _, .cons ⟨t, h1, h2⟩ r, x, hx => by
    rcases List.mem_cons.mp hx with e | hx
    · rw [e, h1]
      exact ⟨t, rfl, by rw [pairOf_at h2]; exact h2⟩
    · exact TupsAt.all r x hx
theorem tupsAt_of {H : Hp} : ∀ rs : List V, (∀ x ∈ rs, ∃ t, x = V.ref t ∧ H t = some (.tup [.int (pairOf H x).1, .int (pairOf H x).2])) → TupsAt H rs (rs.map (pairOf H))
  | [], _ => .nil
  | x :: r, h => .cons (h x List.mem_cons_self) (tupsAt_of r fun y hy => h y (List.mem_cons_of_mem _ hy))
theorem TupsAt.dp {K : PySem.W.Frag} {H : Hp} : ∀ {rs : List V} {ps : List (Int × Int)}, TupsAt H rs ps → DpAll K H rs (ps.map tieD)
  | _, _, .nil => .nil
  | _, _, .cons ⟨t, h1, h2⟩ r => by
    rw [h1]
    exact .cons (.tup (SqT.of h2) (.cons (.int _) (.cons (.int _) .nil))) (TupsAt.dp r)
/-- what is handed back: a web at a new tuple -/
theorem web_dp {K : PySem.W.Frag} {H : Hp} {q t : Addr} {many : Int} {rs : List V} {ps : List (Int × Int)} (h1 : SqT K H q [.int many, .ref t]) (h2 : SqT K H t rs) (h3 : DpAll K H rs (ps.map tieD)) : Dp K H (.ref q) (webD many ps) :=
  .tup h1 (.cons (.int _) (.cons (.tup h2 h3) .nil))
theorem eraseIdx_perm {α : Type} : ∀ (l : List α) (k : Nat) (y : α), l[k]? = some y → (y :: l.eraseIdx k).Perm l
  | [], _, _, h => by simp at h
  | x :: r, 0, y, h => by
    have e : x = y := Option.some.inj h
    rw [e]
    exact List.Perm.refl _
  | x :: r, k + 1, y, h => by
    have ih := eraseIdx_perm r k y (by simpa using h)
    rw [List.eraseIdx_cons_succ]
    exact (List.Perm.swap x y _).trans (ih.cons x)
theorem map_eraseIdx {α β : Type} (f : α → β) : ∀ (l : List α) (k : Nat), (l.map f).eraseIdx k = (l.eraseIdx k).map f
  | [], _ => rfl
  | _ :: _, 0 => rfl
  | x :: r, k + 1 => by rw [List.map_cons, List.eraseIdx_cons_succ, List.eraseIdx_cons_succ, List.map_cons, map_eraseIdx f r k]
theorem sort_same {a b : List Int} (hp : a.Perm b) (ha : a.Pairwise (· ≤ ·)) (hb : b.Pairwise (· ≤ ·)) : a = b :=
  hp.eq_of_pairwise (fun x y _ _ h1 h2 => Int.le_antisymm h1 h2) ha hb
theorem sort_of_lt {a : List Int} (h : a.Pairwise (· < ·)) : a.Pairwise (· ≤ ·) := h.imp fun q => Int.le_of_lt q
theorem len_le_of_sub {α : Type} [DecidableEq α] : ∀ {l m : List α}, l.Nodup → (∀ x ∈ l, x ∈ m) → l.length ≤ m.length
  | [], m, _, _ => Nat.zero_le _
  | x :: r, m, hn, hs => by
    have hx : x ∈ m := hs x List.mem_cons_self
    have h1 : r.length ≤ (m.erase x).length := len_le_of_sub (List.pairwise_cons.mp hn).2 fun y hy => (List.mem_erase_of_ne fun e => (List.pairwise_cons.mp hn).1 y hy e.symm).mpr (hs y (List.mem_cons_of_mem _ hy))
    rw [List.length_erase_of_mem hx] at h1
    have := List.length_pos_of_mem hx
    rw [List.length_cons]
    omega
/-- the other house of a tie that has h -/
def oth (h : Int) (t : Int × Int) : Option Int := if t.1 = h then some t.2 else if t.2 = h then some t.1 else none
/-- the houses that h is tied to -/
def nbr (ties : List (Int × Int)) (h : Int) : List Int := ties.filterMap (oth h)
theorem nbr_snoc (ties : List (Int × Int)) (t : Int × Int) (h : Int) : nbr (ties ++ [t]) h = nbr ties h ++ (oth h t).toList := by
  unfold nbr
  rw [List.filterMap_append]
  cases e : oth h t <;> simp [e]
theorem nbr_up {many : Int} {ties : List (Int × Int)} (W : WebOk many ties) (h : Int) : (nbr ties h).Pairwise (· < ·) := by
  unfold nbr
  rw [List.pairwise_filterMap]
  have hok := W.ok
  refine List.Pairwise.imp_of_mem ?_ W.up
  intro a b ma mb hab x hx y hy
  have ha := hok a ma
  have hb := hok b mb
  unfold oth at hx hy
  unfold Lx at hab
  split at hx <;> split at hy <;> (try split at hx) <;> (try split at hy) <;> simp at hx hy <;> omega
theorem nbr_mem {ties : List (Int × Int)} {h x : Int} : x ∈ nbr ties h ↔ ∃ t ∈ ties, oth h t = some x := by
  unfold nbr
  rw [List.mem_filterMap]
theorem nbr_iff {many : Int} {ties : List (Int × Int)} (W : WebOk many ties) {h x : Int} : x ∈ nbr ties h ↔ (h, x) ∈ ties ∨ (x, h) ∈ ties := by
  rw [nbr_mem]
  constructor
  · rintro ⟨⟨a, b⟩, ht, he⟩
    unfold oth at he
    simp only at he
    split at he
    · rename_i e
      cases he
      cases e
      exact .inl ht
    · split at he
      · rename_i e
        cases he
        cases e
        exact .inr ht
      · cases he
  · rintro (ht | ht)
    · exact ⟨_, ht, by unfold oth; rw [if_pos rfl]⟩
    · have := W.ok _ ht
      exact ⟨_, ht, by unfold oth; rw [if_neg (by simp only at this ⊢; omega), if_pos rfl]⟩
theorem nbr_range {many : Int} {ties : List (Int × Int)} (W : WebOk many ties) {h x : Int} (hx : x ∈ nbr ties h) : 0 ≤ x ∧ x < many := by
  rcases (nbr_iff W).mp hx with q | q
  · have := W.ok _ q; simp only at this; omega
  · have := W.ok _ q; simp only at this; omega
theorem nbr_len {many : Int} {ties : List (Int × Int)} (W : WebOk many ties) (h : Int) : (nbr ties h).length ≤ 60 := by
  have := len_le_of_sub (l := nbr ties h) (m := rgI many) ((nbr_up W h).imp fun q => Int.ne_of_lt q) fun x hx => rgI_mem.mpr (nbr_range W hx)
  rw [rgI_len] at this
  have := W.hi
  omega
theorem ties_len {many : Int} {ties : List (Int × Int)} (W : WebOk many ties) : ties.length ≤ 3600 := by
  have hn : ties.Nodup := W.up.imp fun {a b} h => by
    rintro rfl
    unfold Lx at h
    omega
  have s : ties.length ≤ ((List.range 60).flatMap fun i => (List.range 60).map fun j => (((i : Nat) : Int), ((j : Nat) : Int))).length := by
    refine len_le_of_sub hn fun t ht => ?_
    have := W.ok t ht
    have := W.hi
    rw [List.mem_flatMap]
    refine ⟨t.1.toNat, List.mem_range.mpr (by omega), List.mem_map.mpr ⟨t.2.toNat, List.mem_range.mpr (by omega), ?_⟩⟩
    obtain ⟨a, b⟩ := t
    simp only at *
    congr 1 <;> omega
  have e : ((List.range 60).flatMap fun i => (List.range 60).map fun j => (((i : Nat) : Int), ((j : Nat) : Int))).length = 3600 := by decide +kernel
  omega
def intsD (ns : List Int) : PyData := .list (ns.map PyData.int)
/-- for each house the houses that it is tied to -/
def besD (many : Int) (ties : List (Int × Int)) : PyData := .list ((rgI many).map fun h => intsD (nbr ties h))
theorem dp_intsD {K : PySem.W.Frag} {H : Hp} {a : Addr} {ns : List Int} (h : SqL K H a (ns.map V.int)) : Dp K H (.ref a) (intsD ns) := dp_ints h
/-- what stands behind a datum that is a list of ints -/
theorem intsD_at {K : PySem.W.Frag} {H : Hp} {v : V} {ns : List Int} (h : Dp K H v (intsD ns)) : ∃ a, v = .ref a ∧ SqL K H a (ns.map V.int) := by
  unfold intsD at h
  cases h with
  | lst hs ha =>
    rename_i a xs
    have e : xs = ns.map V.int := by
      clear hs
      induction ns generalizing xs with
      | nil => cases ha; rfl
      | cons n r ih =>
        cases ha with
        | cons h1 h2 =>
          cases h1
          rw [List.map_cons, ih h2]
    subst e
    exact ⟨a, rfl, hs⟩
theorem tieD_at {K : PySem.W.Frag} {H : Hp} {v : V} {t : Int × Int} (h : Dp K H v (tieD t)) : ∃ a, v = .ref a ∧ SqT K H a [.int t.1, .int t.2] := by
  unfold tieD at h
  cases h with
  | tup hs ha =>
    cases ha with
    | cons h1 h2 =>
      cases h1
      cases h2 with
      | cons h3 h4 =>
        cases h3
        cases h4
        exact ⟨_, rfl, hs⟩
theorem webD_at {K : PySem.W.Frag} {H : Hp} {v : V} {many : Int} {ties : List (Int × Int)} (h : Dp K H v (webD many ties)) : ∃ a b xs, v = .ref a ∧ SqT K H a [.int many, .ref b] ∧ SqT K H b xs ∧ DpAll K H xs (ties.map tieD) := by
  unfold webD at h
  cases h with
  | tup hs ha =>
    cases ha with
    | cons h1 h2 =>
      cases h1
      cases h2 with
      | cons h3 h4 =>
        cases h4
        cases h3 with
        | tup h5 h6 => exact ⟨_, _, _, rfl, hs, h5, h6⟩
theorem listD_at {K : PySem.W.Frag} {H : Hp} {v : V} {ds : List PyData} (h : Dp K H v (.list ds)) : ∃ a xs, v = .ref a ∧ SqL K H a xs ∧ DpAll K H xs ds := by
  cases h with
  | lst hs ha => exact ⟨_, _, rfl, hs, ha⟩
theorem besD_at {K : PySem.W.Frag} {H : Hp} {v : V} {many : Int} {ties : List (Int × Int)} (h : Dp K H v (besD many ties)) : ∃ a xs, v = .ref a ∧ SqL K H a xs ∧ xs.length = many.toNat ∧
    ∀ i : Int, 0 ≤ i → i < many → ∃ b, atI xs i = some (.ref b) ∧ SqL K H b ((nbr ties i).map V.int) := by
  obtain ⟨a, xs, rfl, hs, ha⟩ := listD_at h
  obtain ⟨hl, hg⟩ := dpAll_get ha
  rw [List.length_map, rgI_len] at hl
  refine ⟨a, xs, rfl, hs, hl, fun i h0 h1 => ?_⟩
  have hi : i.toNat < xs.length := by omega
  obtain ⟨d, e1, e2⟩ := hg i.toNat xs[i.toNat] (List.getElem?_eq_getElem hi)
  have e3 : d = intsD (nbr ties i) := by
    rw [List.getElem?_map] at e1
    unfold rgI at e1
    rw [List.getElem?_map, List.getElem?_range (by omega)] at e1
    have := Option.some.inj e1
    rw [← this]
    simp only
    rw [show ((i.toNat : Nat) : Int) = i by omega]
  subst e3
  obtain ⟨b, e4, e5⟩ := intsD_at e2
  exact ⟨b, atI_of h0 (by rw [List.getElem?_eq_getElem hi, e4]), e5⟩
theorem dpAll_ix {K : PySem.W.Frag} {H : Hp} : ∀ {xs : List V} {ds : List PyData}, xs.length = ds.length → (∀ (i : Nat) (x : V) (d : PyData), xs[i]? = some x → ds[i]? = some d → Dp K H x d) → DpAll K H xs ds
  | [], [], _, _ => .nil
  | [], _ :: _, h, _ => by simp at h
  | _ :: _, [], h, _ => by simp at h
  | x :: xs, d :: ds, h, f => .cons (f 0 x d rfl rfl) (dpAll_ix (by simpa using h) fun i y e h1 h2 => f (i + 1) y e (by simpa using h1) (by simpa using h2))
theorem rgI_get {n : Int} {i : Nat} (h : (i : Int) < n) : (rgI n)[i]? = some (i : Int) := by
  unfold rgI
  rw [List.getElem?_map, List.getElem?_range (by omega)]
  rfl
theorem bes_dp {K : PySem.W.Frag} {H : Hp} {q : Addr} {bs : List Addr} {many : Int} {ties : List (Int × Int)} (h : SqL K H q (bs.map V.ref)) (hl : bs.length = many.toNat)
    (hb : ∀ (k : Nat) (b : Addr), bs[k]? = some b → SqL K H b ((nbr ties (k : Int)).map V.int)) : Dp K H (.ref q) (besD many ties) := by
  refine .lst h (dpAll_ix (by rw [List.length_map, List.length_map, rgI_len, hl]) fun i x d h1 h2 => ?_)
  rw [List.getElem?_map] at h1 h2
  cases e : bs[i]? with
  | none => rw [e] at h1; cases h1
  | some b =>
    rw [e] at h1
    cases h1
    have hi : i < bs.length := (List.getElem?_eq_some_iff.mp e).1
    rw [rgI_get (by omega)] at h2
    cases h2
    exact dp_intsD (hb i b e)
theorem nd_ix' {α : Type} {l : List α} (h : l.Nodup) {i j : Nat} {a : α} (hi : l[i]? = some a) (hj : l[j]? = some a) : i = j := by
  have hp := List.pairwise_iff_getElem.mp h
  obtain ⟨h1, e1⟩ := List.getElem?_eq_some_iff.mp hi
  obtain ⟨h2, e2⟩ := List.getElem?_eq_some_iff.mp hj
  rcases Nat.lt_trichotomy i j with q | q | q
  · exact absurd (e1.trans e2.symm) (hp i j h1 h2 q)
  · exact q
  · exact absurd (e2.trans e1.symm) (hp j i h2 h1 q)
/-- a list of lists: for each house the houses that it is tied to -/
def BesAt (H : Hp) (v : V) (many : Int) (ties : List (Int × Int)) : Prop := ∃ (q : Addr) (bs : List Addr), v = .ref q ∧ H q = some (.lst (bs.map V.ref)) ∧ bs.length = many.toNat ∧ ∀ (k : Nat) (b : Addr), bs[k]? = some b → H b = some (.lst ((nbr ties (k : Int)).map V.int))
theorem BesAt.dp {K : PySem.W.Frag} {H : Hp} {v : V} {many : Int} {ties : List (Int × Int)} (h : BesAt H v many ties) : Dp K H v (besD many ties) := by
  obtain ⟨q, bs, rfl, h1, h2, h3⟩ := h
  exact bes_dp (SqL.of h1) h2 fun k b hb => SqL.of (h3 k b hb)
theorem BesAt.ex {H H' : Hp} {v : V} {many : Int} {ties : List (Int × Int)} (h : BesAt H v many ties) (e : Evl.Ex H H') : BesAt H' v many ties := by
  obtain ⟨q, bs, rfl, h1, h2, h3⟩ := h
  exact ⟨q, bs, rfl, e _ _ h1, h2, fun k b hb => e _ _ (h3 k b hb)⟩
theorem BesAt.at {H : Hp} {v : V} {many : Int} {ties : List (Int × Int)} (h : BesAt H v many ties) : ∃ (q : Addr) (xs : List V), v = .ref q ∧ H q = some (.lst xs) ∧ ∀ i : Int, 0 ≤ i → i < many → ∃ b, atI xs i = some (.ref b) ∧ H b = some (.lst ((nbr ties i).map V.int)) := by
  obtain ⟨q, bs, rfl, h1, h2, h3⟩ := h
  refine ⟨q, _, rfl, h1, fun i h0 hi => ?_⟩
  have lt : i.toNat < bs.length := by omega
  refine ⟨bs[i.toNat], atI_of h0 (by rw [List.getElem?_map, List.getElem?_eq_getElem lt]; rfl), ?_⟩
  have := h3 i.toNat _ (List.getElem?_eq_getElem lt)
  rw [show ((i.toNat : Nat) : Int) = i by omega] at this
  exact this
/-! ### set(xs) of a list of ints: a set, told as the layer tells those of its own -/
abbrev emptyS (w : World) : Obj := { cls := .type "set", dict := none, data := .set #[] 0 (.fresh 0 0 (!w.params.followText "set-order")) }
section
variable {P : Program} {w : World} {A : Around} {E : Value → Shared → Prop} {s : Shared}
set_option maxHeartbeats 9000000 in
theorem call_set_ofList {a : Addr} {its : Array Value} (ks : List Int) {Q : Value → Shared → Prop} (calm : A.handled = none) (isl : s.heap.IsList a its) (are : IntsAre its.toList ks) (few : ks.length + 1 < scanBound)
    (out : ∀ (g : Heap) (tk n : Nat), SetR w g s.heap.objs.size (fun j => decide (j ∈ ks)) n → n ≤ ks.length → (∀ b o, s.heap.get? b = some o → g.get? b = some o) → Q (.ref s.heap.objs.size) { s with heap := g, toks := tk }) :
    wpAny (model P w) A (call (.type "set") [.ref a]) Q E s := by
  have size_is : its.size = ks.length := by
    have z := IntsAre.length are
    rwa [Array.length_toList] at z
  have cs := F.called_set
  obtain ⟨m1, m2, m3⟩ := cs.mro
  have made := cs.made
  have subs := cs.sub
  have nty := cs.notType
  have can := cs.canCreate
  have tcall := F.typeCall_set_1 (.ref a)
  refine wpAny_call (codeAny_of_tree ?_)
  show wpAny _ _ (callAny (Value.type "set") _) _ _ _
  refine wpAny_pure ⟨Code.quiet_builtin _ (by decide +kernel), codeAny_builtin F.entry_type_call ?_⟩
  rw [Around.under_plain (weight_type_call_type "set" [.ref a] []) rfl]
  repeat (any_goals (first | wp_step | assumption))
  refine codeAny_mono (code_set_led1 (.ref a) (E := E) (Q₁ := fun v s1 => v = .ref s.heap.objs.size ∧ s1 = { s with heap := s.heap.push (emptyS w) }) ⟨rfl, rfl⟩) fun res s1 got => ?_
  cases res with
  | error _ => exact got
  | ok flow =>
    cases flow with
    | ret v =>
      obtain ⟨rfl, rfl⟩ := got
      have at0 : (s.heap.push (emptyS w)).get? s.heap.objs.size = some (emptyS w) := Heap.get?_push_size _ rfl
      have ty0 : Shared.TypeIs { s with heap := s.heap.push (emptyS w) } (.ref s.heap.objs.size) "set" := ⟨_, at0, rfl⟩
      have ini1 := cs.init.lookup
      have ini2 := cs.init.bind (.ref s.heap.objs.size)
      repeat (any_goals (first | wp_step | assumption))
      refine codeAny_mono (codeAny_call_builtin (R := wants (fun r s2 => r = .none ∧ ∃ g tk n, s2 = { s with heap := g, toks := tk } ∧ SetR w g s.heap.objs.size (fun j => decide (j ∈ ks)) n ∧ n ≤ ks.length ∧ (∀ b o, s.heap.get? b = some o → g.get? b = some o)) E) cs.init.plain F.entry_set_init (check_set_init_1 ty0 ?_)) fun res2 s2 got2 => ?_
      · obtain ⟨ob, hob, hcl, n0, hdt⟩ := isl
        obtain ⟨k1, k2, k3, k4⟩ := ob
        simp only at hcl hdt
        subst hcl hdt
        have under : a < s.heap.objs.size := Heap.lt_size hob
        have hob2 : (s.heap.push (emptyS w)).get? a = some { cls := .type "list", dict := k2, data := .seq its n0, slots := k4 } := Heap.get?_push_of_some _ hob
        have t1 := F.sub_list_set
        have t2 := F.sub_list_frozenset
        have t3 : (Value.type "list" == Value.type "dict") = false := by decide
        have isl2 : (s.heap.push (emptyS w)).IsList a its := ⟨_, hob2, rfl, n0, rfl⟩
        unfold Builtin.«set.__init__» noKeywords Builtin.Frozenset.updateFrom
        generalize hit : pyIter = iter
        wp_walk
        subst hit
        refine wpAny_pyIter_list isl2 (wpAny_bind (wpAny_runValue ?_))
        have calm3 : A.in1.in1.in1.handled = none := by simp [calm]
        have apart : a ≠ (s.heap.push (emptyS w)).objs.size := by
          rw [Heap.size_push]
          exact Nat.ne_of_lt (Nat.lt_succ_of_lt under)
        have notin : s.heap.objs.size ∉ [(s.heap.push (emptyS w)).objs.size, a] := by
          intro m
          rw [Heap.size_push] at m
          rcases List.mem_cons.mp m with m | m
          · exact absurd m (Nat.ne_of_lt (Nat.lt_succ_self _))
          · exact absurd (List.mem_singleton.mp m) (Nat.ne_of_gt under)
        have vals : ∀ (i : Nat) (v : Value), its[i]? = some v → ∃ k t, ks[i]? = some k ∧ v = .int k t := fun i v hv => by
          have lt : i < ks.length := size_is ▸ (Array.getElem?_eq_some_iff.mp hv).1
          obtain ⟨t, e⟩ := IntsAre.int_at are i v (by rw [Array.getElem?_toList]; exact hv)
          rw [List.getD_eq_getElem?_getD, List.getElem?_eq_getElem lt] at e
          exact ⟨ks[i], t, List.getElem?_eq_getElem lt, e⟩
        refine set_update_ints (Walks.list calm3 _ a apart its).toS s.heap.objs.size notin ks size_is few vals (its.size - 0) 0 _ (by omega) (Nat.zero_le _) ⟨⟨_, Heap.get?_push_size _ rfl, rfl, rfl⟩, isl2.push _⟩ ?first ?last
        case first => exact ⟨0, Nat.le_refl 0, setR_new_at (Heap.get?_push_of_some _ at0)⟩
        case last =>
          intro s3 n3 moved le3 set3
          obtain ⟨g3, e1, e2, tk3, e3⟩ := s3
          have q1 : e1 = s.gens := moved.gens
          have q2 : e2 = s.drawn := moved.drawn
          have q3 : e3 = s.os := moved.os
          subst q1 q2 q3
          rw [size_is] at le3
          refine wpAny_pure (wpAny_pure ⟨rfl, g3, tk3, n3, rfl, set3, le3, fun b o e => ?_⟩)
          have under2 : b < s.heap.objs.size := Heap.lt_size e
          refine moved.heap b o (fun m => ?_) (Heap.get?_push_of_some _ (Heap.get?_push_of_some _ e))
          rcases List.mem_cons.mp m with m | m
          · exact absurd m (Nat.ne_of_lt under2)
          · have m := List.mem_singleton.mp m
            rw [Heap.size_push] at m
            exact absurd m (Nat.ne_of_lt (Nat.lt_succ_of_lt under2))
      · cases res2 with
        | error _ => exact got2
        | ok flow2 =>
          cases flow2 with
          | ret _ =>
            obtain ⟨rfl, g, tk, n, rfl, y1, y2, y3⟩ := got2
            repeat (any_goals (first | wp_step | assumption))
            exact out _ _ _ y1 y2 y3
          | _ => exact got2.elim
    | _ => exact got.elim
end
section
variable {X : Cx}
/-- set(xs), xs a list of ints -/
def rSetOfL (K : PySem.W.Frag) (w : World) : List V → Hp → VK → Prop := fun vs H Q => ∃ (a : Addr) (ns : List Int), vs = [.ref a] ∧ SqL K H a (ns.map V.int) ∧ ns.length ≤ 1000 ∧
  ∀ (q : Addr) (n : Nat), H q = none → n ≤ ns.length → Q (.ref q) (upd H q (SetO w q (fun j => decide (j ∈ ns)) n))
theorem cr_setL (hc : X.calm = true) : CallR X (.type "set") (rSetOfL X.K X.w) := by
  intro pins s σ H vs us Q I r h
  obtain ⟨a, ns, rfl, hs, hl, q⟩ := h
  obtain ⟨its, rv, pl, hz⟩ := I.list hs
  rw [Vals.ref1 r]
  refine call_set_ofList ns (I.ok.hd hc) pl.isList (by simpa using rv.ints) (Nat.lt_of_le_of_lt (Nat.add_le_add_right hl 1) (by decide)) fun g tk n S hn kp => ?_
  exact ⟨.ref _, _, I.laid (t' := tk) kp (Nat.le_refl _) (setO_new S), rfl, q _ n I.fresh hn⟩
end
/-! ### what a set lacks -/
def tieIn (some' : List Int) (t : Int × Int) : Bool := decide (t.1 ∈ some') && decide (t.2 ∈ some')
def firstTie (ties : List (Int × Int)) (some' : List Int) : Option (Int × Int) := ties.find? (tieIn some')
/-- a house in the set, or tied to one in it -/
def cov (ties : List (Int × Int)) (some' : List Int) (h : Int) : Bool := decide (h ∈ some') || (nbr ties h).any fun x => decide (x ∈ some')
def firstBare (many : Int) (ties : List (Int × Int)) (some' : List Int) : Option Int := (rgI many).find? fun h => !cov ties some' h
def tieO : Option (Int × Int) → PyData
  | none => .none
  | some t => tieD t
def intO : Option Int → PyData
  | none => .none
  | some i => .int i
def lacksD (many : Int) (ties : List (Int × Int)) (some' : List Int) : PyData :=
  match firstTie ties some' with
  | some t => .tuple [.str "tied", .int t.1, .int t.2]
  | none => match firstBare many ties some' with
    | some h => .tuple [.str "bare", .int h]
    | none => .none
/-- a set of houses: rising -/
structure SetOk (many : Int) (some' : List Int) : Prop where
  up : some'.Pairwise (· < ·)
  ok : ∀ h ∈ some', 0 ≤ h ∧ h < many
theorem SetOk.len {many : Int} {some' : List Int} (h : SetOk many some') (h60 : many ≤ 60) : some'.length ≤ 60 := by
  have := len_le_of_sub (l := some') (m := rgI many) (h.up.imp fun q => Int.ne_of_lt q) fun x hx => rgI_mem.mpr (h.ok x hx)
  rw [rgI_len] at this
  omega
theorem SetOk.nd {many : Int} {some' : List Int} (h : SetOk many some') : some'.Nodup := h.up.imp fun q => Int.ne_of_lt q
/-- find?, turn by turn -/
theorem find_take {α : Type} (f : α → Bool) : ∀ (l : List α) (i : Nat), (∀ x ∈ l.take i, f x = false) → ∀ x, l[i]? = some x → f x = true → l.find? f = some x
  | [], _, _, _, h, _ => by simp at h
  | y :: r, 0, _, x, h, hf => by
    have e : y = x := Option.some.inj h
    subst e
    rw [List.find?_cons, hf]
  | y :: r, i + 1, ha, x, h, hf => by
    have hy : f y = false := ha y (by simp)
    rw [List.find?_cons, hy]
    exact find_take f r i (fun z hz => ha z (by simp [hz])) x (by simpa using h) hf
theorem find_none {α : Type} (f : α → Bool) (l : List α) (h : ∀ x ∈ l, f x = false) : l.find? f = none := by
  rw [List.find?_eq_none]
  intro x hx
  rw [h x hx]
  decide
theorem take_snoc {α : Type} {l : List α} {i : Nat} {x : α} (h : l[i]? = some x) : l.take (i + 1) = l.take i ++ [x] := by rw [List.take_add_one, h]; rfl
theorem cov_iff {many : Int} {ties : List (Int × Int)} (W : WebOk many ties) {s : List Int} {h : Int} : cov ties s h = true ↔ h ∈ s ∨ ∃ t ∈ ties, (t.1 ∈ s ∧ h = t.2) ∨ (t.2 ∈ s ∧ h = t.1) := by
  unfold cov
  rw [Bool.or_eq_true, decide_eq_true_eq, List.any_eq_true]
  constructor
  · rintro (q | ⟨x, hx, q⟩)
    · exact .inl q
    · have q := of_decide_eq_true q
      rcases (nbr_iff W).mp hx with z | z
      · exact .inr ⟨_, z, .inr ⟨q, rfl⟩⟩
      · exact .inr ⟨_, z, .inl ⟨q, rfl⟩⟩
  · rintro (q | ⟨⟨a, b⟩, ht, q⟩)
    · exact .inl q
    · rcases q with ⟨q1, q2⟩ | ⟨q1, q2⟩
      · simp only at q1 q2
        subst q2
        exact .inr ⟨a, (nbr_iff W).mpr (.inr ht), decide_eq_true q1⟩
      · simp only at q1 q2
        subst q2
        exact .inr ⟨b, (nbr_iff W).mpr (.inl ht), decide_eq_true q1⟩
section
variable {K : PySem.W.Frag} {w : World} {H : Hp} {Q : VK}
theorem r_sIn {k : Int} {a : Addr} {S : Int → Bool} {n : Nat} (h : H a = some (SetO w a S n)) (q : Q (.bl (S k)) H) : rSIn w (.int k) (.ref a) H Q := ⟨k, a, S, n, rfl, rfl, h, q⟩
theorem r_sNotIn {k : Int} {a : Addr} {S : Int → Bool} {n : Nat} (h : H a = some (SetO w a S n)) (q : Q (.bl (!S k)) H) : rSNotIn w (.int k) (.ref a) H Q := ⟨k, a, S, n, rfl, rfl, h, q⟩
theorem r_sadd {σ : L2.St} {to : TE} {t : TA} (h : to σ H fun x H1 => (∃ a S n, x = V.ref a ∧ H1 a = some (SetO w a S n)) ∧ t σ H1 fun xs H2 => rSAdd w x xs H2 Q) : tSAdd w to t σ H Q := h
theorem r_setLst {a : Addr} {ns : List Int} (h : SqL K H a (ns.map V.int)) (hl : ns.length ≤ 1000) (k : ∀ (q : Addr) (n : Nat), H q = none → n ≤ ns.length → Q (.ref q) (upd H q (SetO w q (fun j => decide (j ∈ ns)) n))) : rSetOfL K w [.ref a] H Q := ⟨a, ns, rfl, h, hl, k⟩
end
theorem inV_int (a : Int) (ns : List Int) : inV (.int a) (ns.map V.int) = decide (a ∈ ns) := by
  unfold inV
  rw [List.any_map]
  induction ns with
  | nil => simp
  | cons x r ih =>
    rw [List.any_cons, ih]
    simp only [Function.comp, eqV]
    by_cases h : x = a
    · subst h; simp
    · have h' : ¬ a = x := fun e => h e.symm
      simp [h, h']
theorem flat_int (ns : List Int) : (ns.map V.int).all flatV = true := by
  rw [List.all_map]
  induction ns with
  | nil => rfl
  | cons x r ih => rw [List.all_cons, ih]; rfl
theorem eqv_nil (ns : List Int) : PyData.eqv (.list (ns.map PyData.int)) (.list []) = ns.isEmpty := by
  cases ns with
  | nil => rfl
  | cons x r => simp [PyData.eqv, PyData.eqvAll]
mutual
theorem eqv_of_eq : ∀ d : PyData, d.canLay0 = true → PyData.eqv d d = true
  | d, h => SeqAt.eqv_refl d h
end
section
variable {K : PySem.W.Frag} {H : Hp} {Q : VK}
theorem r_inI {p : Addr} {ns : List Int} {a : Int} (h : SqL K H p (ns.map V.int)) (q : Q (.bl (decide (a ∈ ns))) H) : rIn K false (.int a) (.ref p) H Q :=
  ⟨p, _, rfl, .inl h, rfl, flat_int ns, by rw [if_neg (by decide), inV_int]; exact q⟩
theorem r_notInI {p : Addr} {ns : List Int} {a : Int} (h : SqL K H p (ns.map V.int)) (q : Q (.bl (!decide (a ∈ ns))) H) : rIn K true (.int a) (.ref p) H Q :=
  ⟨p, _, rfl, .inl h, rfl, flat_int ns, by rw [if_pos rfl, inV_int]; exact q⟩
theorem r_eqNil {p q : Addr} {ns : List Int} (h : SqL K H p (ns.map V.int)) (g : SqL K H q []) (z : Q (.bl ns.isEmpty) H) : rEqD K (.ref p) (.ref q) H Q :=
  ⟨_, _, dp_ints h, dp_ints (cs := []) g, shaped_ints ns, shaped_ints [], by rw [show ([] : List Int).map PyData.int = [] from rfl, eqv_nil]; exact z⟩
theorem r_neNil {p q : Addr} {ns : List Int} (h : SqL K H p (ns.map V.int)) (g : SqL K H q []) (z : Q (.bl (!ns.isEmpty)) H) : rNeD K (.ref p) (.ref q) H Q :=
  ⟨_, _, dp_ints h, dp_ints (cs := []) g, shaped_ints ns, shaped_ints [], by rw [show ([] : List Int).map PyData.int = [] from rfl, eqv_nil]; exact z⟩
/-- [g x for x in ns if f x], ns ints, f and g changing nothing -/
theorem lc_pure {a D : Addr} {ns : List Int} {f : Int → Bool} {g : Int → V} {tt : TT} {te : TE} {vs : List Nat} {σ : L2.St} {j : Nat} {Qd : Hp → Prop} (hs : SqL K H a (ns.map V.int)) (hl : ns.length ≤ 10000) (hD : H D = none)
    (hw : ∀ x, wipe ((wipe σ vs).set j (some x)) vs = wipe σ vs) (ht : ∀ x ∈ ns, ∀ H1, Evl.Ex H H1 → ∀ QB : Bool → Hp → Prop, QB (f x) H1 → tt ((wipe σ vs).set j (some (.int x))) H1 QB)
    (he : ∀ x ∈ ns, f x = true → ∀ H1, Evl.Ex H H1 → ∀ Q : VK, Q (g x) H1 → te ((wipe σ vs).set j (some (.int x))) H1 Q) (k : ∀ H', Evl.Ex H H' → H' D = some (.lst ((ns.filter f).map g)) → Qd H') :
    ∃ W : Nat → Nat → Hp → Prop, (∃ m, W 0 m (upd H D (.lst []))) ∧ ∀ i m H, W i m H →
      ((Itl K a).stop i H ∧ Qd H) ∨ ((Itl K a).go i H ∧ ∃ Nx : Hp → Prop, (∀ H', Nx H' → ∃ m', m' < m ∧ W (i + 1) m' H') ∧ ∀ x H', (Itl K a).yld i H x H' → gName j x (wipe σ vs) H' fun σ2 H2 => wipe σ2 vs = wipe σ vs ∧ tt σ2 H2 fun b H3 =>
        if b = true then te σ2 H3 fun y H4 => ∃ acc, H4 D = some (.lst acc) ∧ acc.length < sizeLine ∧ Nx (upd H4 D (.lst (acc ++ [y]))) else Nx H3) := by
  refine lc_it (walk_list (xs := ns.map V.int)) (fun i H' => H' D = some (.lst (((ns.take i).filter f).map g)) ∧ Evl.Ex H H') ⟨upd_same, Evl.Ex.new hD⟩ (fun i H' _ h => Evl.ex_l h.2 hs) ?_ ?_
  · rintro i v H1 H2 hi ⟨h1, e1⟩ ⟨rfl, ey⟩
    rw [List.getElem?_map] at ey
    cases et : ns[i]? with
    | none => rw [et] at ey; cases ey
    | some x =>
      rw [et] at ey
      cases ey
      have hx := List.mem_of_getElem? et
      refine ⟨hw _, ht x hx H2 e1 _ ?_⟩
      have tk : ns.take (i + 1) = ns.take i ++ [x] := take_snoc et
      cases hf : f x with
      | true =>
        refine iteT (he x hx hf H2 e1 _ ⟨_, h1, Evl.sz_lt ?_, ?_, e1.mut hD⟩)
        · rw [List.length_map]
          have := List.length_filter_le f (ns.take i)
          rw [List.length_take] at this
          omega
        · rw [upd_same, tk, List.filter_append, List.filter_cons, if_pos hf, List.map_append]
          rfl
      | false =>
        refine iteF ⟨?_, e1⟩
        rw [tk, List.filter_append, List.filter_cons, if_neg (by rw [hf]; decide), List.filter_nil, List.append_nil]
        exact h1
  · rintro H' ⟨h1, e1⟩
    rw [List.length_map, List.take_length] at h1
    exact k H' e1 h1
end
theorem cov_not (ties : List (Int × Int)) (s : List Int) (h : Int) : (!cov ties s h) = ((!decide (h ∈ s)) && ((nbr ties h).filter fun x => decide (x ∈ s)).isEmpty) := by
  unfold cov
  rw [Bool.not_or]
  congr 1
  induction nbr ties h with
  | nil => rfl
  | cons x r ih =>
    rw [List.any_cons, List.filter_cons]
    by_cases q : x ∈ s
    · simp [q]
    · simp only [q, decide_false, Bool.false_or, Bool.false_eq_true, if_false]
      exact ih
/-! ### what a draw leaves as it was -/
theorem SqT.exB {K : PySem.W.Frag} {H H' : Hp} {p c a : Addr} {xs : List V} (hP : PotC H p c) (e : ExB p H H') (h : SqT K H a xs) : SqT K H' a xs := by
  obtain ⟨cs, at', r, h1, _⟩ := hP
  rcases h with (h | ⟨o, h⟩) | h
  · exact .inl (.inl (e a _ (ne_of h h1 (by intro z; cases z)) h))
  · exact .inl (.inr ⟨o, e a _ (ne_of h h1 (by intro z; cases z)) h⟩)
  · exact .inr h
theorem SqL.exB {K : PySem.W.Frag} {H H' : Hp} {p c a : Addr} {xs : List V} (hP : PotC H p c) (e : ExB p H H') (hx : ∀ q i j, xs ≠ [.ref q, .int i, .int j]) (h : SqL K H a xs) : SqL K H' a xs := by
  obtain ⟨cs, at', r, h1, _⟩ := hP
  rcases h with (h | ⟨o, h⟩) | h
  · exact .inl (.inl (e a _ (ne_of h h1 (fun z => hx _ _ _ (HO.lst.inj z))) h))
  · exact .inl (.inr ⟨o, e a _ (ne_of h h1 (by intro z; cases z)) h⟩)
  · exact .inr h
theorem ints_np {ns : List Int} : ∀ q i j, ns.map V.int ≠ [.ref q, .int i, .int j] := fun q i j h => by
  cases ns with
  | nil => cases h
  | cons x r => cases h
def potLike : List PyData → Bool
  | [.list _, .int _, .int _] => true
  | [.tuple _, .int _, .int _] => true
  | _ => false
mutual
/-- no list in it that could be the pot -/
def npD : PyData → Bool
  | .list ds => !potLike ds && npAll ds
  | .tuple ds => npAll ds
  | .dict _ => false
  | _ => true
def npAll : List PyData → Bool
  | [] => true
  | d :: r => npD d && npAll r
end
mutual
theorem Dp.exB {K : PySem.W.Frag} {H H' : Hp} {p c : Addr} (hP : PotC H p c) (e : ExB p H H') : ∀ (d : PyData) (v : V), npD d = true → Dp K H v d → Dp K H' v d
  | .none, _, _, h => by cases h; exact .non
  | .bool _, _, _, h => by cases h; exact .bl _
  | .int _, _, _, h => by cases h; exact .int _
  | .str _, _, _, h => by cases h; exact .str _
  | .list ds, _, hn, h => by
    rw [npD, Bool.and_eq_true] at hn
    cases h with
    | lst h1 h2 =>
      refine .lst (SqL.exB hP e (fun q i j z => ?_) h1) (DpAll.exB hP e ds _ hn.2 h2)
      subst z
      cases h2 with
      | cons g1 g2 =>
        cases g2 with
        | cons g3 g4 =>
          cases g4 with
          | cons g5 g6 =>
            cases g6
            cases g3
            cases g5
            cases g1 <;> exact absurd hn.1 (by simp [potLike])
  | .tuple ds, _, hn, h => by
    rw [npD] at hn
    cases h with
    | tup h1 h2 => exact .tup (SqT.exB hP e h1) (DpAll.exB hP e ds _ hn h2)
  | .dict _, _, _, h => by cases h
theorem DpAll.exB {K : PySem.W.Frag} {H H' : Hp} {p c : Addr} (hP : PotC H p c) (e : ExB p H H') : ∀ (ds : List PyData) (vs : List V), npAll ds = true → DpAll K H vs ds → DpAll K H' vs ds
  | [], _, _, h => by cases h; exact .nil
  | d :: ds, _, hn, h => by
    rw [npAll, Bool.and_eq_true] at hn
    cases h with
    | cons h1 h2 => exact .cons (Dp.exB hP e d _ hn.1 h1) (DpAll.exB hP e ds _ hn.2 h2)
end
theorem npAll_of : ∀ {ds : List PyData}, (∀ d ∈ ds, npD d = true) → npAll ds = true
  | [], _ => rfl
  | d :: r, h => by rw [npAll, h d List.mem_cons_self, npAll_of fun x hx => h x (List.mem_cons_of_mem _ hx)]; rfl
theorem np_ints (ns : List Int) : npD (intsD ns) = true := by
  unfold intsD
  rw [npD, Bool.and_eq_true]
  refine ⟨?_, npAll_of fun d hd => ?_⟩
  · cases ns with
    | nil => rfl
    | cons x r => rfl
  · obtain ⟨x, _, rfl⟩ := List.mem_map.mp hd
    rfl
theorem np_web (many : Int) (ties : List (Int × Int)) : npD (webD many ties) = true := by
  unfold webD
  simp only [npD, npAll, Bool.true_and, Bool.and_true]
  refine npAll_of fun d hd => ?_
  obtain ⟨x, _, rfl⟩ := List.mem_map.mp hd
  rfl
theorem np_bes (many : Int) (ties : List (Int × Int)) : npD (besD many ties) = true := by
  unfold besD
  rw [npD, Bool.and_eq_true]
  refine ⟨?_, npAll_of fun d hd => ?_⟩
  · cases rgI many with
    | nil => rfl
    | cons x r =>
      cases r with
      | nil => rfl
      | cons y r => rfl
  · obtain ⟨x, _, rfl⟩ := List.mem_map.mp hd
    exact np_ints _
theorem BesAt.exB {H H' : Hp} {p c : Addr} {v : V} {many : Int} {ties : List (Int × Int)} (h : BesAt H v many ties) (hP : PotC H p c) (e : ExB p H H') : BesAt H' v many ties := by
  obtain ⟨q, bs, rfl, h1, h2, h3⟩ := h
  obtain ⟨cs, a, r, g1, _⟩ := hP
  refine ⟨q, bs, rfl, e _ _ (ne_of h1 g1 fun w => ?_) h1, h2, fun k b hb => e _ _ (ne_of (h3 k b hb) g1 fun w => ints_np _ _ _ (HO.lst.inj w)) (h3 k b hb)⟩
  have w := HO.lst.inj w
  match bs, w with
  | x :: y :: r, w => injection w with _ w; injection w with w _; cases w
theorem fresh_B {H H' : Hp} {p c q : Addr} (e : ExB p H H') (hP : PotC H' p c) (h : H' q = none) : H q = none := by
  cases z : H q with
  | none => rfl
  | some u => rw [e q u (hP.np h) z] at h; cases h
/-- lists of ints at the addresses -/
def LstsAt (H : Hp) (qs : List Addr) (ss : List (List Int)) : Prop := Paired (fun q (s : List Int) => H q = some (.lst (s.map V.int))) qs ss
theorem LstsAt.mono {H H' : Hp} (e : ∀ q (s : List Int), H q = some (.lst (s.map V.int)) → H' q = some (.lst (s.map V.int))) : ∀ {qs : List Addr} {ss : List (List Int)}, LstsAt H qs ss → LstsAt H' qs ss
  | _, _, .nil => .nil
  | _, _, .cons h r => .cons (e _ _ h) (LstsAt.mono e r)
theorem LstsAt.ex {H H' : Hp} {qs : List Addr} {ss : List (List Int)} (h : LstsAt H qs ss) (e : Evl.Ex H H') : LstsAt H' qs ss := h.mono fun q s z => e q _ z
theorem LstsAt.exB {H H' : Hp} {p c : Addr} {qs : List Addr} {ss : List (List Int)} (h : LstsAt H qs ss) (hP : PotC H p c) (e : ExB p H H') : LstsAt H' qs ss := h.mono fun q s z => by
  obtain ⟨cs, a, r, h1, _⟩ := hP
  exact e q _ (ne_of z h1 fun w => ints_np _ _ _ (HO.lst.inj w)) z
theorem LstsAt.upd {H : Hp} {f x : Addr} {r : List V} {o : HO} {qs : List Addr} {ss : List (List Int)} (h : LstsAt H qs ss) (hf : H f = some (.lst (.ref x :: r))) : LstsAt (L2.upd H f o) qs ss := h.mono fun q s z => by
  rw [upd_ne (ne_of z hf fun w => by have := HO.lst.inj w; cases s <;> cases this)]
  exact z
theorem LstsAt.snoc {H : Hp} {q : Addr} {s : List Int} (hq : H q = some (.lst (s.map V.int))) : ∀ {qs : List Addr} {ss : List (List Int)}, LstsAt H qs ss → LstsAt H (qs ++ [q]) (ss ++ [s])
  | _, _, .nil => .cons hq .nil
  | _, _, .cons h r => .cons h (LstsAt.snoc hq r)
theorem LstsAt.dp {K : PySem.W.Frag} {H : Hp} : ∀ {qs : List Addr} {ss : List (List Int)}, LstsAt H qs ss → DpAll K H (qs.map V.ref) (ss.map intsD)
  | _, _, .nil => .nil
  | _, _, .cons h r => .cons (dp_intsD (SqL.of h)) (LstsAt.dp r)
theorem LstsAt.len {H : Hp} : ∀ {qs : List Addr} {ss : List (List Int)}, LstsAt H qs ss → qs.length = ss.length
  | _, _, .nil => rfl
  | _, _, .cons h r => by rw [List.length_cons, List.length_cons, LstsAt.len r]
theorem rgI_up (n : Int) : (rgI n).Pairwise (· < ·) := by
  unfold rgI
  refine List.Pairwise.map _ ?_ List.pairwise_lt_range
  intro a b h
  show (a : Int) < (b : Int)
  omega
theorem rgI_ok (n : Int) : SetOk n (rgI n) := ⟨rgI_up n, fun h hh => rgI_mem.mp hh⟩
/-- a set without the one at a place -/
def without (s : List Int) (k : Nat) : List Int := s.take k ++ s.drop (k + 1)
theorem without_sub (s : List Int) (k : Nat) : (without s k).Sublist s := by
  unfold without
  have h1 : (s.drop (k + 1)).Sublist (s.drop k) := by
    rw [show k + 1 = k + 1 from rfl, ← List.drop_drop]
    exact List.drop_sublist 1 (s.drop k)
  have h2 := List.Sublist.append_left h1 (s.take k)
  rw [List.take_append_drop] at h2
  exact h2
theorem without_ok {many : Int} {s : List Int} (h : SetOk many s) (k : Nat) : SetOk many (without s k) := ⟨h.up.sublist (without_sub s k), fun x hx => h.ok x ((without_sub s k).mem hx)⟩
theorem cut_to {s : List Int} {i : Int} (h0 : 0 ≤ i) : cutV (s.map V.int) none (some i) = (s.take i.toNat).map V.int := by
  rw [cutV_map]
  congr 1
  have e : i = ((i.toNat : Nat) : Int) := by omega
  conv => lhs; rw [e]
  exact cutG_take s i.toNat
theorem cut_from {s : List Int} {i : Int} (h0 : 0 ≤ i) : cutV (s.map V.int) (some i) none = (s.drop i.toNat).map V.int := by
  rw [cutV_map]
  congr 1
  have e : i = ((i.toNat : Nat) : Int) := by omega
  conv => lhs; rw [e]
  exact cutG_drop s i.toNat
section
variable {K : PySem.W.Frag} {w : World} {H : Hp} {Q : VK}
theorem r_cat {a b : Addr} {xs ys : List Int} (h : H a = some (.lst (xs.map V.int))) (g : H b = some (.lst (ys.map V.int))) (hl : xs.length + ys.length ≤ 100000) (k : ∀ p, H p = none → Q (.ref p) (upd H p (.lst ((xs ++ ys).map V.int)))) : rCat (.ref a) (.ref b) H Q :=
  ⟨a, b, _, _, rfl, rfl, h, g, Evl.sz_of (by rw [List.length_map, List.length_map]; exact hl), fun p hp => by rw [← List.map_append]; exact k p hp⟩
theorem r_sortSet {a : Addr} {L : List Int} {n : Nat} (h : H a = some (SetO w a (fun j => decide (j ∈ L)) n)) (hn : n < 64) (k : ∀ (ns : List Int) (p : Addr), ns.Pairwise (· < ·) → (∀ x, x ∈ ns ↔ x ∈ L) → H p = none → Q (.ref p) (upd H p (.lst (ns.map V.int)))) : rSortedSet w [.ref a] H Q :=
  ⟨a, _, n, rfl, h, hn, fun ns p h1 h2 _ hp => k ns p h1 (fun x => by rw [h2]; exact decide_eq_true_iff) hp⟩
end
theorem cut_fromG {α : Type} {f : α → V} {s : List α} {i : Int} (h0 : 0 ≤ i) : cutV (s.map f) (some i) none = (s.drop i.toNat).map f := by
  rw [cutV_map]
  congr 1
  have e : i = ((i.toNat : Nat) : Int) := by omega
  conv => lhs; rw [e]
  exact cutG_drop s i.toNat
theorem LstsAt.drop {H : Hp} : ∀ {qs : List Addr} {ss : List (List Int)} (n : Nat), LstsAt H qs ss → LstsAt H (qs.drop n) (ss.drop n)
  | _, _, 0, h => h
  | _, _, _ + 1, .nil => .nil
  | _, _, n + 1, .cons _ r => LstsAt.drop n r
theorem LstsAt.get {H : Hp} : ∀ {qs : List Addr} {ss : List (List Int)} {i : Nat} {q : Addr}, LstsAt H qs ss → qs[i]? = some q → ∃ s ∈ ss, H q = some (.lst (s.map V.int))
  | _, _, i, q, .nil, h => by simp at h
  | _, _, 0, q, .cons h r, e => by
    have e := Option.some.inj e
    rw [← e]
    exact ⟨_, List.mem_cons_self, h⟩
  | _, _, i + 1, q, .cons h r, e => by
    obtain ⟨s, h1, h2⟩ := LstsAt.get r (show _ from (by simpa using e))
    exact ⟨s, List.mem_cons_of_mem _ h1, h2⟩
theorem find_filter {α : Type} (f : α → Bool) (l : List α) : (l.find? f).isNone = (l.filter f).isEmpty := by
  induction l with
  | nil => rfl
  | cons x r ih =>
    rw [List.find?_cons, List.filter_cons]
    cases f x with
    | true => rfl
    | false => simpa using ih
theorem cov_all (ties : List (Int × Int)) (s : List Int) (h : Int) : ((nbr ties h ++ [h]).filter fun x => decide (x ∈ s)).isEmpty = !cov ties s h := by
  rw [cov_not, List.filter_append]
  generalize (nbr ties h).filter (fun x => decide (x ∈ s)) = l
  by_cases q : h ∈ s
  · cases l <;> simp [q]
  · cases l <;> simp [q]
theorem nine (i : Nat) (h : i < 5) : ∃ m : Int, atI ([.int 9, .int 9, .int 9, .int 9, .int 60] : List V) (0 + (i : Int)) = some (.int m) ∧ 1 ≤ m ∧ m ≤ 60 := by
  match i, h with
  | 0, _ => exact ⟨9, rfl, by decide, by decide⟩
  | 1, _ => exact ⟨9, rfl, by decide, by decide⟩
  | 2, _ => exact ⟨9, rfl, by decide, by decide⟩
  | 3, _ => exact ⟨9, rfl, by decide, by decide⟩
  | 4, _ => exact ⟨60, rfl, by decide, by decide⟩
theorem lacks_small (many : Int) (ties : List (Int × Int)) (s : List Int) : (lacksD many ties s).depth < 2 ∧ wd (lacksD many ties s) = true := by
  unfold lacksD
  split
  · exact ⟨by simp [PyData.depth, PyData.depthAll], by simp [wd, wdAll]⟩
  · split
    · exact ⟨by simp [PyData.depth, PyData.depthAll], by simp [wd, wdAll]⟩
    · exact ⟨by simp [PyData.depth], rfl⟩
theorem r_neSame {K : PySem.W.Frag} {H : Hp} {Q : VK} {p q : Addr} {ns : List Int} (h : SqL K H p (ns.map V.int)) (g : SqL K H q (ns.map V.int)) (z : Q (.bl false) H) : rNeD K (.ref p) (.ref q) H Q := by
  refine ⟨_, _, dp_ints h, dp_ints g, shaped_ints ns, shaped_ints ns, ?_⟩
  rw [SeqAt.eqv_refl _ (SeqAt.canLay_of_shaped (shaped_ints ns))]
  exact z
/-! ### names and rounds -/
def nmAt (names : List Int) (h : Int) : Int := names.getD h.toNat 0
structure NamesOk (many : Int) (names : List Int) : Prop where
  len : names.length = many.toNat
  nd : names.Nodup
/-- the neighbours of lesser names -/
def lessN (ties : List (Int × Int)) (names : List Int) (h : Int) : List Int := (nbr ties h).filter fun o => decide (nmAt names o < nmAt names h)
abbrev Row := Bool × Int
/-- the least, the greatest of numbers, with one ahead -/
def minL : Int → List Int → Int
  | x, [] => x
  | x, y :: r => minL (if y < x then y else x) r
def maxL : Int → List Int → Int
  | x, [] => x
  | x, y :: r => maxL (if y > x then y else x) r
theorem minL_spec : ∀ (x : Int) (r : List Int), minL x r ∈ x :: r ∧ ∀ y ∈ x :: r, minL x r ≤ y
  | x, [] => ⟨by simp [minL], fun y hy => by simp at hy; simp [minL, hy]⟩
  | x, y :: r => by
    have ih := minL_spec (if y < x then y else x) r
    unfold minL
    by_cases c : y < x
    · rw [if_pos c] at ih ⊢
      refine ⟨List.mem_cons_of_mem _ ih.1, fun z hz => ?_⟩
      have h0 := ih.2 _ List.mem_cons_self
      rcases List.mem_cons.mp hz with e | hz
      · omega
      · exact ih.2 z hz
    · rw [if_neg c] at ih ⊢
      refine ⟨?_, fun z hz => ?_⟩
      · rcases List.mem_cons.mp ih.1 with e | e
        · rw [e]; exact List.mem_cons_self
        · exact List.mem_cons_of_mem _ (List.mem_cons_of_mem _ e)
      · have h0 := ih.2 _ List.mem_cons_self
        rcases List.mem_cons.mp hz with e | hz
        · rw [e]; exact h0
        · rcases List.mem_cons.mp hz with e | hz
          · omega
          · exact ih.2 z (List.mem_cons_of_mem _ hz)
theorem maxL_spec : ∀ (x : Int) (r : List Int), maxL x r ∈ x :: r ∧ ∀ y ∈ x :: r, y ≤ maxL x r
  | x, [] => ⟨by simp [maxL], fun y hy => by simp at hy; simp [maxL, hy]⟩
  | x, y :: r => by
    have ih := maxL_spec (if y > x then y else x) r
    unfold maxL
    by_cases c : y > x
    · rw [if_pos c] at ih ⊢
      refine ⟨List.mem_cons_of_mem _ ih.1, fun z hz => ?_⟩
      have h0 := ih.2 _ List.mem_cons_self
      rcases List.mem_cons.mp hz with e | hz
      · omega
      · exact ih.2 z hz
    · rw [if_neg c] at ih ⊢
      refine ⟨?_, fun z hz => ?_⟩
      · rcases List.mem_cons.mp ih.1 with e | e
        · rw [e]; exact List.mem_cons_self
        · exact List.mem_cons_of_mem _ (List.mem_cons_of_mem _ e)
      · have h0 := ih.2 _ List.mem_cons_self
        rcases List.mem_cons.mp hz with e | hz
        · rw [e]; exact h0
        · rcases List.mem_cons.mp hz with e | hz
          · omega
          · exact ih.2 z (List.mem_cons_of_mem _ hz)
theorem minL_of {x m : Int} {r : List Int} (h1 : m ∈ x :: r) (h2 : ∀ y ∈ x :: r, m ≤ y) : m = minL x r := by
  have s := minL_spec x r
  have a := h2 _ s.1
  have b := s.2 _ h1
  omega
theorem maxL_of {x m : Int} {r : List Int} (h1 : m ∈ x :: r) (h2 : ∀ y ∈ x :: r, y ≤ m) : m = maxL x r := by
  have s := maxL_spec x r
  have a := h2 _ s.1
  have b := s.2 _ h1
  omega
def chosenIn (rows : List Row) : List Int := (rows.filter fun r => r.1).map fun r => r.2
/-- the row of a house by the rows of its neighbours of lesser names -/
def rowBy (rows : List Row) : Row :=
  match chosenIn rows with
  | x :: r => (false, minL x r)
  | [] => match rows.map (fun r => r.2) with
    | x :: r => (true, 1 + maxL x r)
    | [] => (true, 1 + 0)
def rank (many : Int) (names : List Int) (h : Int) : Nat := ((rgI many).filter fun x => decide (nmAt names x < nmAt names h)).length
theorem rank_lt {many : Int} {ties : List (Int × Int)} {names : List Int} (W : WebOk many ties) {h o : Int} (ho : o ∈ lessN ties names h) : rank many names o < rank many names h := by
  unfold lessN at ho
  rw [List.mem_filter, decide_eq_true_eq] at ho
  have hr := nbr_range W ho.1
  unfold rank
  have := len_le_of_sub (l := o :: (rgI many).filter fun x => decide (nmAt names x < nmAt names o)) (m := (rgI many).filter fun x => decide (nmAt names x < nmAt names h)) ?_ fun x hx => ?_
  · rw [List.length_cons] at this
    omega
  · refine List.pairwise_cons.mpr ⟨fun x hx e => ?_, (rgI_nd many).filter _⟩
    rw [List.mem_filter, decide_eq_true_eq] at hx
    subst e
    omega
  · rcases List.mem_cons.mp hx with e | hx
    · rw [e, List.mem_filter, decide_eq_true_eq]
      exact ⟨rgI_mem.mpr hr, ho.2⟩
    · rw [List.mem_filter, decide_eq_true_eq] at hx ⊢
      exact ⟨hx.1, by omega⟩
theorem rank_bound {many : Int} {names : List Int} {h : Int} (hh : 0 ≤ h ∧ h < many) : rank many names h < many.toNat := by
  unfold rank
  have := len_le_of_sub (l := h :: (rgI many).filter fun x => decide (nmAt names x < nmAt names h)) (m := rgI many) ?_ fun x hx => ?_
  · rw [List.length_cons, rgI_len] at this
    omega
  · refine List.pairwise_cons.mpr ⟨fun x hx e => ?_, (rgI_nd many).filter _⟩
    rw [List.mem_filter, decide_eq_true_eq] at hx
    subst e
    omega
  · rcases List.mem_cons.mp hx with e | hx
    · rw [e]; exact rgI_mem.mpr hh
    · exact (List.mem_filter.mp hx).1
def Rf (ties : List (Int × Int)) (names : List Int) : Nat → Int → Row
  | 0, _ => (true, 1)
  | k + 1, h => rowBy ((lessN ties names h).map (Rf ties names k))
theorem Rf_stable {many : Int} {ties : List (Int × Int)} {names : List Int} (W : WebOk many ties) : ∀ (k k' : Nat) (h : Int), rank many names h < k → rank many names h < k' → Rf ties names k h = Rf ties names k' h
  | 0, _, _, h, _ => absurd h (Nat.not_lt_zero _)
  | _ + 1, 0, _, _, h => absurd h (Nat.not_lt_zero _)
  | k + 1, k' + 1, h, h1, h2 => by
    rw [Rf, Rf]
    congr 1
    refine List.map_congr_left fun o ho => ?_
    have := rank_lt W ho
    exact Rf_stable W k k' o (by omega) (by omega)
/-- each house's row: the one that the points tell -/
def rowOf (many : Int) (ties : List (Int × Int)) (names : List Int) (h : Int) : Row := Rf ties names many.toNat h
theorem rowOf_eq {many : Int} {ties : List (Int × Int)} {names : List Int} (W : WebOk many ties) {h : Int} (hh : 0 ≤ h ∧ h < many) : rowOf many ties names h = rowBy ((lessN ties names h).map (rowOf many ties names)) := by
  have hb := rank_bound (names := names) hh
  unfold rowOf
  obtain ⟨k, hk⟩ : ∃ k, many.toNat = k + 1 := ⟨many.toNat - 1, by omega⟩
  rw [hk, Rf]
  congr 1
  refine List.map_congr_left fun o ho => ?_
  have := rank_lt W ho
  exact Rf_stable W k (k + 1) o (by omega) (by omega)
def rowsOf (many : Int) (ties : List (Int × Int)) (names : List Int) : List Row := (rgI many).map (rowOf many ties names)
/-- rows that are right house by house are these -/
theorem rows_unique {many : Int} {ties : List (Int × Int)} {names : List Int} (W : WebOk many ties) {f : Int → Row} (hf : ∀ h, 0 ≤ h → h < many → f h = rowBy ((lessN ties names h).map f)) : ∀ (n : Nat) (h : Int), rank many names h < n → 0 ≤ h → h < many → f h = rowOf many ties names h
  | 0, _, h, _, _ => absurd h (Nat.not_lt_zero _)
  | n + 1, h, hr, h0, h1 => by
    rw [hf h h0 h1, rowOf_eq W ⟨h0, h1⟩]
    congr 1
    refine List.map_congr_left fun o ho => ?_
    have hl := rank_lt W ho
    have hb := nbr_range W (List.mem_filter.mp ho).1
    exact rows_unique W hf n o (by omega) hb.1 hb.2
/-! ### what a row says -/
theorem rowBy_true {rows : List Row} {n : Int} (h : rowBy rows = (true, n)) : (∀ r ∈ rows, r.1 = false) ∧ (∀ r ∈ rows, r.2 < n) ∧ (rows = [] ∧ n = 1 ∨ ∃ r ∈ rows, r.2 + 1 = n) := by
  unfold rowBy at h
  cases e : chosenIn rows with
  | cons x r => rw [e] at h; cases h
  | nil =>
    rw [e] at h
    have h1 : ∀ r ∈ rows, r.1 = false := fun r hr => by
      cases q : r.1 with
      | false => rfl
      | true =>
        have : r.2 ∈ chosenIn rows := List.mem_map.mpr ⟨r, List.mem_filter.mpr ⟨hr, q⟩, rfl⟩
        rw [e] at this
        cases this
    refine ⟨h1, ?_⟩
    cases rows with
    | nil =>
      simp at h
      exact ⟨fun r hr => (by cases hr), Or.inl ⟨rfl, (by omega)⟩⟩
    | cons a t =>
      rw [List.map_cons] at h
      simp only [Prod.mk.injEq, true_and] at h
      have s := maxL_spec a.2 (t.map fun r => r.2)
      refine ⟨fun r hr => ?_, .inr ?_⟩
      · have := s.2 r.2 (by rw [← List.map_cons (f := fun r : Row => r.2)]; exact List.mem_map_of_mem hr)
        omega
      · have s1 := s.1
        rw [← List.map_cons (f := fun r : Row => r.2)] at s1
        obtain ⟨r, hr, e⟩ := List.mem_map.mp s1
        exact ⟨r, hr, by omega⟩
theorem rowBy_false {rows : List Row} {n : Int} (h : rowBy rows = (false, n)) : (∃ r ∈ rows, r = (true, n)) ∧ ∀ r ∈ rows, r.1 = true → n ≤ r.2 := by
  unfold rowBy at h
  cases e : chosenIn rows with
  | nil =>
    rw [e] at h
    simp only at h
    split at h <;> cases h
  | cons x r =>
    rw [e] at h
    simp only [Prod.mk.injEq, true_and] at h
    have s := minL_spec x r
    rw [← e] at s
    rw [h] at s
    obtain ⟨s1, s2⟩ := s
    obtain ⟨y, hy, ey⟩ := List.mem_map.mp s1
    rw [List.mem_filter] at hy
    refine ⟨⟨y, hy.1, by obtain ⟨a, b⟩ := y; simp only at hy ey; rw [hy.2, ey]⟩, fun z hz hzt => s2 z.2 (List.mem_map.mpr ⟨z, List.mem_filter.mpr ⟨hz, hzt⟩, rfl⟩)⟩
section
variable {many : Int} {ties : List (Int × Int)} {names : List Int}
theorem row_pos (W : WebOk many ties) : ∀ (n : Nat) (h : Int), rank many names h < n → 0 ≤ h → h < many → 1 ≤ (rowOf many ties names h).2
  | 0, _, h, _, _ => absurd h (Nat.not_lt_zero _)
  | n + 1, h, hr, h0, h1 => by
    have e := rowOf_eq (names := names) W ⟨h0, h1⟩
    have ih : ∀ r ∈ (lessN ties names h).map (rowOf many ties names), 1 ≤ r.2 := fun r hr' => by
      obtain ⟨o, ho, rfl⟩ := List.mem_map.mp hr'
      have hl := rank_lt W ho
      have hb := nbr_range W (List.mem_filter.mp ho).1
      exact row_pos W n o (by omega) hb.1 hb.2
    rcases hq : rowOf many ties names h with ⟨b, m⟩
    rw [hq] at e
    cases b with
    | true =>
      rcases (rowBy_true e.symm).2.2 with q | ⟨r, hr, q⟩
      · simp only; omega
      · have := ih r hr
        simp only; omega
    | false =>
      obtain ⟨⟨r, hr, q⟩, _⟩ := rowBy_false e.symm
      have := ih r hr
      rw [q] at this
      exact this
/-- a house's row is chosen in round n + 1: just where it is left ahead of it, and no neighbour left has a lesser name -/
theorem fresh_iff (W : WebOk many ties) {h n : Int} (h0 : 0 ≤ h) (h1 : h < many) (hn : 0 ≤ n) : rowOf many ties names h = (true, n + 1) ↔ n < (rowOf many ties names h).2 ∧ ∀ o ∈ lessN ties names h, (rowOf many ties names o).2 ≤ n := by
  have e := rowOf_eq (names := names) W ⟨h0, h1⟩
  constructor
  · intro q
    rw [q] at e
    have t := rowBy_true e.symm
    refine ⟨by rw [q]; simp only; omega, fun o ho => ?_⟩
    have := t.2.1 _ (List.mem_map_of_mem (f := rowOf many ties names) ho)
    omega
  · rintro ⟨q1, q2⟩
    rcases hq : rowOf many ties names h with ⟨b, m⟩
    rw [hq] at e q1
    simp only at q1
    cases b with
    | true =>
      rcases (rowBy_true e.symm).2.2 with q | ⟨r, hr, q⟩
      · rw [show m = n + 1 by omega]
      · obtain ⟨o, ho, rfl⟩ := List.mem_map.mp hr
        have := q2 o ho
        rw [show m = n + 1 by omega]
    | false =>
      obtain ⟨⟨r, hr, q⟩, _⟩ := rowBy_false e.symm
      obtain ⟨o, ho, rfl⟩ := List.mem_map.mp hr
      have := q2 o ho
      rw [q] at this
      simp only at this
      omega
theorem nm_ne (N : NamesOk many names) {a b : Int} (ha : 0 ≤ a ∧ a < many) (hb : 0 ≤ b ∧ b < many) (h : a ≠ b) : nmAt names a ≠ nmAt names b := fun e => by
  have := nd_ix N.nd (i := a.toNat) (j := b.toNat) (by rw [N.len]; omega) (by rw [N.len]; omega) e
  omega
/-- out in round n + 1: left ahead of it, not chosen in it, a neighbour chosen in it -/
theorem out_iff (W : WebOk many ties) (N : NamesOk many names) {h n : Int} (h0 : 0 ≤ h) (h1 : h < many) (hn : 0 ≤ n) : rowOf many ties names h = (false, n + 1) ↔ n < (rowOf many ties names h).2 ∧ rowOf many ties names h ≠ (true, n + 1) ∧ ∃ o ∈ nbr ties h, rowOf many ties names o = (true, n + 1) := by
  have e := rowOf_eq (names := names) W ⟨h0, h1⟩
  constructor
  · intro q
    rw [q] at e
    obtain ⟨⟨r, hr, q'⟩, _⟩ := rowBy_false e.symm
    obtain ⟨o, ho, q2⟩ := List.mem_map.mp hr
    exact ⟨by rw [q]; simp only; omega, by rw [q]; simp, o, (List.mem_filter.mp ho).1, by rw [q2, q']⟩
  · rintro ⟨q1, q2, o, ho, q3⟩
    have hor := nbr_range W ho
    have hne : o ≠ h := fun z => by
      subst z
      rcases (nbr_iff W).mp ho with q | q
      · have := W.ok _ q; simp only at this; omega
      · have := W.ok _ q; simp only at this; omega
    have nn := nm_ne N hor ⟨h0, h1⟩ hne
    by_cases hl : nmAt names o < nmAt names h
    · have ho' : o ∈ lessN ties names h := List.mem_filter.mpr ⟨ho, decide_eq_true hl⟩
      rcases hq : rowOf many ties names h with ⟨b, m⟩
      rw [hq] at e q1
      simp only at q1
      cases b with
      | true =>
        have := (rowBy_true e.symm).1 _ (List.mem_map_of_mem (f := rowOf many ties names) ho')
        rw [q3] at this
        cases this
      | false =>
        have := (rowBy_false e.symm).2 _ (List.mem_map_of_mem (f := rowOf many ties names) ho') (by rw [q3])
        rw [q3] at this
        simp only at this
        rw [show m = n + 1 by omega]
    · have hho : h ∈ nbr ties o := by
        rcases (nbr_iff W).mp ho with q | q
        · exact (nbr_iff W).mpr (.inr q)
        · exact (nbr_iff W).mpr (.inl q)
      have h' : h ∈ lessN ties names o := List.mem_filter.mpr ⟨hho, decide_eq_true (by omega)⟩
      have := ((fresh_iff W hor.1 hor.2 hn).mp q3).2 h h'
      omega
/-- where a house is left, one is chosen next -/
theorem some_fresh (W : WebOk many ties) {n : Int} (hn : 0 ≤ n) : ∀ (k : Nat) (h : Int), rank many names h < k → 0 ≤ h → h < many → n < (rowOf many ties names h).2 → ∃ o, 0 ≤ o ∧ o < many ∧ rowOf many ties names o = (true, n + 1)
  | 0, _, h, _, _, _ => absurd h (Nat.not_lt_zero _)
  | k + 1, h, hr, h0, h1, hl => by
    by_cases hall : ∀ o ∈ lessN ties names h, (rowOf many ties names o).2 ≤ n
    · exact ⟨h, h0, h1, (fresh_iff W h0 h1 hn).mpr ⟨hl, hall⟩⟩
    · have : ∃ o ∈ lessN ties names h, n < (rowOf many ties names o).2 := by
        refine Classical.byContradiction fun z => hall fun o ho => ?_
        refine Classical.byContradiction fun y => z ⟨o, ho, by omega⟩
      obtain ⟨o, ho, q⟩ := this
      have hr' := rank_lt W ho
      have hb := nbr_range W (List.mem_filter.mp ho).1
      exact some_fresh W hn k o (by omega) hb.1 hb.2 q
end
theorem ne_of_none' {H : Hp} {a b : Addr} {o : HO} (h : H a = some o) (g : H b = none) : b ≠ a := fun e => by rw [e, h] at g; cases g
/-- a list of lists of ints: for each house that of f -/
def LsAt (H : Hp) (v : V) (n : Nat) (f : Int → List Int) : Prop := ∃ (q : Addr) (bs : List Addr), v = .ref q ∧ H q = some (.lst (bs.map V.ref)) ∧ bs.length = n ∧ ∀ (k : Nat) (b : Addr), bs[k]? = some b → H b = some (.lst ((f (k : Int)).map V.int))
theorem LsAt.ex {H H' : Hp} {v : V} {n : Nat} {f : Int → List Int} (h : LsAt H v n f) (e : Evl.Ex H H') : LsAt H' v n f := by
  obtain ⟨q, bs, rfl, h1, h2, h3⟩ := h
  exact ⟨q, bs, rfl, e _ _ h1, h2, fun k b hb => e _ _ (h3 k b hb)⟩
theorem LsAt.bes {H : Hp} {v : V} {many : Int} {ties : List (Int × Int)} (h : LsAt H v many.toNat (nbr ties)) : BesAt H v many ties := h
theorem BesAt.ls {H : Hp} {v : V} {many : Int} {ties : List (Int × Int)} (h : BesAt H v many ties) : LsAt H v many.toNat (nbr ties) := h
/-- the same, and all of it new -/
def LsN (H0 H : Hp) (v : V) (n : Nat) (f : Int → List Int) : Prop := ∃ (q : Addr) (bs : List Addr), v = .ref q ∧ H q = some (.lst (bs.map V.ref)) ∧ H0 q = none ∧ bs.length = n ∧ ∀ (k : Nat) (b : Addr), bs[k]? = some b → H b = some (.lst ((f (k : Int)).map V.int)) ∧ H0 b = none
theorem LsN.at {H0 H : Hp} {v : V} {n : Nat} {f : Int → List Int} (h : LsN H0 H v n f) : LsAt H v n f := by
  obtain ⟨q, bs, h1, h2, _, h3, h4⟩ := h
  exact ⟨q, bs, h1, h2, h3, fun k b hb => (h4 k b hb).1⟩
theorem nm_at {names : List Int} {many x : Int} (hl : names.length = many.toNat) (h0 : 0 ≤ x) (h1 : x < many) : atI (names.map V.int) x = some (.int (nmAt names x)) := atI_int h0 (by omega)
def maxDf (d : Int) : List Int → Int
  | [] => d
  | x :: r => maxL x r
theorem readsAll_of_ints {h : Heap} : ∀ {vs : List Value} {ns : List Int}, IntsAre vs ns → ∃ as, ReadsAll h vs (ns.map PyData.int) as
  | _, _, .nil => ⟨[], .nil⟩
  | _, _, .cons _ _ r => by
    obtain ⟨bs, h2⟩ := readsAll_of_ints (h := h) r
    exact ⟨_, .cons (.int _ _) h2⟩
theorem foldl_maxL : ∀ (x : Int) (r : List Int), r.foldl max x = maxL x r
  | x, [] => rfl
  | x, y :: r => by
    rw [List.foldl_cons, maxL, foldl_maxL]
    congr 1
    split <;> omega
/-- max(xs, default=d) of a list of ints -/
def rMaxDf (K : PySem.W.Frag) : List V → List V → Hp → VK → Prop := fun vs zs H Q => ∃ (a : Addr) (ns : List Int) (d : Int), vs = [V.ref a] ∧ zs = [.int d] ∧ SqL K H a (ns.map V.int) ∧ Q (.int (maxDf d ns)) H
theorem cr_maxDf {X : Cx} (hc : X.calm = true) (hu : X.A.units + 64 < cLine) : CallRK X (.builtin "max") [Str.ofString "default"] (rMaxDf X.K) := by
  intro pins s σ H vs zs us ws Q I r rz h
  obtain ⟨a, ns, d, rfl, rfl, hs, q⟩ := h
  obtain ⟨its, rv, hl, hz0⟩ := I.list hs
  obtain rfl := Vals.ref1 r
  obtain ⟨w1, rfl, t1, rfl⟩ := vals1 rz
  obtain ⟨as, hr⟩ := readsAll_of_ints (h := s.heap) rv.ints
  have ha : PySem.W.AlikeAll (ns.map PyData.int) := by
    refine ⟨fun x hx y hy => ?_, fun x hx => ?_⟩
    · obtain ⟨i, _, rfl⟩ := List.mem_map.mp hx
      obtain ⟨j, _, rfl⟩ := List.mem_map.mp hy
      simp [PySem.W.alike]
    · obtain ⟨i, _, rfl⟩ := List.mem_map.mp hx
      intro e
      cases e
  have hd : PyData.depthAll (ns.map PyData.int) = 0 := by
    clear hr ha rv hs q hz0
    induction ns with
    | nil => rfl
    | cons x r ih =>
      rw [List.map_cons, PyData.depthAll, ih]
      rfl
  refine PySem.W.max_list_default (I.ok.hd hc) hl.isList hr ha (by rw [hd]; omega) (fun e h' tk hk => ?_) (fun y ys i v h' tk bs e hi hv hk => ?_)
  · have e : ns = [] := List.map_eq_nil_iff.mp e
    subst e
    exact ⟨.int d, H, I.kept hk, ⟨t1, rfl⟩, q⟩
  · cases ns with
    | nil => cases e
    | cons n r =>
      rw [List.map_cons] at e
      injection e with e1 e2
      subst e1 e2
      rw [PySem.W.maxD_ints] at hv
      cases hv with
      | int _ t =>
        rw [foldl_maxL]
        exact ⟨.int (maxL n r), H, I.kept hk, ⟨t, rfl⟩, q⟩
theorem call_repr_bl {X : Cx} : CallR X (.builtin "repr") (fun xs H Q => ∃ b : Bool, xs = [.bl b] ∧ Q (.str (if b then "True" else "False")) H) := by
  intro pins s σ H xs us Q I r h
  obtain ⟨b, rfl, q⟩ := h
  obtain ⟨u, rfl, e⟩ := vals1 r
  obtain rfl : u = Value.bool b := e
  exact PySem.P.repr_of_bool ⟨.str _, H, I.tok _, ⟨_, rfl⟩, q⟩
def tTru (K : PySem.W.Frag) (te : TE) : TT := fun σ H Q => te σ H fun x H' => ∃ k, TruV K x H' k ∧ Q k H'
def rowD (r : Row) : PyData := .tuple [.bool r.1, .int r.2]
def rowsD (rs : List Row) : PyData := .list (rs.map rowD)
theorem rowD_at {K : PySem.W.Frag} {H : Hp} {v : V} {r : Row} (h : Dp K H v (rowD r)) : ∃ a, v = .ref a ∧ SqT K H a [.bl r.1, .int r.2] := by
  unfold rowD at h
  cases h with
  | tup hs ha =>
    cases ha with
    | cons h1 h2 =>
      cases h1
      cases h2 with
      | cons h3 h4 =>
        cases h3
        cases h4
        exact ⟨_, rfl, hs⟩
theorem dp_row {K : PySem.W.Frag} {H : Hp} {a : Addr} {r : Row} (h : SqT K H a [.bl r.1, .int r.2]) : Dp K H (.ref a) (rowD r) := .tup h (.cons (.bl _) (.cons (.int _) .nil))
theorem shaped_row (r : Row) : SeqAt.shaped (rowD r) = true := by
  unfold rowD SeqAt.shaped
  simp [PyData.canLay0, PyData.canLayAll0, PyData.depth, PyData.depthAll]
theorem shaped_rows (rs : List Row) : SeqAt.shaped (rowsD rs) = true := by
  have h1 : PyData.canLayAll0 (rs.map rowD) = true := by
    induction rs with
    | nil => rfl
    | cons x r ih => simp [PyData.canLayAll0, PyData.canLay0, rowD, ih]
  have h2 : PyData.depthAll (rs.map rowD) ≤ 2 := by
    induction rs with
    | nil => simp [PyData.depthAll]
    | cons x r ih =>
      have := ih (by rw [List.map_cons, PyData.canLayAll0, Bool.and_eq_true] at h1; exact h1.2)
      simp [PyData.depthAll, PyData.depth, rowD]
      omega
  unfold rowsD SeqAt.shaped
  rw [Bool.and_eq_true]
  refine ⟨by rw [PyData.canLay0]; exact h1, decide_eq_true ?_⟩
  rw [PyData.depth]
  omega
theorem eqv_row (a b : Row) : PyData.eqv (rowD a) (rowD b) = decide (a = b) := by
  obtain ⟨a1, a2⟩ := a
  obtain ⟨b1, b2⟩ := b
  unfold rowD
  by_cases h : a2 = b2
  · subst h
    cases a1 <;> cases b1 <;> simp [PyData.eqv, PyData.eqvAll]
  · cases a1 <;> cases b1 <;> simp [PyData.eqv, PyData.eqvAll, h]
theorem np_row (r : Row) : npD (rowD r) = true := rfl
theorem np_rows (rs : List Row) : npD (rowsD rs) = true := by
  unfold rowsD
  rw [npD, Bool.and_eq_true]
  refine ⟨?_, npAll_of fun d hd => ?_⟩
  · cases rs with
    | nil => rfl
    | cons x r =>
      cases r with
      | nil => rfl
      | cons y r => rfl
  · obtain ⟨x, _, rfl⟩ := List.mem_map.mp hd
    rfl
theorem rowsD_at {K : PySem.W.Frag} {H : Hp} {v : V} {rs : List Row} (h : Dp K H v (rowsD rs)) : ∃ a xs, v = .ref a ∧ SqL K H a xs ∧ DpAll K H xs (rs.map rowD) := listD_at h
theorem rows_get {K : PySem.W.Frag} {H : Hp} {xs : List V} {rs : List Row} (h : DpAll K H xs (rs.map rowD)) : xs.length = rs.length ∧ ∀ (i : Nat) (r : Row), rs[i]? = some r → ∃ t, xs[i]? = some (.ref t) ∧ SqT K H t [.bl r.1, .int r.2] := by
  obtain ⟨h1, h2⟩ := dpAll_get h
  rw [List.length_map] at h1
  refine ⟨h1, fun i r hr => ?_⟩
  have hi : i < xs.length := by rw [h1]; exact (List.getElem?_eq_some_iff.mp hr).1
  obtain ⟨d, e1, e2⟩ := h2 i xs[i] (List.getElem?_eq_getElem hi)
  rw [List.getElem?_map, hr] at e1
  cases e1
  obtain ⟨t, e3, e4⟩ := rowD_at e2
  exact ⟨t, by rw [List.getElem?_eq_getElem hi, e3], e4⟩
/-- [g r for one, two in rows if f r] -/
theorem lc_pureR {K : PySem.W.Frag} {H : Hp} {a D : Addr} {xs : List V} {rs : List Row} {f : Row → Bool} {g : Row → V} {tt : TT} {te : TE} {vs : List Nat} {σ : L2.St} {j k : Nat} {Qd : Hp → Prop} (hs : SqL K H a xs) (hd : DpAll K H xs (rs.map rowD)) (hl : rs.length ≤ 10000) (hD : H D = none)
    (hw : ∀ x y, wipe (((wipe σ vs).set j (some x)).set k (some y)) vs = wipe σ vs) (ht : ∀ r ∈ rs, ∀ H1, Evl.Ex H H1 → ∀ QB : Bool → Hp → Prop, QB (f r) H1 → tt (((wipe σ vs).set j (some (.bl r.1))).set k (some (.int r.2))) H1 QB)
    (he : ∀ r ∈ rs, f r = true → ∀ H1, Evl.Ex H H1 → ∀ Q : VK, Q (g r) H1 → te (((wipe σ vs).set j (some (.bl r.1))).set k (some (.int r.2))) H1 Q) (kk : ∀ H', Evl.Ex H H' → H' D = some (.lst ((rs.filter f).map g)) → Qd H') :
    ∃ W : Nat → Nat → Hp → Prop, (∃ m, W 0 m (upd H D (.lst []))) ∧ ∀ i m H, W i m H →
      ((Itl K a).stop i H ∧ Qd H) ∨ ((Itl K a).go i H ∧ ∃ Nx : Hp → Prop, (∀ H', Nx H' → ∃ m', m' < m ∧ W (i + 1) m' H') ∧ ∀ x H', (Itl K a).yld i H x H' → gTup K 2 (gCons (gName j) (gCons (gName k) gNil)) x (wipe σ vs) H' fun σ2 H2 => wipe σ2 vs = wipe σ vs ∧ tt σ2 H2 fun b H3 =>
        if b = true then te σ2 H3 fun y H4 => ∃ acc, H4 D = some (.lst acc) ∧ acc.length < sizeLine ∧ Nx (upd H4 D (.lst (acc ++ [y]))) else Nx H3) := by
  obtain ⟨l1, l2⟩ := rows_get hd
  refine lc_it (walk_list (xs := xs)) (fun i H' => H' D = some (.lst (((rs.take i).filter f).map g)) ∧ Evl.Ex H H') ⟨upd_same, Evl.Ex.new hD⟩ (fun i H' _ h => Evl.ex_l h.2 hs) ?_ ?_
  · rintro i v H1 H2 hi ⟨h1, e1⟩ ⟨rfl, ey⟩
    have et := List.getElem?_eq_getElem (l := rs) (i := i) (by omega)
    generalize hr0 : rs[i] = r at et
    obtain ⟨t, ex, st⟩ := l2 i r et
    rw [ex] at ey
    cases ey
    have hx := List.mem_of_getElem? et
    refine r_gTup2 rfl (Evl.ex_t e1 st) ⟨hw _ _, ht r hx H2 e1 _ ?_⟩
    have tk : rs.take (i + 1) = rs.take i ++ [r] := take_snoc et
    cases hf : f r with
    | true =>
      refine iteT (he r hx hf H2 e1 _ ⟨_, h1, Evl.sz_lt ?_, ?_, e1.mut hD⟩)
      · rw [List.length_map]
        have := List.length_filter_le f (rs.take i)
        rw [List.length_take] at this
        omega
      · rw [upd_same, tk, List.filter_append, List.filter_cons, if_pos hf, List.map_append]
        rfl
    | false =>
      refine iteF ⟨?_, e1⟩
      rw [tk, List.filter_append, List.filter_cons, if_neg (by rw [hf]; decide), List.filter_nil, List.append_nil]
      exact h1
  · rintro H' ⟨h1, e1⟩
    rw [l1, List.take_length] at h1
    exact kk H' e1 h1
theorem r_ckw {H : Hp} {Q : VK} {σ : L2.St} {r : List V → List V → Hp → VK → Prop} {t tk : TA} (h : t σ H fun vs H1 => tk σ H1 fun zs H2 => r vs zs H2 Q) : tCKw r t tk σ H Q := h
def rwAt (rs : List Row) (h : Int) : Row := rs.getD h.toNat (true, 0)
theorem rowsOf_len {many : Int} {ties : List (Int × Int)} {names : List Int} : (rowsOf many ties names).length = many.toNat := by unfold rowsOf; rw [List.length_map, rgI_len]
theorem rwAt_of {many : Int} {ties : List (Int × Int)} {names : List Int} {h : Int} (h0 : 0 ≤ h) (h1 : h < many) : rwAt (rowsOf many ties names) h = rowOf many ties names h := by
  unfold rwAt rowsOf
  have g := rgI_get (n := many) (i := h.toNat) (by omega)
  rw [List.getD_eq_getElem?_getD, List.getElem?_map, g]
  show rowOf many ties names ((h.toNat : Nat) : Int) = _
  rw [show ((h.toNat : Nat) : Int) = h by omega]
theorem rwAt_get {rs : List Row} {h : Int} (h1 : h.toNat < rs.length) : rs[h.toNat]? = some (rwAt rs h) := by
  unfold rwAt
  rw [List.getD_eq_getElem?_getD, List.getElem?_eq_getElem h1]
  rfl
theorem rows_right {many : Int} {ties : List (Int × Int)} {names : List Int} {rs : List Row} (W : WebOk many ties) (hl : rs.length = many.toNat) :
    (∀ h, 0 ≤ h → h < many → rwAt rs h = rowBy ((lessN ties names h).map (rwAt rs))) ↔ rs = rowsOf many ties names := by
  constructor
  · intro f
    have u := fun h h0 h1 => rows_unique W f (rank many names h + 1) h (Nat.lt_succ_self _) h0 h1
    refine List.ext_getElem? fun i => ?_
    by_cases hi : i < rs.length
    · have h1 := rwAt_get (rs := rs) (h := (i : Int)) (by simpa using hi)
      have h2 := rwAt_get (rs := rowsOf many ties names) (h := (i : Int)) (by rw [rowsOf_len]; omega)
      rw [show ((i : Int)).toNat = i by omega] at h1 h2
      rw [h1, h2, u (i : Int) (by omega) (by omega), rwAt_of (by omega) (by omega)]
    · rw [List.getElem?_eq_none (by omega), List.getElem?_eq_none (by rw [rowsOf_len]; omega)]
  · rintro rfl h h0 h1
    rw [rwAt_of h0 h1, rowOf_eq W ⟨h0, h1⟩]
    congr 1
    refine List.map_congr_left fun o ho => ?_
    have hb := nbr_range W (List.mem_filter.mp ho).1
    exact (rwAt_of hb.1 hb.2).symm
theorem dpAll_snoc {K : PySem.W.Frag} {H : Hp} {x : V} {d : PyData} : ∀ {xs : List V} {ds : List PyData}, DpAll K H xs ds → Dp K H x d → DpAll K H (xs ++ [x]) (ds ++ [d])
  | _, _, .nil, h => .cons h .nil
  | _, _, .cons a r, h => .cons a (dpAll_snoc r h)
theorem room65 {k : Nat} {A : Around} (r : Room k A) : A.units + 65 < cLine := by have := r.un; omega
/-! ### rows of which some are None -/
def OV (H : Hp) (x : V) (o : Option Row) : Prop := match o with
  | none => x = .non
  | some r => ∃ t, x = .ref t ∧ H t = some (.tup [.bl r.1, .int r.2])
def OsAt (H : Hp) (R : Addr) (os : List (Option Row)) : Prop := ∃ xs, H R = some (.lst xs) ∧ xs.length = os.length ∧ ∀ (i : Nat) (o : Option Row), os[i]? = some o → ∃ x, xs[i]? = some x ∧ OV H x o
theorem OV.keep {H H' : Hp} {x : V} {o : Option Row} (e : ExT H H') (h : OV H x o) : OV H' x o := by
  cases o with
  | none => exact h
  | some r =>
    obtain ⟨t, h1, h2⟩ := h
    exact ⟨t, h1, e t _ h2⟩
theorem OsAt.keep {H H' : Hp} {R : Addr} {os : List (Option Row)} (e : ExT H H') (hR : ∀ xs, H R = some (.lst xs) → H' R = some (.lst xs)) (h : OsAt H R os) : OsAt H' R os := by
  obtain ⟨xs, h1, h2, h3⟩ := h
  refine ⟨xs, hR _ h1, h2, fun i o ho => ?_⟩
  obtain ⟨x, h4, h5⟩ := h3 i o ho
  exact ⟨x, h4, h5.keep e⟩
theorem OsAt.ex {H H' : Hp} {R : Addr} {os : List (Option Row)} (h : OsAt H R os) (e : Evl.Ex H H') : OsAt H' R os := h.keep (ExT.of e) fun xs h => e _ _ h
/-- another list is written -/
theorem OsAt.lst {H : Hp} {R q : Addr} {xs : List V} {o : HO} {os : List (Option Row)} (h : OsAt H R os) (hq : H q = some (.lst xs)) (n : q ≠ R) : OsAt (L2.upd H q o) R os := h.keep (ExT.lst hq) fun ys hy => by rw [upd_ne n.symm]; exact hy
/-- one is set -/
theorem OsAt.set {H : Hp} {R t : Addr} {xs : List V} {os : List (Option Row)} {i : Nat} {r : Row} (h : OsAt H R os) (hR : H R = some (.lst xs)) (ht : H t = some (.tup [.bl r.1, .int r.2])) : OsAt (L2.upd H R (.lst (xs.set i (.ref t)))) R (os.set i (some r)) := by
  obtain ⟨ys, h1, h2, h3⟩ := h
  rw [hR] at h1
  cases h1
  have e : ExT H (L2.upd H R (.lst (xs.set i (.ref t)))) := ExT.lst hR
  refine ⟨_, upd_same, by rw [List.length_set, List.length_set]; exact h2, fun j o ho => ?_⟩
  by_cases hj : j = i
  · subst hj
    have hl : j < os.length := by
      have := (List.getElem?_eq_some_iff.mp ho).1
      rw [List.length_set] at this
      exact this
    rw [List.getElem?_set_self hl] at ho
    cases ho
    exact ⟨.ref t, List.getElem?_set_self (by omega), t, rfl, e _ _ ht⟩
  · rw [List.getElem?_set_ne (fun z => hj z.symm)] at ho
    obtain ⟨x, h4, h5⟩ := h3 j o ho
    exact ⟨x, by rw [List.getElem?_set_ne (fun z => hj z.symm)]; exact h4, h5.keep e⟩
def oD : Option Row → PyData
  | none => .none
  | some r => rowD r
theorem OV.dp {K : PySem.W.Frag} {H : Hp} {x : V} {o : Option Row} (h : OV H x o) : Dp K H x (oD o) := by
  cases o with
  | none =>
    have h : x = .non := h
    subst h
    exact .non
  | some r =>
    obtain ⟨t, h1, h2⟩ := h
    subst h1
    exact dp_row (SqT.of h2)
theorem OsAt.dp {K : PySem.W.Frag} {H : Hp} {R : Addr} {os : List (Option Row)} (h : OsAt H R os) : Dp K H (.ref R) (.list (os.map oD)) := by
  obtain ⟨xs, h1, h2, h3⟩ := h
  refine .lst (SqL.of h1) (dpAll_ix (by rw [List.length_map]; exact h2) fun i x d hx hd => ?_)
  rw [List.getElem?_map] at hd
  cases e : os[i]? with
  | none => rw [e] at hd; cases hd
  | some o =>
    rw [e] at hd
    cases hd
    obtain ⟨y, h4, h5⟩ := h3 i o e
    rw [h4] at hx
    cases hx
    exact h5.dp
theorem OsAt.rows {K : PySem.W.Frag} {H : Hp} {R : Addr} {rs : List Row} (h : OsAt H R (rs.map some)) : Dp K H (.ref R) (rowsD rs) := by
  have := h.dp (K := K)
  rw [List.map_map] at this
  exact this
theorem shaped_os (os : List (Option Row)) : SeqAt.shaped (.list (os.map oD)) = true := by
  have h1 : PyData.canLayAll0 (os.map oD) = true := by
    induction os with
    | nil => rfl
    | cons x r ih => cases x <;> simp [PyData.canLayAll0, PyData.canLay0, oD, rowD, ih]
  have h2 : PyData.depthAll (os.map oD) ≤ 2 := by
    clear h1
    induction os with
    | nil => simp [PyData.depthAll]
    | cons x r ih => cases x <;> simp [PyData.depthAll, PyData.depth, oD, rowD] <;> omega
  unfold SeqAt.shaped
  rw [Bool.and_eq_true]
  refine ⟨by rw [PyData.canLay0]; exact h1, decide_eq_true ?_⟩
  rw [PyData.depth]
  omega
theorem any_none (os : List (Option Row)) : (os.map oD).any (fun z => PyData.eqv z .none) = os.any Option.isNone := by
  rw [List.any_map]
  congr 1
  funext o
  cases o <;> simp [oD, rowD, PyData.eqv]
theorem r_noneIn {K : PySem.W.Frag} {H : Hp} {Q : VK} {R : Addr} {os : List (Option Row)} (h : OsAt H R os) (q : Q (.bl (os.any Option.isNone)) H) : rInD K .non (.ref R) H Q :=
  ⟨.none, _, .non, h.dp, rfl, shaped_os os, by rw [any_none]; exact q⟩
theorem OsAt.at {H : Hp} {R : Addr} {os : List (Option Row)} (h : OsAt H R os) : ∃ xs, H R = some (.lst xs) ∧ xs.length = os.length ∧ ∀ (i : Int) (o : Option Row), 0 ≤ i → os[i.toNat]? = some o → ∃ x, atI xs i = some x ∧ OV H x o := by
  obtain ⟨xs, h1, h2, h3⟩ := h
  refine ⟨xs, h1, h2, fun i o h0 ho => ?_⟩
  obtain ⟨x, h4, h5⟩ := h3 _ o ho
  exact ⟨x, atI_of h0 h4, h5⟩
theorem OV.isNon {H : Hp} {x : V} {o : Option Row} (h : OV H x o) : decide (x = V.non) = o.isNone := by
  cases o with
  | none =>
    have h : x = .non := h
    subst h
    rfl
  | some r =>
    obtain ⟨t, h1, _⟩ := h
    subst h1
    rfl
/-! ### those that are decided, by a test -/
def stO (many : Int) (f : Int → Row) (d : Int → Bool) : List (Option Row) := (rgI many).map fun h => if d h = true then some (f h) else none
theorem stO_len {many : Int} {f : Int → Row} {d : Int → Bool} : (stO many f d).length = many.toNat := by unfold stO; rw [List.length_map, rgI_len]
theorem stO_get {many : Int} {f : Int → Row} {d : Int → Bool} {h : Int} (h0 : 0 ≤ h) (h1 : h < many) : (stO many f d)[h.toNat]? = some (if d h = true then some (f h) else none) := by
  unfold stO
  rw [List.getElem?_map, rgI_get (by omega)]
  show some (if d ((h.toNat : Nat) : Int) = true then _ else _) = _
  rw [show ((h.toNat : Nat) : Int) = h by omega]
theorem stO_congr {many : Int} {f : Int → Row} {d d' : Int → Bool} (h : ∀ x, 0 ≤ x → x < many → d x = d' x) : stO many f d = stO many f d' := by
  unfold stO
  refine List.map_congr_left fun x hx => ?_
  have := rgI_mem.mp hx
  rw [h x this.1 this.2]
theorem stO_set {many : Int} {f : Int → Row} {d : Int → Bool} {h : Int} (h0 : 0 ≤ h) (h1 : h < many) : (stO many f d).set h.toNat (some (f h)) = stO many f fun x => d x || decide (x = h) := by
  refine List.ext_getElem? fun i => ?_
  by_cases hi : i < many.toNat
  · have g := fun (d : Int → Bool) => stO_get (f := f) (d := d) (h := (i : Int)) (by omega) (by omega : (i : Int) < many)
    simp only [Int.toNat_natCast] at g
    rw [g]
    by_cases e : i = h.toNat
    · subst e
      rw [List.getElem?_set_self (by rw [stO_len]; exact hi), show ((h.toNat : Nat) : Int) = h by omega]
      simp
    · rw [List.getElem?_set_ne (fun z => e z.symm), g]
      rw [decide_eq_false (show ¬ (i : Int) = h by omega), Bool.or_false]
  · rw [List.getElem?_eq_none (by rw [List.length_set, stO_len]; omega), List.getElem?_eq_none (by rw [stO_len]; omega)]
theorem stO_none {many : Int} {f : Int → Row} {d : Int → Bool} : (stO many f d).any Option.isNone = (rgI many).any fun h => !d h := by
  unfold stO
  rw [List.any_map]
  congr 1
  funext h
  show Option.isNone (if d h = true then some (f h) else none) = !d h
  cases d h <;> rfl
theorem stO_all {many : Int} {f : Int → Row} {d : Int → Bool} (h : ∀ x, 0 ≤ x → x < many → d x = true) : stO many f d = ((rgI many).map f).map some := by
  unfold stO
  rw [List.map_map]
  refine List.map_congr_left fun x hx => ?_
  have := rgI_mem.mp hx
  rw [if_pos (h x this.1 this.2)]
  rfl
theorem ixN_of {n : Nat} {i : Int} (h0 : 0 ≤ i) (h1 : i < (n : Int)) : ixN n i = some i.toNat := by
  unfold ixN
  rw [if_pos h0, if_pos h1]
theorem cutV_to {xs : List V} {i : Int} (h0 : 0 ≤ i) : cutV xs none (some i) = xs.take i.toNat := by
  have := cutV_map (fun x : V => x) xs none (some i)
  rw [List.map_id', List.map_id'] at this
  rw [this]
  have e : i = ((i.toNat : Nat) : Int) := by omega
  conv => lhs; rw [e]
  exact cutG_take xs i.toNat
theorem cutV_from {xs : List V} {i : Int} (h0 : 0 ≤ i) : cutV xs (some i) none = xs.drop i.toNat := by
  have := cutV_map (fun x : V => x) xs (some i) none
  rw [List.map_id', List.map_id'] at this
  rw [this]
  have e : i = ((i.toNat : Nat) : Int) := by omega
  conv => lhs; rw [e]
  exact cutG_drop xs i.toNat
section
variable {K : PySem.W.Frag} {H : Hp} {Q : VK}
theorem dpAll_append : ∀ {xs ys : List V} {ds es : List PyData}, DpAll K H xs ds → DpAll K H ys es → DpAll K H (xs ++ ys) (ds ++ es)
  | _, _, _, _, .nil, h => h
  | _, _, _, _, .cons a r, h => .cons a (dpAll_append r h)
theorem dpAll_take : ∀ {xs : List V} {ds : List PyData} (n : Nat), DpAll K H xs ds → DpAll K H (xs.take n) (ds.take n)
  | _, _, 0, _ => .nil
  | _, _, _ + 1, .nil => .nil
  | _, _, n + 1, .cons a r => .cons a (dpAll_take n r)
theorem dpAll_drop : ∀ {xs : List V} {ds : List PyData} (n : Nat), DpAll K H xs ds → DpAll K H (xs.drop n) (ds.drop n)
  | _, _, 0, h => h
  | _, _, _ + 1, .nil => .nil
  | _, _, n + 1, .cons _ r => dpAll_drop n r
theorem r_catG {a b : Addr} {xs ys : List V} (h : H a = some (.lst xs)) (g : H b = some (.lst ys)) (hl : xs.length + ys.length ≤ 100000) (k : ∀ p, H p = none → Q (.ref p) (upd H p (.lst (xs ++ ys)))) : rCat (.ref a) (.ref b) H Q :=
  ⟨a, b, _, _, rfl, rfl, h, g, Evl.sz_of hl, k⟩
theorem r_indexI {a : Addr} {names : List Int} {y : Int} {j : Nat} (h : SqL K H a (names.map V.int)) (hn : names.Nodup) (hj : names[j]? = some y) (q : Q (.int (j : Nat)) H) : rIndex K (.ref a) [.int y] H Q := by
  refine ⟨a, _, .int y, j, .int y, rfl, rfl, h, rfl, flat_int names, by rw [List.getElem?_map, hj]; rfl, by simp [eqV], fun m z' hm hz => ?_, q⟩
  rw [List.getElem?_map] at hz
  cases e : names[m]? with
  | none => rw [e] at hz; cases hz
  | some z =>
    rw [e] at hz
    cases hz
    have : z ≠ y := fun c => by
      subst c
      have := nd_ix' hn e hj
      omega
    simp [eqV, this]
end
/-- [g r for one in rows if f r] -/
theorem lc_pureR1 {K : PySem.W.Frag} {H : Hp} {a D : Addr} {xs : List V} {rs : List Row} {f : Row → Bool} {g : Row → V} {tt : TT} {te : TE} {vs : List Nat} {σ : L2.St} {j : Nat} {Qd : Hp → Prop} (hs : SqL K H a xs) (hd : DpAll K H xs (rs.map rowD)) (hl : rs.length ≤ 10000) (hD : H D = none)
    (hw : ∀ x, wipe ((wipe σ vs).set j (some x)) vs = wipe σ vs) (ht : ∀ r ∈ rs, ∀ t H1, SqT K H1 t [.bl r.1, .int r.2] → Evl.Ex H H1 → ∀ QB : Bool → Hp → Prop, QB (f r) H1 → tt ((wipe σ vs).set j (some (.ref t))) H1 QB)
    (he : ∀ r ∈ rs, f r = true → ∀ t H1, SqT K H1 t [.bl r.1, .int r.2] → Evl.Ex H H1 → ∀ Q : VK, Q (g r) H1 → te ((wipe σ vs).set j (some (.ref t))) H1 Q) (kk : ∀ H', Evl.Ex H H' → H' D = some (.lst ((rs.filter f).map g)) → Qd H') :
    ∃ W : Nat → Nat → Hp → Prop, (∃ m, W 0 m (upd H D (.lst []))) ∧ ∀ i m H, W i m H →
      ((Itl K a).stop i H ∧ Qd H) ∨ ((Itl K a).go i H ∧ ∃ Nx : Hp → Prop, (∀ H', Nx H' → ∃ m', m' < m ∧ W (i + 1) m' H') ∧ ∀ x H', (Itl K a).yld i H x H' → gName j x (wipe σ vs) H' fun σ2 H2 => wipe σ2 vs = wipe σ vs ∧ tt σ2 H2 fun b H3 =>
        if b = true then te σ2 H3 fun y H4 => ∃ acc, H4 D = some (.lst acc) ∧ acc.length < sizeLine ∧ Nx (upd H4 D (.lst (acc ++ [y]))) else Nx H3) := by
  obtain ⟨l1, l2⟩ := rows_get hd
  refine lc_it (walk_list (xs := xs)) (fun i H' => H' D = some (.lst (((rs.take i).filter f).map g)) ∧ Evl.Ex H H') ⟨upd_same, Evl.Ex.new hD⟩ (fun i H' _ h => Evl.ex_l h.2 hs) ?_ ?_
  · rintro i v H1 H2 hi ⟨h1, e1⟩ ⟨rfl, ey⟩
    have et := List.getElem?_eq_getElem (l := rs) (i := i) (by omega)
    generalize hr0 : rs[i] = r at et
    obtain ⟨t, ex, st⟩ := l2 i r et
    rw [ex] at ey
    cases ey
    have hx := List.mem_of_getElem? et
    refine ⟨hw _, ht r hx t H2 (Evl.ex_t e1 st) e1 _ ?_⟩
    have tk : rs.take (i + 1) = rs.take i ++ [r] := take_snoc et
    cases hf : f r with
    | true =>
      refine iteT (he r hx hf t H2 (Evl.ex_t e1 st) e1 _ ⟨_, h1, Evl.sz_lt ?_, ?_, e1.mut hD⟩)
      · rw [List.length_map]
        have := List.length_filter_le f (rs.take i)
        rw [List.length_take] at this
        omega
      · rw [upd_same, tk, List.filter_append, List.filter_cons, if_pos hf, List.map_append]
        rfl
    | false =>
      refine iteF ⟨?_, e1⟩
      rw [tk, List.filter_append, List.filter_cons, if_neg (by rw [hf]; decide), List.filter_nil, List.append_nil]
      exact h1
  · rintro H' ⟨h1, e1⟩
    rw [l1, List.take_length] at h1
    exact kk H' e1 h1
/-! ### lists of rows, raw -/
def OvAll (H : Hp) (xs : List V) (os : List (Option Row)) : Prop := Paired (OV H) xs os
theorem OsAt.all {H : Hp} {R : Addr} {os : List (Option Row)} (h : OsAt H R os) : ∃ xs, H R = some (.lst xs) ∧ OvAll H xs os := by
  obtain ⟨xs, h1, h2, h3⟩ := h
  refine ⟨xs, h1, ?_⟩
  clear h1
  induction xs generalizing os with
  | nil =>
    cases os with
    | nil => exact .nil
    | cons o r => simp at h2
  | cons x r ih =>
    cases os with
    | nil => simp at h2
    | cons o t =>
      obtain ⟨y, e, ov⟩ := h3 0 o rfl
      cases e
      exact .cons ov (ih (by simpa using h2) fun i o ho => by
        obtain ⟨y, e, ov⟩ := h3 (i + 1) o (by simpa using ho)
        exact ⟨y, by simpa using e, ov⟩)
theorem OvAll.len {H : Hp} : ∀ {xs : List V} {os : List (Option Row)}, OvAll H xs os → xs.length = os.length
  | _, _, .nil => rfl
  | _, _, .cons _ r => by rw [List.length_cons, List.length_cons, OvAll.len r]
theorem OvAll.get {H : Hp} : ∀ {xs : List V} {os : List (Option Row)}, OvAll H xs os → ∀ (i : Nat) (o : Option Row), os[i]? = some o → ∃ x, xs[i]? = some x ∧ OV H x o
  | _, _, .nil, _, _, h => by simp at h
  | _, _, .cons a r, 0, o, h => by
    have e := Option.some.inj h
    subst e
    exact ⟨_, rfl, a⟩
  | _, _, .cons a r, i + 1, o, h => by
    obtain ⟨x, e, ov⟩ := OvAll.get r i o (by simpa using h)
    exact ⟨x, by simpa using e, ov⟩
theorem OvAll.at {H : Hp} {R : Addr} {xs : List V} {os : List (Option Row)} (h : H R = some (.lst xs)) (a : OvAll H xs os) : OsAt H R os := ⟨xs, h, a.len, a.get⟩
theorem OvAll.keep {H H' : Hp} (e : ExT H H') : ∀ {xs : List V} {os : List (Option Row)}, OvAll H xs os → OvAll H' xs os
  | _, _, .nil => .nil
  | _, _, .cons a r => .cons (a.keep e) (OvAll.keep e r)
theorem OvAll.append {H : Hp} : ∀ {xs ys : List V} {os ps : List (Option Row)}, OvAll H xs os → OvAll H ys ps → OvAll H (xs ++ ys) (os ++ ps)
  | _, _, _, _, .nil, h => h
  | _, _, _, _, .cons a r, h => .cons a (OvAll.append r h)
theorem OvAll.take {H : Hp} : ∀ {xs : List V} {os : List (Option Row)} (n : Nat), OvAll H xs os → OvAll H (xs.take n) (os.take n)
  | _, _, 0, _ => .nil
  | _, _, _ + 1, .nil => .nil
  | _, _, n + 1, .cons a r => .cons a (OvAll.take n r)
theorem OvAll.drop {H : Hp} : ∀ {xs : List V} {os : List (Option Row)} (n : Nat), OvAll H xs os → OvAll H (xs.drop n) (os.drop n)
  | _, _, 0, h => h
  | _, _, _ + 1, .nil => .nil
  | _, _, n + 1, .cons _ r => OvAll.drop n r
/-- a list of rows, raw -/
def RwAt (H : Hp) (v : V) (rs : List Row) : Prop := ∃ a, v = .ref a ∧ OsAt H a (rs.map some)
theorem RwAt.dp {K : PySem.W.Frag} {H : Hp} {v : V} {rs : List Row} (h : RwAt H v rs) : Dp K H v (rowsD rs) := by
  obtain ⟨a, rfl, os⟩ := h
  exact os.rows
theorem RwAt.ex {H H' : Hp} {v : V} {rs : List Row} (h : RwAt H v rs) (e : Evl.Ex H H') : RwAt H' v rs := by
  obtain ⟨a, rfl, os⟩ := h
  exact ⟨a, rfl, os.ex e⟩
theorem RwAt.exB {H H' : Hp} {p c : Addr} {v : V} {rs : List Row} (h : RwAt H v rs) (hP : PotC H p c) (e : ExB p H H') : RwAt H' v rs := by
  obtain ⟨a, rfl, os⟩ := h
  refine ⟨a, rfl, os.keep (hP.t e) fun xs hx => e a _ (fun z => ?_) hx⟩
  subst z
  obtain ⟨cs, at', r, h1, _⟩ := hP
  rw [h1] at hx
  have hx := HO.lst.inj (Option.some.inj hx)
  subst hx
  obtain ⟨ys, y1, y2, y3⟩ := os
  rw [h1] at y1
  have y1 := HO.lst.inj (Option.some.inj y1)
  subst y1
  have hl : 1 < (rs.map some).length := by rw [← y2]; simp
  obtain ⟨x, e1, ov⟩ := y3 1 _ (List.getElem?_eq_getElem hl)
  cases e1
  rw [List.getElem_map] at ov
  obtain ⟨t, e2, _⟩ := ov
  cases e2
/-- the list of lists of rows is written -/
theorem RwAt.wr {H : Hp} {S l : Addr} {r ys : List V} {o : HO} {v : V} {rs : List Row} (h : RwAt H v rs) (hS : H S = some (.lst (.ref l :: r))) (hl : H l = some (.lst ys)) : RwAt (L2.upd H S o) v rs := by
  obtain ⟨a, rfl, os⟩ := h
  refine ⟨a, rfl, os.lst hS fun z => ?_⟩
  subst z
  obtain ⟨xs, h1, h2, h3⟩ := os
  rw [hS] at h1
  have h1 := HO.lst.inj (Option.some.inj h1)
  subst h1
  have hl0 : 0 < (rs.map Option.some).length := by rw [← h2]; simp
  obtain ⟨x, e1, ov⟩ := h3 0 _ (List.getElem?_eq_getElem hl0)
  cases e1
  rw [List.getElem_map] at ov
  obtain ⟨t, e2, e3⟩ := ov
  cases e2
  rw [hl] at e3
  cases e3
theorem eqvAll_rows : ∀ a b : List Row, PyData.eqvAll (a.map rowD) (b.map rowD) = decide (a = b)
  | [], [] => by simp [PyData.eqvAll]
  | [], _ :: _ => by simp [PyData.eqvAll]
  | _ :: _, [] => by simp [PyData.eqvAll]
  | x :: a, y :: b => by
    rw [List.map_cons, List.map_cons, PyData.eqvAll, eqv_row, eqvAll_rows]
    by_cases h1 : x = y <;> by_cases h2 : a = b <;> simp [h1, h2]
theorem eqv_rows (a b : List Row) : PyData.eqv (rowsD a) (rowsD b) = decide (a = b) := by
  unfold rowsD
  rw [PyData.eqv]
  exact eqvAll_rows a b
def handD (names : List Int) (rs : List Row) : PyData := .tuple [intsD names, rowsD rs]
theorem depth_ints1 (ns : List Int) : PyData.depthAll (ns.map PyData.int) ≤ 1 := by
  induction ns with
  | nil => simp [PyData.depthAll]
  | cons x r ih =>
    simp [PyData.depthAll, PyData.depth]
    omega
theorem depth_rows2 (rs : List Row) : PyData.depthAll (rs.map rowD) ≤ 2 := by
  induction rs with
  | nil => simp [PyData.depthAll]
  | cons x r ih =>
    simp [PyData.depthAll, PyData.depth, rowD]
    omega
theorem shaped_hand (names : List Int) (rs : List Row) : SeqAt.shaped (handD names rs) = true := by
  have h1 := SeqAt.canLay_of_shaped (shaped_ints names)
  have h2 := SeqAt.canLay_of_shaped (shaped_rows rs)
  have h3 := depth_ints1 names
  have h4 := depth_rows2 rs
  unfold SeqAt.shaped
  rw [Bool.and_eq_true]
  refine ⟨?_, decide_eq_true ?_⟩
  · unfold handD intsD
    rw [PyData.canLay0, PyData.canLayAll0, PyData.canLayAll0, PyData.canLayAll0, h1, h2]
    rfl
  · unfold handD intsD rowsD
    simp only [PyData.depth, PyData.depthAll]
    omega
theorem r_neHand {K : PySem.W.Frag} {H : Hp} {Q : VK} {x y : V} {names : List Int} {rs : List Row} (h : Dp K H x (handD names rs)) (g : Dp K H y (handD names rs)) (z : Q (.bl false) H) : rNeD K x y H Q := by
  refine ⟨_, _, h, g, shaped_hand names rs, shaped_hand names rs, ?_⟩
  rw [SeqAt.eqv_refl _ (SeqAt.canLay_of_shaped (shaped_hand names rs))]
  exact z
theorem RwAt.at {H : Hp} {v : V} {rs : List Row} (h : RwAt H v rs) : ∃ a xs, v = .ref a ∧ H a = some (.lst xs) ∧ xs.length = rs.length ∧ ∀ (i : Int), 0 ≤ i → i < (rs.length : Int) → ∃ t, atI xs i = some (.ref t) ∧ H t = some (.tup [.bl (rwAt rs i).1, .int (rwAt rs i).2]) := by
  obtain ⟨a, rfl, xs, h1, h2, h3⟩ := h
  rw [List.length_map] at h2
  refine ⟨a, xs, rfl, h1, h2, fun i h0 hi => ?_⟩
  have er := rwAt_get (rs := rs) (h := i) (by omega)
  obtain ⟨x, e, t, e2, e3⟩ := h3 i.toNat _ (by rw [List.getElem?_map, er]; rfl)
  rw [e2] at e
  exact ⟨t, atI_of h0 e, e3⟩
/-- [(f r, g r) for row in rows]: rows again -/
theorem lc_mkR {K : PySem.W.Frag} {H : Hp} {a D : Addr} {rs : List Row} {h : Row → Row} {te : TE} {vs : List Nat} {σ : L2.St} {j : Nat} {Qd : Hp → Prop} (hs : RwAt H (.ref a) rs) (hl : rs.length ≤ 10000) (hD : H D = none)
    (hw : ∀ x, wipe ((wipe σ vs).set j (some x)) vs = wipe σ vs)
    (he : ∀ r ∈ rs, ∀ t H1, SqT K H1 t [.bl r.1, .int r.2] → ∀ Q : VK, (∀ q, H1 q = none → Q (.ref q) (upd H1 q (.tup [.bl (h r).1, .int (h r).2]))) → te ((wipe σ vs).set j (some (.ref t))) H1 Q) (kk : ∀ H', Evl.Ex H H' → RwAt H' (.ref D) (rs.map h) → Qd H') :
    ∃ W : Nat → Nat → Hp → Prop, (∃ m, W 0 m (upd H D (.lst []))) ∧ ∀ i m H, W i m H →
      ((Itl K a).stop i H ∧ Qd H) ∨ ((Itl K a).go i H ∧ ∃ Nx : Hp → Prop, (∀ H', Nx H' → ∃ m', m' < m ∧ W (i + 1) m' H') ∧ ∀ x H', (Itl K a).yld i H x H' → gName j x (wipe σ vs) H' fun σ2 H2 => wipe σ2 vs = wipe σ vs ∧ tYes σ2 H2 fun b H3 =>
        if b = true then te σ2 H3 fun y H4 => ∃ acc, H4 D = some (.lst acc) ∧ acc.length < sizeLine ∧ Nx (upd H4 D (.lst (acc ++ [y]))) else Nx H3) := by
  obtain ⟨_, e0, os⟩ := hs
  cases e0
  obtain ⟨xs, hx, ov⟩ := os.all
  have l1 := ov.len
  rw [List.length_map] at l1
  refine lc_it (walk_list (xs := xs)) (fun i H' => ∃ ys, H' D = some (.lst ys) ∧ OvAll H' ys (((rs.take i).map h).map some) ∧ Evl.Ex H H') ⟨[], upd_same, .nil, Evl.Ex.new hD⟩ ?_ ?_ ?_
  · rintro i H' _ ⟨_, _, _, e⟩
    exact Evl.ex_l e (SqL.of hx)
  · rintro i v H1 H2 hi ⟨ys, h1, h2, e1⟩ ⟨rfl, ey⟩
    have et := List.getElem?_eq_getElem (l := rs) (i := i) (by omega)
    generalize hr0 : rs[i] = r at et
    obtain ⟨x, ex, t, e2, e3⟩ := ov.get i _ (by rw [List.getElem?_map, et]; rfl)
    rw [e2] at ex
    rw [ex] at ey
    cases ey
    have tk : rs.take (i + 1) = rs.take i ++ [r] := take_snoc et
    refine ⟨hw _, r_yes ?_⟩
    refine iteT (he r (List.mem_of_getElem? et) t H2 (SqT.of (e1 _ _ e3)) _ fun q hq => ?_)
    have Dq : D ≠ q := ne_of_none h1 hq
    have yl := h2.len
    rw [List.length_map, List.length_map, List.length_take] at yl
    have e4 := Evl.Ex.new (o := .tup [.bl (h r).1, .int (h r).2]) hq
    refine ⟨ys, by rw [upd_ne Dq]; exact h1, Evl.sz_lt (by omega), ys ++ [.ref q], upd_same, ?_, (e1.trans e4).mut hD⟩
    have ext : ExT (upd H2 q (.tup [.bl (h r).1, .int (h r).2])) (upd (upd H2 q (.tup [.bl (h r).1, .int (h r).2])) D (.lst (ys ++ [.ref q]))) := ExT.lst (xs := ys) (by rw [upd_ne Dq]; exact h1)
    rw [tk, List.map_append, List.map_append]
    exact OvAll.append (h2.keep ((ExT.of e4).trans ext)) (.cons ⟨q, rfl, ext _ _ upd_same⟩ .nil)
  · rintro H' ⟨ys, h1, h2, e1⟩
    rw [l1, List.take_length] at h2
    exact kk H' e1 ⟨D, rfl, OvAll.at h1 h2⟩
theorem ints_exB {H H' : Hp} {p c q : Addr} {ns : List Int} (hP : PotC H p c) (e : ExB p H H') (h : H q = some (.lst (ns.map V.int))) : H' q = some (.lst (ns.map V.int)) := by
  obtain ⟨cs, a, r, h1, _⟩ := hP
  exact e q _ (ne_of h h1 fun w => ints_np _ _ _ (HO.lst.inj w)) h
/-- lists of rows, each of n -/
def Rws (H : Hp) (n : Nat) (xs : List V) : Prop := ∀ x ∈ xs, ∃ rs, rs.length = n ∧ RwAt H x rs
theorem Rws.nil {H : Hp} {n : Nat} : Rws H n [] := fun x hx => by cases hx
theorem Rws.cons {H : Hp} {n : Nat} {x : V} {xs : List V} {rs : List Row} (h : RwAt H x rs) (l : rs.length = n) (t : Rws H n xs) : Rws H n (x :: xs) := fun y hy => by
  rcases List.mem_cons.mp hy with e | hy
  · exact ⟨rs, l, e ▸ h⟩
  · exact t y hy
theorem Rws.append {H : Hp} {n : Nat} {xs ys : List V} (a : Rws H n xs) (b : Rws H n ys) : Rws H n (xs ++ ys) := fun y hy => (List.mem_append.mp hy).elim (a y) (b y)
theorem Rws.ex {H H' : Hp} {n : Nat} {xs : List V} (h : Rws H n xs) (e : Evl.Ex H H') : Rws H' n xs := fun x hx => by
  obtain ⟨rs, l, r⟩ := h x hx
  exact ⟨rs, l, r.ex e⟩
theorem Rws.wr {H : Hp} {S l : Addr} {r ys : List V} {o : HO} {n : Nat} {xs : List V} (h : Rws H n xs) (hS : H S = some (.lst (.ref l :: r))) (hl : H l = some (.lst ys)) : Rws (L2.upd H S o) n xs := fun x hx => by
  obtain ⟨rs, e, q⟩ := h x hx
  exact ⟨rs, e, q.wr hS hl⟩
theorem Rws.exB {H H' : Hp} {p c : Addr} {n : Nat} {xs : List V} (h : Rws H n xs) (hP : PotC H p c) (e : ExB p H H') : Rws H' n xs := fun x hx => by
  obtain ⟨rs, l, r⟩ := h x hx
  exact ⟨rs, l, r.exB hP e⟩
/-! ### an exception kept behind its clause -/
/-- what stands at a: an exception of this class, its dict -/
def KeptO (cls : Value) (d : Option Addr) (a : Addr) : HO := .ext fun h => ∃ (o : Obj) (vs : Array Value), h.get? a = some o ∧ Zc cls d o ∧ o.data = .fields vs
section
variable {X : Cx} {pins : List (Addr × Obj)} {σ : L2.St} {H : Hp} {s : Shared}
/-- a pinned object of ours is told from now on -/
theorem inv_told {a : Addr} {o1 : Obj} {u : HO} (J : Inv X ((a, o1) :: pins) σ H s) (hnew : X.s_0.heap.get? a = none) (hpin : ∀ p ∈ X.pn ++ pins, p.1 ≠ a) (good : ObjOk X.prog X.w (L2.upd H a u) s.heap a u) : Inv X pins σ (L2.upd H a u) s := by
  obtain ⟨p1, p2, p3, p4, p5⟩ := J.pin (a, o1) (List.mem_append_right _ List.mem_cons_self)
  have p1 : s.heap.get? a = some o1 := p1
  have p2 : H a = none := p2
  have p3 : a ≠ X.env.locals := p3
  have far : ∀ {b : Addr} {v : HO}, H b = some v → b ≠ a := fun {b v} e z => by rw [z, p2] at e; cases e
  have cel : ∀ x c, X.env.cells.lookup x = some c → c ≠ a := fun x c e z => by
    obtain ⟨v, q, hq, hd⟩ := J.cell x c e
    rw [z, p1] at hq
    cases hq
    exact p5 _ hd
  exact {
    ok := J.ok, os := J.os, bare := J.bare, loc := J.loc, cell := J.cell, len := J.len
    base := {
      keep := J.base.keep, slot := J.base.slot, there := J.base.there
      free := fun b q e n hx => by
        rw [upd_ne (fun z => by rw [z, hnew] at e; cases e)]
        exact J.base.free b q e n hx
      tups := fun b xs e => by
        have r := J.base.tups b xs e
        rw [upd_ne (far r)]
        exact r
      frzs := fun b q v e => by
        have r := J.base.frzs b q v e
        rw [upd_ne (far r)]
        exact r
      tbls := fun b ps e => by
        obtain ⟨m, r⟩ := J.base.tbls b ps e
        exact ⟨m, by rw [upd_ne (far r)]; exact r⟩ }
    free := by rw [upd_ne p3.symm]; exact J.free
    freeC := fun x c e => by rw [upd_ne (cel x c e)]; exact J.freeC x c e
    pin := fun p hp => by
      have hp' : p ∈ X.pn ++ ((a, o1) :: pins) := by
        rcases List.mem_append.mp hp with z | z
        · exact List.mem_append_left _ z
        · exact List.mem_append_right _ (List.mem_cons_of_mem _ z)
      obtain ⟨q1, q2, q3, q4, q5⟩ := J.pin p hp'
      exact ⟨q1, by rw [upd_ne (hpin p hp)]; exact q2, q3, q4, q5⟩
    hok := fun b v e => by
      by_cases hb : b = a
      · rw [hb, upd_same] at e
        cases e
        rw [hb]
        exact good
      · rw [upd_ne hb] at e
        exact (J.hok b v e).stay (fun c w _ q => q) (fun c q => by rw [upd_ne (far q)]; exact q) fun c xs q => by rw [upd_ne (far q)]; exact q }
end
/-- what 'except x as n: y = n' wishes of an exception; i, j: the places of n, y -/
def wKept (K : PySem.W.Frag) (c : Value) (i j : Nat) (Wout : WX) (D : Ends) : WX := fun cls d σ H =>
  ∃ b, PySem.W.exmOne K cls c = some b ∧ (b = true → ∀ a, H a = none → D.nx (((σ.set i (some (.ref a))).set j (some (.ref a))).set i none) (L2.upd H a (KeptO cls d a))) ∧ (b = false → Wout cls d σ H)
section
variable {X : Cx} {x n : Str} {c : Value} {i j : Nat} {body : List Stmt} {st : Stmt} {np pos pos' : Pos} {tb : WX → TS} {Wout : WX}
theorem ps_kept (hx : X.ex = []) (hs : X.stack = X.env :: X.outer) (hf : X.env.frame = some X.env.locals) (hN : X.N.Nodup) (hi : X.N[i]? = some n) (hln : X.env.kindOf n = some .local) (hc : Names X x c) (tk : Takes X Wout)
    (hb : ∀ (W : WX) (pn : List (Addr × Obj)) (xe : Value → Shared → Prop), Takes (X.tr pn xe) W → PassesOwn (model X.prog X.w) X.A X.env xe → PSs (X.tr pn xe) body (tb W))
    (hsu : ∀ (a : Addr) (o : Obj) (pn : List (Addr × Obj)), PSs (X.suite a ((a, o) :: pn)) [st] (tAsg (tVar i) (gName j))) :
    PS X (.Try body [.ExceptHandler (some (.Name x np)) (some n) [st] pos'] [] [] pos) (fun D σ H => tb (wKept X.K c i j Wout D) D σ H) := by
  constructor
  intro pins s0 σ0 H0 D I0 h0
  have good := I0.ok
  have fr0 : X.A.frames = some (X.env :: X.outer) := hs ▸ good.frames
  have ln : Loc X.env.scope n := Or.inl hln
  apply wpAny_Try_except
  let catch' : Value → Shared → Prop := fun e s₁ => wpAny (model X.prog X.w) X.A (noteFrame e X.env) (fun _ s₂ => wpAny (model X.prog X.w) X.A (setFlight e none)
    (fun _ s₃ => wpAny (model X.prog X.w) X.A (handleBy e X.env [.ExceptHandler (some (.Name x np)) (some n) [st] pos']) (SP X pins D) X.xe s₃) X.xe s₂) X.xe s₁
  have caught : Takes (X.tr (X.pn ++ pins) catch') (wKept X.K c i j Wout D) := by
    rintro u s1 ⟨a, B, sI, pns, σ1, H1, cls, d, rfl, J', nb, up, sky, na, os, ag, b, hb1, hyes, hno⟩
    have J : Inv X pins σ1 H1 sI := J'.ofTry good
    rw [show (X.tr (X.pn ++ pins) catch').stack = X.env :: X.outer from hs] at sky nb
    show wpAny (model X.prog X.w) X.A (noteFrame (.ref a) X.env) _ _ _
    refine Sky.land Zc.steady fr0 hf sky fun g1 l1 u1 => ?_
    have nbJ : ∀ b o, sI.heap.get? b = some o → b ∉ frs X.stack → B.get? b = some o := by rw [hs]; exact nb
    have K1 : Inv X pins σ1 H1 { s1 with heap := g1 } := J.landed nbJ l1.1 (up.trans u1) os ag
    obtain ⟨o1, v1, a1, y1, d1⟩ := l1.there
    obtain ⟨-, gone, ff, _⟩ := id l1
    have out : a ∉ frs (X.env :: X.outer) := fun hm => by
      obtain ⟨_, o', e', bad⟩ := ff.mem hm
      rw [a1] at e'
      cases e'
      exact bad _ d1
    have aL : a ≠ X.env.locals := by
      rintro rfl
      exact out (List.mem_filterMap.mpr ⟨X.env, List.mem_cons_self, hf⟩)
    have aF : a ∉ X.fs := fun hm => by
      obtain ⟨e, he, q⟩ := List.mem_filterMap.mp hm
      exact out (List.mem_filterMap.mpr ⟨e, List.mem_cons_of_mem _ he, q⟩)
    have notI : ∀ o, sI.heap.get? a ≠ some o := fun o e => by
      have := nb a o e out
      rw [gone] at this
      cases this
    have new0 : X.s_0.heap.get? a = none := by
      cases e : X.s_0.heap.get? a with
      | none => rfl
      | some o =>
        obtain ⟨o', e'⟩ := J.base.there a o e (by rw [hx]; exact List.not_mem_nil)
        exact absurd e' (notI o')
    have apart : ∀ p ∈ X.pn ++ pins, p.1 ≠ a := fun p hp z => by
      have q := (J.pin p hp).1
      rw [z] at q
      exact notI _ q
    have S1 := K1.suite a1 d1 na aL aF
    refine wpAny_handleBy_cons (codeAny_handlers_test ?_) (by intro q; cases q)
    have seen : PySem.W.Looks (model X.prog X.w) g1 (typeOf (.ref a)) cls := fun A Q E s k q => wpAny_typeOf_ref (k _ _ a1) (by rw [y1.1]; exact q)
    have asked := PySem.W.exm_one (M := model X.prog X.w) K1.kIn seen hb1
    have named : ∀ {Q : Value → Shared → Prop} {E : Value → Shared → Prop}, Q c { s1 with heap := g1 } → wpAny (model X.prog X.w) (X.A.mark (some (.ref a))) (eval (.Name x np) X.env) Q E { s1 with heap := g1 } := by
      intro Q E q
      rcases hc with ⟨k1, k2, k3 | ⟨k3, k4, k5⟩⟩
      · exact ld_glob (X := X.suite a ((a, o1) :: (X.pn ++ pins))) S1 k1 k3 q k2
      · exact ld_blt (X := X.suite a ((a, o1) :: (X.pn ++ pins))) S1 k1 k3 k4 q k5 k2
    refine named (asked.here ?_)
    cases b with
    | true =>
      refine codeAny_handlers_suite_as ?_
      refine HandSPX.lands_againZ l1 fun g2 l2 u2 => ?_
      have K2 : Inv X pins σ1 H1 { s1 with heap := g2 } := J.landed nbJ l2.1 ((up.trans u1).trans u2) os ag
      obtain ⟨o2, v2, a2, y2, d2⟩ := l2.there
      have S2 := K2.suite a2 d2 na aL aF
      refine store_ok (X := X.suite a ((a, o2) :: (X.pn ++ pins))) (v := .ref a) S2 hN hi ln rfl (fun s3 S3 => ?_) (.inr hln)
      have len : i < σ1.length := by
        rw [K2.len]
        exact (List.getElem?_eq_some_iff.mp hi).1
      let D2 : Ends := { nx := fun σ' H' => σ' = (σ1.set i (some (.ref a))).set j (some (.ref a)) ∧ H' = H1, rt := fun _ _ => False, bk := fun _ _ => False, ct := fun _ _ => False }
      refine wpAny_mono ((hsu a o2 (X.pn ++ pins)).run [] s3 _ H1 D2 S3 (r_asg (r_var (List.getElem?_set_self len) ⟨rfl, rfl⟩))) (fun f s4 hsp => ?_) (fun _ _ z => False.elim z)
      cases f with
      | next =>
        obtain ⟨σ4, H4, S4, rfl, rfl⟩ := hsp
        have K4 : Inv X ((a, o2) :: pins) ((σ1.set i (some (.ref a))).set j (some (.ref a))) H4 s4 := {
          ok := good, os := S4.os, bare := S4.bare, base := S4.base, loc := S4.loc, cell := S4.cell, free := S4.free, freeC := S4.freeC, hok := S4.hok, len := S4.len
          pin := fun p hp => S4.pin p (List.mem_append_left _ (by
            rcases List.mem_append.mp hp with z | z
            · exact List.mem_cons_of_mem _ (List.mem_append_left _ z)
            · rcases List.mem_cons.mp z with z | z
              · rw [z]; exact List.mem_cons_self
              · exact List.mem_cons_of_mem _ (List.mem_append_right _ z))) }
        refine gone_ok K4 hN hi hln fun s5 K5 => ?_
        obtain ⟨p1, p2, _⟩ := K5.pin (a, o2) (List.mem_append_right _ List.mem_cons_self)
        exact ⟨_, _, inv_told (u := KeptO cls d a) K5 new0 apart ⟨⟨o2, v2, p1, y2, d2⟩, ⟨o2, p1⟩, fun _ _ ⟨o, v, q, r⟩ k => ⟨o, v, k o q, r⟩⟩, hyes rfl a na⟩
      | brk =>
        obtain ⟨_, _, _, q⟩ := hsp
        exact q.elim
      | cont =>
        obtain ⟨_, _, _, q⟩ := hsp
        exact q.elim
      | ret u =>
        obtain ⟨_, _, _, _, _, q⟩ := hsp
        exact q.elim
    | false =>
      show wpAny _ X.A (handleBy (.ref a) X.env []) _ _ _
      refine wpAny_handleBy_nil ?_
      obtain ⟨_, _, _, o3, v3, T, _, _, e3, _, d3, t3, _⟩ := id l1
      unfold PySem.passOn
      refine wpAny_bind (wpAny_field e3 d3 t3 ?_)
      rw [if_neg (show ¬ ((Value.ref T == Value.none) = true) from by simp)]
      have onward : wpAny (model X.prog X.w) X.A (setFlight (.ref a) X.env.frame) (fun _ s4 => wpAny (model X.prog X.w) X.A (throw (.ref a) : Sem Flow) (SP X pins D) X.xe s4) X.xe { s1 with heap := g1 } := by
        rw [hf]
        refine HandSPX.setFlight_upZ l1 fun g2 m2 u2 => wpAny_throw (tk _ _ ?_)
        exact ⟨a, B, sI, pins, σ1, H1, cls, d, rfl, J, nbJ, (up.trans u1).trans u2, .inr (.inr (by rw [hs]; exact m2)), na, os, ag, hno rfl⟩
      first
        | exact wpAny_bind (wpAny_pure (wpAny_bind onward))
        | exact wpAny_bind onward
  refine wpAny_mono ((hb (wKept X.K c i j Wout D) (X.pn ++ pins) catch' caught PassesOwn.looking).run [] s0 σ0 H0 D (I0.toTry _) h0) (fun f s1 hsp => ?_) (fun _ _ z => z)
  cases f with
  | next =>
    obtain ⟨σ1, H1, J1, q⟩ := hsp
    exact wpAny_execs_nil ⟨σ1, H1, J1.ofTry good, q⟩
  | brk =>
    obtain ⟨σ1, H1, J1, q⟩ := hsp
    exact ⟨σ1, H1, J1.ofTry good, q⟩
  | cont =>
    obtain ⟨σ1, H1, J1, q⟩ := hsp
    exact ⟨σ1, H1, J1.ofTry good, q⟩
  | ret u =>
    obtain ⟨v, σ1, H1, J1, r, q⟩ := hsp
    exact ⟨v, σ1, H1, J1.ofTry good, r, q⟩
end
/-- the object at a is an exception of the class D, without a dict: told by whatever is kept of it -/
def ExcAt (H : Hp) (a D : Addr) : Prop := ∃ φ : Heap → Prop, H a = some (.ext φ) ∧ ∀ h, φ h → ∃ (o : Obj) (vs : Array Value), h.get? a = some o ∧ Zc (.ref D) none o ∧ o.data = .fields vs
theorem ExcAt.kept {H : Hp} {a D : Addr} (e : H a = some (KeptO (.ref D) none a)) : ExcAt H a D := ⟨_, e, fun _ z => z⟩
theorem ExcAt.ex {H H' : Hp} {a D : Addr} (h : ExcAt H a D) (e : Evl.Ex H H') : ExcAt H' a D := by
  obtain ⟨φ, h1, h2⟩ := h
  exact ⟨φ, e _ _ h1, h2⟩
/-- isinstance(x, c), x an exception that is told -/
def rIsK (K : PySem.W.Frag) : List V → Hp → VK → Prop := fun xs H Q => ∃ (a D : Addr) (c : V) (cv : Value) (b : Bool), xs = [.ref a, c] ∧ ExcAt H a D ∧ ExcC K D ∧ (∀ u, RelV c u → u = cv) ∧ PySem.W.kitOne K (.ref D) cv = some b ∧ Q (.bl b) H
theorem call_isK {X : Cx} : CallR X (.builtin "isinstance") (rIsK X.K) := by
  intro pins s σ H xs us Q I r h
  obtain ⟨a, D, c, cv, b, rfl, ⟨φ, ha, hφ⟩, C, hcv, e, q⟩ := h
  match us, r with
  | [_, _], .cons rx (.cons rt .nil) =>
    cases rx
    obtain rfl := hcv _ rt
    obtain ⟨o, vs, hg, hz, hd⟩ := hφ _ (I.hok a _ ha).1
    have J : PySem.W.InstAt s.heap a o D none := by
      obtain ⟨oc, od, oda, osl⟩ := o
      obtain ⟨h1, h2⟩ := hz
      dsimp only at h1 h2 hd
      subst h1 h2 hd
      exact ⟨hg, rfl, rfl, trivial⟩
    exact PySem.W.kia_one (PySem.W.handS_kitx_exc C.hg C.hk C.hs C.hd C.ha C.hn C.ht C.hm) I.kIn J e (fun z => nomatch z) fun tk => ⟨.bl b, H, I.kept (t' := tk) fun _ _ z => z, rfl, q⟩
theorem relC {C : Addr} {u : Value} (r : RelV (.ref C) u) : u = .ref C := r
theorem r_isK {K : PySem.W.Frag} {H : Hp} {Q : VK} {a D C : Addr} {b : Bool} (h : ExcAt H a D) (e : ExcC K D) (k : PySem.W.kitOne K (.ref D) (.ref C) = some b) (q : Q (.bl b) H) : rIsK K [.ref a, .ref C] H Q := ⟨a, D, _, _, b, rfl, h, e, fun _ r => r, k, q⟩
/-! ### xs.count(y), flat values -/
def rCntV (K : PySem.W.Frag) : V → List V → Hp → VK → Prop := fun x xs H Q => ∃ (p : Addr) (ys : List V) (y : V), x = .ref p ∧ xs = [y] ∧ SqL K H p ys ∧ flatV y = true ∧ ys.all flatV = true ∧ Q (.int ((ys.countP fun z => eqV z y : Nat) : Int)) H
theorem cnt_eqU {y : V} : ∀ {ys : List V} {us : List Value}, Vals ys us → ys.all flatV = true → us.countP (eqU y) = ys.countP fun z => eqV z y
  | _, _, .nil, _ => rfl
  | z :: ys, u :: us, .cons r t, f => by
    rw [List.all_cons, Bool.and_eq_true] at f
    rw [List.countP_cons, List.countP_cons, eqU_of r f.1, cnt_eqU t f.2]
theorem mt_cntV {X : Cx} : MtR X "list.count" (rCntV X.K) := by
  intro pins s σ H x xs v us Q I rx rxs h
  obtain ⟨p, ys, y, rfl, rfl, hs, fy, fys, q⟩ := h
  cases rx
  obtain ⟨u, rfl, ru⟩ := rxs.one
  obtain ⟨its, rv, ⟨⟨cls, dd, data, sl⟩, n, ho, hc, hdn, hd⟩, hlen⟩ := I.list hs
  simp only at hc hd
  subst hc hd
  refine call_meets PySem.F.slot_list_count ⟨_, ho, rfl⟩ PySem.F.entry_list_count (PySem.F.args_list_count_2 _ _) (SeqAt.list_countAt p its.toArray n dd sl u (eqU y)) ⟨ho, fun w hw => mem_eqAt ru fy rv fys w (by simpa using hw), ?_⟩
  have ec : its.toArray.toList.countP (eqU y) = ys.countP fun z => eqV z y := cnt_eqU rv fys
  exact ⟨.int ((ys.countP fun z => eqV z y : Nat) : Int), H, I.tok _, ⟨s.toks, congrArg (fun m : Nat => Value.int (m : Int) s.toks) ec⟩, q⟩
/-! ### the classes' facts, from the written part's answers -/
theorem kit_self {K : PySem.W.Frag} {C : Addr} : PySem.W.kitOne K (.ref C) (.ref C) = some true := by
  unfold PySem.W.kitOne
  rw [if_pos (beq_iff_eq.mpr rfl)]
theorem kit_ne {K : PySem.W.Frag} {D C : Addr} {b : Bool} (h0 : D ≠ C) (h1 : PySem.W.hasDictIn K C = true) (h2 : PySem.W.typeIn K (.ref C) = some (.type "type")) (h3 : PySem.W.subIn K (.ref D) (.ref C) = some b) : PySem.W.kitOne K (.ref D) (.ref C) = some b := by
  obtain ⟨cd, hc, _⟩ := PySem.W.any_some h1
  unfold PySem.W.kitOne
  rw [if_neg (fun z => h0 (Value.ref.inj (beq_iff_eq.mp z)))]
  unfold PySem.W.kitCls
  simp only
  rw [if_pos (by rw [hc, h2]; rfl)]
  exact h3
theorem kit_type {K : PySem.W.Frag} {D : Addr} {t : String} {b : Bool} (h1 : PySem.W.kitMeta t = true) (h3 : PySem.W.subIn K (.ref D) (.type t) = some b) : PySem.W.kitOne K (.ref D) (.type t) = some b := by
  unfold PySem.W.kitOne
  rw [if_neg (fun z => by have := beq_iff_eq.mp z; cases this)]
  unfold PySem.W.kitCls
  simp only
  rw [if_pos h1]
  exact h3
/-! ### a heap of two parts: what stays (F) and what is one's own (M) -/
/-- what is told of a cell of one's own: an object, the law's pot -/
inductive Cel where
  | is (o : HO)
  | pot
def PotS (F H : Hp) (p : Addr) : Prop := ∃ (c : Addr) (cs : List Int) (at' r : Int), H p = some (.lst [.ref c, .int at', .int r]) ∧ F c = some (.lst (cs.map V.int)) ∧ 0 ≤ at' ∧ 0 ≤ r ∧ cs.length ≤ 100
def Cel.ok (io : List Addr) (H0 F H : Hp) (a : Addr) : Cel → Prop
  | .is o => H a = some o ∧ H0 a = none
  | .pot => PotS F H a ∧ (a ∈ io ∨ H0 a = none)
/-- io: cells of the caller's that may be written; H0, F0: at the entry; F: what stays; M: one's own -/
structure Sep (io : List Addr) (H0 F0 F H : Hp) (M : List (Addr × Cel)) : Prop where
  old : ∀ a o, H0 a = some o → a ∉ io → H a = some o
  nn : ∀ a, H a = none → H0 a = none
  gr : Evl.Ex F0 F
  gn : ∀ a, F a ≠ none → F0 a ≠ none ∨ H0 a = none
  fr : Evl.Ex F H
  own : ∀ m ∈ M, m.2.ok io H0 F H m.1 ∧ F m.1 = none
  nd : (M.map (·.1)).Nodup
theorem Cel.nz {io : List Addr} {H0 F H : Hp} {a : Addr} {c : Cel} (h : c.ok io H0 F H a) : H a ≠ none := by
  cases c with
  | is o => intro e; rw [h.1] at e; cases e
  | pot => obtain ⟨⟨c, cs, x, r, h, _⟩, _⟩ := h; intro e; rw [h] at e; cases e
theorem Cel.mono {io : List Addr} {H0 F H F' H' : Hp} {a : Addr} {c : Cel} (h : c.ok io H0 F H a) (e : Evl.Ex F F') (k : ∀ o, H a = some o → H' a = some o) : c.ok io H0 F' H' a := by
  cases c with
  | is o => exact ⟨k _ h.1, h.2⟩
  | pot => obtain ⟨⟨c, cs, x, r, h1, h2, h3⟩, h4⟩ := h; exact ⟨⟨c, cs, x, r, k _ h1, e _ _ h2, h3⟩, h4⟩
theorem Hp.ne {H : Hp} {a b : Addr} (h : H a ≠ none) (g : H b = none) : a ≠ b := fun e => h (by rw [e]; exact g)
theorem Hp.some_ne {H : Hp} {a : Addr} {o : HO} (h : H a = some o) : H a ≠ none := fun e => by rw [h] at e; cases e
section
variable {io : List Addr} {H0 F0 F H F1 : Hp} {M N : List (Addr × Cel)} {K : PySem.W.Frag} {a p : Addr} {o : HO} {xs : List V} {v : V} {d : PyData}
theorem Sep.start0 (fr : Evl.Ex F H) : Sep [] H F F H [] := ⟨fun _ _ h _ => h, fun _ h => h, Evl.Ex.refl _, fun _ h => .inl h, fr, fun m hm => (by cases hm), List.nodup_nil⟩
theorem Sep.startP (fr : Evl.Ex F H) (hF : F p = none) (hp : PotS F H p) : Sep [p] H F F H [(p, .pot)] :=
  ⟨fun _ _ h _ => h, fun _ h => h, Evl.Ex.refl _, fun _ h => .inl h, fr, fun m hm => by
    rw [List.mem_singleton] at hm
    subst hm
    exact ⟨⟨hp, .inl List.mem_cons_self⟩, hF⟩, by simp⟩
theorem Sep.fnone (S : Sep io H0 F0 F H M) (h : H a = none) : F a = none := by
  cases e : F a with
  | none => rfl
  | some o => rw [S.fr a o e] at h; cases h
theorem Sep.newF (S : Sep io H0 F0 F H M) (hp : H p = none) (o : HO) : Sep io H0 F0 (upd F p o) (upd H p o) M := by
  have fp := S.fnone hp
  refine ⟨fun a u h n => ?_, fun a h => ?_, S.gr.trans (Evl.Ex.new fp), fun a h => ?_, fun a u h => ?_, fun m hm => ?_, S.nd⟩
  · have q := S.old a u h n
    rw [upd_ne (Hp.ne (Hp.some_ne q) hp)]
    exact q
  · by_cases e : a = p
    · subst e; rw [upd_same] at h; cases h
    · rw [upd_ne e] at h; exact S.nn a h
  · by_cases e : a = p
    · subst e; exact .inr (S.nn a hp)
    · rw [upd_ne e] at h; exact S.gn a h
  · by_cases e : a = p
    · subst e; rw [upd_same] at h ⊢; exact h
    · rw [upd_ne e] at h ⊢; exact S.fr a u h
  · obtain ⟨h1, h2⟩ := S.own m hm
    have ne := Hp.ne (Cel.nz h1) hp
    exact ⟨Cel.mono h1 (Evl.Ex.new fp) fun u hu => by rw [upd_ne ne]; exact hu, by rw [upd_ne ne]; exact h2⟩
theorem Sep.newM (S : Sep io H0 F0 F H M) (hp : H p = none) (o : HO) : Sep io H0 F0 F (upd H p o) ((p, .is o) :: M) := by
  have fp := S.fnone hp
  have far : ∀ m ∈ M, m.1 ≠ p := fun m hm => Hp.ne (Cel.nz (S.own m hm).1) hp
  refine ⟨fun a u h n => ?_, fun a h => ?_, S.gr, S.gn, fun a u h => ?_, fun m hm => ?_, ?_⟩
  · have q := S.old a u h n
    rw [upd_ne (Hp.ne (Hp.some_ne q) hp)]
    exact q
  · by_cases e : a = p
    · subst e; rw [upd_same] at h; cases h
    · rw [upd_ne e] at h; exact S.nn a h
  · have q := S.fr a u h
    rw [upd_ne (Hp.ne (Hp.some_ne q) hp)]
    exact q
  · rcases List.mem_cons.mp hm with rfl | hm
    · exact ⟨⟨upd_same, S.nn p hp⟩, fp⟩
    · obtain ⟨h1, h2⟩ := S.own m hm
      exact ⟨Cel.mono h1 (Evl.Ex.refl _) fun u hu => by rw [upd_ne (far m hm)]; exact hu, h2⟩
  · rw [List.map_cons]
    refine List.nodup_cons.mpr ⟨fun h => ?_, S.nd⟩
    obtain ⟨m, hm, e⟩ := List.mem_map.mp h
    exact far m hm e
theorem mem_of_k {α : Type} {l : List α} {k : Nat} {x : α} (h : l[k]? = some x) : x ∈ l := List.mem_of_getElem? h
theorem nd_of_ne {M : List (Addr × Cel)} (h : (M.map (·.1)).Nodup) {k j : Nat} {x y : Addr × Cel} (hk : M[k]? = some x) (hj : M[j]? = some y) (ne : j ≠ k) : y.1 ≠ x.1 := fun e => by
  have h1 : (M.map (·.1))[k]? = some x.1 := by rw [List.getElem?_map, hk]; rfl
  have h2 : (M.map (·.1))[j]? = some x.1 := by rw [List.getElem?_map, hj]; exact congrArg some e
  exact ne (nd_ix' h h2 h1)
theorem set_map_fst {M : List (Addr × Cel)} {k : Nat} {a : Addr} {c c' : Cel} (hk : M[k]? = some (a, c)) : (M.set k (a, c')).map (·.1) = M.map (·.1) := by
  rw [List.map_set]
  refine List.ext_getElem? fun j => ?_
  by_cases e : j = k
  · subst e
    have lt : j < M.length := (List.getElem?_eq_some_iff.mp hk).1
    rw [List.getElem?_set_self (by rw [List.length_map]; exact lt), List.getElem?_map, hk]
    rfl
  · rw [List.getElem?_set_ne (Ne.symm e)]
/-- a cell of one's own is written -/
theorem Sep.put (S : Sep io H0 F0 F H M) (k : Nat) {u : HO} (hk : M[k]? = some (a, .is u)) (o : HO) : Sep io H0 F0 F (upd H a o) (M.set k (a, .is o)) := by
  obtain ⟨⟨g1, g2⟩, g3⟩ := S.own _ (mem_of_k hk)
  refine ⟨fun b u h n => ?_, fun b h => ?_, S.gr, S.gn, fun b u h => ?_, fun m hm => ?_, ?_⟩
  · rw [upd_ne (Hp.ne (Hp.some_ne h) g2)]
    exact S.old b u h n
  · by_cases e : b = a
    · subst e; exact g2
    · rw [upd_ne e] at h; exact S.nn b h
  · rw [upd_ne (Hp.ne (Hp.some_ne h) g3)]
    exact S.fr b u h
  · obtain ⟨j, hj⟩ := List.mem_iff_getElem?.mp hm
    by_cases e : j = k
    · subst e
      rw [List.getElem?_set_self (List.getElem?_eq_some_iff.mp hk).1] at hj
      cases hj
      exact ⟨⟨upd_same, g2⟩, g3⟩
    · rw [List.getElem?_set_ne (Ne.symm e)] at hj
      obtain ⟨h1, h2⟩ := S.own m (mem_of_k hj)
      have ne := nd_of_ne S.nd hk hj e
      exact ⟨Cel.mono h1 (Evl.Ex.refl _) fun w hw => by rw [upd_ne ne]; exact hw, h2⟩
  · rw [set_map_fst hk]
    exact S.nd
/-- from now on it stays -/
theorem Sep.frz (S : Sep io H0 F0 F H M) (k : Nat) (hk : M[k]? = some (a, .is o)) : ∃ F', Sep io H0 F0 F' H (M.eraseIdx k) ∧ Evl.Ex F F' ∧ F' a = some o := by
  obtain ⟨⟨g1, g2⟩, g3⟩ := S.own _ (mem_of_k hk)
  refine ⟨upd F a o, ⟨S.old, S.nn, S.gr.trans (Evl.Ex.new g3), fun b h => ?_, fun b u h => ?_, fun m hm => ?_, ?_⟩, Evl.Ex.new g3, upd_same⟩
  · by_cases e : b = a
    · subst e; exact .inr g2
    · rw [upd_ne e] at h; exact S.gn b h
  · by_cases e : b = a
    · subst e; rw [upd_same] at h; cases h; exact g1
    · rw [upd_ne e] at h; exact S.fr b u h
  · have lt : k < M.length := (List.getElem?_eq_some_iff.mp hk).1
    obtain ⟨j, hj⟩ := List.mem_iff_getElem?.mp hm
    rw [List.getElem?_eraseIdx] at hj
    obtain ⟨j', ne, hj⟩ : ∃ j', j' ≠ k ∧ M[j']? = some m := by
      split at hj
      · exact ⟨j, by omega, hj⟩
      · exact ⟨j + 1, by omega, hj⟩
    obtain ⟨h1, h2⟩ := S.own m (mem_of_k hj)
    have ne := nd_of_ne S.nd hk hj ne
    exact ⟨Cel.mono h1 (Evl.Ex.new g3) fun w hw => hw, by rw [upd_ne ne]; exact h2⟩
  · exact S.nd.sublist ((List.eraseIdx_sublist M k).map _)
theorem Sep.sub (S : Sep io H0 F0 F H M) (h : N.Sublist M) : Sep io H0 F0 F H N :=
  ⟨S.old, S.nn, S.gr, S.gn, S.fr, fun m hm => S.own m (h.subset hm), S.nd.sublist (h.map _)⟩
theorem Sep.nil (S : Sep io H0 F0 F H M) : Sep io H0 F0 F H [] := S.sub (List.nil_sublist _)
theorem Sep.drop (S : Sep io H0 F0 F H M) (k : Nat) : Sep io H0 F0 F H (M.eraseIdx k) := S.sub (List.eraseIdx_sublist M k)
theorem Sep.topot (S : Sep io H0 F0 F H M) (k : Nat) (hk : M[k]? = some (p, .is o)) (h : PotS F H p) : Sep io H0 F0 F H (M.set k (p, .pot)) := by
  obtain ⟨⟨g1, g2⟩, g3⟩ := S.own _ (mem_of_k hk)
  refine ⟨S.old, S.nn, S.gr, S.gn, S.fr, fun m hm => ?_, ?_⟩
  · obtain ⟨j, hj⟩ := List.mem_iff_getElem?.mp hm
    by_cases e : j = k
    · subst e
      rw [List.getElem?_set_self (List.getElem?_eq_some_iff.mp hk).1] at hj
      cases hj
      exact ⟨⟨h, .inr g2⟩, g3⟩
    · rw [List.getElem?_set_ne (Ne.symm e)] at hj
      exact S.own m (mem_of_k hj)
  · rw [set_map_fst hk]
    exact S.nd
/-- the pot is written -/
theorem Sep.putPot (S : Sep io H0 F0 F H M) (k : Nat) (hk : M[k]? = some (p, .pot)) (o : HO) (hP : PotS F (upd H p o) p) : Sep io H0 F0 F (upd H p o) M := by
  obtain ⟨⟨g1, g2⟩, g3⟩ := S.own _ (mem_of_k hk)
  refine ⟨fun b u h n => ?_, fun b h => ?_, S.gr, S.gn, fun b u h => ?_, fun m hm => ?_, S.nd⟩
  · have ne : b ≠ p := fun e => by
      rw [e] at h n
      rcases g2 with z | z
      · exact n z
      · rw [h] at z; cases z
    rw [upd_ne ne]
    exact S.old b u h n
  · by_cases e : b = p
    · rw [e, upd_same] at h; cases h
    · rw [upd_ne e] at h; exact S.nn b h
  · rw [upd_ne (Hp.ne (Hp.some_ne h) g3)]
    exact S.fr b u h
  · obtain ⟨j, hj⟩ := List.mem_iff_getElem?.mp hm
    by_cases e : j = k
    · subst e
      rw [hk] at hj
      cases hj
      exact ⟨⟨hP, g2⟩, g3⟩
    · obtain ⟨h1, h2⟩ := S.own m (mem_of_k hj)
      have ne := nd_of_ne S.nd hk hj e
      exact ⟨Cel.mono h1 (Evl.Ex.refl _) fun w hw => by rw [upd_ne ne]; exact hw, h2⟩
/-- a call that writes nothing of ours -/
theorem Sep.comp (S : Sep io H0 F0 F H M) {F' H' : Hp} (S' : Sep [] H F F' H' N) : Sep io H0 F0 F' H' (N ++ M) := by
  have ex : ∀ a o, H a = some o → H' a = some o := fun a o h => S'.old a o h (by simp)
  refine ⟨fun a u h n => ex a u (S.old a u h n), fun a h => S.nn a (S'.nn a h), S.gr.trans S'.gr, fun a h => ?_, S'.fr, fun m hm => ?_, ?_⟩
  · rcases S'.gn a h with z | z
    · exact S.gn a z
    · exact .inr (S.nn a z)
  · rcases List.mem_append.mp hm with hm | hm
    · obtain ⟨h1, h2⟩ := S'.own m hm
      refine ⟨?_, h2⟩
      obtain ⟨x, c⟩ := m
      cases c with
      | is o => exact ⟨h1.1, S.nn _ h1.2⟩
      | pot =>
        obtain ⟨q, z | z⟩ := h1
        · cases z
        · exact ⟨q, .inr (S.nn _ z)⟩
    · obtain ⟨h1, h2⟩ := S.own m hm
      refine ⟨Cel.mono h1 S'.gr (ex _), ?_⟩
      cases e : F' m.1 with
      | none => rfl
      | some u =>
        rcases S'.gn m.1 (Hp.some_ne e) with z | z
        · exact absurd h2 z
        · exact absurd z (Cel.nz h1)
  · rw [List.map_append]
    refine List.nodup_append.mpr ⟨S'.nd, S.nd, ?_⟩
    intro x hx y hy e
    obtain ⟨m, hm, rfl⟩ := List.mem_map.mp hx
    obtain ⟨n, hn, rfl⟩ := List.mem_map.mp hy
    have h1 := (S'.own m hm).1
    have h2 := Cel.nz (S.own n hn).1
    obtain ⟨x, c⟩ := m
    cases c with
    | is o => exact h2 (by rw [← e]; exact h1.2)
    | pot =>
      obtain ⟨q, z | z⟩ := h1
      · cases z
      · exact h2 (by rw [← e]; exact z)
/-- a call that writes the pot -/
theorem Sep.compP (S : Sep io H0 F0 F H M) (k : Nat) (hk : M[k]? = some (p, .pot)) {F' H' : Hp} (S' : Sep [p] H F F' H' (N ++ [(p, .pot)])) : Sep io H0 F0 F' H' (N ++ M) := by
  obtain ⟨⟨g1, g2⟩, g3⟩ := S.own _ (mem_of_k hk)
  have ex : ∀ a o, a ≠ p → H a = some o → H' a = some o := fun a o n h => S'.old a o h (by simpa using n)
  have hp0 : H p ≠ none := by obtain ⟨_, _, _, _, h, _⟩ := g1; rw [h]; intro z; cases z
  have pp := S'.own (p, .pot) (List.mem_append_right _ (List.mem_singleton.mpr rfl))
  have np : ∀ m ∈ N, m.1 ≠ p := fun m hm e => by
    have nd := S'.nd
    rw [List.map_append] at nd
    exact (List.nodup_append.mp nd).2.2 m.1 (List.mem_map_of_mem hm) p (by simp) e
  refine ⟨fun a u h n => ?_, fun a h => S.nn a (S'.nn a h), S.gr.trans S'.gr, fun a h => ?_, S'.fr, fun m hm => ?_, ?_⟩
  · refine ex a u (fun e => ?_) (S.old a u h n)
    subst e
    rcases g2 with z | z
    · exact n z
    · rw [h] at z; cases z
  · rcases S'.gn a h with z | z
    · exact S.gn a z
    · exact .inr (S.nn a z)
  · rcases List.mem_append.mp hm with hm | hm
    · obtain ⟨h1, h2⟩ := S'.own m (List.mem_append_left _ hm)
      have n := np m hm
      refine ⟨?_, h2⟩
      obtain ⟨x, c⟩ := m
      cases c with
      | is o => exact ⟨h1.1, S.nn _ h1.2⟩
      | pot =>
        obtain ⟨q, z | z⟩ := h1
        · exact absurd (List.mem_singleton.mp z) n
        · exact ⟨q, .inr (S.nn _ z)⟩
    · obtain ⟨j, hj⟩ := List.mem_iff_getElem?.mp hm
      by_cases e : j = k
      · subst e
        rw [hk] at hj
        cases hj
        exact ⟨⟨pp.1.1, g2⟩, pp.2⟩
      · obtain ⟨h1, h2⟩ := S.own m hm
        refine ⟨Cel.mono h1 S'.gr fun u hu => ex _ u (nd_of_ne S.nd hk hj e) hu, ?_⟩
        cases q : F' m.1 with
        | none => rfl
        | some u =>
          rcases S'.gn m.1 (Hp.some_ne q) with z | z
          · exact absurd h2 z
          · exact absurd z (Cel.nz h1)
  · rw [List.map_append]
    refine List.nodup_append.mpr ⟨S'.nd.sublist ((List.sublist_append_left N _).map _), S.nd, ?_⟩
    intro x hx y hy e
    obtain ⟨m, hm, rfl⟩ := List.mem_map.mp hx
    obtain ⟨n, hn, rfl⟩ := List.mem_map.mp hy
    have h1 := (S'.own m (List.mem_append_left _ hm)).1
    have h2 := Cel.nz (S.own n hn).1
    have n' := np m hm
    obtain ⟨x, c⟩ := m
    cases c with
    | is o => exact h2 (by rw [← e]; exact h1.2)
    | pot =>
      obtain ⟨q, z | z⟩ := h1
      · exact absurd (List.mem_singleton.mp z) n'
      · exact h2 (by rw [← e]; exact z)
/-! reading -/
theorem Sep.rdL (S : Sep io H0 F0 F H M) (e : Evl.Ex F1 F) (h : SqL K F1 a xs) : SqL K H a xs := Evl.ex_l S.fr (Evl.ex_l e h)
theorem Sep.rdT (S : Sep io H0 F0 F H M) (e : Evl.Ex F1 F) (h : SqT K F1 a xs) : SqT K H a xs := Evl.ex_t S.fr (Evl.ex_t e h)
theorem Sep.rdC (S : Sep io H0 F0 F H M) (e : Evl.Ex F1 F) (h : F1 a = some o) : H a = some o := S.fr _ _ (e _ _ h)
theorem Sep.rdM (S : Sep io H0 F0 F H M) (k : Nat) (h : M[k]? = some (a, .is o)) : H a = some o := (S.own _ (mem_of_k h)).1.1
theorem Sep.rdD (S : Sep io H0 F0 F H M) (e : Evl.Ex F1 F) (h : Dp K F1 v d) : Dp K H v d := Dp.ex S.fr _ _ (Dp.ex e _ _ h)
theorem Sep.ex (S : Sep [] H0 F0 F H M) : Evl.Ex H0 H := fun a o h => S.old a o h (by simp)
end
/-! ### new things -/
def newK (H : Hp) (o : HO) (Q : VK) : Prop := ∀ p, H p = none → Q (.ref p) (upd H p o)
section
variable {io : List Addr} {H0 F0 F H : Hp} {M : List (Addr × Cel)} {K : PySem.W.Frag} {o : HO} {Q : VK} {σ : L2.St} {ta : TA} {te : TE}
theorem s_new (S : Sep io H0 F0 F H M) (k : ∀ p F' H', Sep io H0 F0 F' H' M → Evl.Ex F F' → F' p = some o → Q (.ref p) H') : newK H o Q := fun p hp =>
  k p _ _ (S.newF hp o) (Evl.Ex.new (S.fnone hp)) upd_same
theorem s_own (S : Sep io H0 F0 F H M) (k : ∀ p H', Sep io H0 F0 F H' ((p, .is o) :: M) → Q (.ref p) H') : newK H o Q := fun p hp => k p _ (S.newM hp o)
theorem s_tup (h : ta σ H fun xs H1 => xs.length ≤ sizeLine ∧ newK H1 (.tup xs) Q) : tTup ta σ H Q := h
theorem s_lst (h : ta σ H fun xs H1 => xs.length ≤ sizeLine ∧ newK H1 (.lst xs) Q) : tLst ta σ H Q := h
end
/-! ### calls -/
def SpF {α : Type} (A : α → List V → Hp → Prop) (B : α → V → List (Addr × Cel) → Hp → Prop) : Sp := fun vs H Q _ => ∃ (x : α) (F : Hp), Evl.Ex F H ∧ A x vs F ∧
  ∀ (v : V) (N : List (Addr × Cel)) (F' H' : Hp), Sep [] H F F' H' N → B x v N F' → Q v H'
def SpP {α : Type} (A : α → List V → Hp → Prop) (B : α → V → List (Addr × Cel) → Hp → Prop) : Sp := fun vs H Q _ => ∃ (x : α) (F : Hp) (p : Addr) (r : List V), vs = .ref p :: r ∧ Evl.Ex F H ∧ F p = none ∧ PotS F H p ∧ A x r F ∧
  ∀ (v : V) (N : List (Addr × Cel)) (F' H' : Hp), Sep [p] H F F' H' (N ++ [(p, .pot)]) → B x v N F' → Q v H'
section
variable {io : List Addr} {H0 F0 F H : Hp} {M : List (Addr × Cel)} {Q : VK} {E : XK} {α : Type} {A : α → List V → Hp → Prop} {B : α → V → List (Addr × Cel) → Hp → Prop} {vs : List V} {p : Addr}
theorem r_callF (S : Sep io H0 F0 F H M) (x : α) (a : A x vs F) (k : ∀ v N F' H', Sep io H0 F0 F' H' (N ++ M) → Evl.Ex F F' → B x v N F' → Q v H') : SpF A B vs H Q E :=
  ⟨x, F, S.fr, a, fun v N F' H' S' b => k v N F' H' (S.comp S') S'.gr b⟩
theorem r_callP (S : Sep io H0 F0 F H M) (j : Nat) (hj : M[j]? = some (p, .pot)) (x : α) (a : A x vs F) (k : ∀ v N F' H', Sep io H0 F0 F' H' (N ++ M) → Evl.Ex F F' → B x v N F' → Q v H') : SpP A B (.ref p :: vs) H Q E :=
  ⟨x, F, p, vs, rfl, S.fr, (S.own _ (mem_of_k hj)).2, (S.own _ (mem_of_k hj)).1.1, a, fun v N F' H' S' b => k v N F' H' (S.compP j hj S') S'.gr b⟩
end
/-! ### loops -/
/-- at turn i of a loop -/
def LI (io : List Addr) (H0 F0 F : Hp) (I : Nat → L2.St → Hp → List (Addr × Cel) → Prop) (i : Nat) : L2.St → Hp → Prop := fun σ H => ∃ F' M', Sep io H0 F0 F' H M' ∧ Evl.Ex F F' ∧ I i σ F' M'
theorem LI.mk {io : List Addr} {H0 F0 F F' H : Hp} {M : List (Addr × Cel)} {I : Nat → L2.St → Hp → List (Addr × Cel) → Prop} {i : Nat} {σ : L2.St} (S : Sep io H0 F0 F' H M) (e : Evl.Ex F F') (h : I i σ F' M) : LI io H0 F0 F I i σ H := ⟨F', M, S, e, h⟩
section
variable {io : List Addr} {H0 F0 F H : Hp} {M : List (Addr × Cel)} {K : PySem.W.Frag} {g : TG} {tb : TS} {D : Ends} {σ : L2.St} {a b : Addr} {xs ys : List V} {ns : List Int} {ds : List PyData} (I : Nat → L2.St → Hp → List (Addr × Cel) → Prop)
abbrev Body (io : List Addr) (H0 F0 F : Hp) (I : Nat → L2.St → Hp → List (Addr × Cel) → Prop) (D : Ends) (g : TG) (tb : TS) (i : Nat) (x : V) (σ' : L2.St) (H' : Hp) : Prop :=
  g x σ' H' fun σ2 H2 => tb { D with nx := LI io H0 F0 F I (i + 1), ct := LI io H0 F0 F I (i + 1), bk := D.nx } σ2 H2
abbrev ForW (J : It) (D : Ends) (g : TG) (tb : TS) (σ : L2.St) (H : Hp) : Prop := ∃ W : Nat → Nat → L2.St → Hp → Prop, (∃ m, W 0 m σ H) ∧ ∀ i m σ H, W i m σ H →
      (J.stop i H ∧ D.nx σ H) ∨ (J.go i H ∧ ∃ N : L2.St → Hp → Prop, (∀ σ' H', N σ' H' → ∃ m', m' < m ∧ W (i + 1) m' σ' H') ∧ ∀ x H', J.yld i H x H' → g x σ H' fun σ2 H2 => tb { D with nx := N, ct := N, bk := D.nx } σ2 H2)
/-- over a list that stays -/
theorem s_forL (S : Sep io H0 F0 F H M) (hs : SqL K F a xs) (h0 : I 0 σ F M)
    (hb : ∀ i x σ' F' H' M', xs[i]? = some x → Sep io H0 F0 F' H' M' → Evl.Ex F F' → I i σ' F' M' → Body io H0 F0 F I D g tb i x σ' H')
    (hd : ∀ σ' F' H' M', Sep io H0 F0 F' H' M' → Evl.Ex F F' → I xs.length σ' F' M' → D.nx σ' H') : ForW (Itl K a) D g tb σ H := by
  refine for_it (walk_list (xs := xs)) (LI io H0 F0 F I) ⟨F, M, S, Evl.Ex.refl _, h0⟩ ?_ ?_ ?_
  · rintro i σ' H' _ ⟨F', M', S', e, _⟩
    exact S'.rdL e hs
  · rintro i x σ' H' H'' hi ⟨F', M', S', e, h⟩ ⟨rfl, ex⟩
    exact hb i x σ' F' H'' M' ex S' e h
  · rintro σ' H' ⟨F', M', S', e, h⟩
    exact hd σ' F' H' M' S' e h
/-- over a list that is told at each turn -/
theorem s_forO (S : Sep io H0 F0 F H M) (h0 : I 0 σ F M) (hs : ∀ i σ' F' H' M', Sep io H0 F0 F' H' M' → Evl.Ex F F' → I i σ' F' M' → SqL K H' a xs)
    (hb : ∀ i x σ' F' H' M', xs[i]? = some x → Sep io H0 F0 F' H' M' → Evl.Ex F F' → I i σ' F' M' → Body io H0 F0 F I D g tb i x σ' H')
    (hd : ∀ σ' F' H' M', Sep io H0 F0 F' H' M' → Evl.Ex F F' → I xs.length σ' F' M' → D.nx σ' H') : ForW (Itl K a) D g tb σ H := by
  refine for_it (walk_list (xs := xs)) (LI io H0 F0 F I) ⟨F, M, S, Evl.Ex.refl _, h0⟩ ?_ ?_ ?_
  · rintro i σ' H' _ ⟨F', M', S', e, h⟩
    exact hs i σ' F' H' M' S' e h
  · rintro i x σ' H' H'' hi ⟨F', M', S', e, h⟩ ⟨rfl, ex⟩
    exact hb i x σ' F' H'' M' ex S' e h
  · rintro σ' H' ⟨F', M', S', e, h⟩
    exact hd σ' F' H' M' S' e h
theorem s_forT (S : Sep io H0 F0 F H M) (hs : SqT K F a xs) (h0 : I 0 σ F M)
    (hb : ∀ i x σ' F' H' M', xs[i]? = some x → Sep io H0 F0 F' H' M' → Evl.Ex F F' → I i σ' F' M' → Body io H0 F0 F I D g tb i x σ' H')
    (hd : ∀ σ' F' H' M', Sep io H0 F0 F' H' M' → Evl.Ex F F' → I xs.length σ' F' M' → D.nx σ' H') : ForW (Itt K a) D g tb σ H := by
  refine for_it (walk_tup (xs := xs)) (LI io H0 F0 F I) ⟨F, M, S, Evl.Ex.refl _, h0⟩ ?_ ?_ ?_
  · rintro i σ' H' _ ⟨F', M', S', e, _⟩
    exact S'.rdT e hs
  · rintro i x σ' H' H'' hi ⟨F', M', S', e, h⟩ ⟨rfl, ex⟩
    exact hb i x σ' F' H'' M' ex S' e h
  · rintro σ' H' ⟨F', M', S', e, h⟩
    exact hd σ' F' H' M' S' e h
theorem s_forR {lo : Int} {n : Nat} (S : Sep io H0 F0 F H M) (h0 : I 0 σ F M)
    (hb : ∀ i σ' F' H' M', i < n → Sep io H0 F0 F' H' M' → Evl.Ex F F' → I i σ' F' M' → Body io H0 F0 F I D g tb i (.int (lo + (i : Int))) σ' H')
    (hd : ∀ σ' F' H' M', Sep io H0 F0 F' H' M' → Evl.Ex F F' → I n σ' F' M' → D.nx σ' H') : ForW (Itr lo n) D g tb σ H := by
  refine for_it walk_range (LI io H0 F0 F I) ⟨F, M, S, Evl.Ex.refl _, h0⟩ (fun _ _ _ _ _ => trivial) ?_ ?_
  · rintro i x σ' H' H'' hi ⟨F', M', S', e, h⟩ ⟨rfl, rfl⟩
    exact hb i σ' F' H'' M' hi S' e h
  · rintro σ' H' ⟨F', M', S', e, h⟩
    exact hd σ' F' H' M' S' e h
/-- enumerate(list): a new pair each turn -/
theorem s_forE (S : Sep io H0 F0 F H M) (hs : SqL K F a xs) (h0 : I 0 σ F M)
    (hb : ∀ (i : Nat) (x : V) t σ' F1 F' H' M', xs[i]? = some x → Sep io H0 F0 F' H' M' → Evl.Ex F F1 → Evl.Ex F1 F' → F' t = some (.tup [.int (i : Int), x]) → I i σ' F1 M' → Body io H0 F0 F I D g tb i (.ref t) σ' H')
    (hd : ∀ σ' F' H' M', Sep io H0 F0 F' H' M' → Evl.Ex F F' → I xs.length σ' F' M' → D.nx σ' H') : ForW (Ite K a) D g tb σ H := by
  refine for_it (walk_enum (xs := xs)) (LI io H0 F0 F I) ⟨F, M, S, Evl.Ex.refl _, h0⟩ ?_ ?_ ?_
  · rintro i σ' H' _ ⟨F', M', S', e, _⟩
    exact S'.rdL e hs
  · rintro i x σ' H' H'' hi ⟨F', M', S', e, h⟩ ⟨t, x1, x2, rfl, ht, rfl, e1, e2⟩
    cases e1
    exact hb i x2 t σ' F' _ _ M' e2 (S'.newF ht _) e (Evl.Ex.new (S'.fnone ht)) upd_same h
  · rintro σ' H' ⟨F', M', S', e, h⟩
    exact hd σ' F' H' M' S' e h
/-- zip of two lists -/
theorem s_forZ {n : Nat} (hn : n = min xs.length ys.length) (S : Sep io H0 F0 F H M) (hs : SqL K F a xs) (hy : SqL K F b ys) (h0 : I 0 σ F M)
    (hb : ∀ i x y t σ' F1 F' H' M', xs[i]? = some x → ys[i]? = some y → Sep io H0 F0 F' H' M' → Evl.Ex F F1 → Evl.Ex F1 F' → F' t = some (.tup [x, y]) → I i σ' F1 M' → Body io H0 F0 F I D g tb i (.ref t) σ' H')
    (hd : ∀ σ' F' H' M', Sep io H0 F0 F' H' M' → Evl.Ex F F' → I n σ' F' M' → D.nx σ' H') : ForW (Itz K a b) D g tb σ H := by
  refine for_it (walk_zip hn) (LI io H0 F0 F I) ⟨F, M, S, Evl.Ex.refl _, h0⟩ ?_ ?_ ?_
  · rintro i σ' H' _ ⟨F', M', S', e, _⟩
    exact ⟨S'.rdL e hs, S'.rdL e hy⟩
  · rintro i x σ' H' H'' hi ⟨F', M', S', e, h⟩ ⟨t, x1, x2, rfl, ht, rfl, e1, e2⟩
    exact hb i x1 x2 t σ' F' _ _ M' e1 e2 (S'.newF ht _) e (Evl.Ex.new (S'.fnone ht)) upd_same h
  · rintro σ' H' ⟨F', M', S', e, h⟩
    exact hd σ' F' H' M' S' e h
/-- while -/
theorem s_while {c : TT} (Iw : Nat → L2.St → Hp → List (Addr × Cel) → Prop) (S : Sep io H0 F0 F H M) (m : Nat) (h0 : Iw m σ F M)
    (hb : ∀ m σ' F' H' M', Sep io H0 F0 F' H' M' → Evl.Ex F F' → Iw m σ' F' M' → c σ' H' fun t H1 => if t = true then ∃ N : L2.St → Hp → Prop, (∀ σ' H', N σ' H' → ∃ m', m' < m ∧ LI io H0 F0 F Iw m' σ' H') ∧ tb { D with nx := N, ct := N, bk := D.nx } σ' H1 else D.nx σ' H1) : tWhile c tb D σ H := by
  refine ⟨LI io H0 F0 F Iw, ⟨m, F, M, S, Evl.Ex.refl _, h0⟩, ?_⟩
  rintro m σ' H' ⟨F', M', S', e, h⟩
  exact hb m σ' F' H' M' S' e h
end
def lcK (J : It) (g : TG) (tt : TT) (te : TE) (vs : List Nat) (σ : L2.St) (H1 : Hp) (Q : VK) : Prop := ∀ D, H1 D = none → ∃ W : Nat → Nat → Hp → Prop, (∃ m, W 0 m (upd H1 D (.lst []))) ∧ ∀ i m H, W i m H →
  (J.stop i H ∧ Q (.ref D) H) ∨ (J.go i H ∧ ∃ Nx : Hp → Prop, (∀ H', Nx H' → ∃ m', m' < m ∧ W (i + 1) m' H') ∧ ∀ x H', J.yld i H x H' → g x (wipe σ vs) H' fun σ2 H2 => wipe σ2 vs = wipe σ vs ∧ tt σ2 H2 fun b H3 =>
    if b = true then te σ2 H3 fun y H4 => ∃ acc, H4 D = some (.lst acc) ∧ acc.length < sizeLine ∧ Nx (upd H4 D (.lst (acc ++ [y]))) else Nx H3)
/-- what a loop, a comprehension goes over: the things as, told by X -/
def Src {α : Type} (J : It) (io : List Addr) (H0 F0 F : Hp) (L : List (Addr × Cel)) (as : List α) (X : α → V → Hp → Prop) : Prop := ∃ (G : Hp → Prop) (Y : Nat → Hp → V → Hp → Prop), Walk J as.length G Y ∧
  (∀ F' H' M', Sep io H0 F0 F' H' M' → Evl.Ex F F' → (∀ m ∈ L, m ∈ M') → G H') ∧
  ∀ i a x F' H' H'' M', as[i]? = some a → Sep io H0 F0 F' H' M' → Evl.Ex F F' → (∀ m ∈ L, m ∈ M') → Y i H' x H'' → ∃ F'', Sep io H0 F0 F'' H'' M' ∧ Evl.Ex F' F'' ∧ X a x F''
section
variable {io : List Addr} {H0 F0 F H : Hp} {M L : List (Addr × Cel)} {K : PySem.W.Frag} {a b : Addr} {xs ys : List V} {ns : List Int} {α : Type} {as : List α} {da : α → PyData}
theorem srcV (h : SqL K F b xs) : Src (Itl K b) io H0 F0 F [] xs (fun a x _ => x = a) :=
  ⟨_, _, walk_list, fun F' H' M' S e _ => S.rdL e h, fun i a x F' H' H'' M' ha S e _ y => by
    obtain ⟨rfl, y⟩ := y
    rw [ha] at y
    exact ⟨F', S, Evl.Ex.refl _, (Option.some.inj y).symm⟩⟩
theorem srcVT (h : SqT K F b xs) : Src (Itt K b) io H0 F0 F [] xs (fun a x _ => x = a) :=
  ⟨_, _, walk_tup, fun F' H' M' S e _ => S.rdT e h, fun i a x F' H' H'' M' ha S e _ y => by
    obtain ⟨rfl, y⟩ := y
    rw [ha] at y
    exact ⟨F', S, Evl.Ex.refl _, (Option.some.inj y).symm⟩⟩
theorem srcM : Src (Itl K b) io H0 F0 F [(b, .is (.lst xs))] xs (fun a x _ => x = a) :=
  ⟨_, _, walk_list, fun F' H' M' S e hm => SqL.of (S.own _ (hm _ List.mem_cons_self)).1.1, fun i a x F' H' H'' M' ha S e _ y => by
    obtain ⟨rfl, y⟩ := y
    rw [ha] at y
    exact ⟨F', S, Evl.Ex.refl _, (Option.some.inj y).symm⟩⟩
/-- items by a function of the things -/
theorem Src.map {J : It} {β : Type} {bs : List β} {r : β → α} {X : α → V → Hp → Prop} (s : Src J io H0 F0 F L (bs.map r) X) : Src J io H0 F0 F L bs (fun b => X (r b)) := by
  obtain ⟨G, Y, w, h1, h2⟩ := s
  rw [List.length_map] at w
  exact ⟨G, Y, w, h1, fun i a x F' H' H'' M' ha => h2 i (r a) x F' H' H'' M' (by rw [List.getElem?_map, ha]; rfl)⟩
theorem srcI (h : SqL K F b (ns.map V.int)) : Src (Itl K b) io H0 F0 F [] ns (fun a x _ => x = .int a) := (srcV h).map
theorem srcMI : Src (Itl K b) io H0 F0 F [(b, .is (.lst (ns.map V.int)))] ns (fun a x _ => x = .int a) := Src.map srcM
theorem dpAll_at {H : Hp} : ∀ {xs : List V} {ds : List PyData} {i : Nat} {d : PyData}, DpAll K H xs ds → ds[i]? = some d → ∃ x, xs[i]? = some x ∧ Dp K H x d
  | _, _, _, _, .nil, h => by simp at h
  | _, _, 0, _, .cons h _, e => by cases (Option.some.inj e); exact ⟨_, rfl, h⟩
  | _, _, i + 1, d, .cons _ t, e => by
    obtain ⟨x, h1, h2⟩ := dpAll_at (i := i) t (by simpa using e)
    exact ⟨x, by simpa using h1, h2⟩
theorem srcD (h : SqL K F b xs) (hd : DpAll K F xs (as.map da)) : Src (Itl K b) io H0 F0 F [] as (fun a x F' => Dp K F' x (da a)) := by
  have hl := (dpAll_get hd).1
  rw [List.length_map] at hl
  refine ⟨_, _, hl ▸ walk_list (xs := xs), fun F' H' M' S e _ => S.rdL e h, fun i a x F' H' H'' M' ha S e _ y => ?_⟩
  obtain ⟨rfl, y⟩ := y
  obtain ⟨x', h1, h2⟩ := dpAll_at hd (i := i) (d := da a) (by rw [List.getElem?_map, ha]; rfl)
  rw [h1] at y
  cases y
  exact ⟨F', S, Evl.Ex.refl _, Dp.ex e _ _ h2⟩
theorem srcDT (h : SqT K F b xs) (hd : DpAll K F xs (as.map da)) : Src (Itt K b) io H0 F0 F [] as (fun a x F' => Dp K F' x (da a)) := by
  have hl := (dpAll_get hd).1
  rw [List.length_map] at hl
  refine ⟨_, _, hl ▸ walk_tup (xs := xs), fun F' H' M' S e _ => S.rdT e h, fun i a x F' H' H'' M' ha S e _ y => ?_⟩
  obtain ⟨rfl, y⟩ := y
  obtain ⟨x', h1, h2⟩ := dpAll_at hd (i := i) (d := da a) (by rw [List.getElem?_map, ha]; rfl)
  rw [h1] at y
  cases y
  exact ⟨F', S, Evl.Ex.refl _, Dp.ex e _ _ h2⟩
/-- a list of one's own, its things told -/
theorem srcMD (hd : DpAll K F xs (as.map da)) : Src (Itl K b) io H0 F0 F [(b, .is (.lst xs))] as (fun a x F' => Dp K F' x (da a)) := by
  have hl := (dpAll_get hd).1
  rw [List.length_map] at hl
  refine ⟨_, _, hl ▸ walk_list (xs := xs), fun F' H' M' S e hm => SqL.of (S.own _ (hm _ List.mem_cons_self)).1.1, fun i a x F' H' H'' M' ha S e _ y => ?_⟩
  obtain ⟨rfl, y⟩ := y
  obtain ⟨x', h1, h2⟩ := dpAll_at hd (i := i) (d := da a) (by rw [List.getElem?_map, ha]; rfl)
  rw [h1] at y
  cases y
  exact ⟨F', S, Evl.Ex.refl _, Dp.ex e _ _ h2⟩
theorem srcR {lo : Int} {n : Nat} : Src (Itr lo n) io H0 F0 F [] ((List.range n).map fun i : Nat => lo + (i : Int)) (fun a x _ => x = .int a) := by
  refine ⟨_, _, by rw [List.length_map, List.length_range]; exact walk_range, fun F' H' M' S e _ => trivial, fun i a x F' H' H'' M' ha S e _ y => ?_⟩
  obtain ⟨rfl, rfl⟩ := y
  rw [List.getElem?_map] at ha
  cases q : (List.range n)[i]? with
  | none => rw [q] at ha; cases ha
  | some j =>
    rw [q] at ha
    cases ha
    have := List.getElem?_eq_some_iff.mp q
    obtain ⟨h1, h2⟩ := this
    rw [List.getElem_range] at h2
    subst h2
    exact ⟨F', S, Evl.Ex.refl _, rfl⟩
theorem srcRG {n : Int} : Src (Itr 0 n.toNat) io H0 F0 F [] (rgI n) (fun a x _ => x = .int a) := by
  have h := srcR (io := io) (H0 := H0) (F0 := F0) (F := F) (lo := 0) (n := n.toNat)
  have e : ((List.range n.toNat).map fun i : Nat => (0 : Int) + (i : Int)) = rgI n := by
    unfold rgI
    refine List.map_congr_left fun i _ => ?_
    omega
  rw [e] at h
  exact h
theorem srcE (h : SqL K F b xs) : Src (Ite K b) io H0 F0 F [] xs.zipIdx (fun a x F' => ∃ t, x = .ref t ∧ F' t = some (.tup [.int (a.2 : Int), a.1])) := by
  refine ⟨_, _, by rw [List.length_zipIdx]; exact walk_enum (xs := xs), fun F' H' M' S e _ => S.rdL e h, fun i a x F' H' H'' M' ha S e _ y => ?_⟩
  obtain ⟨t, x1, x2, rfl, ht, rfl, e1, e2⟩ := y
  cases e1
  have e2 : xs[i]? = some x2 := e2
  rw [List.getElem?_zipIdx, e2] at ha
  cases ha
  refine ⟨_, S.newF ht _, Evl.Ex.new (S.fnone ht), t, rfl, ?_⟩
  rw [upd_same]
  simp
theorem srcZ (h : SqL K F a xs) (g : SqL K F b ys) : Src (Itz K a b) io H0 F0 F [] (xs.zip ys) (fun p x F' => ∃ t, x = .ref t ∧ F' t = some (.tup [p.1, p.2])) := by
  refine ⟨_, _, walk_zip (xs := xs) (ys := ys) List.length_zip, fun F' H' M' S e _ => ⟨S.rdL e h, S.rdL e g⟩, fun i p x F' H' H'' M' ha S e _ y => ?_⟩
  obtain ⟨t, x1, x2, rfl, ht, rfl, e1, e2⟩ := y
  have e1 : xs[i]? = some x1 := e1
  have e2 : ys[i]? = some x2 := e2
  rw [List.getElem?_zip_eq_some] at ha
  rw [e1, e2] at ha
  obtain ⟨z1, z2⟩ := ha
  cases z1
  cases z2
  exact ⟨_, S.newF ht _, Evl.Ex.new (S.fnone ht), t, rfl, upd_same⟩
end
/-! ### for over a source -/
section
variable {io : List Addr} {H0 F0 F H : Hp} {M L : List (Addr × Cel)} {g : TG} {tb : TS} {D : Ends} {σ : L2.St} {J : It} {α : Type} {as : List α} {X : α → V → Hp → Prop} (I : Nat → L2.St → Hp → List (Addr × Cel) → Prop)
theorem s_for (src : Src J io H0 F0 F L as X) (S : Sep io H0 F0 F H M) (h0 : I 0 σ F M) (hL : ∀ i σ' F' M', I i σ' F' M' → ∀ m ∈ L, m ∈ M')
    (hb : ∀ (i : Nat) (a : α) x σ' F1 F' H' M', as[i]? = some a → Sep io H0 F0 F' H' M' → Evl.Ex F F1 → Evl.Ex F1 F' → X a x F' → I i σ' F1 M' → Body io H0 F0 F I D g tb i x σ' H')
    (hd : ∀ σ' F' H' M', Sep io H0 F0 F' H' M' → Evl.Ex F F' → I as.length σ' F' M' → D.nx σ' H') : ForW J D g tb σ H := by
  obtain ⟨G, Y, w, s1, s2⟩ := src
  refine for_it w (LI io H0 F0 F I) ⟨F, M, S, Evl.Ex.refl _, h0⟩ ?_ ?_ ?_
  · rintro i σ' H' _ ⟨F', M', S', e, h⟩
    exact s1 F' H' M' S' e (hL i σ' F' M' h)
  · rintro i x σ' H' H'' hi ⟨F', M', S', e, h⟩ y
    obtain ⟨F'', S'', e2, hx⟩ := s2 i as[i] x F' H' H'' M' (List.getElem?_eq_getElem hi) S' e (hL i σ' F' M' h) y
    exact hb i as[i] x σ' F' F'' H'' M' (List.getElem?_eq_getElem hi) S'' e e2 hx h
  · rintro σ' H' ⟨F', M', S', e, h⟩
    exact hd σ' F' H' M' S' e h
end
/-! ### comprehensions -/
/-- at turn i of a comprehension -/
def CI (io : List Addr) (H0 F0 F : Hp) (D : Addr) (I : Nat → List V → Hp → List (Addr × Cel) → Prop) (i : Nat) (H : Hp) : Prop := ∃ acc F' M', Sep io H0 F0 F' H ((D, .is (.lst acc)) :: M') ∧ Evl.Ex F F' ∧ I i acc F' M'
def PutK (D : Addr) (P : Hp → Prop) (y : V) (H4 : Hp) : Prop := ∃ acc, H4 D = some (.lst acc) ∧ acc.length < sizeLine ∧ P (upd H4 D (.lst (acc ++ [y])))
section
variable {io : List Addr} {H0 F0 F H : Hp} {M L : List (Addr × Cel)} {K : PySem.W.Frag} {g : TG} {tt : TT} {te : TE} {σ : L2.St} {wi : TI} {Q : VK} {vs : List Nat} {J : It} {α : Type} {as : List α} {X : α → V → Hp → Prop}
theorem s_lc (h : wi σ H fun J H1 => lcK J g tt te vs σ H1 Q) : tLc wi g tt te vs σ H Q := h
theorem CI.put {I : Nat → List V → Hp → List (Addr × Cel) → Prop} {i : Nat} {D : Addr} {acc : List V} {F' H' : Hp} {M' : List (Addr × Cel)} {y : V} (S : Sep io H0 F0 F' H' ((D, .is (.lst acc)) :: M')) (e : Evl.Ex F F') (hl : acc.length < 100000) (h : I (i + 1) (acc ++ [y]) F' M') : PutK D (CI io H0 F0 F D I (i + 1)) y H' :=
  ⟨acc, S.rdM 0 rfl, Evl.sz_lt hl, acc ++ [y], F', M', S.put 0 rfl _, e, h⟩
theorem CI.skip {I : Nat → List V → Hp → List (Addr × Cel) → Prop} {i : Nat} {D : Addr} {acc : List V} {F' H' : Hp} {M' : List (Addr × Cel)} (S : Sep io H0 F0 F' H' ((D, .is (.lst acc)) :: M')) (e : Evl.Ex F F') (h : I (i + 1) acc F' M') : CI io H0 F0 F D I (i + 1) H' := ⟨acc, F', M', S, e, h⟩
/-- the general one: I by the turn, what is made so far -/
theorem s_lcI (src : Src J io H0 F0 F L as X) (I : Nat → List V → Hp → List (Addr × Cel) → Prop) (S : Sep io H0 F0 F H M) (h0 : I 0 [] F M) (hL : ∀ i acc F' M', I i acc F' M' → ∀ m ∈ L, m ∈ M')
    (hb : ∀ (i : Nat) (a : α) x acc D F1 F' H' M', as[i]? = some a → Sep io H0 F0 F' H' ((D, .is (.lst acc)) :: M') → Evl.Ex F F1 → Evl.Ex F1 F' → X a x F' → I i acc F1 M' → g x (wipe σ vs) H' fun σ2 H2 => wipe σ2 vs = wipe σ vs ∧ tt σ2 H2 fun b H3 =>
      if b = true then te σ2 H3 (PutK D (CI io H0 F0 F D I (i + 1))) else CI io H0 F0 F D I (i + 1) H3)
    (hd : ∀ D acc F' H' M', Sep io H0 F0 F' H' ((D, .is (.lst acc)) :: M') → Evl.Ex F F' → I as.length acc F' M' → Q (.ref D) H') : lcK J g tt te vs σ H Q := by
  intro D hD
  obtain ⟨G, Y, w, s1, s2⟩ := src
  refine lc_it w (fun i H' => CI io H0 F0 F D I i H') ⟨[], F, M, S.newM hD _, Evl.Ex.refl _, h0⟩ ?_ ?_ ?_
  · rintro i H' _ ⟨acc, F', M', S', e, h⟩
    exact s1 F' H' _ S' e fun m hm => List.mem_cons_of_mem _ (hL i acc F' M' h m hm)
  · rintro i x H' H'' hi ⟨acc, F', M', S', e, h⟩ y
    obtain ⟨F'', S'', e2, hx⟩ := s2 i as[i] x F' H' H'' _ (List.getElem?_eq_getElem hi) S' e (fun m hm => List.mem_cons_of_mem _ (hL i acc F' M' h m hm)) y
    exact hb i as[i] x acc D F' F'' H'' M' (List.getElem?_eq_getElem hi) S'' e e2 hx h
  · rintro H' ⟨acc, F', M', S', e, h⟩
    exact hd D acc F' H' M' S' e h
/-- values: (those of as that f takes) by gg -/
structure VT {α : Type} (as : List α) (f : α → Bool) (gg : α → V) (i : Nat) (a : α) (acc : List V) : Prop where
  at' : as[i]? = some a
  acc' : acc = ((as.take i).filter f).map gg
  few : as.length ≤ 99999
abbrev IV {α : Type} (M : List (Addr × Cel)) (as : List α) (f : α → Bool) (gg : α → V) : Nat → List V → Hp → List (Addr × Cel) → Prop := fun i acc _ M' => M' = M ∧ acc = ((as.take i).filter f).map gg
section
variable {f : α → Bool} {gg : α → V} {i : Nat} {a : α} {acc : List V} {D : Addr} {F' H' : Hp} {y : V}
theorem VT.put (t : VT as f gg i a acc) (S : Sep io H0 F0 F' H' ((D, .is (.lst acc)) :: M)) (e : Evl.Ex F F') (hf : f a = true) (hy : y = gg a) : PutK D (CI io H0 F0 F D (IV M as f gg) (i + 1)) y H' := by
  refine CI.put S e ?_ ⟨rfl, ?_⟩
  · rw [t.acc', List.length_map]
    have := List.length_filter_le f (as.take i)
    rw [List.length_take] at this
    have := t.few
    omega
  · rw [take_snoc t.at', List.filter_append, List.filter_cons, if_pos hf, List.map_append, t.acc', hy]
    rfl
theorem VT.skip (t : VT as f gg i a acc) (S : Sep io H0 F0 F' H' ((D, .is (.lst acc)) :: M)) (e : Evl.Ex F F') (hf : f a = false) : CI io H0 F0 F D (IV M as f gg) (i + 1) H' := by
  refine CI.skip S e ⟨rfl, ?_⟩
  rw [take_snoc t.at', List.filter_append, List.filter_cons, if_neg (by rw [hf]; decide), List.filter_nil, List.append_nil]
  exact t.acc'
end
theorem s_lcV (src : Src J io H0 F0 F L as X) (f : α → Bool) (gg : α → V) (S : Sep io H0 F0 F H M) (few : as.length ≤ 99999) (hL : ∀ m ∈ L, m ∈ M)
    (hb : ∀ (i : Nat) (a : α) x acc D F' H', VT as f gg i a acc → Sep io H0 F0 F' H' ((D, .is (.lst acc)) :: M) → Evl.Ex F F' → X a x F' → g x (wipe σ vs) H' fun σ2 H2 => wipe σ2 vs = wipe σ vs ∧ tt σ2 H2 fun b H3 =>
      if b = true then te σ2 H3 (PutK D (CI io H0 F0 F D (IV M as f gg) (i + 1))) else CI io H0 F0 F D (IV M as f gg) (i + 1) H3)
    (hd : ∀ D F' H', Sep io H0 F0 F' H' ((D, .is (.lst ((as.filter f).map gg))) :: M) → Evl.Ex F F' → Q (.ref D) H') : lcK J g tt te vs σ H Q := by
  refine s_lcI src (IV M as f gg) S ⟨rfl, rfl⟩ (fun i acc F' M' h => by rw [h.1]; exact hL) ?_ ?_
  · rintro i a x acc D F1 F' H' M' ha S' e1 e2 hx ⟨rfl, h⟩
    exact hb i a x acc D F' H' ⟨ha, h, few⟩ S' (e1.trans e2) hx
  · rintro D acc F' H' M' S' e ⟨rfl, h⟩
    rw [List.take_length] at h
    subst h
    exact hd D F' H' S' e
/-- data -/
structure DT {α : Type} (K : PySem.W.Frag) (as : List α) (f : α → Bool) (gg : α → PyData) (i : Nat) (a : α) (acc : List V) (F' : Hp) : Prop where
  at' : as[i]? = some a
  acc' : DpAll K F' acc (((as.take i).filter f).map gg)
  few : as.length ≤ 99999
abbrev ID {α : Type} (K : PySem.W.Frag) (M : List (Addr × Cel)) (as : List α) (f : α → Bool) (gg : α → PyData) : Nat → List V → Hp → List (Addr × Cel) → Prop := fun i acc F' M' => M' = M ∧ DpAll K F' acc (((as.take i).filter f).map gg)
theorem dpAll_app {H : Hp} : ∀ {xs ys : List V} {ds es : List PyData}, DpAll K H xs ds → DpAll K H ys es → DpAll K H (xs ++ ys) (ds ++ es)
  | _, _, _, _, .nil, h => h
  | _, _, _, _, .cons a t, h => .cons a (dpAll_app t h)
section
variable {f : α → Bool} {gg : α → PyData} {i : Nat} {a : α} {acc : List V} {D : Addr} {F1 F' H' : Hp} {y : V}
theorem DT.put (t : DT K as f gg i a acc F1) (S : Sep io H0 F0 F' H' ((D, .is (.lst acc)) :: M)) (e : Evl.Ex F F') (e1 : Evl.Ex F1 F') (hf : f a = true) (hy : Dp K F' y (gg a)) : PutK D (CI io H0 F0 F D (ID K M as f gg) (i + 1)) y H' := by
  refine CI.put S e ?_ ⟨rfl, ?_⟩
  · have := (dpAll_get t.acc').1
    rw [this, List.length_map]
    have := List.length_filter_le f (as.take i)
    rw [List.length_take] at this
    have := t.few
    omega
  · rw [take_snoc t.at', List.filter_append, List.filter_cons, if_pos hf, List.map_append]
    exact dpAll_app (DpAll.ex e1 _ _ t.acc') (.cons hy .nil)
theorem DT.skip (t : DT K as f gg i a acc F1) (S : Sep io H0 F0 F' H' ((D, .is (.lst acc)) :: M)) (e : Evl.Ex F F') (e1 : Evl.Ex F1 F') (hf : f a = false) : CI io H0 F0 F D (ID K M as f gg) (i + 1) H' := by
  refine CI.skip S e ⟨rfl, ?_⟩
  rw [take_snoc t.at', List.filter_append, List.filter_cons, if_neg (by rw [hf]; decide), List.filter_nil, List.append_nil]
  exact DpAll.ex e1 _ _ t.acc'
end
theorem s_lcD (src : Src J io H0 F0 F L as X) (f : α → Bool) (gg : α → PyData) (S : Sep io H0 F0 F H M) (few : as.length ≤ 99999) (hL : ∀ m ∈ L, m ∈ M)
    (hb : ∀ (i : Nat) (a : α) x acc D F' H', DT K as f gg i a acc F' → Sep io H0 F0 F' H' ((D, .is (.lst acc)) :: M) → Evl.Ex F F' → X a x F' → g x (wipe σ vs) H' fun σ2 H2 => wipe σ2 vs = wipe σ vs ∧ tt σ2 H2 fun b H3 =>
      if b = true then te σ2 H3 (PutK D (CI io H0 F0 F D (ID K M as f gg) (i + 1))) else CI io H0 F0 F D (ID K M as f gg) (i + 1) H3)
    (hd : ∀ D acc F' H', Sep io H0 F0 F' H' ((D, .is (.lst acc)) :: M) → Evl.Ex F F' → DpAll K F' acc ((as.filter f).map gg) → Q (.ref D) H') : lcK J g tt te vs σ H Q := by
  refine s_lcI src (ID K M as f gg) S ⟨rfl, .nil⟩ (fun i acc F' M' h => by rw [h.1]; exact hL) ?_ ?_
  · rintro i a x acc D F1 F' H' M' ha S' e1 e2 hx ⟨rfl, h⟩
    exact hb i a x acc D F' H' ⟨ha, DpAll.ex e2 _ _ h, few⟩ S' (e1.trans e2) hx
  · rintro D acc F' H' M' S' e ⟨rfl, h⟩
    rw [List.take_length] at h
    exact hd D acc F' H' S' e h
end
/-! ### calls that make things -/
def rListN (K : PySem.W.Frag) : List V → Hp → VK → Prop := fun xs H Q => ∃ p ys, xs = [.ref p] ∧ (SqL K H p ys ∨ SqT K H p ys) ∧ newK H (.lst ys) Q
theorem call_listN {X : Cx} : CallR X (.type "list") (rListN X.K) := call_list_of
theorem s_list {K : PySem.W.Frag} {H : Hp} {a : Addr} {xs : List V} {Q : VK} (hs : SqL K H a xs ∨ SqT K H a xs) (q : newK H (.lst xs) Q) : rListN K [.ref a] H Q := ⟨a, xs, rfl, hs, q⟩
def rTupN (K : PySem.W.Frag) : List V → Hp → VK → Prop := fun xs H Q => ∃ p ys, xs = [.ref p] ∧ SqL K H p ys ∧ newK H (.tup ys) Q
theorem call_tupN {X : Cx} : CallR X (.type "tuple") (rTupN X.K) := by
  intro pins s σ H xs us Q I r h
  obtain ⟨p, ys, e, h1, h2⟩ := h
  exact call_tuple_of pins s σ H xs us Q I r ⟨p, ys, e, .inl ⟨h1, h2⟩⟩
theorem s_tupN {K : PySem.W.Frag} {H : Hp} {a : Addr} {xs : List V} {Q : VK} (hs : SqL K H a xs) (q : newK H (.tup xs) Q) : rTupN K [.ref a] H Q := ⟨a, xs, rfl, hs, q⟩
def rSortN (K : PySem.W.Frag) : List V → Hp → VK → Prop := fun vs H Q => ∃ (a : Addr) (ns : List Int), vs = [V.ref a] ∧ SqL K H a (ns.map V.int) ∧
  ∀ (ns' : List Int), ns'.Perm ns → ns'.Pairwise (· ≤ ·) → newK H (.lst (ns'.map V.int)) Q
theorem cr_sortedN {X : Cx} : CallR X (.builtin "sorted") (rSortN X.K) := by
  intro pins s σ H xs us Q I r h
  obtain ⟨p, ys, e, h1, h2⟩ := h
  exact cr_sortedI pins s σ H xs us Q I r ⟨p, ys, e, h1, fun ns' q a b c => h2 ns' a b q c⟩
theorem s_sortN {K : PySem.W.Frag} {H : Hp} {a : Addr} {ns : List Int} {Q : VK} (hs : SqL K H a (ns.map V.int)) (q : ∀ (ns' : List Int), ns'.Perm ns → ns'.Pairwise (· ≤ ·) → newK H (.lst (ns'.map V.int)) Q) : rSortN K [.ref a] H Q := ⟨a, ns, rfl, hs, q⟩
/-- pairs, sorted -/
def rSortPN (K : PySem.W.Frag) : List V → Hp → VK → Prop := fun vs H Q => ∃ (a : Addr) (xs : List V) (k : V → Int × Int), vs = [V.ref a] ∧ SqL K H a xs ∧ (∀ x ∈ xs, ∃ t, x = V.ref t ∧ H t = some (.tup [.int (k x).1, .int (k x).2])) ∧
  ∀ ys, SrtO.Srtd (ltP k) ys → SrtO.Stb (ltP k) ys xs → newK H (.lst ys) Q
theorem cr_sortedPN {X : Cx} : CallR X (.builtin "sorted") (rSortPN X.K) := by
  intro pins s σ H xs us Q I r h
  obtain ⟨a, ys, k, e, h1, h2, h3⟩ := h
  exact cr_sortedPO pins s σ H xs us Q I r ⟨a, ys, k, e, h1, h2, fun zs p a b c => h3 zs a b p c⟩
theorem r_isNV {x : V} {H : Hp} {Q : VK} (q : Q (.bl (decide (x = .non))) H) : rIsNone x .non H Q := ⟨rfl, q⟩
theorem r_notNV {x : V} {H : Hp} {Q : VK} (q : Q (.bl (!decide (x = .non))) H) : rNotNone x .non H Q := ⟨rfl, q⟩
/-! ### lists -/
section
variable {io : List Addr} {H0 F0 F H : Hp} {M L : List (Addr × Cel)} {K : PySem.W.Frag} {Q : VK} {a b : Addr} {xs ys : List V} {y : V} {i : Int} {QH : Hp → Prop}
theorem s_app (S : Sep io H0 F0 F H M) (k : Nat) (hk : M[k]? = some (a, .is (.lst xs))) (hz : xs.length < 100000) (q : ∀ H', Sep io H0 F0 F H' (M.set k (a, .is (.lst (xs ++ [y])))) → Q .non H') : rAppend (.ref a) [y] H Q :=
  r_app (S.rdM k hk) hz (q _ (S.put k hk _))
theorem s_setL (S : Sep io H0 F0 F H M) (k : Nat) (hk : M[k]? = some (a, .is (.lst xs))) {j : Nat} (hj : ixN xs.length i = some j) (q : ∀ H', Sep io H0 F0 F H' (M.set k (a, .is (.lst (xs.set j y)))) → QH H') : rSetL (.ref a) (.int i) y H QH :=
  r_setL (S.rdM k hk) hj (q _ (S.put k hk _))
theorem s_popAt (S : Sep io H0 F0 F H M) (k : Nat) (hk : M[k]? = some (a, .is (.lst xs))) (h0 : 0 ≤ i) (h1 : i < (xs.length : Int)) (hs : xs.length ≤ 1000000) (hy : xs[i.toNat]? = some y) (q : ∀ H', Sep io H0 F0 F H' (M.set k (a, .is (.lst (xs.eraseIdx i.toNat)))) → Q y H') : rPopAt (.ref a) [.int i] H Q :=
  r_popAt (S.rdM k hk) h0 h1 hs hy (q _ (S.put k hk _))
theorem s_cat (h : H a = some (.lst xs)) (g : H b = some (.lst ys)) (hl : xs.length + ys.length ≤ 100000) (q : newK H (.lst (xs ++ ys)) Q) : rCat (.ref a) (.ref b) H Q := r_catG h g hl q
theorem s_slL {lo hi : Option Int} (h : SqL K H a xs) (q : newK H (.lst (cutV xs lo hi)) Q) : rSlL K (.ref a) lo hi H Q := r_slL h q
theorem s_lstRg {f : L2.St → Hp → (Int → Int → Hp → Prop) → Prop} {σ : L2.St} (h : f σ H fun a b H1 => RgOk a b ∧ newK H1 (.lst (rgV a b)) Q) : tLstRg f σ H Q := h
end
/-! ### from promises over the heap alone -/
/-- nothing that stood is changed; the new cells of L stay -/
theorem Sep.grow {F H H' : Hp} (fr : Evl.Ex F H) (e : Evl.Ex H H') (L : List Addr) (hL : ∀ a ∈ L, H a = none) : ∃ F', Sep [] H F F' H' [] ∧ Evl.Ex F F' ∧ ∀ a ∈ L, F' a = H' a := by
  have hF : ∀ a ∈ L, F a = none := fun a ha => by
    cases q : F a with
    | none => rfl
    | some o => have := hL a ha; rw [fr a o q] at this; cases this
  refine ⟨fun a => if a ∈ L then H' a else F a, ⟨fun a o h _ => e a o h, fun a h => ?_, fun a o h => ?_, fun a h => ?_, fun a o h => ?_, fun m hm => (by cases hm), List.nodup_nil⟩, fun a o h => ?_, fun a ha => if_pos ha⟩
  · cases q : H a with
    | none => rfl
    | some o => rw [e a o q] at h; cases h
  · show (if a ∈ L then H' a else F a) = some o
    rw [if_neg fun z => by rw [hF a z] at h; cases h]
    exact h
  · by_cases z : a ∈ L
    · exact .inr (hL a z)
    · exact .inl fun q => h (by show (if a ∈ L then H' a else F a) = none; rw [if_neg z]; exact q)
  · have h : (if a ∈ L then H' a else F a) = some o := h
    by_cases z : a ∈ L
    · rw [if_pos z] at h; exact h
    · rw [if_neg z] at h; exact e _ _ (fr _ _ h)
  · show (if a ∈ L then H' a else F a) = some o
    rw [if_neg fun z => by rw [hF a z] at h; cases h]
    exact h
theorem Sep.scal {F H H' : Hp} (fr : Evl.Ex F H) (e : Evl.Ex H H') : Sep [] H F F H' [] :=
  ⟨fun a o h _ => e a o h, fun a h => (by
    cases q : H a with
    | none => rfl
    | some o => rw [e a o q] at h; cases h), Evl.Ex.refl _, fun a h => .inl h, fun a o h => e _ _ (fr _ _ h), fun m hm => (by cases hm), List.nodup_nil⟩
/-! ### sets of one's own -/
section
variable {io : List Addr} {H0 F0 F H : Hp} {M : List (Addr × Cel)} {K : PySem.W.Frag} {w : World} {Q : VK} {a : Addr} {ns : List Int} {o : HO}
/-- set(xs), xs a list of ints -/
def rSetN (K : PySem.W.Frag) (w : World) : List V → Hp → VK → Prop := fun vs H Q => ∃ (a : Addr) (ns : List Int), vs = [.ref a] ∧ SqL K H a (ns.map V.int) ∧ ns.length ≤ 1000 ∧
  ∀ (q : Addr) (n : Nat), H q = none → n ≤ ns.length → Q (.ref q) (upd H q (SetO w q (fun j => decide (j ∈ ns)) n))
theorem cr_setN {X : Cx} (hc : X.calm = true) : CallR X (.type "set") (rSetN X.K X.w) := cr_setL hc
theorem s_setN (S : Sep io H0 F0 F H M) (h : SqL K H a (ns.map V.int)) (hl : ns.length ≤ 1000) (k : ∀ (q : Addr) (n : Nat) (F' H' : Hp), n ≤ ns.length → Sep io H0 F0 F' H' M → Evl.Ex F F' → F' q = some (SetO w q (fun j => decide (j ∈ ns)) n) → Q (.ref q) H') : rSetN K w [.ref a] H Q :=
  ⟨a, ns, rfl, h, hl, fun q n hq hn => k q n _ _ hn (S.newF hq _) (Evl.Ex.new (S.fnone hq)) upd_same⟩
/-- the set is one's own -/
theorem s_setM (S : Sep io H0 F0 F H M) (h : SqL K H a (ns.map V.int)) (hl : ns.length ≤ 1000) (k : ∀ (q : Addr) (n : Nat) (H' : Hp), n ≤ ns.length → Sep io H0 F0 F H' ((q, .is (SetO w q (fun j => decide (j ∈ ns)) n)) :: M) → Q (.ref q) H') : rSetN K w [.ref a] H Q :=
  ⟨a, ns, rfl, h, hl, fun q n hq hn => k q n _ hn (S.newM hq _)⟩
end
section
variable {io : List Addr} {H0 F0 F : Hp} {K : PySem.W.Frag} {b : Addr} {xs : List V} {ps : List (Int × Int)}
theorem TupsAt.get {H : Hp} : ∀ {xs : List V} {ps : List (Int × Int)} {i : Nat} {p : Int × Int}, TupsAt H xs ps → ps[i]? = some p → ∃ t, xs[i]? = some (.ref t) ∧ H t = some (.tup [.int p.1, .int p.2])
  | _, _, i, _, .nil, h => by simp at h
  | _, _, 0, p, .cons ⟨t, h1, h2⟩ r, e => by cases (Option.some.inj e); exact ⟨t, by rw [h1]; rfl, h2⟩
  | _, _, i + 1, p, .cons _ r, e => by
    obtain ⟨t, h1, h2⟩ := TupsAt.get (i := i) r (by simpa using e)
    exact ⟨t, by simpa using h1, h2⟩
theorem TupsAt.len {H : Hp} : ∀ {xs : List V} {ps : List (Int × Int)}, TupsAt H xs ps → xs.length = ps.length
  | _, _, .nil => rfl
  | _, _, .cons _ r => by rw [List.length_cons, List.length_cons, TupsAt.len r]
/-- a list of pairs -/
theorem srcP (h : SqL K F b xs) (ht : TupsAt F xs ps) : Src (Itl K b) io H0 F0 F [] ps (fun p x F' => ∃ t, x = .ref t ∧ F' t = some (.tup [.int p.1, .int p.2])) := by
  refine ⟨_, _, ht.len ▸ walk_list (xs := xs), fun F' H' M' S e _ => S.rdL e h, fun i a x F' H' H'' M' ha S e _ y => ?_⟩
  obtain ⟨rfl, y⟩ := y
  obtain ⟨t, h1, h2⟩ := ht.get ha
  rw [h1] at y
  cases y
  exact ⟨F', S, Evl.Ex.refl _, t, rfl, e _ _ h2⟩
theorem srcMP (ht : TupsAt F xs ps) : Src (Itl K b) io H0 F0 F [(b, .is (.lst xs))] ps (fun p x F' => ∃ t, x = .ref t ∧ F' t = some (.tup [.int p.1, .int p.2])) := by
  refine ⟨_, _, ht.len ▸ walk_list (xs := xs), fun F' H' M' S e hm => SqL.of (S.own _ (hm _ List.mem_cons_self)).1.1, fun i a x F' H' H'' M' ha S e _ y => ?_⟩
  obtain ⟨rfl, y⟩ := y
  obtain ⟨t, h1, h2⟩ := ht.get ha
  rw [h1] at y
  cases y
  exact ⟨F', S, Evl.Ex.refl _, t, rfl, e _ _ h2⟩
theorem zipIdx_by {α β : Type} (l : List α) (f : Nat → Bool) (g : Nat → β) : ((l.zipIdx.filter fun p => f p.2).map fun p => g p.2) = ((List.range l.length).filter f).map g := by
  have e : l.zipIdx.map Prod.snd = List.range l.length := by rw [List.zipIdx_map_snd, List.range_eq_range']
  rw [← e, List.filter_map, List.map_map]
  rfl
end
/-- names in the same order tell the same rows -/
theorem rowOf_congr {many : Int} {ties : List (Int × Int)} {n1 n2 : List Int} (W : WebOk many ties) (hs : ∀ a b, 0 ≤ a → a < many → 0 ≤ b → b < many → (nmAt n1 a < nmAt n1 b ↔ nmAt n2 a < nmAt n2 b)) {h : Int} (h0 : 0 ≤ h) (h1 : h < many) : rowOf many ties n1 h = rowOf many ties n2 h := by
  refine rows_unique W (f := rowOf many ties n1) (fun x x0 x1 => ?_) many.toNat h (rank_bound ⟨h0, h1⟩) h0 h1
  rw [rowOf_eq W ⟨x0, x1⟩]
  congr 2
  unfold lessN
  refine List.filter_congr fun o ho => ?_
  have hb := nbr_range W ho
  rw [decide_eq_decide]
  exact hs o x hb.1 hb.2 x0 x1
theorem rowsOf_congr {many : Int} {ties : List (Int × Int)} {n1 n2 : List Int} (W : WebOk many ties) (hs : ∀ a b, 0 ≤ a → a < many → 0 ≤ b → b < many → (nmAt n1 a < nmAt n1 b ↔ nmAt n2 a < nmAt n2 b)) : rowsOf many ties n1 = rowsOf many ties n2 := by
  unfold rowsOf
  refine List.map_congr_left fun h hh => ?_
  have := rgI_mem.mp hh
  exact rowOf_congr W hs this.1 this.2
/-- the set by names -/
def pickedOf (many : Int) (ties : List (Int × Int)) (names : List Int) : List Int := (rgI many).filter fun h => (rowOf many ties names h).1
theorem OvAll.rows {K : PySem.W.Frag} {H : Hp} : ∀ {xs : List V} {rs : List Row}, OvAll H xs (rs.map some) → DpAll K H xs (rs.map rowD)
  | _, [], .nil => .nil
  | _, _ :: _, .cons ⟨t, h1, h2⟩ r => by rw [h1]; exact .cons (dp_row (SqT.of h2)) (OvAll.rows r)
/-- those of a list of rows, some of which are None, that are none -/
theorem OvAll.some_of {K : PySem.W.Frag} {H : Hp} {c : Int → Bool} {ro : Int → Row} : ∀ {L : List Int} {ys : List V}, OvAll H ys (L.map fun o => if c o = true then some (ro o) else none) → DpAll K H (ys.filter fun x => !decide (x = .non)) (((L.filter c).map ro).map rowD)
  | [], _, .nil => .nil
  | o :: L, _, @Paired.cons _ _ _ y _ ys _ h r => by
    have h : OV H y (if c o = true then some (ro o) else none) := h
    rw [List.filter_cons, List.filter_cons]
    by_cases hc : c o = true
    · rw [if_pos hc] at h
      obtain ⟨t, h1, h2⟩ := h
      rw [if_pos hc, if_pos (by rw [h1]; rfl), h1, List.map_cons, List.map_cons]
      exact .cons (dp_row (SqT.of h2)) (OvAll.some_of r)
    · rw [if_neg hc] at h
      have h : y = .non := h
      rw [if_neg hc, if_neg (by rw [h]; decide)]
      exact OvAll.some_of r
theorem OvAll.map_get {H : Hp} {xs : List V} {many : Int} {ro : Int → Row} {d : Int → Bool} (h : OvAll H xs (stO many ro d)) : ∀ {L : List Int}, (∀ o ∈ L, 0 ≤ o ∧ o < many) → OvAll H (L.map fun o => xs.getD o.toNat .non) (L.map fun o => if d o = true then some (ro o) else none)
  | [], _ => .nil
  | o :: L, hL => by
    have ho := hL o List.mem_cons_self
    obtain ⟨x, e, ov⟩ := h.get o.toNat _ (stO_get ho.1 ho.2)
    refine .cons ?_ (OvAll.map_get h fun p hp => hL p (List.mem_cons_of_mem _ hp))
    show OV H (xs.getD o.toNat .non) (if d o = true then some (ro o) else none)
    rw [List.getD_eq_getElem?_getD, e]
    exact ov
theorem OvAll.set {H : Hp} {t : Addr} {r : Row} (ht : H t = some (.tup [.bl r.1, .int r.2])) : ∀ {xs : List V} {os : List (Option Row)} (i : Nat), OvAll H xs os → OvAll H (xs.set i (.ref t)) (os.set i (some r))
  | _, _, _, .nil => .nil
  | _, _, 0, .cons _ s => .cons ⟨t, rfl, ht⟩ s
  | _, _, i + 1, .cons q s => .cons q (OvAll.set ht i s)
theorem OvAll.non {H : Hp} {many : Int} {ro : Int → Row} : OvAll H (List.replicate many.toNat .non) (stO many ro fun _ => false) := by
  unfold stO
  have : ∀ (L : List Int), OvAll H (List.replicate L.length .non) (L.map fun h => if (fun _ => false) h = true then some (ro h) else none) := by
    intro L
    induction L with
    | nil => exact .nil
    | cons x r ih => exact .cons rfl ih
  have h := this (rgI many)
  rw [rgI_len] at h
  exact h
theorem dpAll_row_at {K : PySem.W.Frag} {H : Hp} {v : V} {r : Row} (h : Dp K H v (rowD r)) : ∃ t, v = .ref t ∧ SqT K H t [.bl r.1, .int r.2] := rowD_at h
/-- by rising names: who stands ahead -/
theorem ahead_iff {many : Int} {names order : List Int} (hp : order.Perm (rgI many)) (pw : order.Pairwise fun a b => nmAt names a < nmAt names b) {i : Nat} {h o : Int} (hi : order[i]? = some h) (h0 : 0 ≤ o) (h1 : o < many) : o ∈ order.take i ↔ nmAt names o < nmAt names h := by
  obtain ⟨hi1, hi2⟩ := List.getElem?_eq_some_iff.mp hi
  have hpw := List.pairwise_iff_getElem.mp pw
  constructor
  · intro m
    obtain ⟨j, hj, ej⟩ := List.mem_iff_getElem.mp m
    rw [List.length_take] at hj
    rw [List.getElem_take] at ej
    have := hpw j i (by omega) hi1 (by omega)
    rw [ej, hi2] at this
    exact this
  · intro lt
    obtain ⟨j, hj, ej⟩ := List.mem_iff_getElem.mp (hp.mem_iff.mpr (rgI_mem.mpr ⟨h0, h1⟩))
    by_cases c : j < i
    · exact List.mem_iff_getElem.mpr ⟨j, by rw [List.length_take]; omega, by rw [List.getElem_take]; exact ej⟩
    · exfalso
      by_cases c2 : j = i
      · subst c2
        rw [hi2] at ej
        rw [ej] at lt
        omega
      · have := hpw i j hi1 hj (by omega)
        rw [hi2, ej] at this
        omega
/-! ### set(t), t a tuple of tuples of ints, fewer than 64 -/
section
variable {P : Program} {w : World} {A : Around} {E : Value → Shared → Prop} {s : Shared}
set_option maxHeartbeats 9000000 in
theorem set_of_tuple {l : Addr} {its : Array Value} (ks : List (Addr × List Int)) {Q : Value → Shared → Prop} (calm : A.handled = none) (ist : IsTup s.heap l its) (are : its.toList = ks.map fun p => Value.ref p.1)
    (tups : ∀ p ∈ ks, IsT P w s.heap p.2 p.1) (few : ks.length < 64) (deep : A.units + 3 < cLine)
    (out : ∀ (g : Heap) (tk : Nat) L es ep t, SetTR P w g s.heap.objs.size L es ep t → Got ks ks.length L → (∀ b o, s.heap.get? b = some o → g.get? b = some o) → Q (.ref s.heap.objs.size) { s with heap := g, toks := tk }) :
    wpAny (model P w) A (call (.type "set") [.ref l]) Q E s := by
  have size_is : its.size = ks.length := by
    have z := congrArg List.length are
    rwa [Array.length_toList, List.length_map] at z
  have cs := F.called_set
  obtain ⟨m1, m2, m3⟩ := cs.mro
  have made := cs.made
  have subs := cs.sub
  have nty := cs.notType
  have can := cs.canCreate
  have tcall := F.typeCall_set_1 (.ref l)
  refine wpAny_call (codeAny_of_tree ?_)
  show wpAny _ _ (callAny (Value.type "set") _) _ _ _
  refine wpAny_pure ⟨Code.quiet_builtin _ (by decide +kernel), codeAny_builtin F.entry_type_call ?_⟩
  rw [Around.under_plain (weight_type_call_type "set" [.ref l] []) rfl]
  repeat (any_goals (first | wp_step | assumption))
  refine codeAny_mono (code_set_led1 (.ref l) (E := E) (Q₁ := fun v s1 => v = .ref s.heap.objs.size ∧ s1 = { s with heap := s.heap.push (emptyS w) }) ⟨rfl, rfl⟩) fun res s1 got => ?_
  cases res with
  | error _ => exact got
  | ok flow =>
    cases flow with
    | ret v =>
      obtain ⟨rfl, rfl⟩ := got
      have at0 : (s.heap.push (emptyS w)).get? s.heap.objs.size = some (emptyS w) := Heap.get?_push_size _ rfl
      have ty0 : Shared.TypeIs { s with heap := s.heap.push (emptyS w) } (.ref s.heap.objs.size) "set" := ⟨_, at0, rfl⟩
      have ini1 := cs.init.lookup
      have ini2 := cs.init.bind (.ref s.heap.objs.size)
      repeat (any_goals (first | wp_step | assumption))
      refine codeAny_mono (codeAny_call_builtin (R := wants (fun r s2 => r = .none ∧ ∃ g tk L es ep t, s2 = { s with heap := g, toks := tk } ∧ SetTR P w g s.heap.objs.size L es ep t ∧ Got ks ks.length L ∧ (∀ b o, s.heap.get? b = some o → g.get? b = some o)) E) cs.init.plain F.entry_set_init (check_set_init_1 ty0 ?_)) fun res2 s2 got2 => ?_
      · obtain ⟨ob, hob, hcl, n0, hdt⟩ := ist
        obtain ⟨k1, k2, k3, k4⟩ := ob
        simp only at hcl hdt
        subst hcl hdt
        have under : l < s.heap.objs.size := Heap.lt_size hob
        have hob2 : (s.heap.push (emptyS w)).get? l = some { cls := .type "tuple", dict := k2, data := .seq its n0, slots := k4 } := Heap.get?_push_of_some _ hob
        have t1 := F.sub_tuple_set
        have t2 := F.sub_tuple_frozenset
        have t3 : (Value.type "tuple" == Value.type "dict") = false := by decide
        have isl2 : (s.heap.push (emptyS w)).IsTuple l its := ⟨_, hob2, rfl, n0, rfl⟩
        unfold Builtin.«set.__init__» noKeywords Builtin.Frozenset.updateFrom
        generalize hit : pyIter = iter
        wp_walk
        subst hit
        refine wpAny_pyIter_tuple isl2 (wpAny_bind (wpAny_runValue ?_))
        have calm3 : A.in1.in1.in1.handled = none := by simp [calm]
        have apart : l ≠ (s.heap.push (emptyS w)).objs.size := by
          rw [Heap.size_push]
          exact Nat.ne_of_lt (Nat.lt_succ_of_lt under)
        have notin : s.heap.objs.size ∉ [(s.heap.push (emptyS w)).objs.size, l] := by
          intro m
          rw [Heap.size_push] at m
          rcases List.mem_cons.mp m with m | m
          · exact absurd m (Nat.ne_of_lt (Nat.lt_succ_self _))
          · exact absurd (List.mem_singleton.mp m) (Nat.ne_of_gt under)
        have vals : ∀ (i : Nat) (v : Value), its[i]? = some v → ∃ p, ks[i]? = some p ∧ v = .ref p.1 := fun i v hv => by
          have z : its.toList[i]? = some v := by rw [Array.getElem?_toList]; exact hv
          rw [are, List.getElem?_map] at z
          cases q : ks[i]? with
          | none => rw [q] at z; cases z
          | some p => rw [q] at z; exact ⟨p, rfl, (Option.some.inj z).symm⟩
        have gone : ∀ b, s.heap.objs.size ≤ b → s.heap.get? b = none := fun b hb => by
          cases q : s.heap.get? b with
          | none => rfl
          | some o => exact absurd (Nat.lt_of_lt_of_le (Heap.lt_size q) hb) (Nat.lt_irrefl _)
        refine set_update_tups (Walks.tuple calm3 _ l apart its).toS s.heap.objs.size notin ks size_is few vals s.heap tups (gone _ (Nat.le_refl _)) (fun b hb => gone b ?_) deep (its.size - 0) 0 _ (by omega) (Nat.zero_le _) ⟨⟨_, Heap.get?_push_size _ rfl, rfl, rfl⟩, isl2.push _⟩ (fun b o e => Heap.get?_push_of_some _ (Heap.get?_push_of_some _ e)) ?first ?last
        · rw [List.mem_singleton.mp hb, Heap.size_push]
          exact Nat.le_succ _
        case first => exact ⟨[], #[], 0, _, setTR_fresh (Heap.get?_push_of_some _ at0), Got.zero ks⟩
        case last =>
          intro s3 L es ep t moved set3 got3 keep3
          obtain ⟨g3, e1, e2, tk3, e3⟩ := s3
          have q1 : e1 = s.gens := moved.gens
          have q2 : e2 = s.drawn := moved.drawn
          have q3 : e3 = s.os := moved.os
          subst q1 q2 q3
          rw [size_is] at got3
          exact wpAny_pure (wpAny_pure ⟨rfl, g3, tk3, L, es, ep, t, rfl, set3, got3, keep3⟩)
      · cases res2 with
        | error _ => exact got2
        | ok flow2 =>
          cases flow2 with
          | ret _ =>
            obtain ⟨rfl, g, tk, L, es, ep, t, rfl, y1, y2, y3⟩ := got2
            repeat (any_goals (first | wp_step | assumption))
            exact out _ _ _ _ _ _ y1 y2 y3
          | _ => exact got2.elim
    | _ => exact got.elim
end
section
variable {X : Cx}
def rSetTT (K : PySem.W.Frag) (P : Program) (w : World) : List V → Hp → VK → Prop := fun xs H Q => ∃ (l : Addr) (ks : List (Addr × List Int)), xs = [V.ref l] ∧ SqT K H l (ks.map fun p => V.ref p.1) ∧ (∀ p ∈ ks, SqT K H p.1 (p.2.map V.int)) ∧ ks.length < 64 ∧
  ∀ a L, H a = none → (∀ p ∈ L, p ∈ ks) → (∀ p ∈ ks, p.2 ∈ L.map (·.2)) → Q (.ref a) (upd H a (SetTO P w a L))
theorem cr_setTT (hc : X.calm = true) (hu : X.A.units + 64 < cLine) : CallR X (.type "set") (rSetTT X.K X.prog X.w) := by
  intro pins s σ H xs us Q I r h
  obtain ⟨l, ks, rfl, hl, hk, hf, q⟩ := h
  obtain ⟨its, rv, pl, hz⟩ := I.tuple hl
  rw [Vals.ref1 r]
  have hn : H s.heap.objs.size = none := I.hok.fresh (Nat.le_refl _)
  refine set_of_tuple (P := X.prog) (w := X.w) ks (I.ok.hd hc) pl (by simpa using refs_of_vals rv) (fun p hp => I.isT (hk p hp)) hf (by omega) fun g tk L es ep t R got kp => ?_
  refine ⟨.ref s.heap.objs.size, upd H s.heap.objs.size (SetTO X.prog X.w s.heap.objs.size L), I.laid (t' := tk) kp (Nat.le_refl _) (setTO_new R.t0), rfl, q _ L hn (fun p hp => List.mem_of_mem_take (got.sub p hp)) fun p hp => got.all p (by rw [List.take_length]; exact hp)⟩
end
section
variable {many : Int} {ties : List (Int × Int)} {names : List Int}
theorem rowBy_fst (rows : List Row) : (rowBy rows).1 = true ↔ ∀ r ∈ rows, r.1 = false := by
  constructor
  · intro h
    exact (rowBy_true (n := (rowBy rows).2) (by rw [← h])).1
  · intro h
    cases e : (rowBy rows).1 with
    | true => rfl
    | false =>
      obtain ⟨⟨r, hr, q⟩, _⟩ := rowBy_false (n := (rowBy rows).2) (show rowBy rows = (false, (rowBy rows).2) by rw [← e])
      have := h r hr
      rw [q] at this
      cases this
theorem chosen_iff (W : WebOk many ties) {h : Int} (hh : 0 ≤ h ∧ h < many) : (rowOf many ties names h).1 = true ↔ ∀ o ∈ lessN ties names h, (rowOf many ties names o).1 = false := by
  rw [rowOf_eq W hh, rowBy_fst]
  constructor
  · intro q o ho
    exact q _ (List.mem_map_of_mem (f := rowOf many ties names) ho)
  · rintro q r hr
    obtain ⟨o, ho, rfl⟩ := List.mem_map.mp hr
    exact q o ho
/-- the set by names is the one that goes by its lesser neighbours -/
theorem chosen_only (W : WebOk many ties) {c : Int → Bool} (hc : ∀ h, 0 ≤ h → h < many → (c h = true ↔ ∀ o ∈ lessN ties names h, c o = false)) : ∀ (n : Nat) (h : Int), rank many names h < n → 0 ≤ h → h < many → c h = (rowOf many ties names h).1
  | 0, _, h, _, _ => absurd h (Nat.not_lt_zero _)
  | n + 1, h, hr, h0, h1 => by
    rw [Bool.eq_iff_iff, hc h h0 h1, chosen_iff W ⟨h0, h1⟩]
    constructor
    · intro q o ho
      have hl := rank_lt W ho
      have hb := nbr_range W (List.mem_filter.mp ho).1
      rw [← chosen_only W hc n o (by omega) hb.1 hb.2]
      exact q o ho
    · intro q o ho
      have hl := rank_lt W ho
      have hb := nbr_range W (List.mem_filter.mp ho).1
      rw [chosen_only W hc n o (by omega) hb.1 hb.2]
      exact q o ho
theorem picked_mem {h : Int} : h ∈ pickedOf many ties names ↔ (0 ≤ h ∧ h < many) ∧ (rowOf many ties names h).1 = true := by
  unfold pickedOf
  rw [List.mem_filter, rgI_mem]
theorem picked_ok : SetOk many (pickedOf many ties names) := ⟨(rgI_up many).filter _, fun h hh => (picked_mem.mp hh).1⟩
theorem oth_ne (W : WebOk many ties) {h o : Int} (ho : o ∈ nbr ties h) : o ≠ h := fun z => by
  subst z
  rcases (nbr_iff W).mp ho with q | q
  · have := W.ok _ q; simp only at this; omega
  · have := W.ok _ q; simp only at this; omega
theorem nbr_sym (W : WebOk many ties) {h o : Int} (ho : o ∈ nbr ties h) : h ∈ nbr ties o := by
  rcases (nbr_iff W).mp ho with q | q
  · exact (nbr_iff W).mpr (.inr q)
  · exact (nbr_iff W).mpr (.inl q)
/-- no two neighbours are picked -/
theorem picked_free (W : WebOk many ties) (N : NamesOk many names) {h o : Int} (hh : 0 ≤ h ∧ h < many) (ho : o ∈ nbr ties h) (c : (rowOf many ties names h).1 = true) : (rowOf many ties names o).1 = false := by
  have hor := nbr_range W ho
  have nn := nm_ne N hor hh (oth_ne W ho)
  by_cases q : nmAt names o < nmAt names h
  · exact (chosen_iff W hh).mp c o (List.mem_filter.mpr ⟨ho, decide_eq_true q⟩)
  · cases e : (rowOf many ties names o).1 with
    | false => rfl
    | true =>
      have := (chosen_iff W hor).mp e h (List.mem_filter.mpr ⟨nbr_sym W ho, decide_eq_true (by omega)⟩)
      rw [c] at this
      cases this
theorem picked_apart (W : WebOk many ties) (N : NamesOk many names) : firstTie ties (pickedOf many ties names) = none := by
  refine find_none _ _ fun t ht => ?_
  unfold tieIn
  cases e : decide (t.1 ∈ pickedOf many ties names) with
  | false => rfl
  | true =>
    rw [Bool.true_and]
    refine decide_eq_false fun q => ?_
    have e := picked_mem.mp (of_decide_eq_true e)
    have q := picked_mem.mp q
    have := picked_free W N e.1 (o := t.2) ((nbr_iff W).mpr (.inl ht)) e.2
    rw [q.2] at this
    cases this
theorem picked_near (W : WebOk many ties) {h : Int} (hh : 0 ≤ h ∧ h < many) (c : (rowOf many ties names h).1 = false) : ∃ o ∈ lessN ties names h, (rowOf many ties names o).1 = true := by
  refine Classical.byContradiction fun z => ?_
  have := (chosen_iff (names := names) W hh).mpr fun o ho => by
    cases e : (rowOf many ties names o).1 with
    | false => rfl
    | true => exact absurd ⟨o, ho, e⟩ z
  rw [c] at this
  cases this
theorem picked_full (W : WebOk many ties) : firstBare many ties (pickedOf many ties names) = none := by
  refine find_none _ _ fun h hh => ?_
  have hh := rgI_mem.mp hh
  rw [Bool.not_eq_false']
  unfold cov
  rw [Bool.or_eq_true, decide_eq_true_eq, List.any_eq_true]
  cases e : (rowOf many ties names h).1 with
  | true => exact .inl (picked_mem.mpr ⟨hh, e⟩)
  | false =>
    obtain ⟨o, ho, c⟩ := picked_near W hh e
    have ho := (List.mem_filter.mp ho).1
    exact .inr ⟨o, ho, decide_eq_true (picked_mem.mpr ⟨nbr_range W ho, c⟩)⟩
theorem picked_lacks (W : WebOk many ties) (N : NamesOk many names) : lacksD many ties (pickedOf many ties names) = .none := by
  unfold lacksD
  rw [picked_apart W N, picked_full W]
/-- there are at most as many rounds as chosen ones -/
theorem latest_le (W : WebOk many ties) : maxDf 0 ((rowsOf many ties names).map fun r => r.2) ≤ ((pickedOf many ties names).length : Int) := by
  have key : ∀ (L : List Int) (h : Int), (0 ≤ h ∧ h < many) → (rowOf many ties names h).2 ≤ ((pickedOf many ties names).length : Int) := by
    intro _ h hh
    have hp := row_pos (names := names) W (rank many names h + 1) h (by omega) hh.1 hh.2
    generalize hm : (rowOf many ties names h).2 = m at hp
    have : ((List.range m.toNat).map fun k : Nat => (k : Int) + 1).length ≤ ((pickedOf many ties names).map fun h => (rowOf many ties names h).2).length := by
      refine len_le_of_sub ?_ fun x hx => ?_
      · refine List.Pairwise.map _ ?_ List.nodup_range
        intro a b h e
        exact h (by omega)
      · obtain ⟨k, hk, rfl⟩ := List.mem_map.mp hx
        have hk := List.mem_range.mp hk
        obtain ⟨o, o0, o1, e⟩ := some_fresh (names := names) W (n := (k : Int)) (by omega) (rank many names h + 1) h (by omega) hh.1 hh.2 (by omega)
        exact List.mem_map.mpr ⟨o, picked_mem.mpr ⟨⟨o0, o1⟩, by rw [e]⟩, by rw [e]⟩
    rw [List.length_map, List.length_map, List.length_range] at this
    omega
  unfold maxDf
  cases e : (rowsOf many ties names).map fun r => r.2 with
  | nil => simp only; omega
  | cons x r =>
    have s := (maxL_spec x r).1
    rw [← e] at s
    simp only
    obtain ⟨rw', hr, er⟩ := List.mem_map.mp s
    unfold rowsOf at hr
    obtain ⟨h, hh, eh⟩ := List.mem_map.mp hr
    rw [← er, ← eh]
    exact key [] h (rgI_mem.mp hh)
/-- the house of the least name -/
theorem least_first (W : WebOk many ties) {h : Int} (hh : 0 ≤ h ∧ h < many) (hl : ∀ o, 0 ≤ o → o < many → nmAt names h ≤ nmAt names o) : rowOf many ties names h = (true, 1) := by
  rw [rowOf_eq W hh]
  have e : lessN ties names h = [] := by
    unfold lessN
    rw [List.filter_eq_nil_iff]
    intro o ho
    have hb := nbr_range W ho
    have := hl o hb.1 hb.2
    rw [decide_eq_true_eq]
    omega
  rw [e]
  rfl
/-- names by which the houses of a set go first -/
structure FirstsOk (many : Int) (names some' ns : List Int) : Prop where
  ok : NamesOk many ns
  first : ∀ h ∈ some', ∀ o, 0 ≤ o → o < many → o ∉ some' → nmAt ns h < nmAt ns o
theorem firsts_same (W : WebOk many ties) (N : NamesOk many names) {ns : List Int} (F : FirstsOk many names (pickedOf many ties names) ns) : pickedOf many ties ns = pickedOf many ties names := by
  unfold pickedOf
  refine List.filter_congr fun h hh => ?_
  have hh := rgI_mem.mp hh
  symm
  refine chosen_only W (c := fun h => (rowOf many ties names h).1) (fun x x0 x1 => ?_) many.toNat h (rank_bound ⟨hh.1, hh.2⟩) hh.1 hh.2
  constructor
  · intro c o ho
    exact picked_free W N ⟨x0, x1⟩ (List.mem_filter.mp ho).1 c
  · intro q
    cases e : (rowOf many ties names x).1 with
    | true => rfl
    | false =>
      obtain ⟨o, ho, c⟩ := picked_near W ⟨x0, x1⟩ e
      have ho := (List.mem_filter.mp ho).1
      have hb := nbr_range W ho
      have lt := F.first o (picked_mem.mpr ⟨hb, c⟩) x x0 x1 (fun z => by rw [(picked_mem.mp z).2] at e; cases e)
      rw [q o (List.mem_filter.mpr ⟨ho, decide_eq_true lt⟩)] at c
      cases c
/-- a tie of which neither house is chosen turns nothing -/
theorem more_same (W : WebOk many ties) {ties' : List (Int × Int)} (W' : WebOk many ties') (N : NamesOk many names) {a b : Int} (ha : (rowOf many ties names a).1 = false) (hb : (rowOf many ties names b).1 = false)
    (hm : ∀ t : Int × Int, t ∈ ties' ↔ t ∈ ties ∨ t = (a, b)) : pickedOf many ties' names = pickedOf many ties names := by
  unfold pickedOf
  refine List.filter_congr fun h hh => ?_
  have hh := rgI_mem.mp hh
  symm
  refine chosen_only W' (c := fun h => (rowOf many ties names h).1) (fun x x0 x1 => ?_) many.toNat h (rank_bound ⟨hh.1, hh.2⟩) hh.1 hh.2
  constructor
  · intro c o ho
    have ho := (List.mem_filter.mp ho).1
    have : o ∈ nbr ties x := by
      rcases (nbr_iff W').mp ho with q | q
      · rcases (hm _).mp q with z | z
        · exact (nbr_iff W).mpr (.inl z)
        · cases z
          have c : (rowOf many ties names a).1 = true := c
          rw [ha] at c
          cases c
      · rcases (hm _).mp q with z | z
        · exact (nbr_iff W).mpr (.inr z)
        · cases z
          have c : (rowOf many ties names b).1 = true := c
          rw [hb] at c
          cases c
    exact picked_free W N ⟨x0, x1⟩ this c
  · intro q
    cases e : (rowOf many ties names x).1 with
    | true => rfl
    | false =>
      obtain ⟨o, ho, c⟩ := picked_near W ⟨x0, x1⟩ e
      have hl := List.mem_filter.mp ho
      have m : o ∈ lessN ties' names x := by
        refine List.mem_filter.mpr ⟨?_, hl.2⟩
        rcases (nbr_iff W).mp hl.1 with z | z
        · exact (nbr_iff W').mpr (.inl ((hm _).mpr (.inl z)))
        · exact (nbr_iff W').mpr (.inr ((hm _).mpr (.inl z)))
      rw [q o m] at c
      cases c
end
/-! ### t + u, either may be empty -/
section
variable {prog : Program} {w : World} {A : Around} {E : Value → Shared → Prop} {s : Shared}
theorem cat_left0 {t b : Addr} {ws : List Value} {Q : Value → Shared → Prop} (ht : IsTup s.heap t ([] : List Value).toArray) (hb : IsTup s.heap b ws.toArray) (q : Q (.ref b) s) : wpAny (model prog w) A (binaryOp .Add (.ref t) (.ref b)) Q E s := by
  obtain ⟨⟨c1, d1, x1, l1⟩, o1, e1, m1, f1⟩ := id ht
  obtain ⟨⟨c2, d2, x2, l2⟩, o2, e2, m2, f2⟩ := id hb
  simp only at e1 f1 e2 f2
  subst e1 f1 e2 f2
  exact concat_meets ⟨_, o1, rfl⟩ ⟨_, o2, rfl⟩ noFill_tuple_add seq_tuple_add PySem.F.slot_tuple_add PySem.F.entry_tuple_add (PySem.F.args_tuple_add_2 _ _) (tuple_addW0 t b _ _ m1 m2 d1 d2 l1 l2 rfl) ⟨o1, o2, q⟩
end
def rCatTG (K : PySem.W.Frag) : R2 := fun x y H Q => ∃ a b xs ys, x = .ref a ∧ y = .ref b ∧ SqT K H a xs ∧ SqT K H b ys ∧ xs.length + ys.length ≤ sizeLine ∧ (xs = [] → Q (.ref b) H) ∧ (xs ≠ [] → ys = [] → Q (.ref a) H) ∧ (xs ≠ [] → ys ≠ [] → newK H (.tup (xs ++ ys)) Q)
theorem op_catTG {X : Cx} : OpR X (binaryOp .Add) (rCatTG X.K) := by
  intro pins s σ H x y v u Q I rx ry h
  obtain ⟨a, b, xs, ys, rfl, rfl, ha, hb, hz, q0, q1, q2⟩ := h
  by_cases hx : xs = []
  · cases rx
    cases ry
    obtain ⟨its, r1, p1, _⟩ := I.tuple ha
    obtain ⟨its2, r2, p2, _⟩ := I.tuple hb
    have e1 : its = [] := r1.nil_iff.mpr hx
    subst e1
    exact cat_left0 p1 p2 ⟨.ref b, H, I, rfl, q0 hx⟩
  · exact op_catT pins s σ H _ _ v u Q I rx ry ⟨a, b, xs, ys, rfl, rfl, ha, hb, hx, hz, q1 hx, fun hy => q2 hx hy⟩
theorem s_catT {K : PySem.W.Frag} {H : Hp} {a b : Addr} {xs ys : List V} {Q : VK} (ha : SqT K H a xs) (hb : SqT K H b ys) (hz : xs.length + ys.length ≤ 100000) (q0 : xs = [] → Q (.ref b) H) (q1 : xs ≠ [] → ys = [] → Q (.ref a) H) (q2 : xs ≠ [] → ys ≠ [] → newK H (.tup (xs ++ ys)) Q) : rCatTG K (.ref a) (.ref b) H Q :=
  ⟨a, b, xs, ys, rfl, rfl, ha, hb, Nat.le_trans hz (by decide), q0, q1, q2⟩
/-- x is y, x is not y, truths -/
theorem r_isB {a b : Bool} {H : Hp} {Q : VK} (q : Q (.bl (decide (a = b))) H) : (fun x y H Q => ∃ a b, x = V.bl a ∧ y = V.bl b ∧ Q (.bl (decide (a = b))) H : R2) (.bl a) (.bl b) H Q := ⟨a, b, rfl, rfl, q⟩
def rNotBl : R2 := fun x y H Q => ∃ a b, x = V.bl a ∧ y = V.bl b ∧ Q (.bl (!decide (a = b))) H
theorem op_notBl {X : Cx} : OpR X (compareOp .IsNot) rNotBl := op_isnot_bl
theorem r_notBl {a b : Bool} {H : Hp} {Q : VK} (q : Q (.bl (!decide (a = b))) H) : rNotBl (.bl a) (.bl b) H Q := ⟨a, b, rfl, rfl, q⟩
def rIsBl : R2 := fun x y H Q => ∃ a b, x = V.bl a ∧ y = V.bl b ∧ Q (.bl (decide (a = b))) H
theorem op_isBl2 {X : Cx} : OpR X (compareOp .Is) rIsBl := op_is_bl
theorem r_isBl {a b : Bool} {H : Hp} {Q : VK} (q : Q (.bl (decide (a = b))) H) : rIsBl (.bl a) (.bl b) H Q := ⟨a, b, rfl, rfl, q⟩
/-! ### == of lists of ints -/
theorem eqvAll_ints : ∀ a b : List Int, PyData.eqvAll (a.map PyData.int) (b.map PyData.int) = decide (a = b)
  | [], [] => by simp [PyData.eqvAll]
  | [], _ :: _ => by simp [PyData.eqvAll]
  | _ :: _, [] => by simp [PyData.eqvAll]
  | x :: a, y :: b => by
    rw [List.map_cons, List.map_cons, PyData.eqvAll, eqvAll_ints a b]
    by_cases h1 : x = y <;> by_cases h2 : a = b <;> simp [h1, h2, PyData.eqv]
theorem eqv_ints (a b : List Int) : PyData.eqv (intsD a) (intsD b) = decide (a = b) := by
  unfold intsD
  rw [PyData.eqv]
  exact eqvAll_ints a b
theorem r_neInts {K : PySem.W.Frag} {H : Hp} {Q : VK} {p q : Addr} {a b : List Int} (h : SqL K H p (a.map V.int)) (g : SqL K H q (b.map V.int)) (z : Q (.bl (!decide (a = b))) H) : rNeD K (.ref p) (.ref q) H Q :=
  ⟨_, _, dp_ints h, dp_ints g, shaped_ints a, shaped_ints b, by have := eqv_ints a b; unfold intsD at this; rw [this]; exact z⟩
theorem r_eqInts {K : PySem.W.Frag} {H : Hp} {Q : VK} {p q : Addr} {a b : List Int} (h : SqL K H p (a.map V.int)) (g : SqL K H q (b.map V.int)) (z : Q (.bl (decide (a = b))) H) : rEqD K (.ref p) (.ref q) H Q :=
  ⟨_, _, dp_ints h, dp_ints g, shaped_ints a, shaped_ints b, by have := eqv_ints a b; unfold intsD at this; rw [this]; exact z⟩
/-! ### min -/
theorem r_min {K : PySem.W.Frag} {H : Hp} {Q : VK} {a : Addr} {ns : List Int} (h : SqL K H a (ns.map V.int)) (h0 : 0 < ns.length) (q : ∀ m, m ∈ ns → (∀ y, y ∈ ns → m ≤ y) → Q (.int m) H) : rMin K [.ref a] H Q := ⟨a, ns, rfl, h, h0, q⟩
/-! ### sets of pairs -/
section
variable {io : List Addr} {H0 F0 F H : Hp} {M : List (Addr × Cel)} {K : PySem.W.Frag} {P : Program} {w : World} {Q : VK} {a : Addr}
/-- set(t), t a tuple of pairs of small numbers -/
theorem s_setTT {xs : List V} {ps : List (Int × Int)} (S : Sep io H0 F0 F H M) (h : SqT K F a xs) (ht : DpAll K F xs (ps.map tieD)) (few : ps.length < 64)
    (k : ∀ (q : Addr) (L : List (Addr × List Int)) (F' H' : Hp), Sep io H0 F0 F' H' M → Evl.Ex F F' → F' q = some (SetTO P w q L) → (∀ p ∈ L, ∃ t : Int × Int, t ∈ ps ∧ p.2 = [t.1, t.2] ∧ SqT K F' p.1 [.int t.1, .int t.2]) → (∀ t ∈ ps, [t.1, t.2] ∈ L.map (·.2)) → Q (.ref q) H') : rSetTT K P w [.ref a] H Q := by
  obtain ⟨ks, e1, e2, e3⟩ : ∃ ks : List (Addr × List Int), xs = ks.map (fun p => V.ref p.1) ∧ ks.map (·.2) = ps.map (fun t => [t.1, t.2]) ∧ ∀ p ∈ ks, ∃ t : Int × Int, t ∈ ps ∧ p.2 = [t.1, t.2] ∧ SqT K F p.1 [.int t.1, .int t.2] := by
    clear h few k
    induction ps generalizing xs with
    | nil => cases ht; exact ⟨[], rfl, rfl, fun p hp => by cases hp⟩
    | cons t r ih =>
      cases ht with
      | cons hx hr =>
        obtain ⟨b, rfl, hb⟩ := tieD_at hx
        obtain ⟨ks, i1, i2, i3⟩ := ih hr
        refine ⟨(b, [t.1, t.2]) :: ks, by rw [i1]; rfl, by rw [List.map_cons, List.map_cons, i2], fun p hp => ?_⟩
        rcases List.mem_cons.mp hp with rfl | hp
        · exact ⟨t, List.mem_cons_self, rfl, hb⟩
        · obtain ⟨u, g1, g2, g3⟩ := i3 p hp
          exact ⟨u, List.mem_cons_of_mem _ g1, g2, g3⟩
  subst e1
  have kl : ks.length = ps.length := by rw [← List.length_map (f := fun p : Addr × List Int => p.2), e2, List.length_map]
  refine ⟨a, ks, rfl, Evl.ex_t S.fr h, fun p hp => ?_, by omega, fun q L hq h1 h2 => ?_⟩
  · obtain ⟨t, _, g2, g3⟩ := e3 p hp
    rw [g2]
    exact Evl.ex_t S.fr g3
  · refine k q L _ _ (S.newF hq _) (Evl.Ex.new (S.fnone hq)) upd_same (fun p hp => ?_) fun t ht => ?_
    · obtain ⟨t, g1, g2, g3⟩ := e3 p (h1 p hp)
      exact ⟨t, g1, g2, Evl.ex_t (Evl.Ex.new (S.fnone hq)) g3⟩
    · have m : [t.1, t.2] ∈ ks.map (·.2) := by rw [e2]; exact List.mem_map.mpr ⟨t, ht, rfl⟩
      obtain ⟨p, hp, e⟩ := List.mem_map.mp m
      rw [← e]
      exact h2 p hp
/-- sorted(that set): the pairs, each once, rising -/
theorem s_sortTT {ps : List (Int × Int)} {L : List (Addr × List Int)} (S : Sep io H0 F0 F H M) (h : F a = some (SetTO P w a L)) (hb : ∀ t ∈ ps, (0 ≤ t.1 ∧ t.1 < 64) ∧ 0 ≤ t.2 ∧ t.2 < 64) (h1 : ∀ p ∈ L, ∃ t : Int × Int, t ∈ ps ∧ p.2 = [t.1, t.2] ∧ SqT K F p.1 [.int t.1, .int t.2]) (h2 : ∀ t ∈ ps, [t.1, t.2] ∈ L.map (·.2))
    (k : ∀ (q : Addr) (ys : List V) (ts : List (Int × Int)) (F' H' : Hp), Sep io H0 F0 F' H' M → Evl.Ex F F' → F' q = some (.lst ys) → DpAll K F' ys (ts.map tieD) → ts.Pairwise Lx → (∀ t, t ∈ ts ↔ t ∈ ps) → Q (.ref q) H') : rSortedT K P w [.ref a] H Q := by
  refine ⟨a, L, 2, 64, rfl, S.fr _ _ h, fun p hp => ?_, by decide, fun p hp => ?_, fun L' q hp nd len pw hq => ?_⟩
  · obtain ⟨t, _, g2, g3⟩ := h1 p hp
    rw [g2]
    exact Evl.ex_t S.fr g3
  · obtain ⟨t, g1, g2, _⟩ := h1 p hp
    rw [g2]
    refine ⟨rfl, fun n hn => ?_⟩
    have := hb t g1
    rcases List.mem_cons.mp hn with rfl | hn
    · exact this.1
    · rw [List.mem_singleton.mp hn]; exact this.2
  · have S' := S.newF hq (.lst (L'.map fun q => V.ref q.1))
    have e := Evl.Ex.new (o := .lst (L'.map fun q => V.ref q.1)) (S.fnone hq)
    let f : Addr × List Int → Int × Int := fun p => (p.2.getD 0 0, p.2.getD 1 0)
    have hf : ∀ p ∈ L', ∃ t : Int × Int, t ∈ ps ∧ p.2 = [t.1, t.2] ∧ SqT K F p.1 [.int t.1, .int t.2] ∧ f p = t := fun p hp' => by
      obtain ⟨t, g1, g2, g3⟩ := h1 p (hp.mem_iff.mp hp')
      refine ⟨t, g1, g2, g3, ?_⟩
      show (p.2.getD 0 0, p.2.getD 1 0) = t
      rw [g2]
      rfl
    refine k q _ (L'.map f) _ _ S' e upd_same ?_ ?_ fun t => ?_
    · refine DpAll.ex e _ _ ?_
      clear hp nd len pw S' e hq
      induction L' with
      | nil => exact .nil
      | cons p r ih =>
        obtain ⟨t, _, _, g3, g4⟩ := hf p List.mem_cons_self
        refine .cons ?_ (ih fun p hp => hf p (List.mem_cons_of_mem _ hp))
        rw [g4]
        exact .tup g3 (.cons (.int _) (.cons (.int _) .nil))
    · refine List.pairwise_map.mpr (List.Pairwise.imp_of_mem ?_ (List.Pairwise.and pw (List.pairwise_map.mp nd)))
      intro p r hp' hr' ⟨c, ne⟩
      obtain ⟨t, g1, g2, _, g4⟩ := hf p hp'
      obtain ⟨u, k1, k2, _, k4⟩ := hf r hr'
      rw [g4, k4]
      rw [g2, k2] at c ne
      have b1 := hb t g1
      have b2 := hb u k1
      exact pair_lt c ne b1.1 b1.2 b2.1 b2.2
    · constructor
      · intro m
        obtain ⟨p, hp', e⟩ := List.mem_map.mp m
        obtain ⟨u, g1, _, _, g4⟩ := hf p hp'
        rw [← e, g4]
        exact g1
      · intro m
        obtain ⟨p, hp', e⟩ := List.mem_map.mp (h2 t m)
        refine List.mem_map.mpr ⟨p, hp.mem_iff.mpr hp', ?_⟩
        show (p.2.getD 0 0, p.2.getD 1 0) = t
        rw [e]
        rfl
theorem s_catS {b : Addr} {xs ys : List V} (S : Sep io H0 F0 F H M) (ha : SqT K F a xs) (hb : SqT K F b ys) (hy : ys ≠ []) (hz : xs.length + ys.length ≤ 100000) (k : ∀ (u : Addr) (F' H' : Hp), Sep io H0 F0 F' H' M → Evl.Ex F F' → SqT K F' u (xs ++ ys) → Q (.ref u) H') : rCatTG K (.ref a) (.ref b) H Q := by
  refine s_catT (Evl.ex_t S.fr ha) (Evl.ex_t S.fr hb) hz (fun e => ?_) (fun _ e => absurd e hy) (fun _ _ => s_new S fun u F' H' S' e c => k u F' H' S' e (SqT.of c))
  subst e
  exact k b F H S (Evl.Ex.refl _) hb
theorem r_neSameD {x y : V} {d : PyData} (h : Dp K H x d) (g : Dp K H y d) (sh : SeqAt.shaped d = true) (z : Q (.bl false) H) : rNeD K x y H Q := by
  refine ⟨_, _, h, g, sh, sh, ?_⟩
  rw [SeqAt.eqv_refl _ (SeqAt.canLay_of_shaped sh)]
  exact z
end
/-! ### sets of many tuples of ints: the round of i -> 5 i + 1 over a power of two -/
def xx : Nat → Nat
  | 0 => 0
  | n + 1 => 5 * xx n + 1
theorem xx_lcg (m : Nat) : ∀ n, lcgN m n = xx n % (m + 1)
  | 0 => (Nat.zero_mod _).symm
  | n + 1 => by
    rw [lcgN, xx_lcg m n, xx]
    rw [Nat.add_mod, Nat.mul_mod, Nat.mod_mod, ← Nat.mul_mod, ← Nat.add_mod, Nat.mul_comm]
theorem xx_add (a : Nat) : ∀ b, xx (b + a) = 5 ^ b * xx a + xx b
  | 0 => by simp [xx]
  | b + 1 => by
    rw [show b + 1 + a = (b + a) + 1 by omega, xx, xx_add a b, xx, Nat.pow_succ]
    rw [Nat.mul_add, Nat.add_assoc, ← Nat.mul_assoc, Nat.mul_comm 5 (5 ^ b)]
theorem five_odd : ∀ n, ∃ d, 5 ^ n = 4 * d + 1
  | 0 => ⟨0, rfl⟩
  | n + 1 => by
    obtain ⟨d, e⟩ := five_odd n
    exact ⟨5 * d + 1, by rw [Nat.pow_succ, e]; omega⟩
theorem xx_two : ∀ k, ∃ c, xx (2 ^ k) = 2 ^ k * (2 * c + 1)
  | 0 => ⟨0, rfl⟩
  | k + 1 => by
    obtain ⟨c, e⟩ := xx_two k
    obtain ⟨d, f⟩ := five_odd (2 ^ k)
    refine ⟨2 * (d * c) + d + c, ?_⟩
    rw [show 2 ^ (k + 1) = 2 ^ k + 2 ^ k by rw [Nat.pow_succ]; omega, xx_add, e, f]
    generalize 2 ^ k = z
    grind
theorem xx_back (k n : Nat) : xx (2 ^ k + n) % 2 ^ k = xx n % 2 ^ k := by
  obtain ⟨c, e⟩ := xx_two k
  rw [Nat.add_comm, xx_add, e, Nat.mul_left_comm, Nat.add_mod, Nat.mul_mod_right, Nat.zero_add, Nat.mod_mod]
theorem two_of {r z t : Nat} (l : r < z * 2) (e : r % z = t) : r = t ∨ r = t + z := by
  have h := Nat.div_add_mod r z
  have h2 : r / z < 2 := Nat.div_lt_of_lt_mul l
  rw [e] at h
  generalize r / z = y at h h2
  rcases (show y = 0 ∨ y = 1 by omega) with q | q <;> rw [q] at h
  · left; omega
  · right; omega
theorem xx_all : ∀ k j, j < 2 ^ k → ∃ b, b < 2 ^ k ∧ xx b % 2 ^ k = j
  | 0, j, h => ⟨0, by decide, by rw [Nat.pow_zero] at *; omega⟩
  | k + 1, j, h => by
    have hp : 0 < 2 ^ k := Nat.pow_pos (by decide)
    have e2 : 2 ^ (k + 1) = 2 ^ k * 2 := Nat.pow_succ ..
    obtain ⟨b, hb, eb⟩ := xx_all k (j % 2 ^ k) (Nat.mod_lt _ hp)
    have r1 : xx b % 2 ^ (k + 1) % 2 ^ k = j % 2 ^ k := by
      rw [e2, Nat.mod_mul_right_mod]
      exact eb
    have rl : xx b % 2 ^ (k + 1) < 2 ^ (k + 1) := Nat.mod_lt _ (Nat.pow_pos (by decide))
    by_cases c : xx b % 2 ^ (k + 1) = j
    · exact ⟨b, by omega, c⟩
    · refine ⟨b + 2 ^ k, by omega, ?_⟩
      obtain ⟨c2, ec⟩ := xx_two k
      obtain ⟨d, ed⟩ := five_odd b
      rw [xx_add, ec, ed]
      have big : (4 * d + 1) * (2 ^ k * (2 * c2 + 1)) = 2 ^ (k + 1) * (2 * d * (2 * c2 + 1) + c2) + 2 ^ k := by
        rw [e2]
        generalize 2 ^ k = z
        grind
      rw [big, Nat.add_assoc, Nat.mul_add_mod, Nat.add_mod, Nat.mod_eq_of_lt (show 2 ^ k < 2 ^ (k + 1) by omega)]
      generalize xx b % 2 ^ (k + 1) = r at *
      rw [e2] at rl h ⊢
      have q1 := two_of rl r1
      have q2 := two_of h rfl
      have lz := Nat.mod_lt j hp
      clear big ec ed eb e2 r1
      generalize 2 ^ k = z at *
      generalize j % z = t at *
      rcases q1 with q1 | q1 <;> rcases q2 with q2 | q2
      · omega
      · rw [Nat.mod_eq_of_lt (by omega)]; omega
      · rw [show z + r = t + z * 2 by omega, Nat.add_mod_right, Nat.mod_eq_of_lt (by omega)]; omega
      · omega
/-- the masks of tables of few thousands -/
def MaskG (m : Nat) : Prop := m = 7 ∨ m = 31 ∨ m = 127 ∨ m = 511 ∨ m = 2047 ∨ m = 8191
theorem MaskG.pow {m : Nat} (h : MaskG m) : ∃ k, m + 1 = 2 ^ k := by
  rcases h with e | e | e | e | e | e <;> subst e
  · exact ⟨3, rfl⟩
  · exact ⟨5, rfl⟩
  · exact ⟨7, rfl⟩
  · exact ⟨9, rfl⟩
  · exact ⟨11, rfl⟩
  · exact ⟨13, rfl⟩
theorem MaskG.odd {m : Nat} (h : MaskG m) : m % 2 = 1 := by rcases h with e | e | e | e | e | e <;> rw [e]
theorem MaskG.le {m : Nat} (h : MaskG m) : m ≤ 8191 := by rcases h with e | e | e | e | e | e <;> omega
theorem lcg_meets {m : Nat} (hm : MaskG m) {i j : Nat} (hi : i ≤ m) (hj : j ≤ m) : ∃ k, k ≤ m ∧ lcgI m i k = j := by
  obtain ⟨k, ek⟩ := hm.pow
  obtain ⟨a, la, ea⟩ := xx_all k i (by omega)
  obtain ⟨b, lb, eb⟩ := xx_all k j (by omega)
  have ei : lcgN m a = i := by rw [xx_lcg, ek, ea]
  by_cases c : a ≤ b
  · refine ⟨b - a, by omega, ?_⟩
    rw [← ei, lcgN_add, show a + (b - a) = b by omega, xx_lcg, ek, eb]
  · refine ⟨b + (m + 1) - a, by omega, ?_⟩
    rw [← ei, lcgN_add, show a + (b + (m + 1) - a) = 2 ^ k + b by omega, xx_lcg, ek, xx_back, eb]
theorem runs_meet {m : Nat} (hm : MaskG m) (h : Int) {j : Nat} (hj : j ≤ m) : ∃ n, n ≤ m + 12 ∧ runI m (SetTable.bits h) n = j := by
  obtain ⟨k, lk, e⟩ := lcg_meets hm (runI_le m (SetTable.bits h) 12) hj
  refine ⟨12 + k, by omega, ?_⟩
  rw [runI_tail (bits_lt h)]
  exact e
theorem ways_meet {m : Nat} (hm : MaskG m) (h : Int) {j : Nat} (hj : j ≤ m) : ∃ k, k < 10 * SetTable.turns m ∧ way m h k = j := by
  obtain ⟨n, ln, e⟩ := runs_meet hm h hj
  obtain ⟨k, lk, e2⟩ := run_nth m (SetTable.bits h) n
  refine ⟨k, ?_, ?_⟩
  · unfold SetTable.turns
    omega
  · show (nth m (runAt m (SetTable.bits h % (m + 1)) (SetTable.bits h)) k).j = j
    rw [e2]
    exact e
theorem way_in {m : Nat} {h : Int} {k : Nat} : way m h k ≤ m := by
  have r := runEnd_bd (Nat.le_of_lt_succ (Nat.mod_lt (SetTable.bits h) (Nat.succ_pos m)))
  have q := nth_in (m := m) k (runAt m (SetTable.bits h % (m + 1)) (SetTable.bits h)) (show SetTable.bits h % (m + 1) + (SetTable.runEnd m (SetTable.bits h % (m + 1)) - SetTable.bits h % (m + 1)) ≤ m by simp only [Nat.succ_eq_add_one] at r; omega)
  exact Nat.le_trans (Nat.le_add_right _ _) q
/-! ### tables -/
structure TabG (t : SetTable) (hs : List Int) : Prop where
  up : Ris t.place.toList
  none' : t.dummies = #[]
  size' : t.place.size = hs.length
  mask' : MaskG t.mask
  under : ∀ x ∈ t.place.toList, x ≤ t.mask
  found : ∀ (i : Nat) (h : Int) (j : Nat), hs[i]? = some h → t.place.toList[i]? = some j → ∃ k, way t.mask h k = j ∧ ∀ k', k' < k → way t.mask h k' ∈ t.place.toList
section
variable {t : SetTable} {hs : List Int}
theorem TabG.len (T : TabG t hs) : t.place.toList.length = hs.length := by rw [Array.length_toList]; exact T.size'
theorem TabG.gap (T : TabG t hs) (room : hs.length ≤ t.mask) (h : Int) : ∃ n, n < 10 * SetTable.turns t.mask ∧ way t.mask h n ∉ t.place.toList ∧ ∀ k, k < n → way t.mask h k ∈ t.place.toList := by
  have hl := T.len
  obtain ⟨j, lj, nj⟩ := st_missing t.place.toList (t.mask + 1) (by omega)
  obtain ⟨k, lk, ek⟩ := ways_meet T.mask' h (Nat.le_of_lt_succ lj)
  obtain ⟨n, a1, a2, a3⟩ := st_least (p := fun c => way t.mask h c ∉ t.place.toList) k (by show way t.mask h k ∉ _; rw [ek]; exact nj)
  exact ⟨n, Nat.lt_of_le_of_lt a1 lk, a2, fun c hc => Classical.byContradiction fun z => a3 c hc z⟩
theorem TabG.ahead (T : TabG t hs) {h : Int} {n i j : Nat} (hn : way t.mask h n ∉ t.place.toList) (hi : hs[i]? = some h) (hj : t.place.toList[i]? = some j) : ∃ k, k < n ∧ way t.mask h k = j := by
  obtain ⟨k, e, b⟩ := T.found i h j hi hj
  refine ⟨k, Classical.byContradiction fun z => ?_, e⟩
  by_cases c : k = n
  · rw [← c, e] at hn
    exact hn (List.mem_of_getElem? hj)
  · exact hn (b n (by omega))
theorem TabG.add (T : TabG t hs) {h : Int} {n : Nat} (hn : way t.mask h n ∉ t.place.toList) (hb : ∀ k, k < n → way t.mask h k ∈ t.place.toList) : ∃ p, (t.put (way t.mask h n)).2 = p ∧ p ≤ hs.length ∧ SetTable.below t.place (way t.mask h n) = p ∧
    TabG (t.put (way t.mask h n)).1 (hs.take p ++ h :: hs.drop p) ∧ (t.put (way t.mask h n)).1.mask = t.mask ∧ (t.put (way t.mask h n)).1.led = t.led ∧ (t.put (way t.mask h n)).1.plain = t.plain ∧ (t.put (way t.mask h n)).1.fill = hs.length + 1 := by
  have lm : way t.mask h n ≤ t.mask := way_in
  obtain ⟨j, ej⟩ : ∃ j, way t.mask h n = j := ⟨_, rfl⟩
  rw [ej] at hn lm ⊢
  have tl := T.len
  have cut := (below_cut T.up j).1
  have c1 : SetTable.below t.place j ≤ t.place.toList.length := by rw [Array.length_toList]; exact cut
  have c2 : SetTable.below t.place j ≤ hs.length := by omega
  have pp := put_place t j
  have new : t.place[SetTable.below t.place j]? ≠ some j := fun z => hn (List.mem_of_getElem? (by rw [Array.getElem?_toList]; exact z))
  have up : ∀ x, x ∈ t.place.toList → x ∈ (t.put j).1.place.toList := fun x hx => by rw [pp]; exact mem_ins.2 (.inr hx)
  have sz : (t.put j).1.place.size = hs.length + 1 := by
    rw [← Array.length_toList, pp, len_ins _ c1, tl]
  refine ⟨SetTable.below t.place j, rfl, c2, rfl, ⟨ris_insert T.up new, put_dm T.none' j, by rw [len_ins _ c2]; exact sz, T.mask', fun x hx => ?_, fun i h' j' g1 g2 => ?_⟩, rfl, rfl, rfl, ?_⟩
  · rw [pp] at hx
    rcases mem_ins.1 hx with rfl | z
    · exact lm
    · exact T.under x z
  · rw [tins_get hs c2] at g1
    rw [pp, tins_get _ c1] at g2
    show ∃ k, way t.mask h' k = j' ∧ ∀ k', k' < k → way t.mask h' k' ∈ (t.put j).1.place.toList
    by_cases a1 : i < SetTable.below t.place j
    · rw [if_pos a1] at g1 g2
      obtain ⟨k, e, z⟩ := T.found i h' j' g1 g2
      exact ⟨k, e, fun k' l => up _ (z k' l)⟩
    · rw [if_neg a1] at g1 g2
      by_cases a2 : i = SetTable.below t.place j
      · rw [if_pos a2] at g1 g2
        cases g1
        cases g2
        exact ⟨n, ej, fun k' l => up _ (hb k' l)⟩
      · rw [if_neg a2] at g1 g2
        obtain ⟨k, e, z⟩ := T.found (i - 1) h' j' g1 g2
        exact ⟨k, e, fun k' l => up _ (z k' l)⟩
  · show (t.put j).1.place.size + (t.put j).1.dummies.size = hs.length + 1
    rw [sz, put_dm T.none' j]
    rfl
end
/-! ### laid anew -/
theorem free_at {m : Nat} (hm : MaskG m) (owner : Array (Option Nat)) (h : Int) {j : Nat} (hj : j ≤ m) (hf : oAt owner j = none) :
    ∃ n, SetTable.layClean.free m owner (SetTable.turns m) (SetTable.bits h % (m + 1)) (SetTable.bits h) = some (way m h n) ∧ oAt owner (way m h n) = none ∧ ∀ k, k < n → oAt owner (way m h k) ≠ none := by
  obtain ⟨r, lr, er⟩ := runs_meet hm h hj
  obtain ⟨f, ef⟩ : ∃ f, off m (SetTable.bits h % (m + 1)) (SetTable.bits h) r = f := ⟨_, rfl⟩
  have hw : way m h f = j := by
    show (nth m (runAt m (SetTable.bits h % (m + 1)) (SetTable.bits h)) f).j = j
    rw [← ef, nth_off, itL_run]
    exact er
  obtain ⟨n, a1, a2, a3⟩ := st_least (p := fun k => oAt owner (way m h k) = none) f (by show oAt owner (way m h f) = none; rw [hw]; exact hf)
  have some_of : ∀ {o : Option Nat}, o ≠ none → o.isNone = false := fun {o} z => by cases o with | none => exact absurd rfl z | some _ => rfl
  refine ⟨n, free_spec m owner (SetTable.turns m) r _ _ n (by unfold SetTable.turns; omega) (by omega) (fun k hk => some_of (a3 k hk)) ?_, a2, a3⟩
  have a2 : oAt owner (nth m (runAt m (SetTable.bits h % (m + 1)) (SetTable.bits h)) n).j = none := a2
  rw [a2]
  rfl
theorem own_more {m : Nat} (hm : MaskG m) {done : List Int} {owner : Array (Option Nat)} (W : Own m done owner) (hl : done.length ≤ m) (h : Int) :
    ∃ j, SetTable.layClean.free m owner (SetTable.turns m) (SetTable.bits h % (m + 1)) (SetTable.bits h) = some j ∧ Own m (done ++ [h]) (owner.setIfInBounds j (some done.length)) := by
  obtain ⟨ps, pl, pin⟩ := W.ps
  obtain ⟨z, lz, nz⟩ := st_missing ps (m + 1) (by omega)
  have hz : oAt owner z = none := Classical.byContradiction fun q => nz (pin z (Nat.le_of_lt_succ lz) q)
  obtain ⟨n, b1, b2, b3⟩ := free_at hm owner h (Nat.le_of_lt_succ lz) hz
  obtain ⟨j, ej⟩ : ∃ j, way m h n = j := ⟨_, rfl⟩
  have jm : j ≤ m := by rw [← ej]; exact way_in
  rw [ej] at b1 b2
  have js : j < owner.size := by have := W.sz; omega
  have self := oAt_set_self (owner := owner) (some done.length) js
  have stay : ∀ i, oAt owner i ≠ none → oAt (owner.setIfInBounds j (some done.length)) i ≠ none := fun i hi => by
    by_cases c : i = j
    · rw [c, self]; exact fun e => nomatch e
    · rw [oAt_set_ne _ c]; exact hi
  refine ⟨j, b1, by rw [Array.size_setIfInBounds]; exact W.sz, fun i k hi e => ?_, fun k hk => ?_, j :: ps, by rw [List.length_cons, List.length_append, pl]; rfl, fun i hi e => ?_⟩
  · by_cases c : i = j
    · rw [c, self] at e
      cases e
      refine ⟨h, n, by rw [List.getElem?_append_right (Nat.le_refl _), Nat.sub_self]; rfl, by rw [c]; exact ej, fun k' l => stay _ (b3 k' l)⟩
    · rw [oAt_set_ne _ c] at e
      obtain ⟨h', n', e1, e2, e3⟩ := W.at_ i k hi e
      refine ⟨h', n', ?_, e2, fun k' l => stay _ (e3 k' l)⟩
      rw [List.getElem?_append_left (List.getElem?_eq_some_iff.mp e1).1]
      exact e1
  · rw [List.length_append, List.length_singleton] at hk
    by_cases c : k = done.length
    · exact ⟨j, jm, by rw [c]; exact self⟩
    · obtain ⟨i, hi, e⟩ := W.all k (by omega)
      refine ⟨i, hi, ?_⟩
      rw [oAt_set_ne _ fun q => by rw [q, b2] at e; cases e]
      exact e
  · by_cases c : i = j
    · rw [c]; exact List.mem_cons_self
    · rw [oAt_set_ne _ c] at e
      exact List.mem_cons_of_mem _ (pin i hi e)
theorem lay_all {m : Nat} (hm : MaskG m) : ∀ (rest done : List Int) (owner : Array (Option Nat)), Own m done owner → done.length + rest.length ≤ m → ∃ o', rest.foldl (stepF m) (some (owner, done.length)) = some (o', (done ++ rest).length) ∧ Own m (done ++ rest) o'
  | [], done, owner, W, _ => ⟨owner, by rw [List.append_nil]; rfl, by rw [List.append_nil]; exact W⟩
  | h :: rest, done, owner, W, hl => by
    have hl : done.length + (rest.length + 1) ≤ m := hl
    obtain ⟨j, e, W'⟩ := own_more hm W (by omega) h
    have dl : (done ++ [h]).length = done.length + 1 := List.length_append ..
    obtain ⟨o', f, W2⟩ := lay_all hm rest (done ++ [h]) _ W' (by omega)
    have ea : done ++ [h] ++ rest = done ++ h :: rest := List.append_assoc ..
    rw [ea] at f W2
    rw [dl] at f
    refine ⟨o', ?_, W2⟩
    rw [List.foldl_cons, stepF_some e]
    exact f
theorem lay_ok {m : Nat} (hm : MaskG m) {hs : Array Int} (hn : hs.size ≤ m) : ∃ owner, SetTable.layClean m hs = some owner ∧ Own m hs.toList owner := by
  obtain ⟨owner, f, W⟩ := lay_all hm hs.toList [] _ (Own.init m) (by rw [Array.length_toList]; simpa using hn)
  refine ⟨owner, ?_, W⟩
  rw [layClean_eq, show (0 : Nat) = ([] : List Int).length from rfl, f]
  rfl
theorem relay_ok (t : SetTable) {hs : Array Int} {wanted m : Nat} (hw : SetTable.sizeAbove wanted - 1 = m) (hM : MaskG m) (hn : hs.size ≤ m) :
    ∃ t' order, t.relaid hs wanted = some (t', order) ∧ order.toList.Perm (List.range hs.size) ∧ TabG t' (order.toList.map fun i => hs.getD i 0) ∧ t'.mask = m ∧ t'.led = t.led ∧ t'.plain = t.plain := by
  obtain ⟨owner, e, W⟩ := lay_ok hM hn
  obtain ⟨lv, elv⟩ : ∃ lv, liveOf m owner = lv := ⟨_, rfl⟩
  have hr : t.relaid hs wanted = some (tabOf t m owner, (lv.map (·.2)).toArray) := by
    rw [relaid_eq, hw, e, ← elv]
    rfl
  have ris := ris_live (fun j => owner.getD j none) (List.range (m + 1)) List.pairwise_lt_range
  have r1 : Ris (lv.map (·.1)) := by rw [← elv]; exact ris.1
  have r2 : ∀ x ∈ lv.map (·.1), x ≤ m := fun x hx => by
    rw [← elv] at hx
    exact Nat.le_of_lt_succ (List.mem_range.mp (ris.2 x hx))
  have mem : ∀ {j k}, (j, k) ∈ lv ↔ j ≤ m ∧ oAt owner j = some k := fun {j k} => by rw [← elv]; exact mem_live W.sz
  have nd_of : ∀ {l : List Nat}, Ris l → l.Nodup := fun {l} h => List.Pairwise.imp (fun h => Nat.ne_of_lt h) h
  have tot : lv.length = hs.size := by
    obtain ⟨ps, p1, p2⟩ := W.ps
    have u1 := nat_nodup_len (lv.map (·.1)) ps (nd_of r1) fun x hx => by
      obtain ⟨⟨y, k⟩, hq, rfl⟩ := List.mem_map.mp hx
      obtain ⟨b1, b2⟩ := mem.1 hq
      exact p2 y b1 (by rw [b2]; exact fun z => nomatch z)
    have u2 := nat_nodup_len (List.range hs.size) (lv.map (·.2)) List.nodup_range fun k hk => by
      obtain ⟨j, b1, b2⟩ := W.all k (by rw [Array.length_toList]; exact List.mem_range.mp hk)
      exact List.mem_map.mpr ⟨(j, k), mem.2 ⟨b1, b2⟩, rfl⟩
    have p1' : ps.length = hs.size := p1
    rw [List.length_map, p1'] at u1
    rw [List.length_map, List.length_range] at u2
    omega
  have pl : (tabOf t m owner).place.toList = lv.map (·.1) := by rw [← elv]; rfl
  refine ⟨_, _, hr, perm_range hs.size _ (by simpa using tot) fun k hk => ?_, ⟨by rw [pl]; exact r1, rfl, ?_, hM, fun x hx => r2 x (by rw [pl] at hx; exact hx), fun i h j h1 h2 => ?_⟩, rfl, rfl, rfl⟩
  · obtain ⟨j, b1, b2⟩ := W.all k (by rw [Array.length_toList]; exact hk)
    exact List.mem_map.mpr ⟨(j, k), mem.2 ⟨b1, b2⟩, rfl⟩
  · rw [← Array.length_toList, pl]
    simp
  · rw [pl] at h2 ⊢
    have h1 : ((lv.map (·.2)).map fun i => hs.getD i 0)[i]? = some h := h1
    rw [List.getElem?_map, List.getElem?_map] at h1
    rw [List.getElem?_map] at h2
    cases hq : lv[i]? with
    | none => rw [hq] at h2; cases h2
    | some q =>
      obtain ⟨y, k⟩ := q
      rw [hq] at h1 h2
      cases h2
      have eh : hs.getD k 0 = h := Option.some.inj h1
      obtain ⟨b1, b2⟩ := mem.1 (List.mem_of_getElem? hq)
      obtain ⟨h0, n, a1, a2, a3⟩ := W.at_ y k b1 b2
      have e0 : hs.getD k 0 = h0 := by
        rw [Array.getD_eq_getD_getElem?, ← Array.getElem?_toList, a1]
        rfl
      rw [e0] at eh
      subst eh
      refine ⟨n, a2, fun k' l => ?_⟩
      show way m h0 k' ∈ lv.map (·.1)
      cases z : oAt owner (way m h0 k') with
      | none => exact absurd z (a3 k' l)
      | some k2 => exact List.mem_map.mpr ⟨(way m h0 k', k2), mem.2 ⟨way_in, z⟩, rfl⟩
/-! ### sets of up to 4000 tuples of ints -/
abbrev prb (m : Nat) (h : Int) (c : Nat) : SetTable.Probe := nth m (runAt m (SetTable.bits h % (m + 1)) (SetTable.bits h)) c
theorem prb_more {m : Nat} {h : Int} {c : Nat} (q : Nat) : nth m (prb m h c) q = prb m h (c + q) := (nth_add m c _ q).symm
theorem prb_j {m : Nat} {h : Int} {c : Nat} (q : Nat) : (nth m (prb m h c) q).j = way m h (c + q) := by rw [prb_more]
theorem prb_clean {m : Nat} {h : Int} : ∀ c, (prb m h c).dummy = none
  | 0 => rfl
  | c + 1 => by
    have e : prb m h (c + 1) = adv m (prb m h c) := nth_succ m _ c
    rw [e]
    unfold adv
    split
    · exact prb_clean c
    · exact prb_clean c
structure SetG (P : Program) (w : World) (h : Heap) (a : Addr) (L : List (Addr × List Int)) (es : Array (Int × Value)) (ep : Nat) (t : SetTable) : Prop where
  obj : ∃ o, h.get? a = some o ∧ o.ExactSet ∧ o.data = .set es ep t
  row : es.toList = L2.rowsOf P w L
  tab : TabG t (L.map fun q => thash P w q.2)
  dis : (L.map (·.2)).Nodup
  are : ∀ q ∈ L, IsT P w h q.2 q.1
  pln : t.plain = true
  lead : w.params.followText "set-order" = true ∨ t.led = true
  gap : L.length * 5 < t.mask * 3
  most : L.length ≤ 4000
section
variable {P : Program} {w : World} {A : Around} {E : Value → Shared → Prop} {s : Shared} {a : Addr} {L : List (Addr × List Int)} {es : Array (Int × Value)} {ep : Nat} {t : SetTable}
theorem rows_len {L : List (Addr × List Int)} {es : Array (Int × Value)} (h : es.toList = L2.rowsOf P w L) : es.size = L.length := by
  have z : es.toList.length = (L2.rowsOf P w L).length := by rw [h]
  simpa [L2.rowsOf] using z
theorem rows_at {L : List (Addr × List Int)} {es : Array (Int × Value)} (h : es.toList = L2.rowsOf P w L) {i : Nat} {q : Addr × List Int} (g : L[i]? = some q) : es[i]? = some (thash P w q.2, Value.ref q.1) := by
  rw [← Array.getElem?_toList, h]
  simp [L2.rowsOf, g]
theorem fits_of {t : SetTable} {n : Nat} (d : t.dummies = #[]) (e : t.place.size = n) (l : n ≤ t.mask) : t.fits n = true := by
  simp [SetTable.fits, SetTable.fill, d, e, l]
theorem SetG.len (R : SetG P w s.heap a L es ep t) : es.size = L.length := rows_len R.row
theorem SetG.ok (R : SetG P w s.heap a L es ep t) : t.fits es.size = true := by
  have h1 : t.place.size = L.length := by rw [R.tab.size', List.length_map]
  have h3 := R.gap
  rw [R.len]
  exact fits_of R.tab.none' h1 (by omega)
theorem SetG.stays (R : SetG P w s.heap a L es ep t) : ¬ t.gaveWay = true := by
  simp [SetTable.gaveWay, R.tab.mask'.odd]

/-- a search for the tuple k from its c-th step on; the n-th is the first that meets a gap -/
theorem seek_from (R : SetG P w s.heap a L es ep t) {x : Addr} {k : List Int} (hx : IsT P w s.heap k x) (deep : A.units < cLine) {n : Nat} (nl : n < 10 * SetTable.turns t.mask)
    (ng : way t.mask (thash P w k) n ∉ t.place.toList) (nb : ∀ c, c < n → way t.mask (thash P w k) c ∈ t.place.toList) {Q : SetFound → Shared → Prop}
    (yes : k ∈ L.map (·.2) → Q (.there none) s) (no : k ∉ L.map (·.2) → Q (.free (way t.mask (thash P w k) n) false) s) :
    ∀ (f c : Nat) (stand : Option SetTable.Probe), stand.getD (t.probeStart (thash P w k)) = prb t.mask (thash P w k) c → c ≤ n → n - c < f →
      (∀ (i : Nat) (q : Addr × List Int), L[i]? = some q → q.2 = k → ∃ d, c ≤ d ∧ d < n ∧ t.place.toList[i]? = some (way t.mask (thash P w k) d)) →
      wpAny (model P w) A (setSearchFrom a (.ref x) (thash P w k) true f stand) Q E s := by
  intro f
  induction f with
  | zero => intro c _ _ _ h; exact absurd h (Nat.not_lt_zero _)
  | succ f ih =>
    intro c stand from_ cn room ahead
    obtain ⟨o, ho, _, hd⟩ := R.obj
    obtain ⟨g, eg⟩ : ∃ g : Nat → Int, (fun i => (es[i]?.map (·.1)).getD 0) = g := ⟨_, rfl⟩
    have gat : ∀ (i : Nat) (q : Addr × List Int), L[i]? = some q → g i = thash P w q.2 := fun i q h => by
      rw [← eg]
      simp [rows_at R.row h]
    rw [setSearchFrom_succ]
    refine wpAny_bind (wpAny_setState_of ho hd R.ok ?_)
    dsimp only
    refine wp_if_neg R.stays ?_
    try refine wpAny_bind (wpAny_pure ?_)
    rw [from_, eg]
    have probed := go_spec t R.tab.up R.tab.none' g (thash P w k) (10 * SetTable.turns t.mask) (n - c) (prb t.mask (thash P w k) c) (prb_clean c) (by omega)
      (fun q hq => by rw [prb_j]; exact nb _ (by omega)) (by rw [prb_j, show c + (n - c) = n by omega]; exact ng)
    rcases probed with ⟨q, i, lq, iq, hq, before, e⟩ | ⟨before, e⟩
    · rw [show t.probe g (thash P w k) (prb t.mask (thash P w k) c) = _ from e]
      rw [prb_j] at iq ⊢
      rw [prb_more]
      dsimp only
      have il : i < L.length := by
        have h1 := (List.getElem?_eq_some_iff.mp iq).1
        have h2 := R.tab.len
        rw [List.length_map] at h2
        omega
      obtain ⟨p, hp⟩ : ∃ p, L[i]? = some p := ⟨_, List.getElem?_eq_getElem il⟩
      have pm : p ∈ L := List.mem_of_getElem? hp
      have live : t.slot (way t.mask (thash P w k) (c + q)) = .live i := slot_live R.tab.up iq
      have then_ : wpAny (model P w) A (searchRest a (.ref x) (thash P w k) true f es t (way t.mask (thash P w k) (c + q)) i (prb t.mask (thash P w k) (c + (q + 1)))) Q E s := by
        unfold searchRest
        rw [rows_at R.row hp]
        dsimp only
        refine wpAny_bind (wpAny_holding (wpAny_eqBool_tuple deep (R.are p pm) hx ?_))
        refine wpAny_bind (wpAny_setState_of ho hd R.ok ?_)
        dsimp only
        by_cases same : p.2 = k
        · refine wp_if_pos (by simp [same]) (wpAny_pure (yes ?_))
          exact List.mem_map.mpr ⟨p, pm, same⟩
        · refine wp_if_neg (by simp [same]) ?_
          try refine wpAny_bind (wpAny_pure ?_)
          rw [sameMem]
          dsimp only
          simp only [if_true, live, rows_at R.row hp]
          refine wpAny_bind (wpAny_isSame_ref_self (wpAny_bind (wpAny_pure ?_)))
          simp only [if_true]
          refine wp_if_neg (by simp [same]) (ih (c + (q + 1)) _ rfl (by omega) (by omega) fun i0 p0 h0 k0 => ?_)
          obtain ⟨d, d1, d2, d3⟩ := ahead i0 p0 h0 k0
          refine ⟨d, ?_, d2, d3⟩
          by_cases u : d < c + q
          · exact absurd ((gat i0 p0 h0).trans (by rw [k0])) (before (d - c) i0 (by omega) (by rw [prb_j, show c + (d - c) = d by omega]; exact d3))
          · by_cases v : d = c + q
            · rw [v] at d3
              have l2 := slot_live R.tab.up d3
              rw [live] at l2
              cases l2
              rw [hp] at h0
              cases h0
              exact absurd k0 same
            · omega
      by_cases lead : t.led = true
      · refine wp_if_neg (by simp [lead]) ?_
        try refine wpAny_bind (wpAny_pure ?_)
        exact then_
      · refine wp_if_pos (by simp [lead]) (wpAny_bind (seen_tup hx (fun y hy => ?_) ?_))
        · obtain ⟨z, hz, rfl⟩ := List.mem_map.mp hy
          have hz2 : z ∈ es.toList := by
            have hz3 : z ∈ es ∧ z.1 = thash P w k := by simpa using hz
            simpa using hz3.1
          rw [R.row] at hz2
          obtain ⟨p2, g1, rfl⟩ := List.mem_map.mp hz2
          exact ⟨p2.2, p2.1, rfl, R.are p2 g1⟩
        · refine wp_if_neg (by decide) ?_
          try refine wpAny_bind (wpAny_pure ?_)
          exact then_
    · rw [show t.probe g (thash P w k) (prb t.mask (thash P w k) c) = _ from e, prb_j, show c + (n - c) = n by omega]
      dsimp only
      refine wpAny_pure (no fun hm => ?_)
      obtain ⟨p0, h0, k0⟩ := List.mem_map.mp hm
      obtain ⟨i0, h1⟩ := List.mem_iff_getElem?.mp h0
      obtain ⟨d, d1, d2, d3⟩ := ahead i0 p0 h1 k0
      exact before (d - c) i0 (by omega) (by rw [prb_j, show c + (d - c) = d by omega]; exact d3) ((gat i0 p0 h1).trans (by rw [k0]))
theorem seek_new (R : SetG P w s.heap a L es ep t) {x : Addr} {k : List Int} (hx : IsT P w s.heap k x) (deep : A.units < cLine) {Q : SetFound → Shared → Prop}
    (yes : k ∈ L.map (·.2) → Q (.there none) s)
    (no : ∀ n, k ∉ L.map (·.2) → way t.mask (thash P w k) n ∉ t.place.toList → (∀ c, c < n → way t.mask (thash P w k) c ∈ t.place.toList) → Q (.free (way t.mask (thash P w k) n) false) s) :
    wpAny (model P w) A (setSearch a (.ref x) (thash P w k) true) Q E s := by
  have room := R.gap
  obtain ⟨n, n1, n2, n3⟩ := R.tab.gap (by rw [List.length_map]; omega) (thash P w k)
  have small : n < 100000 := by
    have := R.tab.mask'.le
    unfold SetTable.turns at n1
    omega
  unfold setSearch
  refine seek_from R hx deep n1 n2 n3 yes (fun h => no n h n2 n3) 100000 0 none rfl (Nat.zero_le _) (by omega) fun i q g e => ?_
  have h1 : (L.map fun q => thash P w q.2)[i]? = some (thash P w k) := by rw [List.getElem?_map, g, ← e]; rfl
  have il : i < t.place.toList.length := by
    have := (List.getElem?_eq_some_iff.mp g).1
    have z := R.tab.len
    rw [List.length_map] at z
    omega
  obtain ⟨d, d1, d2⟩ := R.tab.ahead n2 h1 (List.getElem?_eq_getElem il)
  exact ⟨d, Nat.zero_le _, d1, by rw [d2]; exact List.getElem?_eq_getElem il⟩
end
theorem grow32 : SetTable.sizeAbove (SetTable.grown 5) = 32 := by decide +kernel
theorem grow128 : SetTable.sizeAbove (SetTable.grown 19) = 128 := by decide +kernel
theorem grow512 : SetTable.sizeAbove (SetTable.grown 77) = 512 := by decide +kernel
theorem grow2048 : SetTable.sizeAbove (SetTable.grown 307) = 2048 := by decide +kernel
theorem grow8192 : SetTable.sizeAbove (SetTable.grown 1229) = 8192 := by decide +kernel
/-- a full table's next mask -/
theorem next_mask {m n : Nat} (hm : MaskG m) (h1 : n * 5 < m * 3) (h2 : (n + 1) * 5 ≥ m * 3) (h3 : n + 1 ≤ 4000) : ∃ b, MaskG b ∧ SetTable.sizeAbove (SetTable.grown (n + 1)) = b + 1 ∧ (n + 1) * 5 < b * 3 := by
  rcases hm with rfl | rfl | rfl | rfl | rfl | rfl
  · obtain rfl : n = 4 := by omega
    exact ⟨31, .inr (.inl rfl), grow32, by decide⟩
  · obtain rfl : n = 18 := by omega
    exact ⟨127, .inr (.inr (.inl rfl)), grow128, by decide⟩
  · obtain rfl : n = 76 := by omega
    exact ⟨511, .inr (.inr (.inr (.inl rfl))), grow512, by decide⟩
  · obtain rfl : n = 306 := by omega
    exact ⟨2047, .inr (.inr (.inr (.inr (.inl rfl)))), grow2048, by decide⟩
  · obtain rfl : n = 1228 := by omega
    exact ⟨8191, .inr (.inr (.inr (.inr (.inr rfl)))), grow8192, by decide⟩
  · omega
section
variable {P : Program} {w : World} {A : Around} {E : Value → Shared → Prop} {s : Shared} {a : Addr} {L : List (Addr × List Int)} {es : Array (Int × Value)} {ep : Nat} {t : SetTable}
/-- the table is laid anew, greater -/
theorem lay_anew {o : Obj} (ho : s.heap.get? a = some o) (ex : o.ExactSet) (hd : o.data = .set es ep t) (row : es.toList = L2.rowsOf P w L) (d0 : t.dummies = #[]) (sz : t.place.size = es.size) (le : es.size ≤ t.mask)
    (dis : (L.map (·.2)).Nodup) (are : ∀ q ∈ L, IsT P w s.heap q.2 q.1) (pln : t.plain = true) (lead : w.params.followText "set-order" = true ∨ t.led = true) (most : L.length ≤ 4000) {wanted b : Nat}
    (hb : MaskG b) (hw : SetTable.sizeAbove wanted = b + 1) (gap : L.length * 5 < b * 3) {Q : Unit → Shared → Prop}
    (q : ∀ g N fs en u, Heap.SameBut a s.heap g → SetG P w g a N fs en u → N.Perm L → Q () { s with heap := g }) : wpAny (model P w) A (setRelay a wanted) Q E s := by
  have n0 := rows_len row
  have bl := hb.le
  obtain ⟨u, order, r0, r1, r2, r3, r4, r5⟩ := relay_ok t (hs := es.map (·.1)) (wanted := wanted) (m := b) (by omega) hb (by rw [Array.size_map]; omega)
  rw [Array.size_map, n0] at r1
  obtain ⟨N, f1, f2, f3⟩ := order_rows L es order row r1
  rw [← f3] at r2
  have n1 : (order.filterMap fun i => es[i]?).size = es.size := by rw [rows_len f1, f2.length_eq, n0]
  rw [setRelay_eq]
  refine wpAny_bind (wpAny_setState_of ho hd (fits_of d0 sz le) ?_)
  dsimp only
  refine wp_if_neg (by rw [hw, sizeLine_eq]; omega) ?_
  try refine wpAny_bind (wpAny_pure ?_)
  rw [r0]
  dsimp only
  refine wpAny_bind (wp_if_neg (by simp [n1]) ?_)
  try refine wpAny_bind (wpAny_pure ?_)
  refine wpAny_pure ?_
  dsimp only
  refine wpAny_storeSet_of ho hd ?_ (by rw [n1, n0, sizeLine_eq]; omega)
  have but := Heap.SameBut.update (a := a) (h := s.heap) (f := Obj.putSet (order.filterMap fun i => es[i]?) u)
  exact q _ N _ (ep + 1) u but ⟨⟨_, store_at ho hd, ⟨ex.1, ex.2.1, ex.2.2⟩, rfl⟩, f1, r2, (f2.map (·.2)).nodup_iff.mpr dis, fun z hz => isT_same (are z (f2.mem_iff.mp hz)) ho hd but, by rw [r5]; exact pln, by rw [r4]; exact lead, by rw [f2.length_eq, r3]; exact gap, by rw [f2.length_eq]; exact most⟩ f2
/-- one is added -/
theorem add_one (R : SetG P w s.heap a L es ep t) {x : Addr} {k : List Int} (hx : IsT P w s.heap k x) (deep : A.units < cLine) (more : L.length + 1 ≤ 4000) {Q : Bool → Shared → Prop}
    (q : ∀ c g N fs en u, Heap.SameBut a s.heap g → SetG P w g a N fs en u → (k ∈ L.map (·.2) → N = L) → (k ∉ L.map (·.2) → N.Perm ((x, k) :: L)) → Q c { s with heap := g }) :
    wpAny (model P w) A (setAddHashed a (.ref x) (thash P w k)) Q E s := by
  obtain ⟨o, ho, ex, hd⟩ := R.obj
  unfold setAddHashed
  refine wpAny_holding ?_
  rw [show (100000 : Nat) = 99999 + 1 from rfl, setAddHashedIn_succ]
  refine wpAny_bind (wpAny_setState_of ho hd R.ok ?_)
  dsimp only
  refine wp_if_neg (by simp [byScan, Value.scannable]) ?_
  try refine wpAny_bind (wpAny_pure ?_)
  refine wpAny_bind (seek_new R hx deep (fun there => ?_) fun n fresh ng nb => ?_)
  · dsimp only
    exact wpAny_pure (q false s.heap L es ep t (Heap.SameBut.refl a s.heap) R (fun _ => rfl) fun z => absurd there z)
  · dsimp only
    refine wpAny_bind (wpAny_setState_of ho hd R.ok ?_)
    dsimp only
    obtain ⟨p, p1, p2, p3, T, p5, p6, p7, p8⟩ := R.tab.add ng nb
    have pln : (t.put (way t.mask (thash P w k) n)).1.plain = true := by rw [p7]; exact R.pln
    generalize t.put (way t.mask (thash P w k) n) = tp at p1 T p5 p6 p7 p8 pln ⊢
    obtain ⟨u, p'⟩ := tp
    dsimp only at p1 T p5 p6 p7 p8 pln ⊢
    subst p1
    first
      | (refine wpAny_bind ?_; refine wp_if_pos pln ?_; refine hashBy_tup hx ?_)
      | refine wp_if_pos pln (wpAny_bind (hashBy_tup hx ?_))
    simp only [if_true]
    have row : (SetTable.insertAt es p' (thash P w k, Value.ref x)).toList = L2.rowsOf P w (L.take p' ++ (x, k) :: L.drop p') := by
      rw [SetTable.toList_insertAt, rows_put, R.row]
    have perm := put_perm L p' (x, k)
    have hmap : (L.map fun q => thash P w q.2).take p' ++ thash P w k :: (L.map fun q => thash P w q.2).drop p' = (L.take p' ++ (x, k) :: L.drop p').map fun q => thash P w q.2 := by
      rw [List.map_append, List.map_cons, List.map_take, List.map_drop]
    rw [hmap] at T
    generalize SetTable.insertAt es p' (thash P w k, Value.ref x) = fs at row ⊢
    generalize L.take p' ++ (x, k) :: L.drop p' = N at row perm T
    have nl : N.length = L.length + 1 := perm.length_eq
    have fl : fs.size = L.length + 1 := by rw [rows_len row, nl]
    have dis : (N.map (·.2)).Nodup := (perm.map (·.2)).nodup_iff.mpr (List.nodup_cons.mpr ⟨fresh, R.dis⟩)
    refine wpAny_bind (wpAny_storeSet_of ho hd ?_ (by rw [fl, sizeLine_eq]; omega))
    have but := Heap.SameBut.update (a := a) (h := s.heap) (f := Obj.putSet fs u)
    have ho1 := store_at (es' := fs) (t' := u) ho hd
    generalize s.heap.update a (Obj.putSet fs u) = g at but ho1 ⊢
    have are : ∀ z ∈ N, IsT P w g z.2 z.1 := fun z hz => by
      rcases List.mem_cons.mp (perm.mem_iff.mp hz) with rfl | hz
      · exact isT_same hx ho hd but
      · exact isT_same (R.are z hz) ho hd but
    have lead : w.params.followText "set-order" = true ∨ u.led = true := by rw [p6]; exact R.lead
    have room := R.gap
    have full : u.tooFull = decide ((L.length + 1) * 5 ≥ t.mask * 3) := by
      unfold SetTable.tooFull
      rw [p8, p5, List.length_map]
    by_cases c : (L.length + 1) * 5 ≥ t.mask * 3
    · have cf : u.tooFull = true := by rw [full]; exact decide_eq_true c
      obtain ⟨b, hb, hs, gap⟩ := next_mask R.tab.mask' room c more
      first
        | (refine wpAny_bind ?_; refine wp_if_pos (by simp [cf]) ?_)
        | (refine wp_if_pos (by simp [cf]) ?_; refine wpAny_bind ?_)
      rw [R.len]
      refine lay_anew (s := { s with heap := g }) ho1 ⟨ex.1, ex.2.1, ex.2.2⟩ rfl row T.none' (by rw [T.size', List.length_map, nl, fl]) (by rw [fl, p5]; rcases R.tab.mask' with e | e | e | e | e | e <;> rw [e] at room ⊢ <;> omega) dis are pln lead (by omega) hb hs (by rw [nl]; exact gap) ?_
      intro g2 N2 fs2 en2 u2 but2 R2 perm2
      exact wpAny_pure (q true g2 N2 fs2 en2 u2 (but.trans but2) R2 (fun z => absurd z fresh) fun _ => perm2.trans perm)
    · have cf : u.tooFull = false := by rw [full]; exact decide_eq_false c
      first
        | refine wp_if_neg (by simp [cf]) ?_
        | (refine wpAny_bind ?_; refine wp_if_neg (by simp [cf]) ?_; refine wpAny_pure ?_)
      refine wpAny_pure (q true g N fs (ep + 1) u but ⟨⟨_, ho1, ⟨ex.1, ex.2.1, ex.2.2⟩, rfl⟩, row, T, dis, are, pln, lead, ?_, by omega⟩ (fun z => absurd z fresh) fun _ => perm)
      rw [nl, p5]
      omega
/-- told anew where all that was told stays -/
theorem SetG.later {g h : Heap} (R : SetG P w g a L es ep t) (ha : ∀ o, g.get? a = some o → h.get? a = some o) (ht : ∀ q ∈ L, IsT P w h q.2 q.1) : SetG P w h a L es ep t := by
  obtain ⟨o, ho, r⟩ := R.obj
  exact ⟨⟨o, ha o ho, r⟩, R.row, R.tab, R.dis, ht, R.pln, R.lead, R.gap, R.most⟩
/-- a new one -/
theorem SetG.nil {h : Heap} (ho : h.get? a = some (emptyS w)) : SetG P w h a [] #[] 0 (.fresh 0 0 (!w.params.followText "set-order")) :=
  ⟨⟨_, ho, ⟨rfl, rfl, rfl⟩, rfl⟩, rfl, ⟨List.Pairwise.nil, rfl, rfl, .inl rfl, fun x hx => (by cases hx), fun i h j hi => by simp at hi⟩, List.nodup_nil, fun p hp => (by cases hp), rfl, by cases w.params.followText "set-order" <;> simp [SetTable.fresh], by show 0 * 5 < 7 * 3; decide, Nat.zero_le _⟩
end
section
variable {P : Program} {w : World} {A : Around} {E : Value → Shared → Prop} {s : Shared}
/-- a source of tuples is gone through, each is added -/
theorem all_added {I src : Addr} {fp wr : List Addr} {G : Array GenState → Array GenState → Prop} {Pv : Nat → Value → Prop} {St : Nat → Shared → Prop} {R : Result → Shared → Prop} {n : Nat} (ks : List (Addr × List Int))
    (W : WalksS P w A.in1 I fp wr G n Pv St) (hn : n = ks.length) (far : src ∉ fp) (few : ks.length ≤ 4000) (vals : ∀ i v, Pv i v → ∃ q, ks[i]? = some q ∧ v = .ref q.1)
    (g : Heap) (tups : ∀ q ∈ ks, IsT P w g q.2 q.1) (g0 : g.get? src = none) (gw : ∀ b ∈ wr, g.get? b = none) (deep : A.in1.units < cLine) :
    ∀ (left i : Nat) (s : Shared), ks.length - i = left → i ≤ ks.length → St i s → (∀ b o, g.get? b = some o → s.heap.get? b = some o) → (∃ L es ep t, SetG P w s.heap src L es ep t ∧ Got ks i L) →
      (∀ s' L es ep t, Moved (src :: wr) G s s' → SetG P w s'.heap src L es ep t → Got ks ks.length L → (∀ b o, g.get? b = some o → s'.heap.get? b = some o) → R (.ok (.ret .none)) s') →
      codeAny (model P w) A (.builtin "set.update.loop" ⟨[.ref src, .ref I], []⟩) R s := by
  subst hn
  have apart : src ∉ wr := fun h => far (W.sub _ h)
  have wider : ∀ b ∈ wr, b ∈ src :: wr := fun b hb => List.mem_cons_of_mem _ hb
  intro left
  induction left with
  | zero =>
    intro i s le ic st old ⟨L, es, ep, t, set, got⟩ out
    obtain rfl : i = ks.length := by omega
    refine codeAny_builtin F.entry_set_update_loop ?_
    rw [Around.under_plainId F.plain_set_update_loop _]
    show wpAny _ _ (pyNext (.ref I) >>= _) _ _ s
    refine wpAny_bind (W.done s _ _ st fun s' mv => ?_)
    have old' : ∀ b o, g.get? b = some o → s'.heap.get? b = some o := fun b o e => mv.heap b o (fun hb => by rw [gw b hb] at e; cases e) (old b o e)
    exact wpAny_pure (out s' L es ep t (mv.mono wider) (set.later (fun o e => mv.heap src o apart e) fun q hq => isT_keep (tups q (List.mem_of_mem_take (got.sub q hq))) old') got old')
  | succ left ih =>
    intro i s le ic st old ⟨L, es, ep, t, set, got⟩ out
    have lt : i < ks.length := by omega
    refine codeAny_builtin F.entry_set_update_loop ?_
    rw [Around.under_plainId F.plain_set_update_loop _]
    show wpAny _ _ (pyNext (.ref I) >>= _) _ _ s
    refine wpAny_bind (W.item i s _ _ lt st fun v s' pv st' mv => ?_)
    obtain ⟨q, hq, rfl⟩ := vals i v pv
    have old' : ∀ b o, g.get? b = some o → s'.heap.get? b = some o := fun b o e => mv.heap b o (fun hb => by rw [gw b hb] at e; cases e) (old b o e)
    have set' : SetG P w s'.heap src L es ep t := set.later (fun o e => mv.heap src o apart e) fun z hz => isT_keep (tups z (List.mem_of_mem_take (got.sub z hz))) old'
    have hx : IsT P w s'.heap q.2 q.1 := isT_keep (tups q (List.mem_of_getElem? hq)) old'
    show wpAny _ _ (holding [Value.ref q.1] (setAdd src (.ref q.1)) >>= _) _ _ s'
    refine wpAny_bind (wpAny_holding ?_)
    unfold setAdd
    refine wpAny_holding (wpAny_bind (wpAny_pyHash_tuple deep hx ?_))
    refine add_one (s := { s' with toks := s'.toks + (q.2.length + 1) }) set' hx deep (by have := got.len; omega) fun c h N fs en u but set2 c1 c2 => ?_
    have got2 : Got ks (i + 1) N := by
      by_cases m : q.2 ∈ L.map (·.2)
      · rw [c1 m]; exact got.same hq m
      · exact got.more hq (c2 m)
    have stays : ∀ b o, b ≠ src → s'.heap.get? b = some o → h.get? b = some o := fun b o ne e => (but.2 b ne).trans e
    refine wpAny_pure ⟨plainId_quiet F.plain_set_update_loop _, ih (i + 1) _ (by omega) lt (W.frame _ s' _ _ st' (Nat.le_add_right _ _) fun b hb o e => stays b o (fun z => far (by rw [← z]; exact hb)) e) (fun b o e => stays b o (fun z => by rw [z, g0] at e; cases e) (old' b o e)) ⟨N, fs, en, u, set2, got2⟩ fun s2 N2 fs2 en2 u2 mv2 set3 got3 old3 => ?_⟩
    exact out s2 N2 fs2 en2 u2 (Moved.trans W.gtrans ((mv.mono wider).then_heap (Nat.le_add_right _ _) fun b o hb e => stays b o (fun z => hb (by rw [z]; exact List.mem_cons_self)) e) mv2) set3 got3 old3

set_option maxHeartbeats 9000000 in
theorem great_of_tuple {l : Addr} {its : Array Value} (ks : List (Addr × List Int)) {Q : Value → Shared → Prop} (calm : A.handled = none) (ist : IsTup s.heap l its) (vals0 : its.toList = ks.map fun p => Value.ref p.1)
    (tups : ∀ p ∈ ks, IsT P w s.heap p.2 p.1) (few : ks.length ≤ 4000) (deep : A.units + 3 < cLine)
    (out : ∀ (g : Heap) (tk : Nat) L es ep t, SetG P w g s.heap.objs.size L es ep t → Got ks ks.length L → (∀ b o, s.heap.get? b = some o → g.get? b = some o) → Q (.ref s.heap.objs.size) { s with heap := g, toks := tk }) :
    wpAny (model P w) A (call (.type "set") [.ref l]) Q E s := by
  have size_is : its.size = ks.length := by
    have z := congrArg List.length vals0
    rwa [Array.length_toList, List.length_map] at z
  have cs := F.called_set
  obtain ⟨m1, m2, m3⟩ := cs.mro
  have made := cs.made
  have subs := cs.sub
  have nty := cs.notType
  have can := cs.canCreate
  have tcall := F.typeCall_set_1 (.ref l)
  refine wpAny_call (codeAny_of_tree ?_)
  show wpAny _ _ (callAny (Value.type "set") _) _ _ _
  refine wpAny_pure ⟨Code.quiet_builtin _ (by decide +kernel), codeAny_builtin F.entry_type_call ?_⟩
  rw [Around.under_plain (weight_type_call_type "set" [.ref l] []) rfl]
  repeat (any_goals (first | wp_step | assumption))
  refine codeAny_mono (code_set_led1 (.ref l) (E := E) (Q₁ := fun v s1 => v = .ref s.heap.objs.size ∧ s1 = { s with heap := s.heap.push (emptyS w) }) ⟨rfl, rfl⟩) fun res s1 got => ?_
  cases res with
  | error _ => exact got
  | ok flow =>
    cases flow with
    | ret v =>
      obtain ⟨rfl, rfl⟩ := got
      have at0 : (s.heap.push (emptyS w)).get? s.heap.objs.size = some (emptyS w) := Heap.get?_push_size _ rfl
      have ty0 : Shared.TypeIs { s with heap := s.heap.push (emptyS w) } (.ref s.heap.objs.size) "set" := ⟨_, at0, rfl⟩
      have ini1 := cs.init.lookup
      have ini2 := cs.init.bind (.ref s.heap.objs.size)
      repeat (any_goals (first | wp_step | assumption))
      refine codeAny_mono (codeAny_call_builtin (R := wants (fun r s2 => r = .none ∧ ∃ g tk L es ep t, s2 = { s with heap := g, toks := tk } ∧ SetG P w g s.heap.objs.size L es ep t ∧ Got ks ks.length L ∧ (∀ b o, s.heap.get? b = some o → g.get? b = some o)) E) cs.init.plain F.entry_set_init (check_set_init_1 ty0 ?_)) fun res2 s2 got2 => ?_
      · obtain ⟨ob, hob, hcl, n0, hdt⟩ := ist
        obtain ⟨k1, k2, k3, k4⟩ := ob
        simp only at hcl hdt
        subst hcl hdt
        have under : l < s.heap.objs.size := Heap.lt_size hob
        have hob2 : (s.heap.push (emptyS w)).get? l = some { cls := .type "tuple", dict := k2, data := .seq its n0, slots := k4 } := Heap.get?_push_of_some _ hob
        have t1 := F.sub_tuple_set
        have t2 := F.sub_tuple_frozenset
        have t3 : (Value.type "tuple" == Value.type "dict") = false := by decide
        have isl2 : IsTup (s.heap.push (emptyS w)) l its := ⟨_, hob2, rfl, n0, rfl⟩
        unfold Builtin.«set.__init__» noKeywords Builtin.Frozenset.updateFrom
        generalize hit : pyIter = iter
        wp_walk
        subst hit
        refine wpAny_pyIter_tuple isl2 (wpAny_bind (wpAny_runValue ?_))
        have calm3 : A.in1.in1.in1.handled = none := by simp [calm]
        have apart : l ≠ (s.heap.push (emptyS w)).objs.size := by
          rw [Heap.size_push]
          exact Nat.ne_of_lt (Nat.lt_succ_of_lt under)
        have notin : s.heap.objs.size ∉ [(s.heap.push (emptyS w)).objs.size, l] := by
          intro m
          rw [Heap.size_push] at m
          rcases List.mem_cons.mp m with m | m
          · exact absurd m (Nat.ne_of_lt (Nat.lt_succ_self _))
          · exact absurd (List.mem_singleton.mp m) (Nat.ne_of_gt under)
        have vals : ∀ (i : Nat) (v : Value), its[i]? = some v → ∃ p, ks[i]? = some p ∧ v = .ref p.1 := fun i v hv => by
          have z : its.toList[i]? = some v := by rw [Array.getElem?_toList]; exact hv
          rw [vals0, List.getElem?_map] at z
          cases q : ks[i]? with
          | none => rw [q] at z; cases z
          | some p => rw [q] at z; exact ⟨p, rfl, (Option.some.inj z).symm⟩
        have gone : ∀ b, s.heap.objs.size ≤ b → s.heap.get? b = none := fun b hb => by
          cases q : s.heap.get? b with
          | none => rfl
          | some o => exact absurd (Nat.lt_of_lt_of_le (Heap.lt_size q) hb) (Nat.lt_irrefl _)
        refine all_added ks (Walks.tuple calm3 _ l apart its).toS size_is notin few vals s.heap tups (gone _ (Nat.le_refl _)) (fun b hb => gone b ?_) deep (ks.length - 0) 0 _ (by omega) (Nat.zero_le _) ⟨⟨_, Heap.get?_push_size _ rfl, rfl, rfl⟩, isl2.push _⟩ (fun b o e => Heap.get?_push_of_some _ (Heap.get?_push_of_some _ e)) ?first ?last
        · rw [List.mem_singleton.mp hb, Heap.size_push]
          exact Nat.le_succ _
        case first => exact ⟨[], #[], 0, _, SetG.nil (Heap.get?_push_of_some _ at0), Got.zero ks⟩
        case last =>
          intro s3 L es ep t moved set3 got3 keep3
          obtain ⟨g3, e1, e2, tk3, e3⟩ := s3
          have q1 : e1 = s.gens := moved.gens
          have q2 : e2 = s.drawn := moved.drawn
          have q3 : e3 = s.os := moved.os
          subst q1 q2 q3
          exact wpAny_pure (wpAny_pure ⟨rfl, g3, tk3, L, es, ep, t, rfl, set3, got3, keep3⟩)
      · cases res2 with
        | error _ => exact got2
        | ok flow2 =>
          cases flow2 with
          | ret _ =>
            obtain ⟨rfl, g, tk, L, es, ep, t, rfl, y1, y2, y3⟩ := got2
            repeat (any_goals (first | wp_step | assumption))
            exact out _ _ _ _ _ _ y1 y2 y3
          | _ => exact got2.elim
    | _ => exact got.elim

set_option maxHeartbeats 9000000 in
theorem great_of_list {l : Addr} {its : Array Value} (ks : List (Addr × List Int)) {Q : Value → Shared → Prop} (calm : A.handled = none) (ist : Heap.IsList s.heap l its) (vals0 : its.toList = ks.map fun p => Value.ref p.1)
    (tups : ∀ p ∈ ks, IsT P w s.heap p.2 p.1) (few : ks.length ≤ 4000) (deep : A.units + 3 < cLine)
    (out : ∀ (g : Heap) (tk : Nat) L es ep t, SetG P w g s.heap.objs.size L es ep t → Got ks ks.length L → (∀ b o, s.heap.get? b = some o → g.get? b = some o) → Q (.ref s.heap.objs.size) { s with heap := g, toks := tk }) :
    wpAny (model P w) A (call (.type "set") [.ref l]) Q E s := by
  have size_is : its.size = ks.length := by
    have z := congrArg List.length vals0
    rwa [Array.length_toList, List.length_map] at z
  have cs := F.called_set
  obtain ⟨m1, m2, m3⟩ := cs.mro
  have made := cs.made
  have subs := cs.sub
  have nty := cs.notType
  have can := cs.canCreate
  have tcall := F.typeCall_set_1 (.ref l)
  refine wpAny_call (codeAny_of_tree ?_)
  show wpAny _ _ (callAny (Value.type "set") _) _ _ _
  refine wpAny_pure ⟨Code.quiet_builtin _ (by decide +kernel), codeAny_builtin F.entry_type_call ?_⟩
  rw [Around.under_plain (weight_type_call_type "set" [.ref l] []) rfl]
  repeat (any_goals (first | wp_step | assumption))
  refine codeAny_mono (code_set_led1 (.ref l) (E := E) (Q₁ := fun v s1 => v = .ref s.heap.objs.size ∧ s1 = { s with heap := s.heap.push (emptyS w) }) ⟨rfl, rfl⟩) fun res s1 got => ?_
  cases res with
  | error _ => exact got
  | ok flow =>
    cases flow with
    | ret v =>
      obtain ⟨rfl, rfl⟩ := got
      have at0 : (s.heap.push (emptyS w)).get? s.heap.objs.size = some (emptyS w) := Heap.get?_push_size _ rfl
      have ty0 : Shared.TypeIs { s with heap := s.heap.push (emptyS w) } (.ref s.heap.objs.size) "set" := ⟨_, at0, rfl⟩
      have ini1 := cs.init.lookup
      have ini2 := cs.init.bind (.ref s.heap.objs.size)
      repeat (any_goals (first | wp_step | assumption))
      refine codeAny_mono (codeAny_call_builtin (R := wants (fun r s2 => r = .none ∧ ∃ g tk L es ep t, s2 = { s with heap := g, toks := tk } ∧ SetG P w g s.heap.objs.size L es ep t ∧ Got ks ks.length L ∧ (∀ b o, s.heap.get? b = some o → g.get? b = some o)) E) cs.init.plain F.entry_set_init (check_set_init_1 ty0 ?_)) fun res2 s2 got2 => ?_
      · obtain ⟨ob, hob, hcl, n0, hdt⟩ := ist
        obtain ⟨k1, k2, k3, k4⟩ := ob
        simp only at hcl hdt
        subst hcl hdt
        have under : l < s.heap.objs.size := Heap.lt_size hob
        have hob2 : (s.heap.push (emptyS w)).get? l = some { cls := .type "list", dict := k2, data := .seq its n0, slots := k4 } := Heap.get?_push_of_some _ hob
        have t1 := F.sub_list_set
        have t2 := F.sub_list_frozenset
        have t3 : (Value.type "list" == Value.type "dict") = false := by decide
        have isl2 : Heap.IsList (s.heap.push (emptyS w)) l its := ⟨_, hob2, rfl, n0, rfl⟩
        unfold Builtin.«set.__init__» noKeywords Builtin.Frozenset.updateFrom
        generalize hit : pyIter = iter
        wp_walk
        subst hit
        refine wpAny_pyIter_list isl2 (wpAny_bind (wpAny_runValue ?_))
        have calm3 : A.in1.in1.in1.handled = none := by simp [calm]
        have apart : l ≠ (s.heap.push (emptyS w)).objs.size := by
          rw [Heap.size_push]
          exact Nat.ne_of_lt (Nat.lt_succ_of_lt under)
        have notin : s.heap.objs.size ∉ [(s.heap.push (emptyS w)).objs.size, l] := by
          intro m
          rw [Heap.size_push] at m
          rcases List.mem_cons.mp m with m | m
          · exact absurd m (Nat.ne_of_lt (Nat.lt_succ_self _))
          · exact absurd (List.mem_singleton.mp m) (Nat.ne_of_gt under)
        have vals : ∀ (i : Nat) (v : Value), its[i]? = some v → ∃ p, ks[i]? = some p ∧ v = .ref p.1 := fun i v hv => by
          have z : its.toList[i]? = some v := by rw [Array.getElem?_toList]; exact hv
          rw [vals0, List.getElem?_map] at z
          cases q : ks[i]? with
          | none => rw [q] at z; cases z
          | some p => rw [q] at z; exact ⟨p, rfl, (Option.some.inj z).symm⟩
        have gone : ∀ b, s.heap.objs.size ≤ b → s.heap.get? b = none := fun b hb => by
          cases q : s.heap.get? b with
          | none => rfl
          | some o => exact absurd (Nat.lt_of_lt_of_le (Heap.lt_size q) hb) (Nat.lt_irrefl _)
        refine all_added ks (Walks.list calm3 _ l apart its).toS size_is notin few vals s.heap tups (gone _ (Nat.le_refl _)) (fun b hb => gone b ?_) deep (ks.length - 0) 0 _ (by omega) (Nat.zero_le _) ⟨⟨_, Heap.get?_push_size _ rfl, rfl, rfl⟩, isl2.push _⟩ (fun b o e => Heap.get?_push_of_some _ (Heap.get?_push_of_some _ e)) ?first ?last
        · rw [List.mem_singleton.mp hb, Heap.size_push]
          exact Nat.le_succ _
        case first => exact ⟨[], #[], 0, _, SetG.nil (Heap.get?_push_of_some _ at0), Got.zero ks⟩
        case last =>
          intro s3 L es ep t moved set3 got3 keep3
          obtain ⟨g3, e1, e2, tk3, e3⟩ := s3
          have q1 : e1 = s.gens := moved.gens
          have q2 : e2 = s.drawn := moved.drawn
          have q3 : e3 = s.os := moved.os
          subst q1 q2 q3
          exact wpAny_pure (wpAny_pure ⟨rfl, g3, tk3, L, es, ep, t, rfl, set3, got3, keep3⟩)
      · cases res2 with
        | error _ => exact got2
        | ok flow2 =>
          cases flow2 with
          | ret _ =>
            obtain ⟨rfl, g, tk, L, es, ep, t, rfl, y1, y2, y3⟩ := got2
            repeat (any_goals (first | wp_step | assumption))
            exact out _ _ _ _ _ _ y1 y2 y3
          | _ => exact got2.elim
    | _ => exact got.elim
end
theorem perm_back {α β : Type} {f : α → β} : ∀ {l : List β} {L : List α}, l.Perm (L.map f) → ∃ N : List α, N.Perm L ∧ l = N.map f
  | [], L, h => by
    have e := h.nil_eq
    rw [eq_comm, List.map_eq_nil_iff] at e
    subst e
    exact ⟨[], .refl _, rfl⟩
  | b :: l, L, h => by
    obtain ⟨q, hq, rfl⟩ := List.mem_map.mp (h.mem_iff.mp List.mem_cons_self)
    obtain ⟨A, B, rfl⟩ := List.append_of_mem hq
    have h2 : (f q :: l).Perm (f q :: (A ++ B).map f) := by
      refine h.trans ?_
      rw [List.map_append, List.map_cons, List.map_append]
      exact List.perm_middle
    obtain ⟨N, n1, rfl⟩ := perm_back h2.cons_inv
    exact ⟨q :: N, (n1.cons q).trans List.perm_middle.symm, rfl⟩
section
variable {P : Program} {w : World} {A : Around} {E : Value → Shared → Prop} {s : Shared} {a : Addr} {L : List (Addr × List Int)} {es : Array (Int × Value)} {ep : Nat} {t : SetTable}
/-- the pair that is read at a value -/
def twoAt (h : Heap) (v : Value) : Int × Int := ((TS.intsOf h v).getD 0 0, (TS.intsOf h v).getD 1 0)
theorem isPair_of {h : Heap} {b : Addr} {x y : Int} (g : IsT P w h [x, y] b) : Srt.IsPair h (.ref b) x y ∧ twoAt h (.ref b) = (x, y) := by
  have ti := tupInts_of g
  obtain ⟨o, its, n, ho, hc, hd, hi⟩ := g
  refine ⟨?_, by unfold twoAt; rw [ti.ints]; rfl⟩
  have hi := ints_of_items hi
  obtain ⟨l⟩ := its
  cases hi with
  | cons _ t1 r1 =>
    cases r1 with
    | cons _ t2 r2 =>
      cases r2
      exact ⟨b, o, t1, t2, n, rfl, ho, hc, hd⟩
/-- sorted(a great set of pairs) -/
theorem sorted_great (R : SetG P w s.heap a L es ep t) (calm : A.handled = none) (two : ∀ q ∈ L, ∃ x y, q.2 = [x, y]) {Q : Value → Shared → Prop}
    (out : ∀ s' p (ys : Array Value) (c : Nat) (N : List (Addr × List Int)), (∀ b o, s.heap.get? b = some o → s'.heap.get? b = some o) → s'.gens = s.gens → s'.os = s.os → s.heap.objs.size ≤ p →
      s'.heap.get? p = some (seqObj "list" ys c) → ys.toList = N.map (fun q => Value.ref q.1) → N.Perm L → N.Pairwise (fun q r => SrtO.lexB (r.2.getD 0 0, r.2.getD 1 0) (q.2.getD 0 0, q.2.getD 1 0) = false) → Q (.ref p) s') :
    wpAny (model P w) A (call (.builtin "sorted") [.ref a]) Q E s := by
  obtain ⟨o, ho, ex, hd⟩ := R.obj
  have ln := R.len
  have mo := R.most
  refine Calls.call_function_entry kind_sorted plain_sorted entry_sorted (args_sorted1 _) ?_
  unfold Builtin.«sorted»
  refine wpAny_bind (m := checkCount "sorted" 1 1 _) (wpAny_pure ?_)
  refine wpAny_bind (collect_set (A := A.in1) calm ⟨o, ho, ex.1, hd⟩ R.ok (by unfold scanBound; omega) R.tab.up R.lead fun s1 vs keep1 grew g1 o1 perm => ?_)
  have cells : es.toList.map (·.2) = L.map fun q => Value.ref q.1 := by
    rw [R.row]
    unfold L2.rowsOf
    rw [List.map_map]
    rfl
  rw [cells] at perm
  obtain ⟨N0, np0, rfl⟩ := perm_back (f := fun q : Addr × List Int => Value.ref q.1) perm
  have nl : (N0.map fun q => Value.ref q.1).length ≤ sizeLine := by rw [List.length_map, np0.length_eq, sizeLine_eq]; omega
  refine wpAny_bind (wpAny_newList ?_ nl)
  obtain ⟨h2, eh2⟩ : ∃ h2, s1.heap.push (seqObj "list" (N0.map fun q => Value.ref q.1).toArray 0) = h2 := ⟨_, rfl⟩
  have atL : h2.get? s1.heap.objs.size = some (seqObj "list" (N0.map fun q => Value.ref q.1).toArray 0) := by rw [← eh2]; exact Heap.get?_push_size _ rfl
  have keep2 : ∀ b o, s.heap.get? b = some o → h2.get? b = some o := fun b o e => by rw [← eh2]; exact Heap.get?_push_of_some _ (keep1 b o e)
  have pairs : ∀ q ∈ L, Srt.IsPair h2 (.ref q.1) (q.2.getD 0 0) (q.2.getD 1 0) ∧ twoAt h2 (.ref q.1) = (q.2.getD 0 0, q.2.getD 1 0) := fun q hq => by
    obtain ⟨x, y, e⟩ := two q hq
    have it := isT_keep (R.are q hq) keep2
    rw [e] at it ⊢
    exact isPair_of it
  have pr : ∀ v ∈ N0.map (fun q => Value.ref q.1), Srt.IsPair h2 v (twoAt h2 v).1 (twoAt h2 v).2 := fun v hv => by
    obtain ⟨q, hq, rfl⟩ := List.mem_map.mp hv
    obtain ⟨p1, p2⟩ := pairs q (np0.mem_iff.mp hq)
    rw [p2]
    exact p1
  show wpAny _ _ _ _ _ { s1 with heap := s1.heap.push (seqObj "list" (N0.map fun q => Value.ref q.1).toArray 0) }
  rw [eh2]
  refine wpAny_bind (wpAny_holding (wpAny_call_entry slot_list_sort ⟨_, atL, rfl⟩ entry_list_sort
    (SrtO.list_sort_ord (s := { s1 with heap := h2 }) (SrtO.swo_lex (twoAt h2)) atL nl (fun two2 => SrtO.pairs_sortableO (s := { s1 with heap := h2 }) (by omega) pr fun o' e => ?_) fun ys srt stb => ⟨_, rfl, ?_⟩) (args_list_sort _)))
  · have e' : some o' = some (seqObj "list" (N0.map fun q => Value.ref q.1).toArray 0) := e.symm.trans atL
    cases e'
    intro c
    exact absurd (Value.type.inj c) (by decide)
  · obtain ⟨N, np, rfl⟩ := perm_back (f := fun q : Addr × List Int => Value.ref q.1) stb.perm
    have np2 := np.trans np0
    obtain ⟨c, hc⟩ := sortedHeap_at (vs := N0.map fun q => Value.ref q.1) (out := (N.map fun q => Value.ref q.1).toArray) atL
    refine wpAny_pure ⟨_, rfl, out _ s1.heap.objs.size _ c N (fun b u e => ?_) g1 o1 grew hc rfl np2 ?_⟩
    · have lt := Heap.lt_size (keep1 b u e)
      show (sortedHeap h2 s1.heap.objs.size _ _).get? b = some u
      rw [sortedHeap_old (Nat.ne_of_lt lt) (by rw [← eh2, size_push']; exact Nat.lt_succ_of_lt lt)]
      exact keep2 b u e
    · refine List.Pairwise.imp_of_mem (fun {q r} hq hr h => ?_) (List.pairwise_map.mp srt)
      have p1 := (pairs q (np2.mem_iff.mp hq)).2
      have p2 := (pairs r (np2.mem_iff.mp hr)).2
      rw [← p1, ← p2]
      exact h
end
/-- the set, its tuples apart -/
def SetG0 (P : Program) (w : World) (L : List (Addr × List Int)) (es : Array (Int × Value)) (t : SetTable) : Prop :=
  es.toList = L2.rowsOf P w L ∧ TabG t (L.map fun q => thash P w q.2) ∧ (L.map (·.2)).Nodup ∧ t.plain = true ∧ (w.params.followText "set-order" = true ∨ t.led = true) ∧ L.length * 5 < t.mask * 3 ∧ L.length ≤ 4000
def SetGO (P : Program) (w : World) (a : Addr) (L : List (Addr × List Int)) : HO := .ext fun h => ∃ es ep t, (∃ o, h.get? a = some o ∧ o.ExactSet ∧ o.data = .set es ep t) ∧ SetG0 P w L es t
section
variable {P : Program} {w : World} {H : Hp} {h : Heap} {a : Addr} {L : List (Addr × List Int)} {es : Array (Int × Value)} {ep : Nat} {t : SetTable}
theorem setGO_ok (R : SetG P w h a L es ep t) : ObjOk P w H h a (SetGO P w a L) := by
  have ⟨o, ho, _⟩ := R.obj
  refine ⟨⟨es, ep, t, R.obj, R.row, R.tab, R.dis, R.pln, R.lead, R.gap, R.most⟩, ⟨o, ho⟩, fun h1 h2 p k => ?_⟩
  obtain ⟨es', ep', t', ⟨o', ho', r'⟩, q'⟩ := p
  exact ⟨es', ep', t', ⟨o', k o' ho', r'⟩, q'⟩
theorem setGO_at (x : ObjOk P w H h a (SetGO P w a L)) (ti : ∀ q ∈ L, IsT P w h q.2 q.1) : ∃ es ep t, SetG P w h a L es ep t := by
  obtain ⟨⟨es, ep, t, ob, z⟩, _⟩ := x
  obtain ⟨z1, z2, z3, z4, z5, z6, z7⟩ := z
  exact ⟨es, ep, t, ob, z1, z2, z3, ti, z4, z5, z6, z7⟩
end
section
variable {X : Cx}
/-- set(xs), xs a list or a tuple of up to 4000 tuples of ints -/
def rGreat (sq : Hp → Addr → List V → Prop) (K : PySem.W.Frag) (P : Program) (w : World) : List V → Hp → VK → Prop := fun xs H Q => ∃ (l : Addr) (ks : List (Addr × List Int)), xs = [V.ref l] ∧ sq H l (ks.map fun q => V.ref q.1) ∧ (∀ q ∈ ks, SqT K H q.1 (q.2.map V.int)) ∧ ks.length ≤ 4000 ∧
  ∀ L, (∀ q ∈ L, q ∈ ks) → (∀ q ∈ ks, q.2 ∈ L.map (·.2)) → ∀ a, H a = none → Q (.ref a) (upd H a (SetGO P w a L))
def rGreatT (K : PySem.W.Frag) := rGreat (SqT K) K
def rGreatL (K : PySem.W.Frag) := rGreat (SqL K) K
theorem cr_greatT (calm : X.calm = true) (deep : X.A.units + 64 < cLine) : CallR X (.type "set") (rGreatT X.K X.prog X.w) := by
  intro pins s σ H xs us Q I r h
  obtain ⟨l, ks, rfl, hl, hk, few, q⟩ := h
  obtain ⟨its, rv, pl, _⟩ := I.tuple hl
  rw [Vals.ref1 r]
  refine great_of_tuple (P := X.prog) (w := X.w) ks (I.ok.hd calm) pl (by simpa using refs_of_vals rv) (fun q hq => I.isT (hk q hq)) few (by omega) fun g tk L es ep t R got kp => ?_
  exact ⟨.ref s.heap.objs.size, upd H s.heap.objs.size (SetGO X.prog X.w s.heap.objs.size L), I.laid (t' := tk) kp (Nat.le_refl _) (setGO_ok R), rfl, q L (fun q hq => List.mem_of_mem_take (got.sub q hq)) (fun q hq => got.all q (by rw [List.take_length]; exact hq)) _ (I.hok.fresh (Nat.le_refl _))⟩
theorem cr_greatL (calm : X.calm = true) (deep : X.A.units + 64 < cLine) : CallR X (.type "set") (rGreatL X.K X.prog X.w) := by
  intro pins s σ H xs us Q I r h
  obtain ⟨l, ks, rfl, hl, hk, few, q⟩ := h
  obtain ⟨its, rv, pl, _⟩ := I.list hl
  rw [Vals.ref1 r]
  refine great_of_list (P := X.prog) (w := X.w) ks (I.ok.hd calm) pl.isList (by simpa using refs_of_vals rv) (fun q hq => I.isT (hk q hq)) few (by omega) fun g tk L es ep t R got kp => ?_
  exact ⟨.ref s.heap.objs.size, upd H s.heap.objs.size (SetGO X.prog X.w s.heap.objs.size L), I.laid (t' := tk) kp (Nat.le_refl _) (setGO_ok R), rfl, q L (fun q hq => List.mem_of_mem_take (got.sub q hq)) (fun q hq => got.all q (by rw [List.take_length]; exact hq)) _ (I.hok.fresh (Nat.le_refl _))⟩
/-- sorted(it), of pairs -/
def rSortGreat (K : PySem.W.Frag) (P : Program) (w : World) : List V → Hp → VK → Prop := fun vs H Q => ∃ (a : Addr) (L : List (Addr × List Int)), vs = [V.ref a] ∧ H a = some (SetGO P w a L) ∧ (∀ q ∈ L, ∃ x y, q.2 = [x, y] ∧ SqT K H q.1 [.int x, .int y]) ∧
  ∀ N : List (Addr × List Int), N.Perm L → (N.map (·.2)).Nodup → N.Pairwise (fun q r => SrtO.lexB (r.2.getD 0 0, r.2.getD 1 0) (q.2.getD 0 0, q.2.getD 1 0) = false) → newK H (.lst (N.map fun q => V.ref q.1)) Q
theorem cr_sortGreat (calm : X.calm = true) : CallR X (.builtin "sorted") (rSortGreat X.K X.prog X.w) := by
  intro pins s σ H vs us Q I r h
  obtain ⟨a, L, rfl, ha, two, q⟩ := h
  obtain ⟨es, ep, t, R⟩ := setGO_at (I.hok a _ ha) fun p hp => by
    obtain ⟨x, y, e, g⟩ := two p hp
    rw [e]
    exact I.isT (k := [x, y]) g
  rw [Vals.ref1 r]
  refine sorted_great R (I.ok.hd calm) (fun p hp => by obtain ⟨x, y, e, _⟩ := two p hp; exact ⟨x, y, e⟩) fun s' p ys c N k g o hp hg out pm pw => ?_
  have few : N.length ≤ 4000 := by rw [pm.length_eq]; exact R.most
  have hn : H p = none := I.hok.fresh hp
  have J : Inv X pins σ (upd H p (.lst (N.map fun q => V.ref q.1))) { s with heap := s'.heap, gens := s'.gens, drawn := s'.drawn, toks := s'.toks } :=
    I.call (ch := []) (Un.laid k hp hn) (I.hok.laid k hp ⟨by rw [List.length_map, sizeLine_eq]; omega, ys.toList, c, by rw [out]; exact vals_of_refs N, hg⟩) (by rw [g]; exact I.bare) (fun _ z => nomatch z)
  have e : s' = { s with heap := s'.heap, gens := s'.gens, drawn := s'.drawn, toks := s'.toks } := by
    obtain ⟨_, _, _, _, _⟩ := s'
    cases o
    rfl
  rw [e]
  exact ⟨.ref p, _, J, rfl, q N pm ((pm.map (·.2)).nodup_iff.mpr R.dis) pw p hn⟩
end
/-! ### min, max of a tuple -/
section
variable {X : Cx}
/-- a tuple of ints, any number of them above none -/
def rLeastT (K : PySem.W.Frag) : List V → Hp → VK → Prop := fun vs H Q => ∃ (a : Addr) (ns : List Int), vs = [.ref a] ∧ SqT K H a (ns.map V.int) ∧ ns ≠ [] ∧ ∀ m, m ∈ ns → (∀ j ∈ ns, m ≤ j) → Q (.int m) H
def rMostT (K : PySem.W.Frag) : List V → Hp → VK → Prop := fun vs H Q => ∃ (a : Addr) (ns : List Int), vs = [.ref a] ∧ SqT K H a (ns.map V.int) ∧ ns ≠ [] ∧ ∀ m, m ∈ ns → (∀ j ∈ ns, j ≤ m) → Q (.int m) H
theorem ints_nth : ∀ {us : List Value} {ns : List Int}, IntsAre us ns → ∀ (i : Nat) (v : Value), us[i]? = some v → ∃ t, v = .int (ns.getD i 0) t
  | _, _, .nil, i, v, h => by simp at h
  | _, _, .cons n t r, 0, v, h => by cases h; exact ⟨t, rfl⟩
  | _, _, .cons n t r, i + 1, v, h => by
    obtain ⟨t', e⟩ := ints_nth r i v (by simpa using h)
    exact ⟨t', by simpa using e⟩
theorem cr_leastT (calm : X.calm = true) : CallR X (.builtin "min") (rLeastT X.K) := by
  intro pins s σ H vs us Q I r h
  obtain ⟨a, ns, rfl, ht, ne, q⟩ := h
  obtain ⟨its, rv, pl, _⟩ := I.tuple ht
  rw [Vals.ref1 r]
  have ia := rv.ints
  have lt : a < s.heap.objs.size := by obtain ⟨o, e, _⟩ := pl; exact Heap.lt_size e
  have ln : its.length = ns.length := by rw [← rv.length, List.length_map]
  have np : 0 < ns.length := List.length_pos_iff.mpr ne
  refine call_min_walk (wpAny_pyIter_tuple pl ?_)
  refine ⟨_, _, _, _, _, _, _, rfl, Walks.tuple (A := X.A.in1) (I.ok.hd calm) s.heap.objs.size a (Nat.ne_of_lt lt) its.toArray, ⟨⟨_, Heap.get?_push_size _ rfl, rfl, rfl⟩, pl.push _⟩, fun b hb => ?_, by rw [List.size_toArray]; omega,
    CmpOf.ints_lt (fun i => ns.getD i 0) fun i v hv => ints_nth ia i v (by simpa using hv), fun v h' tk hv hk => ?_⟩
  · rw [Heap.size_push]
    rcases List.mem_cons.mp hb with rfl | hb
    · exact Nat.lt_succ_self _
    · rw [List.mem_singleton.mp hb]; exact Nat.lt_succ_of_lt lt
  · have hv2 := hv
    rw [List.getElem?_toArray] at hv2
    obtain ⟨t, rfl⟩ := ints_nth ia _ v hv2
    have sz : its.toArray.size = its.length := List.size_toArray ..
    obtain ⟨b1, b2⟩ := argBest_lt (fun i => ns.getD i 0) (its.toArray.size - 1)
    have keep : ∀ b o, s.heap.get? b = some o → h'.get? b = some o := fun b o e => hk b o (fun z => by
      rw [List.mem_singleton.mp z] at e
      exact Nat.lt_irrefl _ (Heap.lt_size e)) (Heap.get?_push_of_some _ e)
    refine ⟨.int _, H, I.kept (t' := tk) keep, ⟨t, rfl⟩, q _ ?_ fun j hj => ?_⟩
    · exact PySem.getD_mem (by omega)
    · obtain ⟨i, hi, rfl⟩ := mem_getD hj
      exact b2 i (by omega)
theorem cr_mostT (calm : X.calm = true) : CallR X (.builtin "max") (rMostT X.K) := by
  intro pins s σ H vs us Q I r h
  obtain ⟨a, ns, rfl, ht, ne, q⟩ := h
  obtain ⟨its, rv, pl, _⟩ := I.tuple ht
  rw [Vals.ref1 r]
  have ia := rv.ints
  have lt : a < s.heap.objs.size := by obtain ⟨o, e, _⟩ := pl; exact Heap.lt_size e
  have ln : its.length = ns.length := by rw [← rv.length, List.length_map]
  have np : 0 < ns.length := List.length_pos_iff.mpr ne
  refine call_max_walk (wpAny_pyIter_tuple pl ?_)
  refine ⟨_, _, _, _, _, _, _, rfl, Walks.tuple (A := X.A.in1) (I.ok.hd calm) s.heap.objs.size a (Nat.ne_of_lt lt) its.toArray, ⟨⟨_, Heap.get?_push_size _ rfl, rfl, rfl⟩, pl.push _⟩, fun b hb => ?_, by rw [List.size_toArray]; omega,
    CmpOf.ints_gt (fun i => ns.getD i 0) fun i v hv => ints_nth ia i v (by simpa using hv), fun v h' tk hv hk => ?_⟩
  · rw [Heap.size_push]
    rcases List.mem_cons.mp hb with rfl | hb
    · exact Nat.lt_succ_self _
    · rw [List.mem_singleton.mp hb]; exact Nat.lt_succ_of_lt lt
  · have hv2 := hv
    rw [List.getElem?_toArray] at hv2
    obtain ⟨t, rfl⟩ := ints_nth ia _ v hv2
    have sz : its.toArray.size = its.length := List.size_toArray ..
    obtain ⟨b1, b2⟩ := argBest_gt (fun i => ns.getD i 0) (its.toArray.size - 1)
    have keep : ∀ b o, s.heap.get? b = some o → h'.get? b = some o := fun b o e => hk b o (fun z => by
      rw [List.mem_singleton.mp z] at e
      exact Nat.lt_irrefl _ (Heap.lt_size e)) (Heap.get?_push_of_some _ e)
    refine ⟨.int _, H, I.kept (t' := tk) keep, ⟨t, rfl⟩, q _ ?_ fun j hj => ?_⟩
    · exact PySem.getD_mem (by omega)
    · obtain ⟨i, hi, rfl⟩ := mem_getD hj
      exact b2 i (by omega)
end
theorem r_least2 {K : PySem.W.Frag} {H : Hp} {Q : VK} {a : Addr} {x y : Int} (h : SqT K H a [.int x, .int y]) (q : Q (.int (min x y)) H) : rLeastT K [.ref a] H Q :=
  ⟨a, [x, y], rfl, h, by simp, fun m hm hl => by
    have h1 := hl x (by simp)
    have h2 := hl y (by simp)
    have e : m = min x y := by
      rcases List.mem_cons.mp hm with rfl | hm
      · omega
      · rw [List.mem_singleton.mp hm] at h1 ⊢; omega
    rw [e]; exact q⟩
theorem r_most2 {K : PySem.W.Frag} {H : Hp} {Q : VK} {a : Addr} {x y : Int} (h : SqT K H a [.int x, .int y]) (q : Q (.int (max x y)) H) : rMostT K [.ref a] H Q :=
  ⟨a, [x, y], rfl, h, by simp, fun m hm hl => by
    have h1 := hl x (by simp)
    have h2 := hl y (by simp)
    have e : m = max x y := by
      rcases List.mem_cons.mp hm with rfl | hm
      · omega
      · rw [List.mem_singleton.mp hm] at h1 ⊢; omega
    rw [e]; exact q⟩
/-! ### a thing that is read from now on alone -/
def frzK (v : V) (H : Hp) (Q : VK) : Prop := ∃ d u, v = .ref d ∧ H d = some u ∧ Mut (some u) ∧ ∀ od, Q v (upd H d (.frz od u))
def tFrz (t : TE) : TE := fun σ H Q => t σ H fun v H1 => frzK v H1 Q
theorem pe_frz {X : Cx} {e : Expr} {t : TE} (h : PE X e t) : PE X e (tFrz t) := by
  refine ⟨fun pins s σ H Q I hw => ?_⟩
  refine thn (h.run pins s σ H _ I hw) fun v s1 ⟨x, H1, I1, r, d, u, ex, hd, mu, q⟩ => ?_
  obtain ⟨od, I2⟩ := I1.lock hd mu
  exact ⟨x, _, I2, r, q od⟩
section
variable {io : List Addr} {H0 F0 F H : Hp} {M L : List (Addr × Cel)} {K : PySem.W.Frag} {Q : VK} {QH : Hp → Prop} {a b : Addr} {o : HO}
theorem Sep.lock (S : Sep io H0 F0 F H M) (k : Nat) (hk : M[k]? = some (a, .is o)) (od : Obj) : ∃ F', Sep io H0 F0 F' (upd H a (.frz od o)) (M.eraseIdx k) ∧ Evl.Ex F F' ∧ F' a = some (.frz od o) := by
  have S := S.put k hk (.frz od o)
  obtain ⟨F', S', e, c⟩ := S.frz k (o := .frz od o) (List.getElem?_set_self (List.getElem?_eq_some_iff.mp hk).1)
  rw [List.eraseIdx_set_eq] at S'
  exact ⟨F', S', e, c⟩
theorem r_frz {t : TE} {σ : L2.St} (h : t σ H fun v H1 => frzK v H1 Q) : tFrz t σ H Q := h
theorem s_frz (S : Sep io H0 F0 F H M) (k : Nat) (hk : M[k]? = some (a, .is o)) (mu : Mut (some o)) (q : ∀ od F' H', Sep io H0 F0 F' H' (M.eraseIdx k) → Evl.Ex F F' → F' a = some (.frz od o) → Q (.ref a) H') : frzK (.ref a) H Q := by
  refine ⟨a, o, rfl, S.rdM k hk, mu, fun od => ?_⟩
  obtain ⟨F', S', e, c⟩ := S.lock k hk od
  exact q od F' _ S' e c
theorem r_break {D : Ends} {σ : L2.St} (h : D.bk σ H) : tBreak D σ H := h
/-! ### going over dicts -/
theorem s_forIt {g : TG} {tb : TS} {D : Ends} {σ : L2.St} {od : Obj} {kvs : List (Key × V)} (I : Nat → L2.St → Hp → List (Addr × Cel) → Prop) (S : Sep io H0 F0 F H M) (hd : F a = some (.frz od (.dK kvs))) (h0 : I 0 σ F M)
    (hb : ∀ i k v t σ' F1 F' H' M', kvs[i]? = some (k, v) → Sep io H0 F0 F' H' M' → Evl.Ex F F1 → Evl.Ex F1 F' → F' t = some (.tup [kV k, v]) → I i σ' F1 M' → Body io H0 F0 F I D g tb i (.ref t) σ' H')
    (hn : ∀ σ' F' H' M', Sep io H0 F0 F' H' M' → Evl.Ex F F' → I kvs.length σ' F' M' → D.nx σ' H') : ForW (Iti a od kvs) D g tb σ H := by
  refine for_it walk_items (LI io H0 F0 F I) ⟨F, M, S, Evl.Ex.refl _, h0⟩ ?_ ?_ ?_
  · rintro i σ' H' _ ⟨F', M', S', e, _⟩
    exact S'.rdC e hd
  · rintro i x σ' H' H'' hi ⟨F', M', S', e, h⟩ ⟨t, x1, x2, rfl, ht, rfl, e1, e2⟩
    obtain ⟨⟨k, v⟩, ek⟩ : ∃ p, kvs[i]? = some p := ⟨_, List.getElem?_eq_getElem hi⟩
    simp only [ek, Option.map_some, Option.some.injEq] at e1 e2
    subst e1 e2
    exact hb i k v t σ' F' _ _ M' ek (S'.newF ht _) e (Evl.Ex.new (S'.fnone ht)) upd_same h
  · rintro σ' H' ⟨F', M', S', e, h⟩
    exact hn σ' F' H' M' S' e h
def ikeysK (x : V) (H : Hp) (R : It → Hp → Prop) : Prop := ∃ d o, x = .ref d ∧ ((∃ kvs, H d = some (.frz o (.dK kvs)) ∧ R (Itk d o kvs) H) ∨ ∃ kvs, H d = some (.frz o (.dT kvs)) ∧ R (Itkt d o kvs) H)
theorem r_iKeys {td : TE} {σ : L2.St} {R : It → Hp → Prop} (h : td σ H fun x H1 => ikeysK x H1 R) : iKeys td σ H R := h
theorem s_ikeys {od : Obj} {kvs : List (Key × V)} {R : It → Hp → Prop} (hd : H b = some (.frz od (.dK kvs))) (q : R (Itk b od kvs) H) : ikeysK (.ref b) H R := ⟨b, od, rfl, .inl ⟨kvs, hd, q⟩⟩
theorem s_ikeysT {od : Obj} {kvs : List (List Key × V)} {R : It → Hp → Prop} (hd : H b = some (.frz od (.dT kvs))) (q : R (Itkt b od kvs) H) : ikeysK (.ref b) H R := ⟨b, od, rfl, .inr ⟨kvs, hd, q⟩⟩
def iitemsK (x : V) (H : Hp) (R : It → Hp → Prop) : Prop := ∃ d o kvs, x = .ref d ∧ H d = some (.frz o (.dK kvs)) ∧ R (Iti d o kvs) H
theorem r_iItems {td : TE} {σ : L2.St} {R : It → Hp → Prop} (h : td σ H fun x H1 => iitemsK x H1 R) : iItems td σ H R := h
theorem s_iitems {od : Obj} {kvs : List (Key × V)} {R : It → Hp → Prop} (hd : H b = some (.frz od (.dK kvs))) (q : R (Iti b od kvs) H) : iitemsK (.ref b) H R := ⟨b, od, kvs, rfl, hd, q⟩
theorem srcK {od : Obj} {kvs : List (Key × V)} (hd : F b = some (.frz od (.dK kvs))) : Src (Itk b od kvs) io H0 F0 F [] kvs (fun p x _ => x = kV p.1) :=
  ⟨_, _, walk_keys, fun F' H' M' S e _ => S.rdC e hd, fun i p x F' H' H'' M' hp S e _ y => by
    obtain ⟨rfl, k, v, e1, e2⟩ := y
    rw [hp] at e1
    cases e1
    exact ⟨F', S, Evl.Ex.refl _, e2⟩⟩
/-- a comprehension over keys that are tuples: told of the heap itself -/
theorem s_lcKT {od : Obj} {kvs : List (List Key × V)} {g : TG} {tt : TT} {te : TE} {vs : List Nat} {σ : L2.St} (I : Nat → List V → Hp → List (Addr × Cel) → Prop) (hd : F b = some (.frz od (.dT kvs))) (S : Sep io H0 F0 F H M) (h0 : I 0 [] F M)
    (hb : ∀ (i : Nat) (k : List Key) (v : V) q acc D F' H' M', kvs[i]? = some (k, v) → H' q = some (.tup (k.map kV)) → Sep io H0 F0 F' H' ((D, .is (.lst acc)) :: M') → Evl.Ex F F' → I i acc F' M' → g (.ref q) (wipe σ vs) H' fun σ2 H2 => wipe σ2 vs = wipe σ vs ∧ tt σ2 H2 fun b H3 =>
      if b = true then te σ2 H3 (PutK D (CI io H0 F0 F D I (i + 1))) else CI io H0 F0 F D I (i + 1) H3)
    (hn : ∀ D acc F' H' M', Sep io H0 F0 F' H' ((D, .is (.lst acc)) :: M') → Evl.Ex F F' → I kvs.length acc F' M' → Q (.ref D) H') : lcK (Itkt b od kvs) g tt te vs σ H Q := by
  intro D hD
  refine lc_it walk_keysT (fun i H' => CI io H0 F0 F D I i H') ⟨[], F, M, S.newM hD _, Evl.Ex.refl _, h0⟩ ?_ ?_ ?_
  · rintro i H' _ ⟨acc, F', M', S', e, h⟩
    exact S'.rdC e hd
  · rintro i x H' H'' hi ⟨acc, F', M', S', e, h⟩ ⟨rfl, k, v, q, e1, rfl, e3⟩
    exact hb i k v q acc D F' _ M' e1 e3 S' e h
  · rintro H' ⟨acc, F', M', S', e, h⟩
    exact hn D acc F' H' M' S' e h
/-! ### dicts written -/
def dputK (x y v : V) (H : Hp) (QH : Hp → Prop) : Prop := ∃ a H4, x = .ref a ∧ DPut H a y v H4 ∧ QH H4
theorem r_dput {td ty tv : TE} {D : Ends} {σ : L2.St} (h : tv σ H fun v H1 => td σ H1 fun x H2 => ty σ H2 fun y H3 => dputK x y v H3 (D.nx σ)) : sDPut td ty tv D σ H := h
theorem s_dputT {kvs : List (List Key × V)} {x y : Int} {t : Addr} {v : V} (S : Sep io H0 F0 F H M) (k : Nat) (hk : M[k]? = some (a, .is (.dT kvs))) (ht : F t = some (.tup [.int x, .int y])) (few : kvs.length < 100000)
    (q : ∀ H', Sep io H0 F0 F H' (M.set k (a, .is (.dT (putK kvs [.inl x, .inl y] v)))) → QH H') : dputK (.ref a) (.ref t) v H QH :=
  ⟨a, _, rfl, DPut.t (k := [.inl x, .inl y]) (S.rdM k hk) (S.fr _ _ ht) (Evl.sz_lt few), q _ (S.put k hk _)⟩
theorem s_dputK {kvs : List (Key × V)} {x : Int} {v : V} (S : Sep io H0 F0 F H M) (k : Nat) (hk : M[k]? = some (a, .is (.dK kvs))) (few : kvs.length < 100000)
    (q : ∀ H', Sep io H0 F0 F H' (M.set k (a, .is (.dK (putK kvs (.inl x) v)))) → QH H') : dputK (.ref a) (.int x) v H QH :=
  ⟨a, _, rfl, DPut.k (k := .inl x) (S.rdM k hk) (Evl.sz_lt few), q _ (S.put k hk _)⟩
/-! dicts read -/
def dgetK (x y : V) (H : Hp) (Q : VK) : Prop := ∃ a v, x = .ref a ∧ DGet H a y (some v) ∧ Q v H
theorem r_dget {td ty : TE} {σ : L2.St} (h : td σ H fun x H1 => ty σ H1 fun y H2 => dgetK x y H2 Q) : tDGet td ty σ H Q := h
theorem s_dget {kvs : List (Key × V)} {x : Int} {v : V} (h : Rd H a (.dK kvs)) (e : valV kvs (.inl x) = some v) (q : Q v H) : dgetK (.ref a) (.int x) H Q :=
  ⟨a, v, rfl, .inl ⟨kvs, .inl x, h, rfl, e.symm⟩, q⟩
def dinK (n : Bool) (x y : V) (H : Hp) (Q : VK) : Prop := ∃ a o, x = .ref a ∧ DGet H a y o ∧ Q (.bl (if n then !o.isSome else o.isSome)) H
theorem r_din {td ty : TE} {σ : L2.St} (h : ty σ H fun y H1 => td σ H1 fun x H2 => dinK false x y H2 Q) : tDIn ty td σ H Q := h
theorem r_dnotin {td ty : TE} {σ : L2.St} (h : ty σ H fun y H1 => td σ H1 fun x H2 => dinK true x y H2 Q) : tDNotIn ty td σ H Q := h
theorem s_din {kvs : List (Key × V)} {x : Int} (h : Rd H a (.dK kvs)) (q : Q (.bl (valV kvs (.inl x)).isSome) H) : dinK false (.ref a) (.int x) H Q :=
  ⟨a, _, rfl, .inl ⟨kvs, .inl x, h, rfl, rfl⟩, q⟩
theorem s_dnotin {kvs : List (Key × V)} {x : Int} (h : Rd H a (.dK kvs)) (q : Q (.bl (!(valV kvs (.inl x)).isSome)) H) : dinK true (.ref a) (.int x) H Q :=
  ⟨a, _, rfl, .inl ⟨kvs, .inl x, h, rfl, rfl⟩, q⟩
theorem s_dnewT (S : Sep io H0 F0 F H M) (q : ∀ d H', Sep io H0 F0 F H' ((d, .is (.dT [])) :: M) → Q (.ref d) H') {σ : L2.St} : tDNewT σ H Q := fun p hp => q p _ (S.newM hp _)
theorem s_dnewK (S : Sep io H0 F0 F H M) (q : ∀ d H', Sep io H0 F0 F H' ((d, .is (.dK [])) :: M) → Q (.ref d) H') {σ : L2.St} : tDNewK σ H Q := fun p hp => q p _ (S.newM hp _)
/-! ### dicts by comprehensions -/
theorem swaps_dc {kx vx : Expr} {gs : List Comprehension} {scope : Scope} {pos py : Pos} {y : Str} {l : Nat} {env : Env} (fn : env.scope.kind = .function) (loc : env.scope.names.lookup y = some .local) (line : (py.line == pos.line) = true)
    (none_ : (scope.names.any fun (n, k) => n == y && (k == .local || k == .cell)) = false) : swapsWith (.DictComp kx vx gs scope pos) (some (.Name y py)) l env = pure true := by
  have e1 : env.kindOf y = some .local := loc
  have e2 : env.blockKind = .function := by unfold Env.blockKind; rw [fn]; rfl
  unfold swapsWith
  simp only [e1, e2, none_, Expr.pos, line]
  rfl
section
variable {X : Cx}
/-- y = {k: v for ..}, y a local -/
theorem ps_asgDc {i : Nat} {y : Str} {py pos spos : Pos} {kx vx tg iter : Expr} {scope : Scope} {own : List (Str × Nat)} {wi : TI} {g : TG} {tt : TT} {tk tv : TE} (calm : X.calm = true) (nd : X.N.Nodup) (at_ : X.N[i]? = some y) (loc : X.env.scope.names.lookup y = some .local)
    (sw : swapsWith (.DictComp kx vx [⟨tg, iter, [], 0⟩] scope pos) (some (.Name y py)) spos.line X.env = pure true) (pi : PI X tg iter wi) (blk : BlkOk X.N X.env.scope scope own)
    (pg : ∀ (s : Shared) (H : Hp) (C : Addr) (cl : List (Str × Addr)) (fp : List Addr), PG (X.blk s H scope (compEnvC scope cl C X.env) fp) tg g)
    (pt : ∀ (s : Shared) (H : Hp) (C : Addr) (cl : List (Str × Addr)) (fp : List Addr), PTs (X.blk s H scope (compEnvC scope cl C X.env) fp) [] tt)
    (pk : ∀ (s : Shared) (H : Hp) (C : Addr) (cl : List (Str × Addr)) (fp : List Addr), PE (X.blk s H scope (compEnvC scope cl C X.env) fp) kx tk)
    (pv' : ∀ (s : Shared) (H : Hp) (C : Addr) (cl : List (Str × Addr)) (fp : List Addr), PE (X.blk s H scope (compEnvC scope cl C X.env) fp) vx tv) (fold : ∀ x, foldedSetIterable iter X.env x = pure x := by intro _; rfl) :
    PS X (.Assign [.Name y py] (.DictComp kx vx [⟨tg, iter, [], 0⟩] scope pos) spos) (tAsg (tDc wi g tt tk tv (own.map (·.2))) (gName i)) := by
  constructor
  intro pins s σ H D I h
  have h : tDc wi g tt tk tv (own.map (·.2)) σ H (fun x H1 => gName i x σ H1 D.nx) := h
  rw [exec_Assign_Name_used _ _ _ _ sw]
  refine wpAny_bind (wpAny_standAt (wpAny_bind ?_))
  show wpAny _ X.A (do
    let _ ← comprehension (.DictComp kx vx [⟨tg, iter, [], 0⟩] scope pos) scope X.env (firstIterPos [⟨tg, iter, [], 0⟩] pos) newDict false (eval iter X.env) (some (assign (.Name y py) X.env))) _ _ s
  refine wpAny_bind (thn (dc_core (Qf := fun _ s' => SP X pins D .next s') calm nd I pi blk pg pt pk pv' fold h fun D' C s' m H' J q hn fpo => ?_) fun _ s' z => wpAny_pure (wpAny_pure z))
  obtain ⟨g0, g1, g2, g3, g4, g5⟩ := fpo
  show wpAny _ _ (assign (.Name y py) X.env (.ref D')) _ _ _
  refine wpAny_assign_Name (store_ok2 (v := V.ref D') J nd at_ (.inl loc) rfl (fun s2 J2 ⟨a, but, wh⟩ => ⟨m, hn.sameBut but fun e => ?_, fun h3 but3 => ⟨_, H', J2.turned (t' := s2.toks) (fun b o hb e => (but3.2 b hb).trans e) g0 g1 g3 g4 g5, q⟩⟩) (.inr loc))
  rcases wh with z | z
  · exact g1 (e.trans z)
  · exact g4 y a z e.symm
end
def dcK (J : It) (g : TG) (tt : TT) (tk tv : TE) (vs : List Nat) (σ : L2.St) (H1 : Hp) (Q : VK) : Prop := ∀ D, H1 D = none → ∃ W : Nat → Nat → Hp → Prop, (∃ m, W 0 m (upd H1 D (.dK []))) ∧ ∀ i m H, W i m H →
  (J.stop i H ∧ Q (.ref D) H) ∨ (J.go i H ∧ ∃ Nx : Hp → Prop, (∀ H', Nx H' → ∃ m', m' < m ∧ W (i + 1) m' H') ∧ ∀ x H', J.yld i H x H' → g x (wipe σ vs) H' fun σ2 H2 => wipe σ2 vs = wipe σ vs ∧ tt σ2 H2 fun b H3 =>
    if b = true then tk σ2 H3 fun y H4 => tv σ2 H4 fun z H5 => ∃ kvs k, y = kV k ∧ H5 D = some (.dK kvs) ∧ kvs.length < sizeLine ∧ Nx (upd H5 D (.dK (putK kvs k z))) else Nx H3)
theorem s_dc {wi : TI} {g : TG} {tt : TT} {tk tv : TE} {vs : List Nat} {σ : L2.St} (h : wi σ H fun J H1 => dcK J g tt tk tv vs σ H1 Q) : tDc wi g tt tk tv vs σ H Q := h
def CD (io : List Addr) (H0 F0 F : Hp) (D : Addr) (I : Nat → List (Key × V) → Hp → List (Addr × Cel) → Prop) (i : Nat) (H : Hp) : Prop := ∃ kvs F' M', Sep io H0 F0 F' H ((D, .is (.dK kvs)) :: M') ∧ Evl.Ex F F' ∧ I i kvs F' M'
def PutD (D : Addr) (P : Hp → Prop) (y z : V) (H5 : Hp) : Prop := ∃ kvs k, y = kV k ∧ H5 D = some (.dK kvs) ∧ kvs.length < sizeLine ∧ P (upd H5 D (.dK (putK kvs k z)))
theorem CD.put {I : Nat → List (Key × V) → Hp → List (Addr × Cel) → Prop} {i : Nat} {D : Addr} {kvs : List (Key × V)} {F' H' : Hp} {M1 : List (Addr × Cel)} {x : Int} {z : V} (S : Sep io H0 F0 F' H' M1) (j : Nat) (hj : M1[j]? = some (D, .is (.dK kvs))) (e : Evl.Ex F F') (hl : kvs.length < 100000)
    (hp : ∀ H'', Sep io H0 F0 F' H'' (M1.set j (D, .is (.dK (putK kvs (.inl x) z)))) → CD io H0 F0 F D I (i + 1) H'') : PutD D (CD io H0 F0 F D I (i + 1)) (.int x) z H' :=
  ⟨kvs, .inl x, rfl, S.rdM j hj, Evl.sz_lt hl, hp _ (S.put j hj _)⟩
theorem s_dcI {α : Type} {J : It} {g : TG} {tt : TT} {tk tv : TE} {vs : List Nat} {σ : L2.St} {as : List α} {X : α → V → Hp → Prop} (src : Src J io H0 F0 F L as X) (I : Nat → List (Key × V) → Hp → List (Addr × Cel) → Prop) (S : Sep io H0 F0 F H M) (h0 : I 0 [] F M) (hL : ∀ i kvs F' M', I i kvs F' M' → ∀ m ∈ L, m ∈ M')
    (hb : ∀ (i : Nat) (a : α) x kvs D F1 F' H' M', as[i]? = some a → Sep io H0 F0 F' H' ((D, .is (.dK kvs)) :: M') → Evl.Ex F F1 → Evl.Ex F1 F' → X a x F' → I i kvs F1 M' → g x (wipe σ vs) H' fun σ2 H2 => wipe σ2 vs = wipe σ vs ∧ tt σ2 H2 fun b H3 =>
      if b = true then tk σ2 H3 fun y H4 => tv σ2 H4 (PutD D (CD io H0 F0 F D I (i + 1)) y) else CD io H0 F0 F D I (i + 1) H3)
    (hd : ∀ D kvs F' H' M', Sep io H0 F0 F' H' ((D, .is (.dK kvs)) :: M') → Evl.Ex F F' → I as.length kvs F' M' → Q (.ref D) H') : dcK J g tt tk tv vs σ H Q := by
  intro D hD
  obtain ⟨G, Y, w, s1, s2⟩ := src
  have gs : ∀ i H', CD io H0 F0 F D I i H' → G H' := by
    rintro i H' ⟨kvs, F', M', S', e, h⟩
    exact s1 F' H' _ S' e fun m hm => List.mem_cons_of_mem _ (hL i kvs F' M' h m hm)
  refine ⟨fun i m H' => m + i = as.length ∧ CD io H0 F0 F D I i H', ⟨as.length, rfl, [], F, M, S.newM hD _, Evl.Ex.refl _, h0⟩, ?_⟩
  rintro i m H' ⟨hm, c⟩
  have g0 := gs i H' c
  cases m with
  | zero =>
    have e : i = as.length := by omega
    subst e
    obtain ⟨kvs, F', M', S', e, h⟩ := c
    exact .inl ⟨w.stops H' g0, hd D kvs F' H' M' S' e h⟩
  | succ m =>
    have hi : i < as.length := by omega
    refine .inr ⟨w.goes i H' hi g0, fun H'' => CD io H0 F0 F D I (i + 1) H'', fun H'' q => ⟨m, Nat.lt_succ_self _, by omega, q⟩, fun x H'' y => ?_⟩
    obtain ⟨kvs, F', M', S', e, h⟩ := c
    obtain ⟨F'', S'', e2, hx⟩ := s2 i as[i] x F' H' H'' _ (List.getElem?_eq_getElem hi) S' e (fun m hm => List.mem_cons_of_mem _ (hL i kvs F' M' h m hm)) (w.yields i H' x H'' hi g0 y)
    exact hb i as[i] x kvs D F' F'' H'' M' (List.getElem?_eq_getElem hi) S'' e e2 hx h
/-- a list with a drawn place for the next -/
def rInsert : V → List V → Hp → VK → Prop := fun x vs H Q => ∃ (l : Addr) (xs : List V) (i : Int) (y : V), x = .ref l ∧ vs = [.int i, y] ∧ H l = some (.lst xs) ∧ xs.length < sizeLine ∧ 0 ≤ i ∧ i < 2 ^ 63 ∧ Q .non (upd H l (.lst (xs.take i.toNat ++ [y] ++ xs.drop i.toNat)))
theorem mt_ins {X : Cx} : MtR X "list.insert" rInsert := mt_insert
theorem s_insert {xs : List V} {y : V} {i : Int} (S : Sep io H0 F0 F H M) (k : Nat) (hk : M[k]? = some (a, .is (.lst xs))) (few : xs.length < 100000) (h0 : 0 ≤ i) (h1 : i < 2 ^ 63) (q : ∀ H', Sep io H0 F0 F H' (M.set k (a, .is (.lst (xs.take i.toNat ++ [y] ++ xs.drop i.toNat)))) → Q .non H') : rInsert (.ref a) [.int i, y] H Q :=
  ⟨a, xs, i, y, rfl, rfl, S.rdM k hk, Evl.sz_lt few, h0, h1, q _ (S.put k hk _)⟩
end
/-- the keys of a dict, each once, as they are put -/
theorem putK_keys {κ : Type} [DecidableEq κ] (kvs : List (κ × V)) (k : κ) (v : V) : ∀ p ∈ putK kvs k v, p.1 = k ∨ ∃ q ∈ kvs, q.1 = p.1 := by
  intro p hp
  unfold putK at hp
  split at hp
  · obtain ⟨q, hq, rfl⟩ := List.mem_map.mp hp
    refine .inr ⟨q, hq, ?_⟩
    split <;> rfl
  · rcases List.mem_append.mp hp with hp | hp
    · exact .inr ⟨p, hp, rfl⟩
    · rw [List.mem_singleton.mp hp]; exact .inl rfl
theorem u1 {k : Nat} {A : Around} (r : Room k A) : A.units + 1 < cLine := by have := r.units; omega
section
variable {io : List Addr} {H0 F0 F H : Hp} {M : List (Addr × Cel)} {K : PySem.W.Frag} {P : Program} {w : World} {Q : VK} {a : Addr}
theorem ties_keys {xs : List V} {ps : List (Int × Int)} (ht : DpAll K F xs (ps.map tieD)) : ∃ ks : List (Addr × List Int), xs = ks.map (fun p => V.ref p.1) ∧ ks.map (·.2) = ps.map (fun t => [t.1, t.2]) ∧ ∀ p ∈ ks, ∃ t : Int × Int, t ∈ ps ∧ p.2 = [t.1, t.2] ∧ SqT K F p.1 [.int t.1, .int t.2] := by
  induction ps generalizing xs with
  | nil => cases ht; exact ⟨[], rfl, rfl, fun p hp => by cases hp⟩
  | cons t r ih =>
    cases ht with
    | cons hx hr =>
      obtain ⟨b, rfl, hb⟩ := tieD_at hx
      obtain ⟨ks, i1, i2, i3⟩ := ih hr
      refine ⟨(b, [t.1, t.2]) :: ks, by rw [i1]; rfl, by rw [List.map_cons, List.map_cons, i2], fun p hp => ?_⟩
      rcases List.mem_cons.mp hp with rfl | hp
      · exact ⟨t, List.mem_cons_self, rfl, hb⟩
      · obtain ⟨u, g1, g2, g3⟩ := i3 p hp
        exact ⟨u, List.mem_cons_of_mem _ g1, g2, g3⟩
/-- set(xs), xs a list of pairs -/
theorem s_great {sq : Hp → Addr → List V → Prop} {xs : List V} {ps : List (Int × Int)} (S : Sep io H0 F0 F H M) (h : sq H a xs) (ht : DpAll K F xs (ps.map tieD)) (few : ps.length ≤ 4000)
    (k : ∀ (q : Addr) (L : List (Addr × List Int)) (F' H' : Hp), Sep io H0 F0 F' H' M → Evl.Ex F F' → F' q = some (SetGO P w q L) → (∀ p ∈ L, ∃ t : Int × Int, t ∈ ps ∧ p.2 = [t.1, t.2] ∧ SqT K F' p.1 [.int t.1, .int t.2]) → (∀ t ∈ ps, [t.1, t.2] ∈ L.map (·.2)) → Q (.ref q) H') : rGreat sq K P w [.ref a] H Q := by
  obtain ⟨ks, e1, e2, e3⟩ := ties_keys ht
  subst e1
  have kl : ks.length = ps.length := by rw [← List.length_map (f := fun p : Addr × List Int => p.2), e2, List.length_map]
  refine ⟨a, ks, rfl, h, fun p hp => ?_, by omega, fun L h1 h2 q hq => ?_⟩
  · obtain ⟨t, _, g2, g3⟩ := e3 p hp
    rw [g2]
    exact Evl.ex_t S.fr g3
  · refine k q L _ _ (S.newF hq _) (Evl.Ex.new (S.fnone hq)) upd_same (fun p hp => ?_) fun t ht => ?_
    · obtain ⟨t, g1, g2, g3⟩ := e3 p (h1 p hp)
      exact ⟨t, g1, g2, Evl.ex_t (Evl.Ex.new (S.fnone hq)) g3⟩
    · have m : [t.1, t.2] ∈ ks.map (·.2) := by rw [e2]; exact List.mem_map.mpr ⟨t, ht, rfl⟩
      obtain ⟨p, hp, e⟩ := List.mem_map.mp m
      rw [← e]
      exact h2 p hp
theorem lex_lt {x y x' y' : Int} (h : SrtO.lexB (x', y') (x, y) = false) (ne : ([x, y] : List Int) ≠ [x', y']) : Lx (x, y) (x', y') := by
  have z := SrtO.lexB_no.mp h
  simp only at z
  by_cases e : x = x'
  · subst e
    refine .inr ⟨rfl, ?_⟩
    have ne2 : y ≠ y' := fun q => ne (by rw [q])
    show y < y'
    omega
  · exact .inl (by show x < x'; omega)
/-- sorted(that set): the pairs, each once, rising -/
theorem s_sortGreat {ps : List (Int × Int)} {L : List (Addr × List Int)} (S : Sep io H0 F0 F H M) (h : F a = some (SetGO P w a L)) (h1 : ∀ p ∈ L, ∃ t : Int × Int, t ∈ ps ∧ p.2 = [t.1, t.2] ∧ SqT K F p.1 [.int t.1, .int t.2]) (h2 : ∀ t ∈ ps, [t.1, t.2] ∈ L.map (·.2))
    (k : ∀ (q : Addr) (ys : List V) (ts : List (Int × Int)) (H' : Hp), Sep io H0 F0 F H' ((q, .is (.lst ys)) :: M) → DpAll K F ys (ts.map tieD) → ts.Pairwise Lx → (∀ t, t ∈ ts ↔ t ∈ ps) → Q (.ref q) H') : rSortGreat K P w [.ref a] H Q := by
  refine ⟨a, L, rfl, S.fr _ _ h, fun p hp => ?_, fun N pm nd pw q hq => ?_⟩
  · obtain ⟨t, _, g2, g3⟩ := h1 p hp
    exact ⟨t.1, t.2, g2, Evl.ex_t S.fr g3⟩
  · have S' := S.newM hq (.lst (N.map fun q => V.ref q.1))
    let f : Addr × List Int → Int × Int := fun p => (p.2.getD 0 0, p.2.getD 1 0)
    have hf : ∀ p ∈ N, ∃ t : Int × Int, t ∈ ps ∧ p.2 = [t.1, t.2] ∧ SqT K F p.1 [.int t.1, .int t.2] ∧ f p = t := fun p hp' => by
      obtain ⟨t, g1, g2, g3⟩ := h1 p (pm.mem_iff.mp hp')
      refine ⟨t, g1, g2, g3, ?_⟩
      show (p.2.getD 0 0, p.2.getD 1 0) = t
      rw [g2]
      rfl
    refine k q _ (N.map f) _ S' ?_ ?_ fun t => ?_
    · clear pm nd pw S' hq
      induction N with
      | nil => exact .nil
      | cons p r ih =>
        obtain ⟨t, _, _, g3, g4⟩ := hf p List.mem_cons_self
        refine .cons ?_ (ih fun p hp => hf p (List.mem_cons_of_mem _ hp))
        rw [g4]
        exact .tup g3 (.cons (.int _) (.cons (.int _) .nil))
    · refine List.pairwise_map.mpr (List.Pairwise.imp_of_mem ?_ (List.Pairwise.and pw (List.pairwise_map.mp nd)))
      intro p r hp' hr' ⟨c, ne⟩
      obtain ⟨t, g1, g2, _, g4⟩ := hf p hp'
      obtain ⟨u, k1, k2, _, k4⟩ := hf r hr'
      rw [g4, k4]
      rw [g2, k2] at c ne
      exact lex_lt c ne
    · constructor
      · intro m
        obtain ⟨p, hp', e⟩ := List.mem_map.mp m
        obtain ⟨u, g1, _, _, g4⟩ := hf p hp'
        rw [← e, g4]
        exact g1
      · intro m
        obtain ⟨p, hp', e⟩ := List.mem_map.mp (h2 t m)
        refine List.mem_map.mpr ⟨p, pm.mem_iff.mpr hp', ?_⟩
        show (p.2.getD 0 0, p.2.getD 1 0) = t
        rw [e]
        rfl
/-! ### families of cells of one's own -/
def cellsOf (as : List (Addr × HO)) : List (Addr × Cel) := as.map fun p => (p.1, Cel.is p.2)
theorem cells_put {as : List (Addr × HO)} {i : Nat} {a : Addr} {o : HO} : (cellsOf as).set i (a, .is o) = cellsOf (as.set i (a, o)) := by
  unfold cellsOf
  rw [List.map_set]
theorem cells_at {as : List (Addr × HO)} {i : Nat} {a : Addr} {o : HO} (h : as[i]? = some (a, o)) : (cellsOf as)[i]? = some (a, .is o) := by
  unfold cellsOf
  rw [List.getElem?_map, h]
  rfl
theorem Sep.frzAll : ∀ {as : List (Addr × HO)} {F H : Hp}, Sep io H0 F0 F H (cellsOf as ++ M) → ∃ F', Sep io H0 F0 F' H M ∧ Evl.Ex F F' ∧ ∀ p ∈ as, F' p.1 = some p.2
  | [], F, H, S => ⟨F, S, Evl.Ex.refl _, fun p hp => by cases hp⟩
  | (a, o) :: as, F, H, S => by
    obtain ⟨F1, S1, e1, c1⟩ := S.frz 0 (a := a) (o := o) rfl
    obtain ⟨F2, S2, e2, c2⟩ := Sep.frzAll (as := as) S1
    refine ⟨F2, S2, e1.trans e2, fun p hp => ?_⟩
    rcases List.mem_cons.mp hp with rfl | hp
    · exact e2 _ _ c1
    · exact c2 p hp
/-- a call that tells a plain value may read all that stands -/
theorem r_callV {α : Type} {A : α → List V → Hp → Prop} {B : α → V → List (Addr × Cel) → Hp → Prop} {vs : List V} {E : XK} (S : Sep io H0 F0 F H M) (x : α) (h : A x vs H) (k : ∀ v N F' H', Sep io H0 F0 F H' M → Evl.Ex H H' → B x v N F' → Q v H') : SpF A B vs H Q E :=
  ⟨x, H, Evl.Ex.refl _, h, fun v N F' H' S' b => by
    have e : Evl.Ex H H' := S'.ex
    refine k v N F' H' ⟨fun a o g n => e a o (S.old a o g n), fun a g => S.nn a (S'.nn a g), S.gr, S.gn, S.fr.trans e, fun m hm => ⟨Cel.mono (S.own m hm).1 (Evl.Ex.refl _) (e _), (S.own m hm).2⟩, S.nd⟩ e b⟩
end
/-! ### rounds of draws -/
/-- the houses of left that h is tied to, in the ties' order -/
def nbL (ties : List (Int × Int)) (left : List Int) (h : Int) : List Int :=
  ties.flatMap fun t => if t.1 ∈ left ∧ t.2 ∈ left then (if t.1 = h then [t.2] else if t.2 = h then [t.1] else []) else []
def TiedW (ties : List (Int × Int)) (h o : Int) : Prop := (h, o) ∈ ties ∨ (o, h) ∈ ties
abbrev UpT (ties : List (Int × Int)) : Prop := ∀ t ∈ ties, t.1 < t.2
theorem TiedW.symm {ties : List (Int × Int)} {h o : Int} (x : TiedW ties h o) : TiedW ties o h := Or.symm x
theorem TiedW.ne {ties : List (Int × Int)} (u : UpT ties) {h o : Int} (x : TiedW ties h o) : h ≠ o := by
  rcases x with x | x <;> have := u _ x <;> simp only at this <;> omega
theorem nbL_mem {ties : List (Int × Int)} (u : UpT ties) {left : List Int} {h o : Int} : o ∈ nbL ties left h ↔ h ∈ left ∧ o ∈ left ∧ TiedW ties h o := by
  unfold nbL TiedW
  rw [List.mem_flatMap]
  constructor
  · rintro ⟨⟨a, b⟩, ht, hx⟩
    have := u _ ht
    simp only at this hx
    split at hx
    · rename_i c
      split at hx
      · rename_i e
        rw [List.mem_singleton] at hx
        subst e hx
        exact ⟨c.1, c.2, .inl ht⟩
      · split at hx
        · rename_i e
          rw [List.mem_singleton] at hx
          subst e hx
          exact ⟨c.2, c.1, .inr ht⟩
        · cases hx
    · cases hx
  · rintro ⟨h1, h2, h3⟩
    rcases h3 with h3 | h3
    · refine ⟨_, h3, ?_⟩
      simp [h1, h2]
    · have := u _ h3
      refine ⟨_, h3, ?_⟩
      simp only at this
      have ne : o ≠ h := by omega
      simp [h1, h2, ne]
theorem nbL_snoc {ties : List (Int × Int)} {left : List Int} {h : Int} {t : Int × Int} : nbL (ties ++ [t]) left h = nbL ties left h ++ (if t.1 ∈ left ∧ t.2 ∈ left then (if t.1 = h then [t.2] else if t.2 = h then [t.1] else []) else []) := by
  unfold nbL
  rw [List.flatMap_append]
  simp
def leastOf (ties : List (Int × Int)) (left : List Int) (f : Int → Int) : List Int := left.filter fun h => (nbL ties left h).all fun o => decide (f h < f o)
def outBy (ties : List (Int × Int)) (left chosen : List Int) : List Int := left.filter fun h => (nbL ties left h).any fun o => decide (o ∈ chosen)
def behind (left chosen out : List Int) : List Int := left.filter fun h => !decide (h ∈ chosen ++ out)
def rowF (row : List Int) (h : Int) : Int := row.getD h.toNat 0
def runL (ties : List (Int × Int)) : List Int → List (List Int) → List (List Int × List Int) × List Int
  | left, [] => ([], left)
  | left, row :: rest => if left = [] then ([], left) else
    ((leastOf ties left (rowF row), outBy ties left (leastOf ties left (rowF row))) :: (runL ties (behind left (leastOf ties left (rowF row)) (outBy ties left (leastOf ties left (rowF row)))) rest).1,
     (runL ties (behind left (leastOf ties left (rowF row)) (outBy ties left (leastOf ties left (rowF row)))) rest).2)
theorem runL_nil {ties : List (Int × Int)} : ∀ ds : List (List Int), runL ties [] ds = ([], [])
  | [] => rfl
  | _ :: _ => by rw [runL, if_pos rfl]
/-- by lists of those tied, in any order -/
def lawSome (N : Int → List Int) (here : List Int) (f : Int → Int) : List Int := here.filter fun h => ((N h).filter fun o => decide (o ∈ here)).all fun o => decide (f h < f o)
def lawOut (N : Int → List Int) (here some' : List Int) : List Int := here.filter fun h => !decide (h ∈ some') && !((N h).filter fun o => decide (o ∈ some')).isEmpty
section
variable {ties : List (Int × Int)} {left here : List Int} {N : Int → List Int} {f : Int → Int}
theorem leastOf_mem (u : UpT ties) {h : Int} : h ∈ leastOf ties left f ↔ h ∈ left ∧ ∀ o ∈ left, TiedW ties h o → f h < f o := by
  unfold leastOf
  rw [List.mem_filter, List.all_eq_true]
  refine and_congr_right fun hl => ⟨fun z o h1 h2 => of_decide_eq_true (z o ((nbL_mem u).2 ⟨hl, h1, h2⟩)), fun z o ho => ?_⟩
  obtain ⟨_, a, b⟩ := (nbL_mem u).1 ho
  exact decide_eq_true (z o a b)
theorem outBy_mem (u : UpT ties) {chosen : List Int} {h : Int} : h ∈ outBy ties left chosen ↔ h ∈ left ∧ ∃ o ∈ left, TiedW ties h o ∧ o ∈ chosen := by
  unfold outBy
  rw [List.mem_filter, List.any_eq_true]
  refine and_congr_right fun hl => ⟨?_, ?_⟩
  · rintro ⟨o, ho, z⟩
    obtain ⟨_, a, b⟩ := (nbL_mem u).1 ho
    exact ⟨o, a, b, of_decide_eq_true z⟩
  · rintro ⟨o, a, b, c⟩
    exact ⟨o, (nbL_mem u).2 ⟨hl, a, b⟩, decide_eq_true c⟩
theorem leastOf_apart (u : UpT ties) {h o : Int} (h1 : h ∈ leastOf ties left f) (h2 : o ∈ leastOf ties left f) : ¬ TiedW ties h o := fun z => by
  obtain ⟨a1, a2⟩ := (leastOf_mem u).1 h1
  obtain ⟨b1, b2⟩ := (leastOf_mem u).1 h2
  have c1 := a2 o b1 z
  have c2 := b2 h a1 z.symm
  omega
theorem lawSome_eq (u : UpT ties) (hN : ∀ h ∈ here, ∀ o, o ∈ N h ↔ TiedW ties h o) : lawSome N here f = leastOf ties here f := by
  unfold lawSome leastOf
  refine List.filter_congr fun h hh => ?_
  rw [Bool.eq_iff_iff, List.all_eq_true, List.all_eq_true]
  refine ⟨fun z o ho => ?_, fun z o ho => ?_⟩
  · obtain ⟨_, a, b⟩ := (nbL_mem u).1 ho
    exact z o (List.mem_filter.mpr ⟨(hN h hh o).2 b, decide_eq_true a⟩)
  · obtain ⟨a, b⟩ := List.mem_filter.mp ho
    exact z o ((nbL_mem u).2 ⟨hh, of_decide_eq_true b, (hN h hh o).1 a⟩)
theorem lawOut_eq (u : UpT ties) (hN : ∀ h ∈ here, ∀ o, o ∈ N h ↔ TiedW ties h o) {c : List Int} (hc : ∀ o ∈ c, o ∈ here) (ha : ∀ h ∈ c, ∀ o ∈ c, ¬ TiedW ties h o) : lawOut N here c = outBy ties here c := by
  unfold lawOut outBy
  refine List.filter_congr fun h hh => ?_
  rw [Bool.eq_iff_iff, Bool.and_eq_true, List.any_eq_true]
  constructor
  · rintro ⟨_, z⟩
    cases e : (N h).filter (fun o => decide (o ∈ c)) with
    | nil => rw [e] at z; cases z
    | cons o r =>
      have m : o ∈ (N h).filter (fun o => decide (o ∈ c)) := by rw [e]; exact List.mem_cons_self
      obtain ⟨a, b⟩ := List.mem_filter.mp m
      have b := of_decide_eq_true b
      exact ⟨o, (nbL_mem u).2 ⟨hh, hc o b, (hN h hh o).1 a⟩, decide_eq_true b⟩
  · rintro ⟨o, ho, z⟩
    obtain ⟨_, a, b⟩ := (nbL_mem u).1 ho
    have z := of_decide_eq_true z
    refine ⟨?_, ?_⟩
    · rw [Bool.not_eq_true', decide_eq_false_iff_not]
      exact fun q => ha h q o z b
    · cases e : (N h).filter (fun o => decide (o ∈ c)) with
      | nil =>
        have m : o ∈ (N h).filter (fun o => decide (o ∈ c)) := List.mem_filter.mpr ⟨(hN h hh o).2 b, decide_eq_true z⟩
        rw [e] at m
        cases m
      | cons _ _ => rfl
theorem behind_sub {c o : List Int} : ∀ h ∈ behind here c o, h ∈ here := fun h hh => (List.mem_filter.mp hh).1
theorem leastOf_sub : ∀ h ∈ leastOf ties here f, h ∈ here := fun h hh => (List.mem_filter.mp hh).1
theorem outBy_sub {c : List Int} : ∀ h ∈ outBy ties here c, h ∈ here := fun h hh => (List.mem_filter.mp hh).1
theorem behind_len {c o : List Int} : (behind here c o).length ≤ here.length := List.length_filter_le _ _
theorem leastOf_len : (leastOf ties here f).length ≤ here.length := List.length_filter_le _ _
theorem outBy_len {c : List Int} : (outBy ties here c).length ≤ here.length := List.length_filter_le _ _
theorem behind_up {c o : List Int} (h : here.Pairwise (· < ·)) : (behind here c o).Pairwise (· < ·) := h.sublist List.filter_sublist
theorem leastOf_up (h : here.Pairwise (· < ·)) : (leastOf ties here f).Pairwise (· < ·) := h.sublist List.filter_sublist
theorem outBy_up {c : List Int} (h : here.Pairwise (· < ·)) : (outBy ties here c).Pairwise (· < ·) := h.sublist List.filter_sublist
end
/-! ### the dict of those left -/
def nearK (left : List Int) (as : List Addr) : List (Key × V) := List.zipWith (fun h a => (Sum.inl h, V.ref a)) left as
theorem nearK_get {left : List Int} {as : List Addr} {i : Nat} {h : Int} {a : Addr} (e1 : left[i]? = some h) (e2 : as[i]? = some a) : (nearK left as)[i]? = some (.inl h, .ref a) := by
  unfold nearK
  rw [List.getElem?_zipWith, e1, e2]
theorem nearK_len {left : List Int} {as : List Addr} (e : as.length = left.length) : (nearK left as).length = left.length := by
  unfold nearK
  rw [List.length_zipWith, e, Nat.min_self]
theorem nearK_val : ∀ {left : List Int} {as : List Addr} {i : Nat} {h : Int} {a : Addr}, left.Nodup → left[i]? = some h → as[i]? = some a → valV (nearK left as) (.inl h) = some (.ref a)
  | [], _, i, _, _, _, e, _ => by simp at e
  | _ :: _, [], i, _, _, _, _, e => by simp at e
  | x :: l, b :: as, 0, h, a, _, e1, e2 => by
    cases e1
    cases e2
    simp [nearK, valV]
  | x :: l, b :: as, i + 1, h, a, nd, e1, e2 => by
    have ih := nearK_val (i := i) (List.nodup_cons.mp nd).2 (by simpa using e1) (by simpa using e2)
    have ne : x ≠ h := fun z => (List.nodup_cons.mp nd).1 (by rw [z]; exact List.mem_of_getElem? (by simpa using e1))
    unfold nearK valV at ih ⊢
    rw [List.zipWith_cons_cons, List.find?_cons_of_neg (by simpa using ne)]
    exact ih
theorem nearK_none : ∀ {left : List Int} {as : List Addr} {h : Int}, h ∉ left → valV (nearK left as) (.inl h) = none
  | [], _, _, _ => rfl
  | _ :: _, [], _, _ => rfl
  | x :: l, b :: as, h, nm => by
    have ih := nearK_none (left := l) (as := as) (h := h) fun z => nm (List.mem_cons_of_mem _ z)
    have ne : x ≠ h := fun z => nm (by rw [z]; exact List.mem_cons_self)
    unfold nearK valV at ih ⊢
    rw [List.zipWith_cons_cons, List.find?_cons_of_neg (by simpa using ne)]
    exact ih
theorem nearK_some {left : List Int} {as : List Addr} (nd : left.Nodup) (e : as.length = left.length) {h : Int} : (valV (nearK left as) (.inl h)).isSome = decide (h ∈ left) := by
  by_cases m : h ∈ left
  · obtain ⟨i, hi⟩ := List.mem_iff_getElem?.mp m
    have lt : i < as.length := by rw [e]; exact (List.getElem?_eq_some_iff.mp hi).1
    rw [nearK_val nd hi (List.getElem?_eq_getElem lt), decide_eq_true m]
    rfl
  · rw [nearK_none m, decide_eq_false m]
    rfl
theorem nearK_put {left : List Int} {as : List Addr} {i : Nat} {h : Int} {a : Addr} (nd : left.Nodup) (hi : left[i]? = some h) (e : as.length = i) : putK (nearK (left.take i) as) (.inl h) (.ref a) = nearK (left.take (i + 1)) (as ++ [a]) := by
  have lt := (List.getElem?_eq_some_iff.mp hi).1
  have no : ∀ x ∈ left.take i, x ≠ h := fun x hx z => by
    obtain ⟨j, hj⟩ := List.mem_iff_getElem?.mp hx
    have lj := (List.getElem?_eq_some_iff.mp hj).1
    rw [List.length_take] at lj
    rw [List.getElem?_take_of_lt (by omega), z] at hj
    have := nd_ix' nd hi hj
    omega
  unfold putK
  rw [if_neg]
  · unfold nearK
    rw [take_snoc hi, List.zipWith_append (by rw [List.length_take, e]; omega)]
    rfl
  · rw [List.any_eq_true]
    rintro ⟨p, hp, z⟩
    unfold nearK at hp
    obtain ⟨j, hj⟩ := List.mem_iff_getElem?.mp hp
    rw [List.getElem?_zipWith] at hj
    cases q1 : (left.take i)[j]? with
    | none => rw [q1] at hj; simp at hj
    | some x =>
      cases q2 : as[j]? with
      | none => rw [q1, q2] at hj; simp at hj
      | some y =>
        rw [q1, q2] at hj
        cases hj
        have z := of_decide_eq_true z
        exact no x (List.mem_of_getElem? q1) (by injection z)
theorem nearK_inv {left : List Int} {as : List Addr} {i : Nat} {k : Key} {v : V} (h : (nearK left as)[i]? = some (k, v)) : ∃ x a, left[i]? = some x ∧ as[i]? = some a ∧ k = .inl x ∧ v = .ref a := by
  unfold nearK at h
  rw [List.getElem?_zipWith] at h
  cases q1 : left[i]? with
  | none => rw [q1] at h; simp at h
  | some x =>
    cases q2 : as[i]? with
    | none => rw [q1, q2] at h; simp at h
    | some y =>
      rw [q1, q2] at h
      cases h
      exact ⟨x, y, rfl, rfl, rfl, rfl⟩
theorem take_filter {α : Type} (l : List α) (f : α → Bool) {i : Nat} {x : α} (h : l[i]? = some x) : (l.take (i + 1)).filter f = (l.take i).filter f ++ (if f x = true then [x] else []) := by
  rw [take_snoc h, List.filter_append]
  congr 1
  rw [List.filter_cons, List.filter_nil]
/-- what near_left tells -/
def NearAt (F : Hp) (d : Addr) (ties : List (Int × Int)) (left : List Int) : Prop := ∃ od as, as.length = left.length ∧ F d = some (.frz od (.dK (nearK left as))) ∧ ∀ (i : Nat) h a, left[i]? = some h → as[i]? = some a → F a = some (.lst ((nbL ties left h).map V.int))
def NearNew (F : Hp) (d : Addr) (ties : List (Int × Int)) (left : List Int) (c : Addr) : Prop := d ≠ c ∧ ∃ od as, as.length = left.length ∧ F d = some (.frz od (.dK (nearK left as))) ∧ (∀ (i : Nat) h a, left[i]? = some h → as[i]? = some a → F a = some (.lst ((nbL ties left h).map V.int))) ∧ ∀ b ∈ as, b ≠ c
theorem NearNew.at' {F F' : Hp} {d c : Addr} {ties : List (Int × Int)} {left : List Int} (h : NearNew F d ties left c) (e : ∀ b, b ≠ c → F' b = F b) : NearAt F' d ties left := by
  obtain ⟨h0, od, as, h1, h2, h3, h4⟩ := h
  exact ⟨od, as, h1, by rw [e d h0]; exact h2, fun i h a x y => by rw [e a (h4 a (List.mem_of_getElem? y))]; exact h3 i h a x y⟩
theorem NearAt.ex {F F' : Hp} {d : Addr} {ties : List (Int × Int)} {left : List Int} (h : NearAt F d ties left) (e : Evl.Ex F F') : NearAt F' d ties left := by
  obtain ⟨od, as, h1, h2, h3⟩ := h
  exact ⟨od, as, h1, e _ _ h2, fun i h a x y => e _ _ (h3 i h a x y)⟩
section
variable {io : List Addr} {H0 F0 F H : Hp} {M N : List (Addr × Cel)} {Q : VK}
theorem Sep.perm (S : Sep io H0 F0 F H M) (p : N.Perm M) : Sep io H0 F0 F H N := ⟨S.old, S.nn, S.gr, S.gn, S.fr, fun m hm => S.own m (p.mem_iff.mp hm), (p.map _).nodup_iff.mpr S.nd⟩
theorem s_forN {g : TG} {tb : TS} {D : Ends} {σ : L2.St} {od : Obj} {d : Addr} {left : List Int} {as : List Addr} (I : Nat → L2.St → Hp → List (Addr × Cel) → Prop) (S : Sep io H0 F0 F H M) (la : as.length = left.length) (hd : F d = some (.frz od (.dK (nearK left as)))) (h0 : I 0 σ F M)
    (hb : ∀ (i : Nat) h a t σ' F1 F' H' M', left[i]? = some h → as[i]? = some a → Sep io H0 F0 F' H' M' → Evl.Ex F F1 → Evl.Ex F1 F' → F' t = some (.tup [.int h, .ref a]) → I i σ' F1 M' → Body io H0 F0 F I D g tb i (.ref t) σ' H')
    (hn : ∀ σ' F' H' M', Sep io H0 F0 F' H' M' → Evl.Ex F F' → I left.length σ' F' M' → D.nx σ' H') : ForW (Iti d od (nearK left as)) D g tb σ H := by
  refine s_forIt I S hd h0 (fun i ky v t σ' F1 F' H' M' e S' e1 e2 ct h => ?_) fun σ' F' H' M' S' e h => hn σ' F' H' M' S' e (by rw [nearK_len la] at h; exact h)
  obtain ⟨x, a, i1, i2, rfl, rfl⟩ := nearK_inv e
  exact hb i x a t σ' F1 F' H' M' i1 i2 S' e1 e2 ct h
theorem srcN {od : Obj} {d : Addr} {left : List Int} {as : List Addr} (la : as.length = left.length) (hd : F d = some (.frz od (.dK (nearK left as)))) : Src (Itk d od (nearK left as)) io H0 F0 F [] left (fun h x _ => x = .int h) := by
  refine ⟨_, _, nearK_len la ▸ walk_keys, fun F' H' M' S e _ => S.rdC e hd, fun i h x F' H' H'' M' hh S e _ y => ?_⟩
  obtain ⟨rfl, k, v, e1, rfl⟩ := y
  obtain ⟨z, a, i1, i2, rfl, rfl⟩ := nearK_inv e1
  rw [hh] at i1
  cases i1
  exact ⟨F', S, Evl.Ex.refl _, rfl⟩
/-- a call that reads one cell of one's own -/
theorem r_callL {α : Type} {A : α → List V → Hp → Prop} {B : α → V → List (Addr × Cel) → Hp → Prop} {vs : List V} {E : XK} {a : Addr} {o : HO} (S : Sep io H0 F0 F H M) (j : Nat) (hj : M[j]? = some (a, .is o)) (x : α) (hA : A x vs (upd F a o)) (np : ∀ v N F', B x v N F' → ∀ m ∈ N, ∃ o, m.2 = .is o)
    (k : ∀ v N F1 F' H', Sep io H0 F0 F' H' (N ++ M) → Evl.Ex F F' → (∀ b, b ≠ a → F' b = F1 b) → B x v N F1 → Q v H') : SpF A B vs H Q E := by
  obtain ⟨⟨g1, g2⟩, g3⟩ := S.own _ (mem_of_k hj)
  have fr1 : Evl.Ex (upd F a o) H := fun b u h => by
    by_cases e : b = a
    · subst e; rw [upd_same] at h; cases h; exact g1
    · rw [upd_ne e] at h; exact S.fr b u h
  refine ⟨x, upd F a o, fr1, hA, fun v N F1 H' S' b => ?_⟩
  have ex : Evl.Ex H H' := S'.ex
  have hF : Evl.Ex F (fun b => if b = a then none else F1 b) := fun b u h => by
    have e : b ≠ a := fun e => by rw [e] at h; rw [h] at g3; cases g3
    show (if b = a then none else F1 b) = some u
    rw [if_neg e]
    exact S'.gr b u (by rw [upd_ne e]; exact h)
  refine k v N F1 (fun b => if b = a then none else F1 b) H' ⟨fun b u h n => ex b u (S.old b u h n), fun b h => S.nn b (S'.nn b h), S.gr.trans hF, fun b h => ?_, fun b u h => ?_, fun m hm => ?_, ?_⟩ hF (fun b e => if_neg e) b
  · by_cases e : b = a
    · exact absurd (if_pos e) h
    · rcases S'.gn b (fun z => h (by show (if b = a then none else F1 b) = none; rw [if_neg e]; exact z)) with z | z
      · rw [upd_ne e] at z; exact S.gn b z
      · exact .inr (S.nn b z)
  · have h : (if b = a then none else F1 b) = some u := h
    by_cases e : b = a
    · rw [if_pos e] at h; cases h
    · rw [if_neg e] at h; exact S'.fr b u h
  · have off : ∀ z : Addr, F1 z = none → (if z = a then none else F1 z) = none := fun z hz => by by_cases q : z = a <;> simp [q, hz]
    rcases List.mem_append.mp hm with hm | hm
    · obtain ⟨h1, h2⟩ := S'.own m hm
      obtain ⟨u, eu⟩ := np v N F1 b m hm
      obtain ⟨z, c⟩ := m
      subst eu
      exact ⟨⟨h1.1, S.nn _ h1.2⟩, off z h2⟩
    · obtain ⟨h1, h2⟩ := S.own m hm
      refine ⟨Cel.mono h1 hF (ex _), ?_⟩
      show (if m.1 = a then none else F1 m.1) = none
      by_cases e : m.1 = a
      · exact if_pos e
      · rw [if_neg e]
        cases q : F1 m.1 with
        | none => rfl
        | some u =>
          rcases S'.gn m.1 (Hp.some_ne q) with z | z
          · rw [upd_ne e] at z; exact absurd h2 z
          · exact absurd z (Cel.nz h1)
  · rw [List.map_append]
    refine List.nodup_append.mpr ⟨S'.nd, S.nd, ?_⟩
    intro y hy z hz e
    obtain ⟨m, hm, rfl⟩ := List.mem_map.mp hy
    obtain ⟨n, hn, rfl⟩ := List.mem_map.mp hz
    obtain ⟨h1, _⟩ := S'.own m hm
    obtain ⟨u, eu⟩ := np v N F1 b m hm
    obtain ⟨y, c⟩ := m
    subst eu
    exact Cel.nz (S.own n hn).1 (by rw [← e]; exact h1.2)
/-- a call that reads all that stands -/
theorem r_callW {α : Type} {A : α → List V → Hp → Prop} {B : α → V → List (Addr × Cel) → Hp → Prop} {vs : List V} {E : XK} (S : Sep io H0 F0 F H M) (x : α) (a : A x vs H) (np : ∀ v N F', B x v N F' → ∀ m ∈ N, ∃ o, m.2 = .is o)
    (k : ∀ v N F1 F' H', Sep io H0 F0 F' H' (N ++ M) → Evl.Ex F F' → B x v N F1 → Q v H') : SpF A B vs H Q E :=
  ⟨x, H, Evl.Ex.refl _, a, fun v N F1 H' S' b => by
    have ex : Evl.Ex H H' := S'.ex
    have hF : Evl.Ex F (fun a => if H a = none then F1 a else F a) := fun a o h => by
      show (if H a = none then F1 a else F a) = some o
      rw [if_neg (by rw [S.fr a o h]; exact fun z => nomatch z)]
      exact h
    refine k v N F1 (fun a => if H a = none then F1 a else F a) H' ⟨fun a o h n => ex a o (S.old a o h n), fun a h => S.nn a (S'.nn a h), S.gr.trans hF, fun a h => ?_, fun a o h => ?_, fun m hm => ?_, ?_⟩ hF b
    · by_cases c : H a = none
      · exact .inr (S.nn a c)
      · exact S.gn a fun z => h (by show (if H a = none then F1 a else F a) = none; rw [if_neg c]; exact z)
    · have h : (if H a = none then F1 a else F a) = some o := h
      by_cases c : H a = none
      · rw [if_pos c] at h; exact S'.fr a o h
      · rw [if_neg c] at h; exact ex a o (S.fr a o h)
    · rcases List.mem_append.mp hm with hm | hm
      · obtain ⟨h1, h2⟩ := S'.own m hm
        obtain ⟨o, eo⟩ := np v N F1 b m hm
        obtain ⟨z, c⟩ := m
        subst eo
        refine ⟨⟨h1.1, S.nn _ h1.2⟩, ?_⟩
        show (if H z = none then F1 z else F z) = none
        rw [if_pos h1.2]
        exact h2
      · obtain ⟨h1, h2⟩ := S.own m hm
        refine ⟨Cel.mono h1 hF (ex _), ?_⟩
        show (if H m.1 = none then F1 m.1 else F m.1) = none
        rw [if_neg (Cel.nz h1)]
        exact h2
    · rw [List.map_append]
      refine List.nodup_append.mpr ⟨S'.nd, S.nd, ?_⟩
      intro y hy z hz e
      obtain ⟨m, hm, rfl⟩ := List.mem_map.mp hy
      obtain ⟨n, hn, rfl⟩ := List.mem_map.mp hz
      obtain ⟨h1, _⟩ := S'.own m hm
      obtain ⟨o, eo⟩ := np v N F1 b m hm
      obtain ⟨y, c⟩ := m
      subst eo
      exact Cel.nz (S.own n hn).1 (by rw [← e]; exact h1.2)⟩
end
/-! ### what run_by tells: a tuple, lists of one's own -/
def fam (as : List Addr) (ls : List (List Int)) : List (Addr × HO) := List.zipWith (fun a l => (a, HO.lst (l.map V.int))) as ls
theorem fam_snoc {as : List Addr} {ls : List (List Int)} {a : Addr} {l : List Int} (e : as.length = ls.length) : fam (as ++ [a]) (ls ++ [l]) = fam as ls ++ [(a, .lst (l.map V.int))] := by
  unfold fam
  rw [List.zipWith_append e]
  rfl
theorem fam_at {as : List Addr} {ls : List (List Int)} {i : Nat} {a : Addr} {l : List Int} (e1 : as[i]? = some a) (e2 : ls[i]? = some l) : (fam as ls)[i]? = some (a, .lst (l.map V.int)) := by
  unfold fam
  rw [List.getElem?_zipWith, e1, e2]
theorem fam_len {as : List Addr} {ls : List (List Int)} (e : as.length = ls.length) : (fam as ls).length = ls.length := by
  unfold fam
  rw [List.length_zipWith, e, Nat.min_self]
structure RunCells (F : Hp) (ts cs os : List Addr) (rs : List (List Int × List Int)) : Prop where
  lt : ts.length = rs.length
  lc : cs.length = rs.length
  lo : os.length = rs.length
  tup : ∀ (i : Nat) t c o, ts[i]? = some t → cs[i]? = some c → os[i]? = some o → F t = some (.tup [.ref c, .ref o])
def runM (cs os : List Addr) (rs : List (List Int × List Int)) : List (Addr × Cel) := cellsOf (fam cs (rs.map Prod.fst) ++ fam os (rs.map Prod.snd))
theorem RunCells.nil {F : Hp} : RunCells F [] [] [] [] := ⟨rfl, rfl, rfl, fun i t c o h => by simp at h⟩
theorem RunCells.ex {F F' : Hp} {ts cs os : List Addr} {rs : List (List Int × List Int)} (h : RunCells F ts cs os rs) (e : Evl.Ex F F') : RunCells F' ts cs os rs := ⟨h.lt, h.lc, h.lo, fun i t c o a b d => e _ _ (h.tup i t c o a b d)⟩
theorem snoc_at {α : Type} {l : List α} {x y : α} {i : Nat} (h : (l ++ [x])[i]? = some y) : (i < l.length ∧ l[i]? = some y) ∨ (i = l.length ∧ y = x) := by
  have li := (List.getElem?_eq_some_iff.mp h).1
  rw [List.length_append, List.length_singleton] at li
  by_cases c : i < l.length
  · rw [List.getElem?_append_left c] at h
    exact .inl ⟨c, h⟩
  · have e : i = l.length := by omega
    subst e
    rw [List.getElem?_append_right (Nat.le_refl _), Nat.sub_self] at h
    exact .inr ⟨rfl, (Option.some.inj h).symm⟩
theorem RunCells.snoc {F : Hp} {ts cs os : List Addr} {rs : List (List Int × List Int)} {t c o : Addr} {r : List Int × List Int} (h : RunCells F ts cs os rs) (e : F t = some (.tup [.ref c, .ref o])) : RunCells F (ts ++ [t]) (cs ++ [c]) (os ++ [o]) (rs ++ [r]) := by
  refine ⟨by simp [h.lt], by simp [h.lc], by simp [h.lo], fun i t' c' o' a b d => ?_⟩
  rcases snoc_at a with ⟨a1, a2⟩ | ⟨a1, a2⟩ <;> rcases snoc_at b with ⟨b1, b2⟩ | ⟨b1, b2⟩ <;> rcases snoc_at d with ⟨d1, d2⟩ | ⟨d1, d2⟩
  · exact h.tup i _ _ _ a2 b2 d2
  all_goals first | (have := h.lt; have := h.lc; have := h.lo; exfalso; omega) | (rw [a2, b2, d2]; exact e)
theorem runM_snoc {F : Hp} {ts cs os : List Addr} {rs : List (List Int × List Int)} (h : RunCells F ts cs os rs) {c o : Addr} {C O : List Int} (b r : Addr × Cel) :
    (b :: r :: runM (cs ++ [c]) (os ++ [o]) (rs ++ [(C, O)])).Perm (b :: (o, .is (.lst (O.map V.int))) :: (c, .is (.lst (C.map V.int))) :: r :: runM cs os rs) := by
  unfold runM
  rw [List.map_append, List.map_append, List.map_singleton, List.map_singleton, fam_snoc (by rw [h.lc, List.length_map]), fam_snoc (by rw [h.lo, List.length_map])]
  unfold cellsOf
  simp only [List.map_append, List.map_cons, List.map_nil]
  generalize List.map (fun p : Addr × HO => (p.1, Cel.is p.2)) (fam cs (List.map Prod.fst rs)) = A
  generalize List.map (fun p : Addr × HO => (p.1, Cel.is p.2)) (fam os (List.map Prod.snd rs)) = B
  generalize (c, Cel.is (HO.lst (List.map V.int C))) = x
  generalize (o, Cel.is (HO.lst (List.map V.int O))) = y
  refine List.Perm.cons _ ?_
  have h1 : (A ++ [x] ++ (B ++ [y])).Perm (y :: x :: (A ++ B)) := by
    rw [← List.append_assoc]
    refine (List.perm_append_singleton _ _).trans (List.Perm.cons _ ?_)
    rw [List.append_assoc]
    exact List.perm_middle
  exact (List.Perm.cons r h1).trans ((List.Perm.swap _ _ _).trans (List.Perm.cons _ (List.Perm.swap _ _ _)))
/-- the rows of a run from here on -/
theorem runL_step {ties : List (Int × Int)} {left : List Int} {row : List Int} {rest : List (List Int)} (ne : left ≠ []) : runL ties left (row :: rest) =
    ((leastOf ties left (rowF row), outBy ties left (leastOf ties left (rowF row))) :: (runL ties (behind left (leastOf ties left (rowF row)) (outBy ties left (leastOf ties left (rowF row)))) rest).1,
     (runL ties (behind left (leastOf ties left (rowF row)) (outBy ties left (leastOf ties left (rowF row)))) rest).2) := by
  rw [runL, if_neg ne]
def roundD (r : List Int × List Int) : PyData := .tuple [intsD r.1, intsD r.2]
def runD (r : List (List Int × List Int) × List Int) : PyData := .tuple [.list (r.1.map roundD), intsD r.2]
/-- rows of a run whose lists stay -/
structure RawRows (F : Hp) (ts cs os : List Addr) (rs : List (List Int × List Int)) : Prop extends RunCells F ts cs os rs where
  ca : ∀ (i : Nat) c r, cs[i]? = some c → rs[i]? = some r → F c = some (.lst (r.1.map V.int))
  oa : ∀ (i : Nat) o r, os[i]? = some o → rs[i]? = some r → F o = some (.lst (r.2.map V.int))
theorem RawRows.ex {F F' : Hp} {ts cs os : List Addr} {rs : List (List Int × List Int)} (h : RawRows F ts cs os rs) (e : Evl.Ex F F') : RawRows F' ts cs os rs := ⟨h.toRunCells.ex e, fun i c r a b => e _ _ (h.ca i c r a b), fun i c r a b => e _ _ (h.oa i c r a b)⟩
theorem RawRows.nil {F : Hp} : RawRows F [] [] [] [] := ⟨RunCells.nil, fun i c r a => by simp at a, fun i c r a => by simp at a⟩
theorem RawRows.snoc {F : Hp} {ts cs os : List Addr} {rs : List (List Int × List Int)} {t c o : Addr} {r : List Int × List Int} (h : RawRows F ts cs os rs) (e : F t = some (.tup [.ref c, .ref o])) (ec : F c = some (.lst (r.1.map V.int))) (eo : F o = some (.lst (r.2.map V.int))) : RawRows F (ts ++ [t]) (cs ++ [c]) (os ++ [o]) (rs ++ [r]) := by
  refine ⟨h.toRunCells.snoc e, fun i c' r' a b => ?_, fun i c' r' a b => ?_⟩
  · rcases snoc_at a with ⟨a1, a2⟩ | ⟨a1, a2⟩ <;> rcases snoc_at b with ⟨b1, b2⟩ | ⟨b1, b2⟩
    · exact h.ca i _ _ a2 b2
    all_goals first | (have := h.lc; exfalso; omega) | (rw [a2, b2]; exact ec)
  · rcases snoc_at a with ⟨a1, a2⟩ | ⟨a1, a2⟩ <;> rcases snoc_at b with ⟨b1, b2⟩ | ⟨b1, b2⟩
    · exact h.oa i _ _ a2 b2
    all_goals first | (have := h.lo; exfalso; omega) | (rw [a2, b2]; exact eo)
theorem RawRows.dp {K : PySem.W.Frag} {F : Hp} {ts cs os : List Addr} {rs : List (List Int × List Int)} (h : RawRows F ts cs os rs) : DpAll K F (ts.map V.ref) (rs.map roundD) := by
  refine dpAll_ix (by rw [List.length_map, List.length_map, h.lt]) fun i x d e1 e2 => ?_
  rw [List.getElem?_map] at e1 e2
  have l1 := h.lt
  have l2 := h.lc
  have l3 := h.lo
  cases q1 : ts[i]? with
  | none => rw [q1] at e1; cases e1
  | some t =>
    cases q2 : rs[i]? with
    | none => rw [q2] at e2; cases e2
    | some r =>
      rw [q1] at e1
      rw [q2] at e2
      cases e1
      cases e2
      have li := (List.getElem?_eq_some_iff.mp q2).1
      obtain ⟨c, q3⟩ : ∃ c, cs[i]? = some c := ⟨_, List.getElem?_eq_getElem (by omega)⟩
      obtain ⟨o, q4⟩ : ∃ o, os[i]? = some o := ⟨_, List.getElem?_eq_getElem (by omega)⟩
      exact .tup (SqT.of (h.tup i t c o q1 q3 q4)) (.cons (dp_intsD (SqL.of (h.ca i c r q3 q2))) (.cons (dp_intsD (SqL.of (h.oa i o r q4 q2))) .nil))
/-- a run as it is told, all of it staying -/
def RunRaw (F : Hp) (v : V) (rs : List (List Int × List Int)) (left : List Int) : Prop := ∃ T R L ts cs os, v = .ref T ∧ F T = some (.tup [.ref R, .ref L]) ∧ F R = some (.lst (ts.map V.ref)) ∧ F L = some (.lst (left.map V.int)) ∧ RawRows F ts cs os rs
theorem RunRaw.ex {F F' : Hp} {v : V} {rs : List (List Int × List Int)} {left : List Int} (h : RunRaw F v rs left) (e : Evl.Ex F F') : RunRaw F' v rs left := by
  obtain ⟨T, R, L, ts, cs, os, rfl, h1, h2, h3, h4⟩ := h
  exact ⟨T, R, L, ts, cs, os, rfl, e _ _ h1, e _ _ h2, e _ _ h3, h4.ex e⟩
theorem RunRaw.dp {K : PySem.W.Frag} {F : Hp} {v : V} {rs : List (List Int × List Int)} {left : List Int} (h : RunRaw F v rs left) : Dp K F v (runD (rs, left)) := by
  obtain ⟨T, R, L, ts, cs, os, rfl, h1, h2, h3, h4⟩ := h
  exact .tup (SqT.of h1) (.cons (.lst (SqL.of h2) h4.dp) (.cons (dp_intsD (SqL.of h3)) .nil))
/-- a run as it is told: lists of one's own -/
def RunAt (rs : List (List Int × List Int)) (left : List Int) (v : V) (N : List (Addr × Cel)) (F : Hp) : Prop := ∃ T R L ts cs os, v = .ref T ∧ F T = some (.tup [.ref R, .ref L]) ∧ RunCells F ts cs os rs ∧ N = (L, .is (.lst (left.map V.int))) :: (R, .is (.lst (ts.map V.ref))) :: runM cs os rs
theorem RunAt.ex {F F' : Hp} {rs : List (List Int × List Int)} {left : List Int} {v : V} {N : List (Addr × Cel)} (h : RunAt rs left v N F) (e : Evl.Ex F F') : RunAt rs left v N F' := by
  obtain ⟨T, R, L, ts, cs, os, rfl, h1, h2, rfl⟩ := h
  exact ⟨T, R, L, ts, cs, os, rfl, e _ _ h1, h2.ex e, rfl⟩
theorem fam_in {as : List Addr} {ls : List (List Int)} {i : Nat} {a : Addr} {l : List Int} (e1 : as[i]? = some a) (e2 : ls[i]? = some l) : (a, HO.lst (l.map V.int)) ∈ fam as ls := List.mem_of_getElem? (fam_at e1 e2)
section
variable {io : List Addr} {H0 F0 F H : Hp} {M N : List (Addr × Cel)}
/-- .. as it stands in the heap -/
theorem RunAt.raw {rs : List (List Int × List Int)} {left : List Int} {v : V} (h : RunAt rs left v N F) (S : Sep io H0 F0 F H (N ++ M)) : RunRaw H v rs left := by
  obtain ⟨T, R, L, ts, cs, os, rfl, h1, h2, rfl⟩ := h
  refine ⟨T, R, L, ts, cs, os, rfl, S.fr _ _ h1, S.rdM 1 rfl, S.rdM 0 rfl, h2.ex S.fr, fun i c r a b => ?_, fun i o r a b => ?_⟩
  · have m : (c, Cel.is (HO.lst (r.1.map V.int))) ∈ runM cs os rs := List.mem_map.mpr ⟨_, List.mem_append_left _ (fam_in a (by rw [List.getElem?_map, b]; rfl)), rfl⟩
    exact (S.own _ (List.mem_append_left _ (List.mem_cons_of_mem _ (List.mem_cons_of_mem _ m)))).1.1
  · have m : (o, Cel.is (HO.lst (r.2.map V.int))) ∈ runM cs os rs := List.mem_map.mpr ⟨_, List.mem_append_right _ (fam_in a (by rw [List.getElem?_map, b]; rfl)), rfl⟩
    exact (S.own _ (List.mem_append_left _ (List.mem_cons_of_mem _ (List.mem_cons_of_mem _ m)))).1.1
/-- .. from now on it stays -/
theorem RunAt.frz {rs : List (List Int × List Int)} {left : List Int} {v : V} (h : RunAt rs left v N F) (S : Sep io H0 F0 F H (N ++ M)) : ∃ F', Sep io H0 F0 F' H M ∧ Evl.Ex F F' ∧ RunRaw F' v rs left := by
  obtain ⟨T, R, L, ts, cs, os, rfl, h1, h2, rfl⟩ := h
  have S : Sep io H0 F0 F H (cellsOf ((L, HO.lst (left.map V.int)) :: (R, HO.lst (ts.map V.ref)) :: (fam cs (rs.map Prod.fst) ++ fam os (rs.map Prod.snd))) ++ M) := S
  obtain ⟨F', S', e, c⟩ := S.frzAll
  refine ⟨F', S', e, T, R, L, ts, cs, os, rfl, e _ _ h1, c (R, _) (List.mem_cons_of_mem _ List.mem_cons_self), c (L, _) List.mem_cons_self, h2.ex e, fun i c' r a b => ?_, fun i o r a b => ?_⟩
  · exact c (c', _) (List.mem_cons_of_mem _ (List.mem_cons_of_mem _ (List.mem_append_left _ (fam_in a (by rw [List.getElem?_map, b]; rfl)))))
  · exact c (o, _) (List.mem_cons_of_mem _ (List.mem_cons_of_mem _ (List.mem_append_right _ (fam_in a (by rw [List.getElem?_map, b]; rfl)))))
end
/-! ### small data -/
structure RunSmall (rs : List (List Int × List Int)) (left : List Int) : Prop where
  rows : rs.length ≤ 1000
  lists : ∀ r ∈ rs, r.1.length ≤ 1000 ∧ r.2.length ≤ 1000
  left' : left.length ≤ 1000
theorem depthAll_le {n : Nat} : ∀ {ds : List PyData}, (∀ d ∈ ds, d.depth ≤ n) → PyData.depthAll ds ≤ n
  | [], _ => Nat.zero_le _
  | d :: r, h => by
    rw [PyData.depthAll]
    exact Nat.max_le.mpr ⟨h d List.mem_cons_self, depthAll_le fun x hx => h x (List.mem_cons_of_mem _ hx)⟩
theorem wdAll_of : ∀ {ds : List PyData}, (∀ d ∈ ds, wd d = true) → wdAll ds = true
  | [], _ => rfl
  | d :: r, h => by
    rw [wdAll, h d List.mem_cons_self, wdAll_of fun x hx => h x (List.mem_cons_of_mem _ hx)]
    rfl
theorem ints_depth (ns : List Int) : (intsD ns).depth ≤ 1 := by
  unfold intsD
  rw [PyData.depth]
  refine Nat.succ_le_succ (depthAll_le fun d hd => ?_)
  obtain ⟨i, _, rfl⟩ := List.mem_map.mp hd
  exact Nat.le_refl _
theorem ints_wd {ns : List Int} (h : ns.length ≤ 1000) : wd (intsD ns) = true := by
  unfold intsD
  rw [wd, List.length_map, decide_eq_true (show ns.length ≤ 100000 by omega), wdAll_of fun d hd => ?_]
  · rfl
  · obtain ⟨i, _, rfl⟩ := List.mem_map.mp hd
    rfl
theorem round_depth (r : List Int × List Int) : (roundD r).depth ≤ 2 := by
  unfold roundD
  rw [PyData.depth]
  refine Nat.succ_le_succ (depthAll_le fun d hd => ?_)
  rcases List.mem_cons.mp hd with rfl | hd
  · exact ints_depth _
  · rw [List.mem_singleton.mp hd]; exact ints_depth _
theorem round_wd {r : List Int × List Int} (h : r.1.length ≤ 1000 ∧ r.2.length ≤ 1000) : wd (roundD r) = true := by
  unfold roundD
  rw [wd, wdAll_of fun d hd => ?_]
  · rfl
  · rcases List.mem_cons.mp hd with rfl | hd
    · exact ints_wd h.1
    · rw [List.mem_singleton.mp hd]; exact ints_wd h.2
theorem rounds_depth (rs : List (List Int × List Int)) : (PyData.list (rs.map roundD)).depth ≤ 3 := by
  rw [PyData.depth]
  refine Nat.succ_le_succ (depthAll_le fun d hd => ?_)
  obtain ⟨r, _, rfl⟩ := List.mem_map.mp hd
  exact round_depth r
theorem rounds_wd {rs : List (List Int × List Int)} (h : rs.length ≤ 1000) (hl : ∀ r ∈ rs, r.1.length ≤ 1000 ∧ r.2.length ≤ 1000) : wd (PyData.list (rs.map roundD)) = true := by
  rw [wd, List.length_map, decide_eq_true (show rs.length ≤ 100000 by omega), wdAll_of fun d hd => ?_]
  · rfl
  · obtain ⟨r, hr, rfl⟩ := List.mem_map.mp hd
    exact round_wd (hl r hr)
theorem run_depth (r : List (List Int × List Int) × List Int) : (runD r).depth ≤ 4 := by
  unfold runD
  rw [PyData.depth]
  refine Nat.succ_le_succ (depthAll_le fun d hd => ?_)
  rcases List.mem_cons.mp hd with rfl | hd
  · exact rounds_depth _
  · rw [List.mem_singleton.mp hd]; exact Nat.le_trans (ints_depth _) (by decide)
theorem run_wd {rs : List (List Int × List Int)} {left : List Int} (h : RunSmall rs left) : wd (runD (rs, left)) = true := by
  unfold runD
  rw [wd, wdAll_of fun d hd => ?_]
  · rfl
  · rcases List.mem_cons.mp hd with rfl | hd
    · exact rounds_wd h.rows h.lists
    · rw [List.mem_singleton.mp hd]; exact ints_wd h.left'
theorem runL_small {ties : List (Int × Int)} : ∀ {ds : List (List Int)} {left : List Int} {n : Nat}, left.length ≤ n → (∀ r ∈ (runL ties left ds).1, r.1.length ≤ n ∧ r.2.length ≤ n) ∧ (runL ties left ds).1.length ≤ ds.length ∧ (runL ties left ds).2.length ≤ n
  | [], left, n, h => ⟨fun r hr => (by cases hr), Nat.le_refl _, h⟩
  | row :: rest, left, n, h => by
    by_cases e : left = []
    · rw [runL, if_pos e]
      exact ⟨fun r hr => (by cases hr), Nat.zero_le _, h⟩
    · rw [runL_step e]
      obtain ⟨a, b, c⟩ := runL_small (ds := rest) (left := behind left (leastOf ties left (rowF row)) (outBy ties left (leastOf ties left (rowF row)))) (n := n) (Nat.le_trans behind_len h)
      refine ⟨fun r hr => ?_, Nat.succ_le_succ b, c⟩
      rcases List.mem_cons.mp hr with rfl | hr
      · exact ⟨Nat.le_trans leastOf_len h, Nat.le_trans outBy_len h⟩
      · exact a r hr
theorem runL_fits {ties : List (Int × Int)} {many : Int} (hm : many ≤ 60) {ds : List (List Int)} (hd : ds.length ≤ 500) : RunSmall (runL ties (rgI many) ds).1 (runL ties (rgI many) ds).2 := by
  obtain ⟨a, b, c⟩ := runL_small (ties := ties) (ds := ds) (left := rgI many) (n := 60) (by rw [rgI_len]; omega)
  exact ⟨by omega, fun r hr => by have := a r hr; omega, by omega⟩
theorem shaped_draws (ds : List (List Int)) : SeqAt.shaped (.list (ds.map intsD)) = true := by
  have h0 : ∀ l : List Int, PyData.canLayAll0 (l.map PyData.int) = true := fun l => by
    induction l with
    | nil => rfl
    | cons x r ih => simp [PyData.canLayAll0, PyData.canLay0, ih]
  have h1 : PyData.canLayAll0 (ds.map intsD) = true := by
    induction ds with
    | nil => rfl
    | cons x r ih =>
      have := h0 x
      simp [PyData.canLayAll0, PyData.canLay0, intsD, ih, this] at *
  have h2 : PyData.depthAll (ds.map intsD) ≤ 1 := depthAll_le fun d hd => by
    obtain ⟨x, _, rfl⟩ := List.mem_map.mp hd
    exact ints_depth x
  unfold SeqAt.shaped
  simp [PyData.canLay0, h1, PyData.depth]
  omega
/-! ### list times a number -/
def rRepN : R2 := fun x y H Q => ∃ l k xs, x = .ref l ∧ y = .int k ∧ H l = some (.lst xs) ∧ -(2 ^ 63) ≤ k ∧ k < 2 ^ 63 ∧ xs.length * k.toNat ≤ sizeLine ∧ newK H (.lst (List.replicate k.toNat xs).flatten) Q
theorem op_repN {X : Cx} : OpR X (binaryOp .Mult) rRepN := op_rep
theorem s_rep {H : Hp} {a : Addr} {xs : List V} {k : Int} {Q : VK} (h : H a = some (.lst xs)) (h0 : 0 ≤ k) (h1 : k ≤ 1000) (hl : xs.length * k.toNat ≤ 100000) (q : newK H (.lst (List.replicate k.toNat xs).flatten) Q) : rRepN (.ref a) (.int k) H Q :=
  ⟨a, k, xs, rfl, rfl, h, by omega, by omega, Nat.le_trans hl (by decide), q⟩
theorem rep_one {α : Type} (n : Nat) (x : α) : (List.replicate n [x]).flatten = List.replicate n x := by
  induction n with
  | zero => rfl
  | succ n ih => rw [List.replicate_succ, List.flatten_cons, ih, List.replicate_succ]; rfl
theorem WebOk.few {many : Int} {ties : List (Int × Int)} (W : WebOk many ties) : ties.length ≤ 4000 := by
  have h2 := W.hi
  have nd : (ties.map fun t => (t.1 * 60 + t.2).toNat).Nodup := by
    refine List.pairwise_map.mpr (List.Pairwise.imp_of_mem (fun {a b} ha hb h e => ?_) W.up)
    have oa := W.ok a ha
    have ob := W.ok b hb
    unfold Lx at h
    omega
  have := nat_nodup_len _ (List.range 4000) nd fun x hx => by
    obtain ⟨t, ht, rfl⟩ := List.mem_map.mp hx
    have := W.ok t ht
    rw [List.mem_range]
    omega
  rw [List.length_map, List.length_range] at this
  exact this
/-! ### lists of a run written to -/
section
variable {io : List Addr} {H0 F0 F H : Hp} {M X : List (Addr × Cel)} {ts cs os : List Addr} {rs : List (List Int × List Int)}
theorem runM_c (rc : RunCells F ts cs os rs) {i : Nat} {c : Addr} {r : List Int × List Int} (hc : cs[i]? = some c) (hr : rs[i]? = some r) : (runM cs os rs ++ X)[i]? = some (c, .is (.lst (r.1.map V.int))) := by
  have li := (List.getElem?_eq_some_iff.mp hr).1
  have fl : (fam cs (rs.map Prod.fst)).length = rs.length := by rw [fam_len (by rw [rc.lc, List.length_map]), List.length_map]
  unfold runM cellsOf
  rw [List.getElem?_append_left (by rw [List.length_map, List.length_append]; omega), List.getElem?_map, List.getElem?_append_left (by omega), fam_at hc (l := r.1) (by rw [List.getElem?_map, hr]; rfl)]
  rfl
theorem runM_o (rc : RunCells F ts cs os rs) {i : Nat} {o : Addr} {r : List Int × List Int} (ho : os[i]? = some o) (hr : rs[i]? = some r) : (runM cs os rs ++ X)[rs.length + i]? = some (o, .is (.lst (r.2.map V.int))) := by
  have li := (List.getElem?_eq_some_iff.mp hr).1
  have fl : (fam cs (rs.map Prod.fst)).length = rs.length := by rw [fam_len (by rw [rc.lc, List.length_map]), List.length_map]
  have fl2 : (fam os (rs.map Prod.snd)).length = rs.length := by rw [fam_len (by rw [rc.lo, List.length_map]), List.length_map]
  unfold runM cellsOf
  rw [List.getElem?_append_left (by rw [List.length_map, List.length_append]; omega), List.getElem?_map, List.getElem?_append_right (by omega), fl, Nat.add_sub_cancel_left, fam_at ho (l := r.2) (by rw [List.getElem?_map, hr]; rfl)]
  rfl
theorem fam_set {as : List Addr} {ls : List (List Int)} {i : Nat} {a : Addr} {l : List Int} (h : as[i]? = some a) : (fam as ls).set i (a, .lst (l.map V.int)) = fam as (ls.set i l) := by
  refine List.ext_getElem? fun n => ?_
  unfold fam
  rw [List.getElem?_zipWith]
  by_cases e : i = n
  · subst e
    by_cases c : i < ls.length
    · have la := (List.getElem?_eq_some_iff.mp h).1
      rw [List.getElem?_set_self (by rw [List.length_zipWith]; omega), List.getElem?_set_self c, h]
    · rw [List.getElem?_eq_none (by rw [List.length_set, List.length_zipWith]; omega), List.getElem?_eq_none (l := ls.set i l) (by rw [List.length_set]; omega), h]
  · rw [List.getElem?_set_ne e, List.getElem?_set_ne e, List.getElem?_zipWith]
theorem runM_set (rc : RunCells F ts cs os rs) {i : Nat} {c o : Addr} {C O : List Int} (hc : cs[i]? = some c) (ho : os[i]? = some o) (hi : i < rs.length) :
    ((runM cs os rs ++ X).set i (c, .is (.lst (C.map V.int)))).set (rs.length + i) (o, .is (.lst (O.map V.int))) = runM cs os (rs.set i (C, O)) ++ X := by
  have fl : (fam cs (rs.map Prod.fst)).length = rs.length := by rw [fam_len (by rw [rc.lc, List.length_map]), List.length_map]
  have fl2 : (fam os (rs.map Prod.snd)).length = rs.length := by rw [fam_len (by rw [rc.lo, List.length_map]), List.length_map]
  unfold runM
  rw [List.set_append_left _ _ (by unfold cellsOf; rw [List.length_map, List.length_append]; omega), cells_put, List.set_append_left _ _ (by unfold cellsOf; rw [List.length_map, List.length_set, List.length_append]; omega), cells_put,
    List.set_append_left _ _ (by omega), List.set_append_right _ _ (by rw [List.length_set]; omega), List.length_set, fl, Nat.add_sub_cancel_left, fam_set hc, fam_set ho, List.map_set, List.map_set]
theorem RunCells.as {rs' : List (List Int × List Int)} (h : RunCells F ts cs os rs) (e : rs'.length = rs.length) : RunCells F ts cs os rs' := ⟨by rw [h.lt, e], by rw [h.lc, e], by rw [h.lo, e], h.tup⟩
theorem rawRows_of (S : Sep io H0 F0 F H M) (rc : RunCells F ts cs os rs) (hm : ∀ m ∈ runM cs os rs, m ∈ M) : RawRows H ts cs os rs := by
  refine ⟨rc.ex S.fr, fun i c r a b => ?_, fun i o r a b => ?_⟩
  · have m : (c, Cel.is (HO.lst (r.1.map V.int))) ∈ runM cs os rs := List.mem_map.mpr ⟨_, List.mem_append_left _ (fam_in a (by rw [List.getElem?_map, b]; rfl)), rfl⟩
    exact (S.own _ (hm _ m)).1.1
  · have m : (o, Cel.is (HO.lst (r.2.map V.int))) ∈ runM cs os rs := List.mem_map.mpr ⟨_, List.mem_append_right _ (fam_in a (by rw [List.getElem?_map, b]; rfl)), rfl⟩
    exact (S.own _ (hm _ m)).1.1
end
def bentR (r : List Int × List Int) : List Int × List Int := (r.1 ++ [-1], r.2 ++ [-2])
def bentN (rs : List (List Int × List Int)) (i : Nat) : List (List Int × List Int) := (rs.take i).map bentR ++ rs.drop i
theorem bentN_len (rs : List (List Int × List Int)) (i : Nat) : (bentN rs i).length = rs.length := by
  unfold bentN
  rw [List.length_append, List.length_map, List.length_take, List.length_drop]
  omega
theorem bentN_at {rs : List (List Int × List Int)} {i : Nat} {r : List Int × List Int} (h : rs[i]? = some r) : (bentN rs i)[i]? = some r := by
  have li := (List.getElem?_eq_some_iff.mp h).1
  unfold bentN
  rw [List.getElem?_append_right (by rw [List.length_map, List.length_take]; omega), List.length_map, List.length_take, Nat.min_eq_left (by omega), Nat.sub_self, List.getElem?_drop]
  exact h
theorem bentN_set {rs : List (List Int × List Int)} {i : Nat} {r : List Int × List Int} (h : rs[i]? = some r) : (bentN rs i).set i (bentR r) = bentN rs (i + 1) := by
  have li := (List.getElem?_eq_some_iff.mp h).1
  unfold bentN
  rw [List.set_append_right _ _ (by rw [List.length_map, List.length_take]; omega), List.length_map, List.length_take, Nat.min_eq_left (by omega), Nat.sub_self, take_snoc h, List.map_append, List.append_assoc]
  congr 1
  have d : rs.drop i = r :: rs.drop (i + 1) := by
    rw [List.drop_eq_getElem_cons li]
    congr 1
    rw [List.getElem?_eq_getElem li] at h
    exact Option.some.inj h
  rw [d]
  rfl
theorem rise_ext : ∀ {a b : List Int}, a.Pairwise (· < ·) → b.Pairwise (· < ·) → (∀ x, x ∈ a ↔ x ∈ b) → a = b
  | [], [], _, _, _ => rfl
  | [], y :: b, _, _, h => absurd ((h y).2 List.mem_cons_self) (by simp)
  | x :: a, [], _, _, h => absurd ((h x).1 List.mem_cons_self) (by simp)
  | x :: a, y :: b, ha, hb, h => by
    obtain ⟨a1, a2⟩ := List.pairwise_cons.mp ha
    obtain ⟨b1, b2⟩ := List.pairwise_cons.mp hb
    have e : x = y := by
      rcases List.mem_cons.mp ((h x).1 List.mem_cons_self) with e | m
      · exact e
      · rcases List.mem_cons.mp ((h y).2 List.mem_cons_self) with e | n
        · exact e.symm
        · have := b1 x m
          have := a1 y n
          omega
    subst e
    rw [rise_ext a2 b2 fun z => ?_]
    constructor
    · intro m
      rcases List.mem_cons.mp ((h z).1 (List.mem_cons_of_mem _ m)) with e | n
      · have := a1 z m; omega
      · exact n
    · intro m
      rcases List.mem_cons.mp ((h z).2 (List.mem_cons_of_mem _ m)) with e | n
      · have := b1 z m; omega
      · exact n
/-! ### whether a run may be told -/
def mayB (ties : List (Int × Int)) (left c : List Int) : Bool := decide (c = left.filter fun h => decide (h ∈ c)) && left.all fun h => !(!decide (h ∈ c) && (nbL ties left h).isEmpty) && !(decide (h ∈ c) && (nbL ties left h).any fun o => decide (o ∈ c))
def isRunB (ties : List (Int × Int)) : List Int → List (List Int × List Int) → List Int → Bool
  | left, [], e => decide (left = e)
  | left, r :: rest, e => !left.isEmpty && mayB ties left r.1 && decide (r.2 = outBy ties left r.1) && isRunB ties (behind left r.1 r.2) rest e
def besideL (N : Int → List Int) (here : List Int) (h : Int) : List Int := (N h).filter fun o => decide (o ∈ here)
def metL (N : Int → List Int) (here c : List Int) (h : Int) : List Int := (besideL N here h).filter fun o => decide (o ∈ c)
/-- one house of a round, as the law goes through it -/
def lawHouse (N : Int → List Int) (here c o : List Int) (h : Int) : Bool :=
  !((decide (h ∈ c) && !(metL N here c h).isEmpty) || (!decide (h ∈ c) && (besideL N here h).isEmpty)) && (decide (h ∈ o) == (!decide (h ∈ c) && !(metL N here c h).isEmpty))
def lawRound (N : Int → List Int) (here c o : List Int) : Bool := !here.isEmpty && (c.filter fun h => !decide (h ∈ here)).isEmpty && here.all (lawHouse N here c o) && (o.filter fun h => !decide (h ∈ here)).isEmpty
def lawRunB (N : Int → List Int) : List Int → List (List Int × List Int) → List Int → Bool
  | here, [], e => decide (here = e)
  | here, r :: rest, e => lawRound N here r.1 r.2 && lawRunB N (behind here r.1 r.2) rest e
section
variable {ties : List (Int × Int)} {here c o : List Int} {N : Int → List Int}
theorem isEmpty_iff {α : Type} {l : List α} : l.isEmpty = true ↔ ∀ x, x ∉ l := by
  cases l with
  | nil => exact ⟨(fun _ x h => nomatch h), fun _ => rfl⟩
  | cons x r => exact ⟨(fun h => nomatch h), fun h => absurd List.mem_cons_self (h x)⟩
theorem notEmpty_iff {α : Type} {l : List α} : (!l.isEmpty) = true ↔ ∃ x, x ∈ l := by
  cases l with
  | nil => exact ⟨(fun h => nomatch h), fun ⟨x, h⟩ => nomatch h⟩
  | cons x r => exact ⟨fun _ => ⟨x, List.mem_cons_self⟩, fun _ => rfl⟩
theorem mayB_iff (u : UpT ties) (hh : here.Pairwise (· < ·)) (hc : c.Pairwise (· < ·)) : mayB ties here c = true ↔ (∀ h ∈ c, h ∈ here) ∧ (∀ h ∈ here, h ∉ c → ∃ x ∈ here, TiedW ties h x) ∧ ∀ h ∈ here, h ∈ c → ∀ x ∈ here, TiedW ties h x → x ∉ c := by
  unfold mayB
  rw [Bool.and_eq_true, decide_eq_true_eq, List.all_eq_true]
  constructor
  · rintro ⟨e, a⟩
    refine ⟨fun h m => ?_, fun h m n => ?_, fun h m n x mx t q => ?_⟩
    · rw [e] at m; exact (List.mem_filter.mp m).1
    · have := (Bool.and_eq_true _ _ ▸ a h m).1
      rw [decide_eq_false n] at this
      have z : (!(nbL ties here h).isEmpty) = true := by simpa using this
      obtain ⟨x, mx⟩ := notEmpty_iff.mp z
      obtain ⟨_, b, d⟩ := (nbL_mem u).1 mx
      exact ⟨x, b, d⟩
    · have := (Bool.and_eq_true _ _ ▸ a h m).2
      rw [decide_eq_true n, Bool.true_and, Bool.not_eq_true'] at this
      have := List.any_eq_false.mp this x ((nbL_mem u).2 ⟨m, mx, t⟩)
      exact this (decide_eq_true q)
  · rintro ⟨e, a, b⟩
    refine ⟨rise_ext hc (hh.sublist List.filter_sublist) fun x => ?_, fun h m => ?_⟩
    · rw [List.mem_filter, decide_eq_true_eq]
      exact ⟨fun m => ⟨e x m, m⟩, fun m => m.2⟩
    · by_cases n : h ∈ c
      · rw [decide_eq_true n]
        have : ((nbL ties here h).any fun o => decide (o ∈ c)) = false := List.any_eq_false.mpr fun x mx q => by
          obtain ⟨_, d, t⟩ := (nbL_mem u).1 mx
          exact b h m n x d t (of_decide_eq_true q)
        rw [this]
        rfl
      · rw [decide_eq_false n]
        obtain ⟨x, mx, t⟩ := a h m n
        have : (nbL ties here h).isEmpty = false := by
          cases q : nbL ties here h with
          | nil => have := (nbL_mem u).2 ⟨m, mx, t⟩; rw [q] at this; cases this
          | cons _ _ => rfl
        rw [this]
        rfl
theorem besideL_mem (hN : ∀ h ∈ here, ∀ x, x ∈ N h ↔ TiedW ties h x) {h x : Int} (hm : h ∈ here) : x ∈ besideL N here h ↔ x ∈ here ∧ TiedW ties h x := by
  unfold besideL
  rw [List.mem_filter, hN h hm, decide_eq_true_eq, and_comm]
theorem metL_mem (hN : ∀ h ∈ here, ∀ x, x ∈ N h ↔ TiedW ties h x) {h x : Int} (hm : h ∈ here) : x ∈ metL N here c h ↔ (x ∈ here ∧ TiedW ties h x) ∧ x ∈ c := by
  unfold metL
  rw [List.mem_filter, besideL_mem hN hm, decide_eq_true_eq]
theorem round_iff (u : UpT ties) (hN : ∀ h ∈ here, ∀ x, x ∈ N h ↔ TiedW ties h x) (hh : here.Pairwise (· < ·)) (hc : c.Pairwise (· < ·)) (ho : o.Pairwise (· < ·)) :
    (!here.isEmpty && mayB ties here c && decide (o = outBy ties here c)) = lawRound N here c o := by
  rw [Bool.eq_iff_iff]
  unfold lawRound
  rw [Bool.and_eq_true, Bool.and_eq_true, decide_eq_true_eq, Bool.and_eq_true, Bool.and_eq_true, Bool.and_eq_true, mayB_iff u hh hc, isEmpty_iff, isEmpty_iff, List.all_eq_true]
  have out_iff : o = outBy ties here c ↔ ∀ h, h ∈ o ↔ h ∈ here ∧ ∃ x ∈ here, TiedW ties h x ∧ x ∈ c := by
    constructor
    · intro e h
      rw [e, outBy_mem u]
    · intro e
      exact rise_ext ho (outBy_up hh) fun h => by rw [e, outBy_mem u]
  rw [out_iff]
  have met_ne : ∀ h ∈ here, ((!(metL N here c h).isEmpty) = true ↔ ∃ x ∈ here, TiedW ties h x ∧ x ∈ c) := fun h hm => by
    rw [notEmpty_iff]
    constructor
    · rintro ⟨x, m⟩
      obtain ⟨⟨a, b⟩, d⟩ := (metL_mem hN hm).1 m
      exact ⟨x, a, b, d⟩
    · rintro ⟨x, a, b, d⟩
      exact ⟨x, (metL_mem hN hm).2 ⟨⟨a, b⟩, d⟩⟩
  have bes_e : ∀ h ∈ here, ((besideL N here h).isEmpty = true ↔ ∀ x ∈ here, ¬ TiedW ties h x) := fun h hm => by
    rw [isEmpty_iff]
    exact ⟨fun z x m t => z x ((besideL_mem hN hm).2 ⟨m, t⟩), fun z x m => z x ((besideL_mem hN hm).1 m).1 ((besideL_mem hN hm).1 m).2⟩
  constructor
  · rintro ⟨⟨e0, e1, e2, e3⟩, e4⟩
    refine ⟨⟨⟨e0, fun x m => ?_⟩, fun h hm => ?_⟩, fun x m => ?_⟩
    · obtain ⟨a, b⟩ := List.mem_filter.mp m
      have := e1 x a
      simp [this] at b
    · have mn := met_ne h hm
      have be := bes_e h hm
      have q := e4 h
      have f1 : ¬ ((decide (h ∈ c) && !(metL N here c h).isEmpty) = true) := fun z => by
        rw [Bool.and_eq_true, decide_eq_true_eq, mn] at z
        obtain ⟨zc, x, a, b, d⟩ := z
        exact e3 h hm zc x a b d
      have f2 : ¬ ((!decide (h ∈ c) && (besideL N here h).isEmpty) = true) := fun z => by
        rw [Bool.and_eq_true, be, Bool.not_eq_true', decide_eq_false_iff_not] at z
        obtain ⟨x, a, b⟩ := e2 h hm z.1
        exact z.2 x a b
      have f3 : (decide (h ∈ o) = true) ↔ (!decide (h ∈ c) && !(metL N here c h).isEmpty) = true := by
        rw [decide_eq_true_eq, q, Bool.and_eq_true, mn, Bool.not_eq_true', decide_eq_false_iff_not]
        refine ⟨fun z => ⟨fun zc => ?_, z.2⟩, fun z => ⟨hm, z.2⟩⟩
        obtain ⟨x, a, b, d⟩ := z.2
        exact e3 h hm zc x a b d
      unfold lawHouse
      rw [Bool.eq_false_iff.mpr f1, Bool.eq_false_iff.mpr f2, Bool.eq_iff_iff.mpr f3]
      simp
    · obtain ⟨a, b⟩ := List.mem_filter.mp m
      have := ((e4 x).1 a).1
      simp [this] at b
  · rintro ⟨⟨⟨e0, e1⟩, e2⟩, e3⟩
    have sub : ∀ h ∈ c, h ∈ here := fun h m => by
      have := e1 h
      rw [List.mem_filter] at this
      by_cases q : h ∈ here
      · exact q
      · exact absurd ⟨m, by simp [q]⟩ this
    have sub2 : ∀ h ∈ o, h ∈ here := fun h m => by
      have := e3 h
      rw [List.mem_filter] at this
      by_cases q : h ∈ here
      · exact q
      · exact absurd ⟨m, by simp [q]⟩ this
    have parts : ∀ h ∈ here, ¬ ((decide (h ∈ c) && !(metL N here c h).isEmpty) = true) ∧ ¬ ((!decide (h ∈ c) && (besideL N here h).isEmpty) = true) ∧ ((decide (h ∈ o) = true) ↔ (!decide (h ∈ c) && !(metL N here c h).isEmpty) = true) := fun h hm => by
      have z := e2 h hm
      unfold lawHouse at z
      rw [Bool.and_eq_true, Bool.not_eq_true', Bool.or_eq_false_iff, beq_iff_eq] at z
      exact ⟨Bool.eq_false_iff.mp z.1.1, Bool.eq_false_iff.mp z.1.2, by rw [z.2]⟩
    have no : ∀ h ∈ here, h ∈ c → ∀ x ∈ here, TiedW ties h x → x ∉ c := fun h hm hc x mx t q => by
      refine (parts h hm).1 ?_
      rw [Bool.and_eq_true, decide_eq_true_eq, met_ne h hm]
      exact ⟨hc, x, mx, t, q⟩
    refine ⟨⟨e0, sub, fun h hm hc => ?_, no⟩, fun h => ?_⟩
    · refine Classical.byContradiction fun q => (parts h hm).2.1 ?_
      rw [Bool.and_eq_true, bes_e h hm, Bool.not_eq_true', decide_eq_false_iff_not]
      exact ⟨hc, fun x mx t => q ⟨x, mx, t⟩⟩
    · constructor
      · intro m
        have hm := sub2 h m
        have z := (parts h hm).2.2.1 (decide_eq_true m)
        rw [Bool.and_eq_true, met_ne h hm] at z
        exact ⟨hm, z.2⟩
      · rintro ⟨hm, z⟩
        refine of_decide_eq_true ((parts h hm).2.2.2 ?_)
        rw [Bool.and_eq_true, met_ne h hm, Bool.not_eq_true', decide_eq_false_iff_not]
        obtain ⟨x, mx, t, q⟩ := z
        exact ⟨fun hc => no h hm hc x mx t q, x, mx, t, q⟩
theorem isRun_law (u : UpT ties) {many : Int} (hN : ∀ h, 0 ≤ h → h < many → ∀ x, x ∈ N h ↔ TiedW ties h x) {e : List Int} : ∀ {rs : List (List Int × List Int)} {here : List Int}, here.Pairwise (· < ·) → (∀ h ∈ here, 0 ≤ h ∧ h < many) → (∀ r ∈ rs, r.1.Pairwise (· < ·) ∧ r.2.Pairwise (· < ·)) → isRunB ties here rs e = lawRunB N here rs e
  | [], _, _, _, _ => rfl
  | r :: rest, here, hh, hr, ho => by
    have o1 := ho r List.mem_cons_self
    rw [isRunB, lawRunB, round_iff u (fun h hm => hN h (hr h hm).1 (hr h hm).2) hh o1.1 o1.2, isRun_law u hN (rs := rest) (behind_up hh) (fun h hm => hr h (behind_sub h hm)) fun r hm => ho r (List.mem_cons_of_mem _ hm)]
/-- runs by draws -/
theorem isRun_run (u : UpT ties) : ∀ {ds : List (List Int)} {left : List Int}, left.Pairwise (· < ·) → isRunB ties left (runL ties left ds).1 (runL ties left ds).2 = true
  | [], _, _ => by rw [runL, isRunB]; exact decide_eq_true rfl
  | row :: rest, left, hl => by
    by_cases e : left = []
    · rw [runL, if_pos e, isRunB]; exact decide_eq_true rfl
    · rw [runL_step e, isRunB]
      simp only
      rw [isRun_run u (ds := rest) (behind_up hl), (mayB_iff u hl (leastOf_up hl)).mpr ⟨leastOf_sub, fun h hm hn => ?_, fun h hm hc x mx t q => leastOf_apart u hc q t⟩]
      · cases left with
        | nil => exact absurd rfl e
        | cons _ _ => simp
      · refine Classical.byContradiction fun q => hn ((leastOf_mem u).2 ⟨hm, fun x mx t => ?_⟩)
        exact absurd ⟨x, mx, t⟩ q
end
/-! ### rows of a run as values -/
def RowV (F : Hp) (x : V) (r : List Int × List Int) : Prop := ∃ t c o, x = .ref t ∧ F t = some (.tup [.ref c, .ref o]) ∧ F c = some (.lst (r.1.map V.int)) ∧ F o = some (.lst (r.2.map V.int))
def RowsV (F : Hp) : List V → List (List Int × List Int) → Prop
  | [], [] => True
  | x :: xs, r :: rs => RowV F x r ∧ RowsV F xs rs
  | _, _ => False
section
variable {F F' : Hp} {K : PySem.W.Frag}
theorem RowV.ex {x : V} {r : List Int × List Int} (h : RowV F x r) (e : Evl.Ex F F') : RowV F' x r := by
  obtain ⟨t, c, o, rfl, h1, h2, h3⟩ := h
  exact ⟨t, c, o, rfl, e _ _ h1, e _ _ h2, e _ _ h3⟩
theorem RowV.dp {x : V} {r : List Int × List Int} (h : RowV F x r) : Dp K F x (roundD r) := by
  obtain ⟨t, c, o, rfl, h1, h2, h3⟩ := h
  exact .tup (SqT.of h1) (.cons (dp_intsD (SqL.of h2)) (.cons (dp_intsD (SqL.of h3)) .nil))
theorem RowsV.ex (e : Evl.Ex F F') : ∀ {xs : List V} {rs : List (List Int × List Int)}, RowsV F xs rs → RowsV F' xs rs
  | [], [], _ => trivial
  | _ :: _, _ :: _, h => ⟨h.1.ex e, RowsV.ex e h.2⟩
  | [], _ :: _, h => h.elim
  | _ :: _, [], h => h.elim
theorem RowsV.dp : ∀ {xs : List V} {rs : List (List Int × List Int)}, RowsV F xs rs → DpAll K F xs (rs.map roundD)
  | [], [], _ => .nil
  | _ :: _, _ :: _, h => .cons h.1.dp (RowsV.dp h.2)
  | [], _ :: _, h => h.elim
  | _ :: _, [], h => h.elim
theorem RowsV.len : ∀ {xs : List V} {rs : List (List Int × List Int)}, RowsV F xs rs → xs.length = rs.length
  | [], [], _ => rfl
  | _ :: _, _ :: _, h => by rw [List.length_cons, List.length_cons, RowsV.len h.2]
  | [], _ :: _, h => h.elim
  | _ :: _, [], h => h.elim
theorem RowsV.get : ∀ {xs : List V} {rs : List (List Int × List Int)} {i : Nat} {r : List Int × List Int}, RowsV F xs rs → rs[i]? = some r → ∃ x, xs[i]? = some x ∧ RowV F x r
  | [], [], i, _, _, e => by simp at e
  | x :: _, _ :: _, 0, _, h, e => by cases e; exact ⟨x, rfl, h.1⟩
  | _ :: _, _ :: _, i + 1, _, h, e => by
    obtain ⟨x, e1, e2⟩ := RowsV.get (i := i) h.2 (by simpa using e)
    exact ⟨x, by simpa using e1, e2⟩
  | [], _ :: _, _, _, h, _ => h.elim
  | _ :: _, [], _, _, h, _ => h.elim
theorem RowsV.app : ∀ {xs ys : List V} {rs ss : List (List Int × List Int)}, RowsV F xs rs → RowsV F ys ss → RowsV F (xs ++ ys) (rs ++ ss)
  | [], _, [], _, _, h => h
  | _ :: _, _, _ :: _, _, a, h => ⟨a.1, RowsV.app a.2 h⟩
  | [], _, _ :: _, _, a, _ => a.elim
  | _ :: _, _, [], _, a, _ => a.elim
theorem RowsV.take : ∀ {xs : List V} {rs : List (List Int × List Int)} (n : Nat), RowsV F xs rs → RowsV F (xs.take n) (rs.take n)
  | _, _, 0, _ => by rw [List.take_zero, List.take_zero]; trivial
  | [], [], _ + 1, _ => trivial
  | _ :: _, _ :: _, n + 1, h => ⟨h.1, RowsV.take n h.2⟩
  | [], _ :: _, _, h => h.elim
  | _ :: _, [], _, h => h.elim
theorem RowsV.drop : ∀ {xs : List V} {rs : List (List Int × List Int)} (n : Nat), RowsV F xs rs → RowsV F (xs.drop n) (rs.drop n)
  | _, _, 0, h => h
  | [], [], _ + 1, _ => trivial
  | _ :: _, _ :: _, n + 1, h => RowsV.drop n h.2
  | [], _ :: _, _, h => h.elim
  | _ :: _, [], _, h => h.elim
theorem RowsV.rev : ∀ {xs : List V} {rs : List (List Int × List Int)}, RowsV F xs rs → RowsV F xs.reverse rs.reverse
  | [], [], _ => trivial
  | x :: xs, r :: rs, h => by
    rw [List.reverse_cons, List.reverse_cons]
    exact RowsV.app (RowsV.rev h.2) ⟨h.1, trivial⟩
  | [], _ :: _, h => h.elim
  | _ :: _, [], h => h.elim
theorem RowsV.rep {x : V} {r : List Int × List Int} (h : RowV F x r) : ∀ n : Nat, RowsV F (List.replicate n x) (List.replicate n r)
  | 0 => trivial
  | n + 1 => ⟨h, RowsV.rep h n⟩
theorem RawRows.vals {ts cs os : List Addr} {rs : List (List Int × List Int)} (h : RawRows F ts cs os rs) : RowsV F (ts.map V.ref) rs := by
  have lt := h.lt
  have lc := h.lc
  have lo := h.lo
  have key : ∀ n, n ≤ rs.length → RowsV F ((ts.take n).map V.ref) (rs.take n) := by
    intro n
    induction n with
    | zero => intro _; rw [List.take_zero, List.take_zero]; trivial
    | succ n ih =>
      intro hn
      have e1 := List.getElem?_eq_getElem (l := ts) (i := n) (by omega)
      have e2 := List.getElem?_eq_getElem (l := rs) (i := n) (by omega)
      have e3 := List.getElem?_eq_getElem (l := cs) (i := n) (by omega)
      have e4 := List.getElem?_eq_getElem (l := os) (i := n) (by omega)
      rw [take_snoc e1, take_snoc e2, List.map_append]
      exact RowsV.app (ih (by omega)) ⟨⟨_, _, _, rfl, h.tup n _ _ _ e1 e3 e4, h.ca n _ _ e3 e2, h.oa n _ _ e4 e2⟩, trivial⟩
  have := key rs.length (Nat.le_refl _)
  rw [List.take_length, ← lt, List.take_length] at this
  exact this
end
/-- a source of rows -/
theorem srcRows {io : List Addr} {H0 F0 F : Hp} {K : PySem.W.Frag} {b : Addr} {xs : List V} {rs : List (List Int × List Int)} (h : SqL K F b xs) (hv : RowsV F xs rs) : Src (Itl K b) io H0 F0 F [] rs (fun r x F' => RowV F' x r) := by
  refine ⟨_, _, hv.len ▸ walk_list (xs := xs), fun F' H' M' S e _ => S.rdL e h, fun i r x F' H' H'' M' hr S e _ y => ?_⟩
  obtain ⟨rfl, y⟩ := y
  obtain ⟨x', e1, e2⟩ := hv.get hr
  rw [e1] at y
  cases y
  exact ⟨F', S, Evl.Ex.refl _, e2.ex e⟩
/-- lists of houses of a run that is handed in -/
structure RowsOk (many : Int) (rs : List (List Int × List Int)) (left : List Int) : Prop where
  rows : ∀ r ∈ rs, SetOk many r.1 ∧ SetOk many r.2
  left' : SetOk many left
/-! ### what runs by draws are -/
section
variable {ties : List (Int × Int)}
theorem filter3_perm {α : Type} {p q r : α → Bool} : ∀ {l : List α}, (∀ x ∈ l, (p x = true ∧ q x = false ∧ r x = false) ∨ (p x = false ∧ q x = true ∧ r x = false) ∨ (p x = false ∧ q x = false ∧ r x = true)) → (l.filter p ++ (l.filter q ++ l.filter r)).Perm l
  | [], _ => .nil
  | x :: l, h => by
    have ih := filter3_perm (l := l) fun y hy => h y (List.mem_cons_of_mem _ hy)
    rcases h x List.mem_cons_self with ⟨a, b, c⟩ | ⟨a, b, c⟩ | ⟨a, b, c⟩
    · rw [List.filter_cons_of_pos a, List.filter_cons_of_neg (by rw [b]; decide), List.filter_cons_of_neg (by rw [c]; decide)]
      exact ih.cons x
    · rw [List.filter_cons_of_neg (by rw [a]; decide), List.filter_cons_of_pos b, List.filter_cons_of_neg (by rw [c]; decide)]
      exact List.perm_middle.trans (ih.cons x)
    · rw [List.filter_cons_of_neg (by rw [a]; decide), List.filter_cons_of_neg (by rw [b]; decide), List.filter_cons_of_pos c]
      refine (List.Perm.append_left _ List.perm_middle).trans (List.perm_middle.trans (ih.cons x))
theorem step_perm (u : UpT ties) {left : List Int} {f : Int → Int} : (behind left (leastOf ties left f) (outBy ties left (leastOf ties left f)) ++ (leastOf ties left f ++ outBy ties left (leastOf ties left f))).Perm left := by
  have a : ∀ {h o}, h ∈ leastOf ties left f → o ∈ leastOf ties left f → ¬ TiedW ties h o := fun x y => leastOf_apart u x y
  have o : ∀ {h}, h ∈ outBy ties left (leastOf ties left f) ↔ h ∈ left ∧ ∃ x ∈ left, TiedW ties h x ∧ x ∈ leastOf ties left f := outBy_mem u
  have e1 : leastOf ties left f = left.filter fun h => decide (h ∈ leastOf ties left f) := by
    conv => lhs; unfold leastOf
    refine List.filter_congr fun h hh => ?_
    rw [Bool.eq_iff_iff, decide_eq_true_eq]
    unfold leastOf
    rw [List.mem_filter]
    exact ⟨fun z => ⟨hh, z⟩, fun z => z.2⟩
  have e2 : outBy ties left (leastOf ties left f) = left.filter fun h => decide (h ∈ outBy ties left (leastOf ties left f)) := by
    conv => lhs; unfold outBy
    refine List.filter_congr fun h hh => ?_
    rw [Bool.eq_iff_iff, decide_eq_true_eq]
    unfold outBy
    rw [List.mem_filter]
    exact ⟨fun z => ⟨hh, z⟩, fun z => z.2⟩
  generalize hc : leastOf ties left f = c at *
  generalize ho : outBy ties left c = ou at *
  unfold behind
  conv => lhs; arg 2; rw [e1]
  conv => lhs; arg 2; arg 2; rw [e2]
  refine filter3_perm fun h hh => ?_
  by_cases h1 : h ∈ c
  · have h2 : h ∉ ou := fun z => by
      obtain ⟨_, x, _, t, m⟩ := (@o h).1 z
      exact a h1 m t
    refine .inr (.inl ⟨?_, decide_eq_true h1, decide_eq_false h2⟩)
    rw [Bool.not_eq_false', decide_eq_true_eq]
    exact List.mem_append_left _ h1
  · by_cases h2 : h ∈ ou
    · refine .inr (.inr ⟨?_, decide_eq_false h1, decide_eq_true h2⟩)
      rw [Bool.not_eq_false', decide_eq_true_eq]
      exact List.mem_append_right _ h2
    · refine .inl ⟨?_, decide_eq_false h1, decide_eq_false h2⟩
      rw [Bool.not_eq_true', decide_eq_false_iff_not]
      exact fun z => (List.mem_append.mp z).elim h1 h2
def toldF (rs : List (List Int × List Int)) : List Int := rs.flatMap fun r => r.1 ++ r.2
def chosenF (rs : List (List Int × List Int)) : List Int := rs.flatMap fun r => r.1
theorem runL_perm (u : UpT ties) : ∀ {ds : List (List Int)} {left : List Int}, ((runL ties left ds).2 ++ toldF (runL ties left ds).1).Perm left
  | [], left => by rw [runL]; unfold toldF; rw [List.flatMap_nil, List.append_nil]
  | row :: rest, left => by
    by_cases e : left = []
    · rw [runL, if_pos e]
      unfold toldF
      rw [List.flatMap_nil, List.append_nil]
    · have ih := runL_perm u (ds := rest) (left := behind left (leastOf ties left (rowF row)) (outBy ties left (leastOf ties left (rowF row))))
      rw [runL_step e]
      unfold toldF at ih ⊢
      rw [List.flatMap_cons]
      simp only
      refine List.Perm.trans (List.Perm.append_left _ List.perm_append_comm) ?_
      rw [← List.append_assoc]
      exact (List.Perm.append_right _ ih).trans (step_perm u)
theorem runL_left (u : UpT ties) {ds : List (List Int)} {left : List Int} : ∀ h ∈ (runL ties left ds).2, h ∈ left := fun h hh => (runL_perm u).mem_iff.mp (List.mem_append_left _ hh)
theorem chosen_told {rs : List (List Int × List Int)} : ∀ h ∈ chosenF rs, h ∈ toldF rs := fun h hh => by
  unfold chosenF at hh
  obtain ⟨r, m, z⟩ := List.mem_flatMap.mp hh
  exact List.mem_flatMap.mpr ⟨r, m, List.mem_append_left _ z⟩
theorem runL_in (u : UpT ties) {ds : List (List Int)} {left : List Int} : ∀ h ∈ chosenF (runL ties left ds).1, h ∈ left := fun h hh => (runL_perm u).mem_iff.mp (List.mem_append_right _ (chosen_told h hh))
theorem runL_nd (u : UpT ties) {ds : List (List Int)} {left : List Int} (nd : left.Nodup) : (chosenF (runL ties left ds).1).Nodup := by
  have h := (runL_perm u (ds := ds) (left := left)).nodup_iff.mpr nd
  have h := (List.nodup_append.mp h).2.1
  generalize (runL ties left ds).1 = rs at h
  refine h.sublist ?_
  clear h nd
  unfold toldF chosenF
  induction rs with
  | nil => exact .slnil
  | cons r rs ih =>
    rw [List.flatMap_cons, List.flatMap_cons]
    exact (List.sublist_append_left _ _).append ih
theorem runL_apart (u : UpT ties) : ∀ {ds : List (List Int)} {left : List Int} {h o : Int}, h ∈ chosenF (runL ties left ds).1 → o ∈ chosenF (runL ties left ds).1 → ¬ TiedW ties h o
  | [], left, h, o, a, _ => by rw [runL] at a; cases a
  | row :: rest, left, h, o, a, b => by
    by_cases e : left = []
    · rw [runL, if_pos e] at a
      cases a
    · rw [runL_step e] at a b
      unfold chosenF at a b
      rw [List.flatMap_cons, List.mem_append] at a b
      simp only at a b
      have key : ∀ x y, x ∈ leastOf ties left (rowF row) → y ∈ chosenF (runL ties (behind left (leastOf ties left (rowF row)) (outBy ties left (leastOf ties left (rowF row)))) rest).1 → ¬ TiedW ties x y := fun x y hx hy t => by
        have m := runL_in u y hy
        unfold behind at m
        obtain ⟨m1, m2⟩ := List.mem_filter.mp m
        rw [Bool.not_eq_true', decide_eq_false_iff_not] at m2
        refine m2 (List.mem_append_right _ ((outBy_mem u).2 ⟨m1, x, leastOf_sub x hx, t.symm, hx⟩))
      rcases a with a | a <;> rcases b with b | b
      · exact leastOf_apart u a b
      · exact key h o a b
      · exact fun t => key o h b a t.symm
      · exact runL_apart u a b
theorem runL_full (u : UpT ties) : ∀ {ds : List (List Int)} {left : List Int}, (runL ties left ds).2 = [] → ∀ h ∈ left, h ∈ chosenF (runL ties left ds).1 ∨ ∃ o ∈ chosenF (runL ties left ds).1, TiedW ties h o
  | [], left, e, h, m => by rw [runL] at e; simp only at e; rw [e] at m; cases m
  | row :: rest, left, e0, h, m => by
    by_cases e : left = []
    · rw [e] at m; cases m
    · rw [runL_step e] at e0 ⊢
      simp only at e0
      unfold chosenF
      rw [List.flatMap_cons]
      simp only
      by_cases h1 : h ∈ leastOf ties left (rowF row)
      · exact .inl (List.mem_append_left _ h1)
      · by_cases h2 : h ∈ outBy ties left (leastOf ties left (rowF row))
        · obtain ⟨_, o, _, t, mo⟩ := (outBy_mem u).1 h2
          exact .inr ⟨o, List.mem_append_left _ mo, t⟩
        · have hb : h ∈ behind left (leastOf ties left (rowF row)) (outBy ties left (leastOf ties left (rowF row))) := by
            unfold behind
            rw [List.mem_filter, Bool.not_eq_true', decide_eq_false_iff_not]
            exact ⟨m, fun z => (List.mem_append.mp z).elim h1 h2⟩
          rcases runL_full u e0 h hb with z | ⟨o, mo, t⟩
          · exact .inl (List.mem_append_right _ z)
          · exact .inr ⟨o, List.mem_append_right _ mo, t⟩
theorem runL_take : ∀ {ds : List (List Int)} {left : List Int} {k : Nat}, k ≤ (runL ties left ds).1.length → (runL ties left (ds.take k)).1 = (runL ties left ds).1.take k
  | _, _, 0, _ => by rw [List.take_zero, List.take_zero, runL]
  | [], left, k + 1, h => by rw [runL] at h; cases h
  | row :: rest, left, k + 1, h => by
    by_cases e : left = []
    · rw [runL, if_pos e] at h; cases h
    · rw [runL_step e] at h ⊢
      rw [List.take_succ_cons, runL_step e, List.take_succ_cons]
      simp only at h ⊢
      rw [runL_take (by rw [List.length_cons] at h; omega)]
theorem runL_end : ∀ {ds : List (List Int)} {left : List Int}, (runL ties left ds).2 ≠ [] → (runL ties left ds).1.length = ds.length
  | [], left, _ => by rw [runL]; rfl
  | row :: rest, left, h => by
    by_cases e : left = []
    · rw [runL, if_pos e] at h; exact absurd e h
    · rw [runL_step e] at h ⊢
      simp only at h ⊢
      rw [List.length_cons, List.length_cons, runL_end h]
theorem runL_snoc {row : List Int} : ∀ {ds : List (List Int)} {left : List Int}, (runL ties left ds).2 ≠ [] → (runL ties left (ds ++ [row])).1 = (runL ties left ds).1 ++ [(leastOf ties (runL ties left ds).2 (rowF row), outBy ties (runL ties left ds).2 (leastOf ties (runL ties left ds).2 (rowF row)))]
  | [], left, h => by
    rw [runL] at h
    rw [List.nil_append, runL_step h, runL, runL]
    rfl
  | r0 :: rest, left, h => by
    by_cases e : left = []
    · rw [runL, if_pos e] at h; exact absurd e h
    · rw [List.cons_append, runL_step e, runL_step e] at *
      simp only at h ⊢
      rw [runL_snoc h]
      rfl
theorem isRun_app (u : UpT ties) {X : List (List Int × List Int)} {e : List Int} : ∀ {ds : List (List Int)} {left : List Int}, left.Pairwise (· < ·) → isRunB ties left ((runL ties left ds).1 ++ X) e = isRunB ties (runL ties left ds).2 X e
  | [], left, _ => by rw [runL]; rfl
  | row :: rest, left, hl => by
    by_cases e : left = []
    · rw [runL, if_pos e]; rfl
    · rw [runL_step e]
      simp only
      rw [List.cons_append, isRunB]
      simp only
      rw [isRun_app u (ds := rest) (behind_up hl), (mayB_iff u hl (leastOf_up hl)).mpr ⟨leastOf_sub, fun h hm hn => ?_, fun h hm hc x mx t q => leastOf_apart u hc q t⟩]
      · cases left with
        | nil => exact absurd rfl e
        | cons _ _ => simp
      · refine Classical.byContradiction fun q => hn ((leastOf_mem u).2 ⟨hm, fun x mx t => ?_⟩)
        exact absurd ⟨x, mx, t⟩ q
theorem behind_nil {left : List Int} : behind left [] [] = left := by
  unfold behind
  exact List.filter_eq_self.mpr fun x _ => by simp
theorem isRun_quiet (u : UpT ties) {left : List Int} (hl : left.Pairwise (· < ·)) (ne : left ≠ []) {f : Int → Int} (hf : ∀ h ∈ left, f h = 0) : isRunB ties left [([], [])] left = decide (leastOf ties left f = []) := by
  rw [isRunB, isRunB]
  simp only
  rw [behind_nil, decide_eq_true rfl, Bool.and_true]
  have e1 : left.isEmpty = false := by cases left with | nil => exact absurd rfl ne | cons _ _ => rfl
  have e2 : outBy ties left [] = [] := by
    refine List.filter_eq_nil_iff.mpr fun x _ => ?_
    rw [List.any_eq_true]
    rintro ⟨o, _, z⟩
    simp at z
  rw [e1, e2, decide_eq_true rfl, Bool.and_true]
  rw [Bool.eq_iff_iff, decide_eq_true_eq, Bool.not_false, Bool.true_and, mayB_iff u hl .nil]
  constructor
  · rintro ⟨_, a, _⟩
    refine List.eq_nil_iff_forall_not_mem.mpr fun x hx => ?_
    obtain ⟨b, c⟩ := (leastOf_mem u).1 hx
    obtain ⟨y, my, t⟩ := a x b (by simp)
    have := c y my t
    rw [hf x b, hf y my] at this
    omega
  · intro e
    refine ⟨fun h hh => (by cases hh), fun h hm _ => ?_, fun h _ hh => (by cases hh)⟩
    refine Classical.byContradiction fun q => ?_
    have : h ∈ leastOf ties left f := (leastOf_mem u).2 ⟨hm, fun x mx t => absurd ⟨x, mx, t⟩ q⟩
    rw [e] at this
    cases this
theorem least_ne (u : UpT ties) {left : List Int} (ne : left ≠ []) {f : Int → Int} (na : ∀ t ∈ ties, t.1 ∈ left → t.2 ∈ left → f t.1 ≠ f t.2) : leastOf ties left f ≠ [] := by
  obtain ⟨m, hm, least⟩ : ∃ m ∈ left, ∀ x ∈ left, f m ≤ f x := by
    clear na
    induction left with
    | nil => exact absurd rfl ne
    | cons a l ih =>
      by_cases e : l = []
      · subst e
        exact ⟨a, List.mem_cons_self, fun x hx => by rw [List.mem_singleton.mp hx]; omega⟩
      · obtain ⟨m, hm, h⟩ := ih e
        by_cases c : f a ≤ f m
        · refine ⟨a, List.mem_cons_self, fun x hx => ?_⟩
          rcases List.mem_cons.mp hx with rfl | hx
          · omega
          · have := h x hx; omega
        · refine ⟨m, List.mem_cons_of_mem _ hm, fun x hx => ?_⟩
          rcases List.mem_cons.mp hx with rfl | hx
          · omega
          · exact h x hx
  intro e
  have : m ∈ leastOf ties left f := (leastOf_mem u).2 ⟨hm, fun x mx t => by
    have h1 := least x mx
    have h2 : f m ≠ f x := by
      rcases t with t | t
      · exact na _ t hm mx
      · exact fun z => na _ t mx hm z.symm
    omega⟩
  rw [e] at this
  cases this
/-- rows of noughts and ones -/
def bitF (c : List Int) (h : Int) : Int := if h ∈ c then 0 else 1
def bitsR (many : Int) (c : List Int) : List Int := (rgI many).map (bitF c)
theorem bits_at {many : Int} {c : List Int} {h : Int} (h0 : 0 ≤ h) (h1 : h < many) : rowF (bitsR many c) h = bitF c h := by
  unfold rowF bitsR
  have e : (rgI many)[h.toNat]? = some h := by
    rw [rgI_get (by omega)]
    congr 1
    omega
  rw [List.getD_eq_getElem?_getD, List.getElem?_map, e]
  rfl
theorem least_bits (u : UpT ties) {many : Int} {left : List Int} (hl : ∀ h ∈ left, 0 ≤ h ∧ h < many) {f : Int → Int} : leastOf ties left (rowF (bitsR many (leastOf ties left f))) = leastOf ties left f := by
  have key : ∀ h ∈ left, (h ∈ leastOf ties left (rowF (bitsR many (leastOf ties left f))) ↔ h ∈ leastOf ties left f) := fun h hm => by
    rw [leastOf_mem u]
    constructor
    · rintro ⟨_, a⟩
      refine Classical.byContradiction fun q => ?_
      have : ∃ o ∈ left, TiedW ties h o := Classical.byContradiction fun z => q ((leastOf_mem u).2 ⟨hm, fun o mo t => absurd ⟨o, mo, t⟩ z⟩)
      obtain ⟨o, mo, t⟩ := this
      have := a o mo t
      rw [bits_at (hl h hm).1 (hl h hm).2, bits_at (hl o mo).1 (hl o mo).2] at this
      unfold bitF at this
      rw [if_neg q] at this
      split at this <;> omega
    · intro c
      refine ⟨hm, fun o mo t => ?_⟩
      rw [bits_at (hl h hm).1 (hl h hm).2, bits_at (hl o mo).1 (hl o mo).2]
      unfold bitF
      rw [if_pos c, if_neg fun z => leastOf_apart u c z t]
      decide
  have : ∀ (A B : List Int), A = B → A = B := fun _ _ h => h
  conv => lhs; unfold leastOf
  conv => rhs; unfold leastOf
  refine List.filter_congr fun h hm => ?_
  have := key h hm
  unfold leastOf at this
  rw [List.mem_filter, List.mem_filter] at this
  rw [Bool.eq_iff_iff]
  exact ⟨fun z => (this.1 ⟨hm, z⟩).2, fun z => (this.2 ⟨hm, z⟩).2⟩
theorem runL_bits (u : UpT ties) {many : Int} : ∀ {ds : List (List Int)} {left : List Int}, (∀ h ∈ left, 0 ≤ h ∧ h < many) → runL ties left ((runL ties left ds).1.map fun r => bitsR many r.1) = runL ties left ds
  | [], left, _ => by rw [runL]; rfl
  | row :: rest, left, hl => by
    by_cases e : left = []
    · rw [e, runL_nil, runL_nil]
    · rw [runL_step e, List.map_cons, runL_step e]
      simp only
      rw [least_bits u hl, runL_bits u fun h hm => hl h (behind_sub h hm)]
theorem runL_sets (u : UpT ties) {many : Int} : ∀ {ds : List (List Int)} {left : List Int}, SetOk many left → (∀ r ∈ (runL ties left ds).1, SetOk many r.1 ∧ SetOk many r.2) ∧ SetOk many (runL ties left ds).2
  | [], left, h => by rw [runL]; exact ⟨fun r hr => (by cases hr), h⟩
  | row :: rest, left, h => by
    by_cases e : left = []
    · rw [runL, if_pos e]; exact ⟨fun r hr => (by cases hr), h⟩
    · rw [runL_step e]
      have ih := runL_sets u (ds := rest) (left := behind left (leastOf ties left (rowF row)) (outBy ties left (leastOf ties left (rowF row)))) (many := many) ⟨behind_up h.1, fun x hx => h.2 x (behind_sub x hx)⟩
      refine ⟨fun r hr => ?_, ih.2⟩
      rcases List.mem_cons.mp hr with rfl | hr
      · exact ⟨⟨leastOf_up h.1, fun x hx => h.2 x (leastOf_sub x hx)⟩, outBy_up h.1, fun x hx => h.2 x (outBy_sub x hx)⟩
      · exact ih.1 r hr
end
/-! ### runs by names -/
section
variable {many : Int} {ties : List (Int × Int)} {names : List Int}
abbrev lateN (many : Int) (ties : List (Int × Int)) (names : List Int) : Int := maxDf 0 ((rowsOf many ties names).map fun r => r.2)
def leftN (many : Int) (ties : List (Int × Int)) (names : List Int) (n : Nat) : List Int := (rgI many).filter fun h => decide ((n : Int) < (rowOf many ties names h).2)
def roundN (many : Int) (ties : List (Int × Int)) (names : List Int) (n : Nat) : List Int × List Int := ((rgI many).filter fun h => decide (rowOf many ties names h = (true, (n : Int) + 1)), (rgI many).filter fun h => decide (rowOf many ties names h = (false, (n : Int) + 1)))
theorem tied_nbr (W : WebOk many ties) {h x : Int} : x ∈ nbr ties h ↔ TiedW ties h x := nbr_iff W
theorem leftN_mem {n : Nat} {h : Int} : h ∈ leftN many ties names n ↔ (0 ≤ h ∧ h < many) ∧ (n : Int) < (rowOf many ties names h).2 := by
  unfold leftN
  rw [List.mem_filter, rgI_mem, decide_eq_true_eq]
theorem round1_mem {n : Nat} {h : Int} : h ∈ (roundN many ties names n).1 ↔ (0 ≤ h ∧ h < many) ∧ rowOf many ties names h = (true, (n : Int) + 1) := by
  unfold roundN
  rw [List.mem_filter, rgI_mem, decide_eq_true_eq]
theorem round2_mem {n : Nat} {h : Int} : h ∈ (roundN many ties names n).2 ↔ (0 ≤ h ∧ h < many) ∧ rowOf many ties names h = (false, (n : Int) + 1) := by
  unfold roundN
  rw [List.mem_filter, rgI_mem, decide_eq_true_eq]
theorem leftN_up (n : Nat) : (leftN many ties names n).Pairwise (· < ·) := (rgI_up many).sublist List.filter_sublist
theorem round1_up (n : Nat) : (roundN many ties names n).1.Pairwise (· < ·) := (rgI_up many).sublist List.filter_sublist
theorem round2_up (n : Nat) : (roundN many ties names n).2.Pairwise (· < ·) := (rgI_up many).sublist List.filter_sublist
def RowLike (many : Int) (names row : List Int) : Prop := ∀ a b, 0 ≤ a → a < many → 0 ≤ b → b < many → (rowF row a < rowF row b ↔ nmAt names a < nmAt names b)
variable {row : List Int}
theorem least_N (W : WebOk many ties) (N : NamesOk many names) (R : RowLike many names row) (n : Nat) : leastOf ties (leftN many ties names n) (rowF row) = (roundN many ties names n).1 := by
  have ut : UpT ties := fun t ht => (W.ok t ht).2.1
  refine rise_ext (leastOf_up (leftN_up n)) (round1_up n) fun h => ?_
  rw [leastOf_mem ut, round1_mem, leftN_mem]
  constructor
  · rintro ⟨⟨hr, hn⟩, a⟩
    refine ⟨hr, (fresh_iff W hr.1 hr.2 (by omega)).2 ⟨hn, fun o ho => ?_⟩⟩
    unfold lessN at ho
    obtain ⟨o1, o2⟩ := List.mem_filter.mp ho
    have o2 := of_decide_eq_true o2
    have or' := nbr_range W o1
    by_cases q : (n : Int) < (rowOf many ties names o).2
    · have := a o (leftN_mem.2 ⟨or', q⟩) ((tied_nbr W).1 o1)
      have := (R h o hr.1 hr.2 or'.1 or'.2).1 this
      omega
    · omega
  · rintro ⟨hr, e⟩
    obtain ⟨a, b⟩ := (fresh_iff W hr.1 hr.2 (by omega)).1 e
    refine ⟨⟨hr, a⟩, fun o ho t => ?_⟩
    obtain ⟨or', on⟩ := leftN_mem.1 ho
    have o1 := (tied_nbr W).2 t
    refine (R h o hr.1 hr.2 or'.1 or'.2).2 ?_
    have ne := nm_ne N hr or' (fun z => oth_ne W o1 z.symm)
    by_cases q : nmAt names o < nmAt names h
    · have := b o (List.mem_filter.mpr ⟨o1, decide_eq_true q⟩)
      omega
    · omega
theorem out_N (W : WebOk many ties) (N : NamesOk many names) (n : Nat) : outBy ties (leftN many ties names n) (roundN many ties names n).1 = (roundN many ties names n).2 := by
  have ut : UpT ties := fun t ht => (W.ok t ht).2.1
  refine rise_ext (outBy_up (leftN_up n)) (round2_up n) fun h => ?_
  rw [outBy_mem ut, round2_mem, leftN_mem]
  constructor
  · rintro ⟨⟨hr, hn⟩, o, ho, t, m⟩
    obtain ⟨or', e⟩ := round1_mem.1 m
    refine ⟨hr, (out_iff W N hr.1 hr.2 (by omega)).2 ⟨hn, fun z => ?_, o, (tied_nbr W).2 t, e⟩⟩
    have := picked_free W N hr ((tied_nbr W).2 t) (by rw [z])
    rw [e] at this
    cases this
  · rintro ⟨hr, e⟩
    obtain ⟨a, b, o, ho, eo⟩ := (out_iff W N hr.1 hr.2 (by omega)).1 e
    have or' := nbr_range W ho
    refine ⟨⟨hr, a⟩, o, leftN_mem.2 ⟨or', by rw [eo]; simp only; omega⟩, (tied_nbr W).1 ho, round1_mem.2 ⟨or', eo⟩⟩
theorem behind_N (n : Nat) : behind (leftN many ties names n) (roundN many ties names n).1 (roundN many ties names n).2 = leftN many ties names (n + 1) := by
  refine rise_ext (behind_up (leftN_up n)) (leftN_up _) fun h => ?_
  unfold behind
  rw [List.mem_filter, Bool.not_eq_true', decide_eq_false_iff_not, List.mem_append, round1_mem, round2_mem, leftN_mem, leftN_mem]
  constructor
  · rintro ⟨⟨hr, a⟩, b⟩
    refine ⟨hr, Classical.byContradiction fun q => b ?_⟩
    have e : (rowOf many ties names h).2 = (n : Int) + 1 := by omega
    cases c : (rowOf many ties names h).1 with
    | true => exact .inl ⟨hr, by rw [← e, ← c]⟩
    | false => exact .inr ⟨hr, by rw [← e, ← c]⟩
  · rintro ⟨hr, a⟩
    refine ⟨⟨hr, by omega⟩, ?_⟩
    rintro (⟨_, e⟩ | ⟨_, e⟩) <;> · rw [e] at a; simp only at a; omega
theorem late_ge {h : Int} (h0 : 0 ≤ h) (h1 : h < many) : (rowOf many ties names h).2 ≤ lateN many ties names := by
  have m : (rowOf many ties names h).2 ∈ (rowsOf many ties names).map fun r => r.2 := List.mem_map.mpr ⟨_, List.mem_map.mpr ⟨h, rgI_mem.mpr ⟨h0, h1⟩, rfl⟩, rfl⟩
  unfold lateN
  cases e : (rowsOf many ties names).map fun r => r.2 with
  | nil => rw [e] at m; cases m
  | cons x r => rw [e] at m; exact (maxL_spec x r).2 _ m
theorem late_at (h1 : 1 ≤ many) : ∃ h, 0 ≤ h ∧ h < many ∧ (rowOf many ties names h).2 = lateN many ties names := by
  have m : (rowOf many ties names 0).2 ∈ (rowsOf many ties names).map fun r => r.2 := List.mem_map.mpr ⟨_, List.mem_map.mpr ⟨0, rgI_mem.mpr ⟨by omega, by omega⟩, rfl⟩, rfl⟩
  unfold lateN
  cases e : (rowsOf many ties names).map fun r => r.2 with
  | nil => rw [e] at m; cases m
  | cons x r =>
    have := (maxL_spec x r).1
    rw [← e] at this
    obtain ⟨_, h2, h3⟩ := List.mem_map.mp this
    obtain ⟨h, h4, rfl⟩ := List.mem_map.mp h2
    exact ⟨h, (rgI_mem.mp h4).1, (rgI_mem.mp h4).2, h3⟩
theorem run_N (W : WebOk many ties) (N : NamesOk many names) (R : RowLike many names row) : ∀ (k n : Nat), (n : Int) + k ≤ lateN many ties names → runL ties (leftN many ties names n) (List.replicate k row) = ((List.range' n k).map (roundN many ties names), leftN many ties names (n + k))
  | 0, n, _ => by rw [List.replicate_zero, runL]; rfl
  | k + 1, n, h => by
    have ne : leftN many ties names n ≠ [] := fun z => by
      obtain ⟨x, x0, x1, e⟩ := late_at (ties := ties) (names := names) W.lo
      have : x ∈ leftN many ties names n := leftN_mem.2 ⟨⟨x0, x1⟩, by omega⟩
      rw [z] at this
      cases this
    rw [List.replicate_succ, runL_step ne, least_N W N R, out_N W N, behind_N, run_N W N R k (n + 1) (by omega), List.range'_succ, List.map_cons, show n + 1 + k = n + (k + 1) by omega]
theorem leftN_0 (W : WebOk many ties) : leftN many ties names 0 = rgI many := by
  unfold leftN
  refine List.filter_eq_self.mpr fun x hx => ?_
  obtain ⟨a, b⟩ := rgI_mem.mp hx
  have := row_pos (names := names) W (rank many names x + 1) x (by omega) a b
  exact decide_eq_true (by omega)
theorem leftN_late (n : Nat) (h : lateN many ties names ≤ n) : leftN many ties names n = [] := by
  unfold leftN
  refine List.filter_eq_nil_iff.mpr fun x hx => ?_
  obtain ⟨a, b⟩ := rgI_mem.mp hx
  have := late_ge (ties := ties) (names := names) a b
  rw [decide_eq_true_eq]
  omega
theorem runL_app {a : List (List Int)} {b : List (List Int)} : ∀ {left : List Int}, runL ties left (a ++ b) = ((runL ties left a).1 ++ (runL ties (runL ties left a).2 b).1, (runL ties (runL ties left a).2 b).2) := by
  induction a with
  | nil => intro left; rw [List.nil_append, runL]; rfl
  | cons r a ih =>
    intro left
    by_cases e : left = []
    · rw [e, runL_nil, runL_nil, runL_nil]; rfl
    · rw [List.cons_append, runL_step e, runL_step e, ih]
      rfl
theorem drain (ut : UpT ties) : ∀ (k : Nat) {left : List Int}, left.length ≤ k → (∀ a ∈ left, ∀ b ∈ left, a ≠ b → rowF row a ≠ rowF row b) → (runL ties left (List.replicate k row)).2 = []
  | 0, left, h, _ => by
    rw [List.replicate_zero, runL]
    show left = []
    exact List.length_eq_zero_iff.mp (by omega)
  | k + 1, left, h, inj => by
    by_cases e : left = []
    · rw [e, runL_nil]
    · rw [List.replicate_succ, runL_step e]
      refine drain ut k ?_ fun a ha b hb => inj a (behind_sub a ha) b (behind_sub b hb)
      have ne : leastOf ties left (rowF row) ≠ [] := least_ne ut e fun t ht m1 m2 => inj _ m1 _ m2 (by have := ut t ht; omega)
      obtain ⟨x, hx⟩ := List.exists_mem_of_ne_nil _ ne
      have : (behind left (leastOf ties left (rowF row)) (outBy ties left (leastOf ties left (rowF row)))).length < left.length := by
        unfold behind
        refine List.length_filter_lt_length_iff_exists.mpr ⟨x, leastOf_sub x hx, ?_⟩
        rw [decide_eq_true (List.mem_append_left _ hx)]
        decide
      omega
theorem late_pos (W : WebOk many ties) : 1 ≤ lateN many ties names := by
  obtain ⟨h, a, b, e⟩ := late_at (ties := ties) (names := names) W.lo
  have := row_pos (names := names) W (rank many names h + 1) h (by omega) a b
  omega
/-- by as many draws as there are houses -/
theorem run_all (W : WebOk many ties) (N : NamesOk many names) (R : RowLike many names row) {m : Nat} (hm : lateN many ties names ≤ m) : runL ties (rgI many) (List.replicate m row) = ((List.range' 0 (lateN many ties names).toNat).map (roundN many ties names), []) := by
  have h1 := late_pos (names := names) W
  have e : List.replicate m row = List.replicate (lateN many ties names).toNat row ++ List.replicate (m - (lateN many ties names).toNat) row := by
    rw [List.replicate_append_replicate]
    congr 1
    omega
  rw [e, runL_app, ← leftN_0 (names := names) W, run_N W N R _ 0 (by omega)]
  simp only
  rw [leftN_late (0 + (lateN many ties names).toNat) (by omega), runL_nil, List.append_nil]
theorem run_less (W : WebOk many ties) (N : NamesOk many names) (R : RowLike many names row) : (runL ties (rgI many) (List.replicate (lateN many ties names - 1).toNat row)).2 ≠ [] := by
  have h1 := late_pos (names := names) W
  rw [← leftN_0 (names := names) W, run_N W N R _ 0 (by omega)]
  simp only
  intro z
  obtain ⟨x, x0, x1, e⟩ := late_at (ties := ties) (names := names) W.lo
  have : x ∈ leftN many ties names (0 + (lateN many ties names - 1).toNat) := leftN_mem.2 ⟨⟨x0, x1⟩, by omega⟩
  rw [z] at this
  cases this
theorem chosen_N (W : WebOk many ties) {h : Int} : h ∈ chosenF ((List.range' 0 (lateN many ties names).toNat).map (roundN many ties names)) ↔ h ∈ pickedOf many ties names := by
  rw [picked_mem]
  unfold chosenF
  rw [List.mem_flatMap]
  constructor
  · rintro ⟨r, hr, m⟩
    obtain ⟨n, _, rfl⟩ := List.mem_map.mp hr
    obtain ⟨a, e⟩ := round1_mem.1 m
    exact ⟨a, by rw [e]⟩
  · rintro ⟨a, e⟩
    have p := row_pos (names := names) W (rank many names h + 1) h (by omega) a.1 a.2
    have q := late_ge (ties := ties) (names := names) a.1 a.2
    refine ⟨_, List.mem_map.mpr ⟨((rowOf many ties names h).2 - 1).toNat, List.mem_range'_1.mpr ⟨Nat.zero_le _, by omega⟩, rfl⟩, round1_mem.2 ⟨a, ?_⟩⟩
    rw [show (((rowOf many ties names h).2 - 1).toNat : Int) + 1 = (rowOf many ties names h).2 by omega, ← e]
theorem picked_up : (pickedOf many ties names).Pairwise (· < ·) := picked_ok.up
theorem up_of_le {l : List Int} (s : l.Pairwise (· ≤ ·)) (nd : l.Nodup) : l.Pairwise (· < ·) := by
  have := s.and nd
  exact this.imp fun h => by have := h.1; have := h.2; omega
theorem firstBare_none {many : Int} {ties : List (Int × Int)} (W : WebOk many ties) {c : List Int} (h : ∀ x, 0 ≤ x → x < many → x ∈ c ∨ ∃ o ∈ c, TiedW ties x o) : firstBare many ties c = none := by
  unfold firstBare
  refine find_none _ _ fun x hx => ?_
  rw [Bool.not_eq_false']
  refine (cov_iff W).2 ?_
  obtain ⟨a, b⟩ := rgI_mem.mp hx
  rcases h x a b with z | ⟨o, mo, t⟩
  · exact .inl z
  · rcases t with t | t
    · exact .inr ⟨_, t, .inr ⟨mo, rfl⟩⟩
    · exact .inr ⟨_, t, .inl ⟨mo, rfl⟩⟩
theorem told_take (rs : List (List Int × List Int)) (i : Nat) : (toldF (rs.take i)).length ≤ (toldF rs).length ∧ (chosenF (rs.take i)).length ≤ (toldF rs).length := by
  have e : toldF rs = toldF (rs.take i) ++ toldF (rs.drop i) := by
    unfold toldF
    rw [← List.flatMap_append, List.take_append_drop]
  have h : ∀ l : List (List Int × List Int), (chosenF l).length ≤ (toldF l).length := fun l => by
    induction l with
    | nil => exact Nat.le_refl _
    | cons r l ih =>
      unfold chosenF toldF at *
      rw [List.flatMap_cons, List.flatMap_cons, List.length_append, List.length_append, List.length_append]
      omega
  have := h (rs.take i)
  rw [e, List.length_append]
  omega
end
def topS (i : Nat) : Stmt := PySem.Challenge.pw_fullapart_k21_runs_looked_at.main.body.getD i (.Pass ⟨0, 0, 0, 0⟩)
abbrev s_near_left : Stmt := topS 1
abbrev s_out_by : Stmt := topS 2
abbrev s_left_behind : Stmt := topS 3
abbrev s_may_choose : Stmt := topS 4
abbrev s_is_run : Stmt := topS 5
abbrev s__law_blend : Stmt := topS 7
abbrev s__law_pot : Stmt := topS 8
abbrev s__law_pick : Stmt := topS 9
abbrev s__law_same : Stmt := topS 10
abbrev s__law_order : Stmt := topS 11
abbrev s__law_web : Stmt := topS 12
abbrev s__law_any_ties : Stmt := topS 13
abbrev s__law_drawn_web : Stmt := topS 14
abbrev s__law_near : Stmt := topS 15
abbrev s__law_draws : Stmt := topS 16
abbrev s__law_round : Stmt := topS 17
abbrev s__law_run : Stmt := topS 18
abbrev s__law_is_run : Stmt := topS 19
abbrev s__law_copy : Stmt := topS 20
abbrev s__law_may_run : Stmt := topS 21
abbrev s__law_bent_list : Stmt := topS 22
abbrev s__law_bent_run : Stmt := topS 23
abbrev s_law : Stmt := topS 24
theorem sc_near_left : FnScope ["web", "left", "near", "one", "other", "house"] ["web", "left"] (defScope s_near_left) := ⟨rfl, rfl, rfl, by decide +kernel, rfl, by decide +kernel, by decide +kernel⟩
theorem sc_out_by : FnScope ["near", "chosen", "inside", "out", "house", "others", "other"] ["near", "chosen"] (defScope s_out_by) := ⟨rfl, rfl, rfl, by decide +kernel, rfl, by decide +kernel, by decide +kernel⟩
theorem sc_left_behind : FnScope ["near", "chosen", "out", "decided", "house"] ["near", "chosen", "out"] (defScope s_left_behind) := ⟨rfl, rfl, rfl, by decide +kernel, rfl, by decide +kernel, by decide +kernel⟩
theorem sc_may_choose : FnScope ["near", "chosen", "inside", "house", "others", "other"] ["near", "chosen"] (defScope s_may_choose) := ⟨rfl, rfl, rfl, by decide +kernel, rfl, by decide +kernel, by decide +kernel⟩
theorem sc_is_run : FnScope ["web", "rounds", "left", "here", "chosen", "out", "near"] ["web", "rounds", "left"] (defScope s_is_run) := ⟨rfl, rfl, rfl, by decide +kernel, rfl, by decide +kernel, by decide +kernel⟩
theorem sc__law_blend : FnScope ["cell", "at", "one", "two", "three"] ["cell", "at"] (defScope s__law_blend) := ⟨rfl, rfl, rfl, by decide +kernel, rfl, by decide +kernel, by decide +kernel⟩
theorem sc__law_pot : FnScope ["script", "cells", "k", "cell"] ["script"] (defScope s__law_pot) := ⟨rfl, rfl, rfl, by decide +kernel, rfl, by decide +kernel, by decide +kernel⟩
theorem sc__law_pick : FnScope ["pot", "many", "at", "cell", "found"] ["pot", "many"] (defScope s__law_pick) := ⟨rfl, rfl, rfl, by decide +kernel, rfl, by decide +kernel, by decide +kernel⟩
theorem sc__law_same : FnScope ["found", "due", "one", "other"] ["found", "due"] (defScope s__law_same) := ⟨rfl, rfl, rfl, by decide +kernel, rfl, by decide +kernel, by decide +kernel⟩
theorem sc__law_order : FnScope ["pot", "many", "order", "k"] ["pot", "many"] (defScope s__law_order) := ⟨rfl, rfl, rfl, by decide +kernel, rfl, by decide +kernel, by decide +kernel⟩
theorem sc__law_web : FnScope ["pot", "most", "shape", "many", "order", "pairs", "k", "one", "ties", "pair"] ["pot", "most"] (defScope s__law_web) := ⟨rfl, rfl, rfl, by decide +kernel, rfl, by decide +kernel, by decide +kernel⟩
theorem sc__law_any_ties : FnScope ["pot", "most", "share", "many", "pairs", "one", "other"] ["pot", "most"] (defScope s__law_any_ties) := ⟨rfl, rfl, rfl, by decide +kernel, rfl, by decide +kernel, by decide +kernel⟩
theorem sc__law_drawn_web : FnScope ["pot", "most"] ["pot", "most"] (defScope s__law_drawn_web) := ⟨rfl, rfl, rfl, by decide +kernel, rfl, by decide +kernel, by decide +kernel⟩
theorem sc__law_near : FnScope ["web", "found", "one", "other", "house", "some"] ["web"] (defScope s__law_near) := ⟨rfl, rfl, rfl, by decide +kernel, rfl, by decide +kernel, by decide +kernel⟩
theorem sc__law_draws : FnScope ["pot", "many", "most", "found", "turn", "sides", "house"] ["pot", "many", "most"] (defScope s__law_draws) := ⟨rfl, rfl, rfl, by decide +kernel, rfl, by decide +kernel, by decide +kernel⟩
theorem sc__law_round : FnScope ["near", "here", "row", "some", "house", "beside", "out", "other"] ["near", "here", "row"] (defScope s__law_round) := ⟨rfl, rfl, rfl, by decide +kernel, rfl, by decide +kernel, by decide +kernel⟩
theorem sc__law_run : FnScope ["web", "draws", "near", "here", "rounds", "row", "house"] ["web", "draws"] (defScope s__law_run) := ⟨rfl, rfl, rfl, by decide +kernel, rfl, by decide +kernel, by decide +kernel⟩
theorem sc__law_is_run : FnScope ["web", "rounds", "left", "near", "here", "some", "out", "house", "beside", "met", "other"] ["web", "rounds", "left"] (defScope s__law_is_run) := ⟨rfl, rfl, rfl, by decide +kernel, rfl, by decide +kernel, by decide +kernel⟩
theorem sc__law_copy : FnScope ["rounds", "some", "out"] ["rounds"] (defScope s__law_copy) := ⟨rfl, rfl, rfl, by decide +kernel, rfl, by decide +kernel, by decide +kernel⟩
theorem sc__law_may_run : FnScope ["pot", "web", "most", "near", "here", "rounds", "turn", "share", "row", "some", "house", "beside", "met", "out", "other", "k"] ["pot", "web", "most"] (defScope s__law_may_run) := ⟨rfl, rfl, rfl, by decide +kernel, rfl, by decide +kernel, by decide +kernel⟩
theorem sc__law_bent_list : FnScope ["pot", "many", "some", "house", "other"] ["pot", "many", "some"] (defScope s__law_bent_list) := ⟨rfl, rfl, rfl, by decide +kernel, rfl, by decide +kernel, by decide +kernel⟩
theorem sc__law_bent_run : FnScope ["pot", "web", "rounds", "left", "way", "at", "some", "out", "part", "fresh"] ["pot", "web", "rounds", "left"] (defScope s__law_bent_run) := ⟨rfl, rfl, rfl, by decide +kernel, rfl, by decide +kernel, by decide +kernel⟩
theorem sc_law : FnScope ["script", "pot", "turn", "web", "quiet", "runs", "k", "rounds", "left", "handed"] ["script"] (defScope s_law) := ⟨rfl, rfl, rfl, by decide +kernel, rfl, by decide +kernel, by decide +kernel⟩
structure Env (K : PySem.W.Frag) (mg : Str → Option Value) where
  a_near_left : Addr
  fd_near_left : FuncData
  F_near_left : Fun K "near_left" "near_left" s_near_left a_near_left fd_near_left
  b_near_left : Binds K fd_near_left ["web", "left"] []
  g_near_left : mg "near_left" = some (.ref a_near_left)
  a_out_by : Addr
  fd_out_by : FuncData
  F_out_by : Fun K "out_by" "out_by" s_out_by a_out_by fd_out_by
  b_out_by : Binds K fd_out_by ["near", "chosen"] []
  g_out_by : mg "out_by" = some (.ref a_out_by)
  a_left_behind : Addr
  fd_left_behind : FuncData
  F_left_behind : Fun K "left_behind" "left_behind" s_left_behind a_left_behind fd_left_behind
  b_left_behind : Binds K fd_left_behind ["near", "chosen", "out"] []
  g_left_behind : mg "left_behind" = some (.ref a_left_behind)
  a_may_choose : Addr
  fd_may_choose : FuncData
  F_may_choose : Fun K "may_choose" "may_choose" s_may_choose a_may_choose fd_may_choose
  b_may_choose : Binds K fd_may_choose ["near", "chosen"] []
  g_may_choose : mg "may_choose" = some (.ref a_may_choose)
  a_is_run : Addr
  fd_is_run : FuncData
  F_is_run : Fun K "is_run" "is_run" s_is_run a_is_run fd_is_run
  b_is_run : Binds K fd_is_run ["web", "rounds", "left"] []
  g_is_run : mg "is_run" = some (.ref a_is_run)
  a__law_blend : Addr
  fd__law_blend : FuncData
  F__law_blend : Fun K "_law_blend" "_law_blend" s__law_blend a__law_blend fd__law_blend
  b__law_blend : Binds K fd__law_blend ["cell", "at"] []
  g__law_blend : mg "_law_blend" = some (.ref a__law_blend)
  a__law_pot : Addr
  fd__law_pot : FuncData
  F__law_pot : Fun K "_law_pot" "_law_pot" s__law_pot a__law_pot fd__law_pot
  b__law_pot : Binds K fd__law_pot ["script"] []
  g__law_pot : mg "_law_pot" = some (.ref a__law_pot)
  a__law_pick : Addr
  fd__law_pick : FuncData
  F__law_pick : Fun K "_law_pick" "_law_pick" s__law_pick a__law_pick fd__law_pick
  b__law_pick : Binds K fd__law_pick ["pot", "many"] []
  g__law_pick : mg "_law_pick" = some (.ref a__law_pick)
  a__law_same : Addr
  fd__law_same : FuncData
  F__law_same : Fun K "_law_same" "_law_same" s__law_same a__law_same fd__law_same
  b__law_same : Binds K fd__law_same ["found", "due"] []
  g__law_same : mg "_law_same" = some (.ref a__law_same)
  a__law_order : Addr
  fd__law_order : FuncData
  F__law_order : Fun K "_law_order" "_law_order" s__law_order a__law_order fd__law_order
  b__law_order : Binds K fd__law_order ["pot", "many"] []
  g__law_order : mg "_law_order" = some (.ref a__law_order)
  a__law_web : Addr
  fd__law_web : FuncData
  F__law_web : Fun K "_law_web" "_law_web" s__law_web a__law_web fd__law_web
  b__law_web : Binds K fd__law_web ["pot", "most"] []
  g__law_web : mg "_law_web" = some (.ref a__law_web)
  a__law_any_ties : Addr
  fd__law_any_ties : FuncData
  F__law_any_ties : Fun K "_law_any_ties" "_law_any_ties" s__law_any_ties a__law_any_ties fd__law_any_ties
  b__law_any_ties : Binds K fd__law_any_ties ["pot", "most"] []
  g__law_any_ties : mg "_law_any_ties" = some (.ref a__law_any_ties)
  a__law_drawn_web : Addr
  fd__law_drawn_web : FuncData
  F__law_drawn_web : Fun K "_law_drawn_web" "_law_drawn_web" s__law_drawn_web a__law_drawn_web fd__law_drawn_web
  b__law_drawn_web : Binds K fd__law_drawn_web ["pot", "most"] []
  g__law_drawn_web : mg "_law_drawn_web" = some (.ref a__law_drawn_web)
  a__law_near : Addr
  fd__law_near : FuncData
  F__law_near : Fun K "_law_near" "_law_near" s__law_near a__law_near fd__law_near
  b__law_near : Binds K fd__law_near ["web"] []
  g__law_near : mg "_law_near" = some (.ref a__law_near)
  a__law_draws : Addr
  fd__law_draws : FuncData
  F__law_draws : Fun K "_law_draws" "_law_draws" s__law_draws a__law_draws fd__law_draws
  b__law_draws : Binds K fd__law_draws ["pot", "many", "most"] []
  g__law_draws : mg "_law_draws" = some (.ref a__law_draws)
  a__law_round : Addr
  fd__law_round : FuncData
  F__law_round : Fun K "_law_round" "_law_round" s__law_round a__law_round fd__law_round
  b__law_round : Binds K fd__law_round ["near", "here", "row"] []
  g__law_round : mg "_law_round" = some (.ref a__law_round)
  a__law_run : Addr
  fd__law_run : FuncData
  F__law_run : Fun K "_law_run" "_law_run" s__law_run a__law_run fd__law_run
  b__law_run : Binds K fd__law_run ["web", "draws"] []
  g__law_run : mg "_law_run" = some (.ref a__law_run)
  a__law_is_run : Addr
  fd__law_is_run : FuncData
  F__law_is_run : Fun K "_law_is_run" "_law_is_run" s__law_is_run a__law_is_run fd__law_is_run
  b__law_is_run : Binds K fd__law_is_run ["web", "rounds", "left"] []
  g__law_is_run : mg "_law_is_run" = some (.ref a__law_is_run)
  a__law_copy : Addr
  fd__law_copy : FuncData
  F__law_copy : Fun K "_law_copy" "_law_copy" s__law_copy a__law_copy fd__law_copy
  b__law_copy : Binds K fd__law_copy ["rounds"] []
  g__law_copy : mg "_law_copy" = some (.ref a__law_copy)
  a__law_may_run : Addr
  fd__law_may_run : FuncData
  F__law_may_run : Fun K "_law_may_run" "_law_may_run" s__law_may_run a__law_may_run fd__law_may_run
  b__law_may_run : Binds K fd__law_may_run ["pot", "web", "most"] []
  g__law_may_run : mg "_law_may_run" = some (.ref a__law_may_run)
  a__law_bent_list : Addr
  fd__law_bent_list : FuncData
  F__law_bent_list : Fun K "_law_bent_list" "_law_bent_list" s__law_bent_list a__law_bent_list fd__law_bent_list
  b__law_bent_list : Binds K fd__law_bent_list ["pot", "many", "some"] []
  g__law_bent_list : mg "_law_bent_list" = some (.ref a__law_bent_list)
  a__law_bent_run : Addr
  fd__law_bent_run : FuncData
  F__law_bent_run : Fun K "_law_bent_run" "_law_bent_run" s__law_bent_run a__law_bent_run fd__law_bent_run
  b__law_bent_run : Binds K fd__law_bent_run ["pot", "web", "rounds", "left"] []
  g__law_bent_run : mg "_law_bent_run" = some (.ref a__law_bent_run)
  n_set : mg "set" = none
  n_list : mg "list" = none
  n_enumerate : mg "enumerate" = none
  n_isinstance : mg "isinstance" = none
  n_str : mg "str" = none
  n_int : mg "int" = none
  n_range : mg "range" = none
  n_sorted : mg "sorted" = none
  n_any : mg "any" = none
  n_bool : mg "bool" = none
  n_all : mg "all" = none
  n_tuple : mg "tuple" = none
  n_len : mg "len" = none
  n_min : mg "min" = none
  n_max : mg "max" = none
  n_zip : mg "zip" = none
section
local macro_rules | `(tactic| walk_at "rd1") => `(tactic| (first
  | (with_reducible refine r_seq ?_) | (with_reducible refine r_asg ?_) | (with_reducible refine r_asgG ?_) | (with_reducible refine r_par ?_) | (with_reducible refine r_if ?_) | (with_reducible refine r_ret ?_) | (with_reducible refine r_drop ?_) | (with_reducible refine r_next ?_)
  | ((with_reducible refine' r_var ?hx ?_); (case hx => exact rfl)) | (with_reducible refine r_c ?_) | (with_reducible refine r_op ?_) | (with_reducible refine r_un ?_) | (with_reducible refine r_I0 ?_) | ((with_reducible refine r_I ?_ ?_); (· first | (show (0 : Int) < _; omega) | exact Or.inr ⟨by omega, by omega⟩ | exact Or.inl ⟨by omega, by omega⟩ | exact ⟨by omega, by omega, by decide⟩)) | (with_reducible refine r_U ?_)
  | (with_reducible refine r_test ?_) | (with_reducible refine r_B ?_) | (with_reducible refine r_bl ?_) | (with_reducible refine r_eqI ?_) | (with_reducible refine r_neI ?_)
  | ((with_reducible refine r_eq ?_ ?_); (· exact rfl)) | ((with_reducible refine r_ne ?_ ?_); (· exact rfl))
  | (with_reducible refine r_nil ?_) | (with_reducible refine r_cons ?_) | (with_reducible refine r_tup ?_) | (with_reducible refine r_lst ?_) | (with_reducible refine r_call ?_) | (with_reducible refine r_cb ?_)
  | (with_reducible refine r_and ?_) | (with_reducible refine r_or ?_) | (with_reducible refine r_not ?_) | (with_reducible refine r_andV ?_) | (with_reducible refine r_orV ?_) | (with_reducible refine r_notV ?_) | (with_reducible refine r_ifE ?_) | (with_reducible refine r_gSub ?_) | ((with_reducible refine' r_sIn ?h ?_); (case h => assumption)) | ((with_reducible refine' r_sNotIn ?h ?_); (case h => assumption)) | (with_reducible refine r_sadd ?_) | ((with_reducible refine' r_inI ?h ?_); (case h => assumption)) | ((with_reducible refine' r_notInI ?h ?_); (case h => assumption)) | ((with_reducible refine' r_eqNil ?h ?g ?_); (case h => assumption); (case g => assumption)) | ((with_reducible refine' r_neNil ?h ?g ?_); (case h => assumption); (case g => assumption)) | (with_reducible refine r_lstRg ?_) | (with_reducible refine r_rg1 ?_) | (with_reducible refine r_min2 ?_) | (with_reducible refine r_par2 ?_) | (with_reducible refine r_partI ?_) | (with_reducible refine r_lc ?_) | (with_reducible refine r_yes ?_) | (with_reducible refine r_iZipA ?_) | (with_reducible refine r_isN ?_) | ((with_reducible refine' iteRT ?hh ?_); (case hh => exact rfl)) | ((with_reducible refine' iteRF ?hh ?_); (case hh => exact rfl)) | ((with_reducible refine' r_isiT ?ty ?hk ?_); (case ty => first | assumption | exact tyx_L (by assumption) | exact tyx_T (by assumption) | exact .base (.non) | exact .base (.bl _) | exact .base (.int _) | exact .base (.str _)); (case hk => decide +kernel)) | ((with_reducible refine' r_isiF ?ty ?hk ?_); (case ty => first | assumption | exact tyx_L (by assumption) | exact tyx_T (by assumption) | exact .base (.non) | exact .base (.bl _) | exact .base (.int _) | exact .base (.str _)); (case hk => decide +kernel)) | (with_reducible refine r_for ?_) | (with_reducible refine r_iList ?_) | (with_reducible refine r_iTup ?_) | (with_reducible refine r_iRng1 ?_) | (with_reducible refine r_iRng2 ?_) | (with_reducible refine r_iEnum ?_) | (with_reducible refine r_iZip ?_) | (with_reducible refine r_gName ?_) | ((with_reducible refine' r_gTup2 ?hn ?hs ?_); (case hn => exact rfl); (case hs => first | assumption | exact SqT.of upd_same)) | (with_reducible refine r_bm ?_) | (with_reducible refine r_bm0 ?_) | (with_reducible refine r_sl ?_) | (with_reducible refine r_noPart ?_) | (with_reducible refine r_part ?_) | (with_reducible refine r_partI ?_) | ((refine' ⟨_, _, rfl, ?hl, ?_⟩); (case hl => first | exact Or.inl (by assumption) | exact Or.inr (by assumption)))
  | ((with_reducible refine' r_ixL ?hl ?ha ?_); (case hl => assumption); (case ha => first | exact rfl | assumption)) | ((with_reducible refine' r_ixT ?hl ?ha ?_); (case hl => assumption); (case ha => first | exact rfl | assumption))
  | ((with_reducible refine' r_setL ?hl ?hj ?_); (case hl => assumption); (case hj => first | exact rfl | assumption))))
local macro_rules | `(tactic| walk_at "rd") => `(tactic| repeat (walk_at "rd1"))

section
variable {P : Program} {w : World} {K : PySem.W.Frag} {mg : Str → Option Value} {base : Heap}

def sp_blend : Sp := fun vs H Q _ => ∃ cell at' : Int, vs = [.int cell, .int at'] ∧ 0 ≤ at' ∧ ∀ r : Int, 0 ≤ r → Q (.int r) H
theorem ok_l_blend0 (T : Env K mg) : FnOk P w K mg base CX0 1 T.a__law_blend T.fd__law_blend ["cell", "at"] sp_blend := by
  have nd := sc__law_blend.nd
  refine T.F__law_blend.ok sc__law_blend (fun vs H Q E h => ?_) (fun cdv A outer s H vs Q E hr h => ?_)
  · obtain ⟨c, a, rfl, _⟩ := h
    rfl
  · obtain ⟨cell, at', rfl, h0, k⟩ := h
    refine ⟨_, (pss_cons (ps_if (pt_cmpR op_ge (pv 0) (pe_op op_pow pe_int pe_int) (nomark _)) (pss_one (ps_ret (pv 0))) pss_nil)
      (pss_cons (ps_set (i := 2) nd rfl (.inl rfl) (pe_op op_mod (pe_op op_add (pe_op op_add (pe_op op_mul (pe_op op_mod (pv 0) pe_int) pe_int) (pe_op op_mul (pv 1) pe_int)) pe_int) pe_int))
      (pss_cons (ps_set (i := 3) nd rfl (.inl rfl) (pe_op op_mod (pe_op op_add (pe_op op_add (pe_op op_mul (pv 2) (pv 2)) (pe_op op_mul (pv 1) pe_int)) (pe_op op_mod (pv 0) pe_int)) pe_int))
      (pss_cons (ps_set (i := 4) nd rfl (.inl rfl) (pe_op op_mod (pe_op op_add (pe_op op_add (pe_op op_mul (pv 3) (pv 3)) (pe_op op_mul (pv 2) pe_int)) pe_int) pe_int))
      (pss_one (ps_ret (pe_op op_add (pe_op op_mul (pe_op op_add (pe_op op_mul (pv 2) pe_int) (pv 3)) pe_int) (pv 4)))))))), ?_⟩
    walk_at "rd"
    refine ite2 (fun hc => ?_) (fun hc => ?_)
    · walk_at "rd"
      refine k _ ?_
      have e : (10 : Int) ^ Int.toNat 18 = 1000000000000000000 := rfl
      have := of_decide_eq_true hc
      omega
    · walk_at "rd"
      exact k _ (by omega)

def sp_pick : Sp := fun vs H Q _ => ∃ (p c : Addr) (upto : Int), vs = [.ref p, .int upto] ∧ PotC H p c ∧ 0 < upto ∧ upto.natAbs < 2 ^ 1000 ∧ ∀ (r : Int) (H' : Hp), 0 ≤ r → r < upto → PotC H' p c → ExB p H H' → Q (.int r) H'
theorem ok_l_pick0 (T : Env K mg) : FnOk P w K mg base CX0 2 T.a__law_pick T.fd__law_pick ["pot", "many"] sp_pick := by
  have nd := sc__law_pick.nd
  have G__law_blend : FnOk P w K mg base CX0 1 T.a__law_blend T.fd__law_blend ["cell", "at"] sp_blend := ok_l_blend0 T
  refine T.F__law_pick.ok sc__law_pick (fun vs H Q E h => ?_) (fun cdv A outer s H vs Q E hr h => ?_)
  · obtain ⟨p, c, a, rfl, _⟩ := h
    rfl
  · obtain ⟨p, c, upto, rfl, hP, hu0, hu1, k⟩ := h
    obtain ⟨cs, at', r, hp, hc, hcp, h0, hr0, hl⟩ := hP
    have sp : SqL K H p [.ref c, .int at', .int r] := SqL.of hp
    have sc : SqL K H c (cs.map V.int) := SqL.of hc
    refine ⟨_, (Evl.pss_cut (ps_if (pt_cmpR op_lt (pe_ix ix_list (pv 0) pe_int (fun _ _ => rfl)) (pv 1) (nomark _)) (pss_cons (ps_set (i := 2) nd rfl (.inl rfl) (pe_ix ix_list (pv 0) pe_int (fun _ _ => rfl)))
      (pss_cons (ps_set (i := 3) nd rfl (.inl rfl) (pe_op op_mul pe_int (pv 2)))
      (Evl.pss_cut (ps_if (pt_cmpR op_lt (pv 2) (pe_callB call_len_seq (by rfl) T.n_len PySem.boot_len (pa_cons (pe_ix ix_list (pv 0) pe_int (fun _ _ => rfl)) pa_nil)) (nomark _)) (pss_one (ps_set (i := 3) nd rfl (.inl rfl) (pe_ix ix_list (pe_ix ix_list (pv 0) pe_int (fun _ _ => rfl)) (pv 2) (fun _ _ => rfl)))) (pss_one (ps_if (pt_cmpR (op_neD hr.units) (pe_ix ix_list (pv 0) pe_int (fun _ _ => rfl)) (pe_lst pa_nil) (nomark _)) (pss_one (ps_set (i := 3) nd rfl (.inl rfl) (pe_op op_mod (pe_ix ix_list (pe_ix ix_list (pv 0) pe_int (fun _ _ => rfl)) (pe_op op_mod (pe_op op_add (pe_op op_mul (pv 2) pe_int) pe_int) (pe_callB call_len_seq (by rfl) T.n_len PySem.boot_len (pa_cons (pe_ix ix_list (pv 0) pe_int (fun _ _ => rfl)) pa_nil))) (fun _ _ => rfl)) (pe_op op_add (pe_op op_pow pe_int pe_int) (pe_op op_mul pe_int (pv 2)))))) pss_nil)))
      (pss_cons (ps_asg (pe_op op_add (pv 2) pe_int) (pg_sub (pv 0) pe_int set_list))
      (pss_one (ps_asg (pe_call G__law_blend (hr.mono (by decide)) (by rfl) T.g__law_blend T.F__law_blend.kp T.b__law_blend .nil pass0 (pa_cons (pv 3) (pa_cons (pv 2) pa_nil))) (pg_sub (pv 0) pe_int set_list))))))) pss_nil)
      (pss_cons (ps_set (i := 4) nd rfl (.inl rfl) (pe_op op_mod (pe_ix ix_list (pv 0) pe_int (fun _ _ => rfl)) (pv 1)))
      (pss_cons (ps_asg (pe_op op_fdivW (pe_ix ix_list (pv 0) pe_int (fun _ _ => rfl)) (pv 1)) (pg_sub (pv 0) pe_int set_list))
      (pss_one (ps_ret (pv 4)))))), ?_⟩
    refine ⟨fun σ' H' => ∃ x2 x3 x4, σ' = [some (.ref p), some (.int upto), x2, x3, x4] ∧ ExB p H H' ∧ ∃ at2 r2 : Int, 0 ≤ at2 ∧ 0 ≤ r2 ∧ H' p = some (.lst [.ref c, .int at2, .int r2]) ∧ H' c = some (.lst (cs.map V.int)), ?_, ?_⟩
    · walk_at "rd"
      refine ite2 (fun hc1 => ?_) (fun hc1 => ?_)
      · walk_at "rd"
        refine ⟨fun σ' H' => ∃ cell : Int, σ' = [some (.ref p), some (.int upto), some (.int at'), some (.int cell), none] ∧ Evl.Ex H H', ?_, ?_⟩
        · walk_at "rd"
          refine ite2 (fun hc2 => ?_) (fun hc2 => ?_)
          · have ha : atI (cs.map V.int) at' = some (.int (cs.getD at'.toNat 0)) := atI_int h0 (by
              have := of_decide_eq_true hc2
              rw [List.length_map] at this
              omega)
            walk_at "rd"
            exact ⟨_, rfl, Evl.Ex.refl _⟩
          · walk_at "rd"
            refine ⟨Nat.zero_le _, fun q hq => ?_⟩
            have ex : Evl.Ex H (upd H q (.lst [])) := Evl.Ex.new hq
            have sp1 := Evl.ex_l ex sp
            have sc1 := Evl.ex_l ex sc
            refine ⟨_, _, dp_ints sc1, dp_ints (cs := []) (SqL.of upd_same), shaped_ints cs, shaped_ints [], ?_⟩
            walk_at "rd"
            refine ite2 (fun hc3 => ?_) (fun hc3 => ?_)
            · have hn : cs ≠ [] := by
                rintro rfl
                exact absurd hc3 (by decide)
              have hlen : 0 < cs.length := List.length_pos_iff.mpr hn
              walk_at "rd"
              refine ⟨_, _, rfl, rfl, (by rw [List.length_map]; omega), ?_⟩
              have hm0 := Int.emod_nonneg (at' * 7 + 1) (b := ((cs.map V.int).length : Int)) (by rw [List.length_map]; omega)
              have hm1 := Int.emod_lt_of_pos (at' * 7 + 1) (b := ((cs.map V.int).length : Int)) (by rw [List.length_map]; omega)
              have ha : atI (cs.map V.int) ((at' * 7 + 1) % ((cs.map V.int).length : Int)) = some (.int (cs.getD ((at' * 7 + 1) % ((cs.map V.int).length : Int)).toNat 0)) := atI_int hm0 (by
                rw [List.length_map] at hm1 ⊢
                omega)
              walk_at "rd"
              refine ⟨_, _, rfl, rfl, (by have e : (10 : Int) ^ Int.toNat 17 = 100000000000000000 := rfl; omega), ?_⟩
              exact ⟨_, rfl, ex⟩
            · walk_at "rd"
              exact ⟨_, rfl, ex⟩
        · rintro σ' H' ⟨cell, rfl, ex⟩
          have hp1 := ex p _ hp
          have sp1 := Evl.ex_l ex sp
          walk_at "rd"
          refine ⟨cell, at', rfl, h0, fun r2 hr2 => ?_⟩
          walk_at "rd"
          refine r_setL upd_same (by exact rfl) ?_
          refine ⟨_, _, _, rfl, ?_, at' + 1, r2, by omega, hr2, ?_, ?_⟩
          · exact (ExB.of ex).trans (ExB.upd.trans ExB.upd)
          · exact upd_same
          · rw [upd_ne hcp, upd_ne hcp]
            exact ex c _ hc
      · walk_at "rd"
        exact ⟨_, _, _, rfl, ExB.refl _ _, at', r, h0, hr0, hp, hc⟩
    · rintro σ' H' ⟨x2, x3, x4, rfl, ex, at2, r2, ha2, hr2, hp2, hc2⟩
      have sp2 : SqL K H' p [.ref c, .int at2, .int r2] := SqL.of hp2
      walk_at "rd"
      refine r_I (wide_div hu0 hu1 (by decide) (by decide)) ?_
      walk_at "rd"
      refine k _ _ (Int.emod_nonneg _ (by omega)) (Int.emod_lt_of_pos _ hu0) ⟨cs, at2, r2 / upto, upd_same, ?_, hcp, ha2, Int.ediv_nonneg hr2 (by omega), hl⟩ (ex.trans ExB.upd)
      rw [upd_ne hcp]
      exact hc2

def A_pick : Int → List V → Hp → Prop := fun u vs _ => vs = [.int u] ∧ 0 < u ∧ u.natAbs < 2 ^ 1000
def B_pick : Int → V → List (Addr × Cel) → Hp → Prop := fun u v N _ => N = [] ∧ ∃ r : Int, v = .int r ∧ 0 ≤ r ∧ r < u
theorem PotS.c {F H : Hp} {p : Addr} (h : PotS F H p) (fr : Evl.Ex F H) (hF : F p = none) : ∃ c, PotC H p c := by
  obtain ⟨c, cs, a, r, h1, h2, h3, h4, h5⟩ := h
  exact ⟨c, cs, a, r, h1, fr _ _ h2, Hp.ne (Hp.some_ne h2) hF, h3, h4, h5⟩
theorem ok_l_pick (T : Env K mg) : FnOk P w K mg base CX0 2 T.a__law_pick T.fd__law_pick ["pot", "many"] (SpP A_pick B_pick) := by
  refine (ok_l_pick0 T).imp fun vs H Q E h => ?_
  obtain ⟨u, F, p, r, rfl, fr, hF, hP, ⟨rfl, h0, h1⟩, k⟩ := h
  obtain ⟨c, cs, a, r, g1, g2, g3, g4, g5⟩ := hP
  have hc : c ≠ p := Hp.ne (Hp.some_ne g2) hF
  refine ⟨p, c, u, rfl, ⟨cs, a, r, g1, fr _ _ g2, hc, g3, g4, g5⟩, h0, h1, fun x H' x0 x1 P' e => ?_⟩
  obtain ⟨cs', a', r', q1, q2, q3, q4, q5, q6⟩ := P'
  have q2' := e c _ hc (fr _ _ g2)
  rw [q2] at q2'
  have q2' := HO.lst.inj (Option.some.inj q2')
  refine k (.int x) [] F H' ⟨fun b o hb n => e b o (by simpa using n) hb, fun b hb => ?_, Evl.Ex.refl _, fun b hb => .inl hb, fun b o hb => e b o (Hp.ne (Hp.some_ne hb) hF) (fr _ _ hb), fun m hm => ?_, by simp⟩ ⟨rfl, x, rfl, x0, x1⟩
  · cases z : H b with
    | none => rfl
    | some o =>
      by_cases q : b = p
      · rw [q, q1] at hb; cases hb
      · rw [e b o q z] at hb; cases hb
  · rw [List.nil_append, List.mem_singleton] at hm
    subst hm
    exact ⟨⟨⟨c, cs', a', r', q1, by rw [q2']; exact g2, q4, q5, q6⟩, .inl List.mem_cons_self⟩, hF⟩

end

end
section
local macro_rules | `(tactic| walk_at "ex") => `(tactic| first | exact Evl.Ex.refl _ | assumption | ((refine' Evl.Ex.trans ?x ?y); (case y => assumption); (case x => walk_at "ex")))
local macro_rules | `(tactic| walk_at "hc") => `(tactic| first
  | assumption
  | ((refine' Sep.rdM ?S 0 ?k); (case S => assumption); (case k => exact rfl)) | ((refine' Sep.rdM ?S 1 ?k); (case S => assumption); (case k => exact rfl)) | ((refine' Sep.rdM ?S 2 ?k); (case S => assumption); (case k => exact rfl)) | ((refine' Sep.rdM ?S 3 ?k); (case S => assumption); (case k => exact rfl)) | ((refine' Sep.rdM ?S 4 ?k); (case S => assumption); (case k => exact rfl))
  | ((refine' Sep.rdC ?S ?e ?h); (case S => assumption); (case h => assumption); (case e => walk_at "ex")))
local macro_rules | `(tactic| walk_at "hl") => `(tactic| first
  | assumption
  | ((refine' SqL.of (Sep.rdM ?S 0 ?k)); (case S => assumption); (case k => exact rfl)) | ((refine' SqL.of (Sep.rdM ?S 1 ?k)); (case S => assumption); (case k => exact rfl)) | ((refine' SqL.of (Sep.rdM ?S 2 ?k)); (case S => assumption); (case k => exact rfl)) | ((refine' SqL.of (Sep.rdM ?S 3 ?k)); (case S => assumption); (case k => exact rfl)) | ((refine' SqL.of (Sep.rdM ?S 4 ?k)); (case S => assumption); (case k => exact rfl))
  | ((refine' Sep.rdL ?S ?e ?h); (case S => assumption); (case h => assumption); (case e => walk_at "ex"))
  | ((refine' Sep.rdT ?S ?e ?h); (case S => assumption); (case h => assumption); (case e => walk_at "ex"))
  | ((refine' SqL.of (Sep.rdC ?S ?e ?h)); (case S => assumption); (case h => assumption); (case e => walk_at "ex"))
  | ((refine' SqT.of (Sep.rdC ?S ?e ?h)); (case S => assumption); (case h => assumption); (case e => walk_at "ex"))
  | ((refine' SqL.of ?h); (case h => assumption)) | ((refine' SqT.of ?h); (case h => assumption))
  | ((refine' Evl.ex_l ?e ?h); (case h => assumption); (case e => walk_at "ex")) | ((refine' Evl.ex_t ?e ?h); (case h => assumption); (case e => walk_at "ex"))
  | ((refine' SqL.of (?e _ _ ?h)); (case h => assumption); (case e => walk_at "ex")) | ((refine' SqT.of (?e _ _ ?h)); (case h => assumption); (case e => walk_at "ex")))
local macro_rules | `(tactic| walk_at "hs") => `(tactic| walk_at "hc")
local macro_rules | `(tactic| walk_at "dp") => `(tactic| first
  | assumption
  | ((refine' Sep.rdD ?S ?e ?h); (case S => assumption); (case h => assumption); (case e => walk_at "ex"))
  | ((refine' Dp.ex ?e _ _ ?h); (case h => assumption); (case e => walk_at "ex"))
  | ((refine' DpAll.ex ?e _ _ ?h); (case h => assumption); (case e => walk_at "ex"))
  | (refine' dp_intsD ?h; (case h => walk_at "hl")))
local macro_rules | `(tactic| walk_at "rd1") => `(tactic| (first
  | (with_reducible refine r_seq ?_)
  | (with_reducible refine r_asg ?_)
  | (with_reducible refine r_asgG ?_)
  | (with_reducible refine r_par ?_)
  | (with_reducible refine r_if ?_)
  | (with_reducible refine r_ret ?_)
  | (with_reducible refine r_drop ?_)
  | (with_reducible refine r_next ?_)
  | ((with_reducible refine' r_var ?hx ?_); (case hx => exact rfl))
  | (with_reducible refine r_c ?_)
  | (with_reducible refine r_op ?_)
  | (with_reducible refine r_un ?_)
  | (with_reducible refine r_I0 ?_)
  | ((with_reducible refine' r_I ?_ ?_); (· first | (show (0 : Int) < _; omega) | exact Or.inr ⟨by omega, by omega⟩ | exact Or.inl ⟨by omega, by omega⟩ | exact ⟨by omega, by omega, by decide⟩))
  | (with_reducible refine r_U ?_)
  | (with_reducible refine r_test ?_)
  | (with_reducible refine r_B ?_)
  | (with_reducible refine r_bl ?_)
  | (with_reducible refine r_eqI ?_)
  | (with_reducible refine r_neI ?_)
  | ((with_reducible refine' r_eq ?_ ?_); (· exact rfl))
  | ((with_reducible refine' r_ne ?_ ?_); (· exact rfl))
  | (with_reducible refine r_nil ?_)
  | (with_reducible refine r_cons ?_)
  | (with_reducible refine s_tup ?_)
  | (with_reducible refine s_lst ?_)
  | (with_reducible refine r_call ?_)
  | (with_reducible refine r_cb ?_)
  | (with_reducible refine r_and ?_)
  | (with_reducible refine r_or ?_)
  | (with_reducible refine r_not ?_)
  | (with_reducible refine r_andV ?_)
  | (with_reducible refine r_orV ?_)
  | (with_reducible refine r_notV ?_)
  | (with_reducible refine r_ifE ?_)
  | (with_reducible refine r_gSub ?_)
  | (with_reducible refine r_sadd ?_)
  | (with_reducible refine s_lstRg ?_)
  | (with_reducible refine r_rg1 ?_)
  | (with_reducible refine r_min2 ?_)
  | (with_reducible refine r_par2 ?_)
  | (with_reducible refine r_partI ?_)
  | (with_reducible refine s_lc ?_)
  | (with_reducible refine s_dc ?_)
  | (with_reducible refine r_yes ?_)
  | (with_reducible refine r_iZipA ?_)
  | (with_reducible refine r_isN ?_)
  | (with_reducible refine r_for ?_)
  | (with_reducible refine r_iList ?_)
  | (with_reducible refine r_iTup ?_)
  | (with_reducible refine r_iRng1 ?_)
  | (with_reducible refine r_iRng2 ?_)
  | (with_reducible refine r_iEnum ?_)
  | (with_reducible refine r_iZip ?_)
  | (with_reducible refine r_gName ?_)
  | (with_reducible refine r_isNV ?_)
  | (with_reducible refine r_notNV ?_)
  | (with_reducible refine r_bm ?_)
  | (with_reducible refine r_bm0 ?_)
  | (with_reducible refine r_sl ?_)
  | (with_reducible refine r_noPart ?_)
  | (with_reducible refine r_part ?_)
  | (with_reducible refine r_chain ?_)
  | (with_reducible refine r_iKeys ?_)
  | (with_reducible refine r_iItems ?_)
  | (with_reducible refine r_frz ?_)
  | (with_reducible refine r_dput ?_)
  | (with_reducible refine r_dget ?_)
  | (with_reducible refine r_din ?_)
  | (with_reducible refine r_dnotin ?_)
  | (with_reducible refine r_break ?_)
  | ((with_reducible refine' r_sIn ?h ?_); (case h => walk_at "hs"))
  | ((with_reducible refine' r_sNotIn ?h ?_); (case h => walk_at "hs"))
  | ((with_reducible refine' r_inI ?h ?_); (case h => walk_at "hl"))
  | ((with_reducible refine' r_notInI ?h ?_); (case h => walk_at "hl"))
  | ((with_reducible refine' r_eqNil ?h ?g ?_); (case h => walk_at "hl"); (case g => walk_at "hl"))
  | ((with_reducible refine' r_neNil ?h ?g ?_); (case h => walk_at "hl"); (case g => walk_at "hl"))
  | ((with_reducible refine' iteRT ?hh ?_); (case hh => exact rfl))
  | ((with_reducible refine' iteRF ?hh ?_); (case hh => exact rfl))
  | ((with_reducible refine' r_isiT ?ty ?hk ?_); (case ty => (first | assumption | exact tyx_L (by assumption) | exact tyx_T (by assumption) | exact .base (.non) | exact .base (.bl _) | exact .base (.int _) | exact .base (.str _) | exact tyx_L (by walk_at "hl") | exact tyx_T (by walk_at "hl"))); (case hk => decide +kernel))
  | ((with_reducible refine' r_isiF ?ty ?hk ?_); (case ty => (first | assumption | exact tyx_L (by assumption) | exact tyx_T (by assumption) | exact .base (.non) | exact .base (.bl _) | exact .base (.int _) | exact .base (.str _) | exact tyx_L (by walk_at "hl") | exact tyx_T (by walk_at "hl"))); (case hk => decide +kernel))
  | ((with_reducible refine' r_gTup2 ?hn ?hs ?_); (case hn => exact rfl); (case hs => walk_at "hl"))
  | ((with_reducible refine' s_list ?hl ?_); (case hl => first | exact Or.inl (by walk_at "hl") | exact Or.inr (by walk_at "hl")))
  | ((with_reducible refine' s_tupN ?hl ?_); (case hl => walk_at "hl"))
  | ((with_reducible refine' s_sortN ?hl ?_); (case hl => walk_at "hl"))
  | ((refine' ⟨_, _, rfl, ?hl, ?_⟩); (case hl => first | exact Or.inl (by walk_at "hl") | exact Or.inr (by walk_at "hl")))
  | ((with_reducible refine' r_ixL ?hl ?ha ?_); (case hl => walk_at "hl"); (case ha => first | exact rfl | assumption))
  | ((with_reducible refine' r_ixT ?hl ?ha ?_); (case hl => walk_at "hl"); (case ha => first | exact rfl | assumption))))
local macro_rules | `(tactic| walk_at "rd") => `(tactic| repeat (walk_at "rd1"))

section
variable {P : Program} {w : World} {K : PySem.W.Frag} {mg : Str → Option Value} {base : Heap}

def A_pot (K : PySem.W.Frag) : List Int → List V → Hp → Prop := fun ns vs F => ∃ a, vs = [.ref a] ∧ SqL K F a (ns.map V.int) ∧ ns.length ≤ 63
def B_pot : List Int → V → List (Addr × Cel) → Hp → Prop := fun _ v N _ => ∃ p, v = .ref p ∧ N = [(p, .pot)]
theorem ok_l_pot (T : Env K mg) : FnOk P w K mg base CX0 1 T.a__law_pot T.fd__law_pot ["script"] (SpF (A_pot K) B_pot) := by
  have nd := sc__law_pot.nd
  refine T.F__law_pot.ok sc__law_pot (fun vs H Q E h => ?_) (fun cdv A outer s H vs Q E hr h => ?_)
  · obtain ⟨x, F, _, ⟨a, rfl, _⟩, _⟩ := h
    rfl
  · obtain ⟨ns, F, fr, ⟨a, rfl, hS, hl⟩, k⟩ := h
    have S := Sep.start0 fr
    refine ⟨_, (pss_cons (ps_set (i := 1) nd rfl (.inl rfl) (pe_callTy call_listN (by rfl) T.n_list (by decide +kernel) (pa_cons (pe_slice sl_list (pv 0) po_none (po_some pe_int)) pa_nil)))
      (pss_cons (ps_for PassesOwn.never rfl (pi_enum (by rfl) T.n_enumerate (pa_cons (pe_slice sl_list (pv 0) (po_some pe_int) (po_some pe_int)) pa_nil)) (pg_tup rfl (pgs_cons (pg_name (i := 2) nd rfl (.inl rfl)) (pgs_cons (pg_name (i := 3) nd rfl (.inl rfl)) pgs_nil))) (pss_one (ps_asg (pe_op op_add (pe_ix ix_list (pv 1) (pe_op op_mod (pv 2) pe_int) (fun _ _ => rfl)) (pv 3)) (pg_sub (pv 1) (pe_op op_mod (pv 2) pe_int) set_list))))
      (pss_one (ps_ret (pe_lst (pa_cons (pv 1) (pa_cons pe_int (pa_cons pe_int pa_nil)))))))), ?_⟩
    walk_at "rd"
    refine s_slL (by walk_at "hl") (s_new S fun q F1 H1 S e1 c1 => ?_)
    walk_at "rd"
    refine s_own S fun c H2 S => ?_
    walk_at "rd"
    refine s_slL (by walk_at "hl") (s_new S fun q2 F3 H3 S e3 c3 => ?_)
    refine ⟨q2, _, rfl, by walk_at "hl", ?_⟩
    have e12 : cutV (ns.map V.int) none (some 12) = (ns.take 12).map V.int := by
      rw [cutV_map, show ((12 : Int)) = ((12 : Nat) : Int) from rfl, cutG_take]
    have e63 : cutV (ns.map V.int) (some 12) (some 63) = (cutG ns (some 12) (some 63)).map V.int := cutV_map ..
    have l63 := (cutG_len ns 12 63).2
    rw [e12] at S
    rw [e63] at c3
    refine s_forE (fun i σ' F' M' => ∃ (x2 x3 : Option V) (cs : List Int), σ' = [some (.ref a), some (.ref c), x2, x3] ∧ M' = [(c, .is (.lst (cs.map V.int)))] ∧ cs.length = (ns.take 12).length) S (SqL.of c3) ⟨none, none, ns.take 12, rfl, rfl, rfl⟩ ?_ ?_
    · rintro i x t σ' F4 F5 H5 M' ei S e4 e5 ct ⟨x2, x3, cs, rfl, rfl, h2⟩
      rw [List.getElem?_map] at ei
      cases e : (cutG ns (some 12) (some 63))[i]? with
      | none => rw [e] at ei; cases ei
      | some z =>
        rw [e] at ei
        cases ei
        have hlen : cs.length = 12 := by
          rw [h2, List.length_take]
          have : ¬ ns.length ≤ 12 := fun q => by
            have l := l63 q
            have lt := (List.getElem?_eq_some_iff.mp e).1
            have e1 : ((12 : Nat) : Int) = 12 := rfl
            have e2 : ((63 : Nat) : Int) = 63 := rfl
            rw [e1, e2] at l
            omega
          omega
        have ha : atI (cs.map V.int) ((i : Int) % 12) = some (.int (cs.getD ((i : Int) % 12).toNat 0)) := atI_int (by omega) (by omega)
        have hx : ixN (cs.map V.int).length ((i : Int) % 12) = some ((i : Int) % 12).toNat := by
          unfold ixN
          rw [if_pos (by omega), if_pos (by rw [List.length_map]; omega)]
        walk_at "rd"
        refine s_setL S 0 rfl hx fun H6 S => ?_
        refine ⟨F5, _, S, e4.trans e5, _, _, cs.set ((i : Int) % 12).toNat (cs.getD ((i : Int) % 12).toNat 0 + z), rfl, ?_, by rw [List.length_set]; exact h2⟩
        rw [List.map_set]
        rfl
    · rintro σ' F4 H4 M' S e4 ⟨x2, x3, cs, rfl, rfl, h2⟩
      walk_at "rd"
      obtain ⟨F5, S, e5, cc⟩ := S.frz 0 rfl
      refine ⟨(by show 3 ≤ sizeLine; decide), s_own S fun p H5 S => ?_⟩
      have S := S.topot 0 rfl ⟨c, cs, 0, 0, S.rdM 0 rfl, cc, Int.le_refl _, Int.le_refl _, by rw [h2, List.length_take]; omega⟩
      exact k _ _ _ _ S ⟨p, rfl, rfl⟩

end

end
section
local macro_rules | `(tactic| walk_at "ex") => `(tactic| first | exact Evl.Ex.refl _ | assumption | ((refine' Evl.Ex.trans ?x ?y); (case y => assumption); (case x => walk_at "ex")))
local macro_rules | `(tactic| walk_at "hc") => `(tactic| first
  | assumption
  | ((refine' Sep.rdM ?S 0 ?k); (case S => assumption); (case k => exact rfl)) | ((refine' Sep.rdM ?S 1 ?k); (case S => assumption); (case k => exact rfl)) | ((refine' Sep.rdM ?S 2 ?k); (case S => assumption); (case k => exact rfl)) | ((refine' Sep.rdM ?S 3 ?k); (case S => assumption); (case k => exact rfl)) | ((refine' Sep.rdM ?S 4 ?k); (case S => assumption); (case k => exact rfl))
  | ((refine' Sep.rdC ?S ?e ?h); (case S => assumption); (case h => assumption); (case e => walk_at "ex")))
local macro_rules | `(tactic| walk_at "hl") => `(tactic| first
  | assumption
  | ((refine' SqL.of (Sep.rdM ?S 0 ?k)); (case S => assumption); (case k => exact rfl)) | ((refine' SqL.of (Sep.rdM ?S 1 ?k)); (case S => assumption); (case k => exact rfl)) | ((refine' SqL.of (Sep.rdM ?S 2 ?k)); (case S => assumption); (case k => exact rfl)) | ((refine' SqL.of (Sep.rdM ?S 3 ?k)); (case S => assumption); (case k => exact rfl)) | ((refine' SqL.of (Sep.rdM ?S 4 ?k)); (case S => assumption); (case k => exact rfl))
  | ((refine' Sep.rdL ?S ?e ?h); (case S => assumption); (case h => assumption); (case e => walk_at "ex"))
  | ((refine' Sep.rdT ?S ?e ?h); (case S => assumption); (case h => assumption); (case e => walk_at "ex"))
  | ((refine' SqL.of (Sep.rdC ?S ?e ?h)); (case S => assumption); (case h => assumption); (case e => walk_at "ex"))
  | ((refine' SqT.of (Sep.rdC ?S ?e ?h)); (case S => assumption); (case h => assumption); (case e => walk_at "ex"))
  | ((refine' SqL.of ?h); (case h => assumption)) | ((refine' SqT.of ?h); (case h => assumption))
  | ((refine' Evl.ex_l ?e ?h); (case h => assumption); (case e => walk_at "ex")) | ((refine' Evl.ex_t ?e ?h); (case h => assumption); (case e => walk_at "ex"))
  | ((refine' SqL.of (?e _ _ ?h)); (case h => assumption); (case e => walk_at "ex")) | ((refine' SqT.of (?e _ _ ?h)); (case h => assumption); (case e => walk_at "ex")))
local macro_rules | `(tactic| walk_at "hs") => `(tactic| walk_at "hc")
local macro_rules | `(tactic| walk_at "dp") => `(tactic| first
  | assumption
  | ((refine' Sep.rdD ?S ?e ?h); (case S => assumption); (case h => assumption); (case e => walk_at "ex"))
  | ((refine' Dp.ex ?e _ _ ?h); (case h => assumption); (case e => walk_at "ex"))
  | ((refine' DpAll.ex ?e _ _ ?h); (case h => assumption); (case e => walk_at "ex"))
  | (refine' dp_intsD ?h; (case h => walk_at "hl")))
local macro_rules | `(tactic| walk_at "rd1") => `(tactic| (first
  | (with_reducible refine r_seq ?_)
  | (with_reducible refine r_asg ?_)
  | (with_reducible refine r_asgG ?_)
  | (with_reducible refine r_par ?_)
  | (with_reducible refine r_if ?_)
  | (with_reducible refine r_ret ?_)
  | (with_reducible refine r_drop ?_)
  | (with_reducible refine r_next ?_)
  | ((with_reducible refine' r_var ?hx ?_); (case hx => exact rfl))
  | (with_reducible refine r_c ?_)
  | (with_reducible refine r_op ?_)
  | (with_reducible refine r_un ?_)
  | (with_reducible refine r_I0 ?_)
  | ((with_reducible refine' r_I ?_ ?_); (· first | (show (0 : Int) < _; omega) | exact Or.inr ⟨by omega, by omega⟩ | exact Or.inl ⟨by omega, by omega⟩ | exact ⟨by omega, by omega, by decide⟩))
  | (with_reducible refine r_U ?_)
  | (with_reducible refine r_test ?_)
  | (with_reducible refine r_B ?_)
  | (with_reducible refine r_bl ?_)
  | (with_reducible refine r_eqI ?_)
  | (with_reducible refine r_neI ?_)
  | ((with_reducible refine' r_eq ?_ ?_); (· exact rfl))
  | ((with_reducible refine' r_ne ?_ ?_); (· exact rfl))
  | (with_reducible refine r_nil ?_)
  | (with_reducible refine r_cons ?_)
  | (with_reducible refine s_tup ?_)
  | (with_reducible refine s_lst ?_)
  | (with_reducible refine r_call ?_)
  | (with_reducible refine r_cb ?_)
  | (with_reducible refine r_and ?_)
  | (with_reducible refine r_or ?_)
  | (with_reducible refine r_not ?_)
  | (with_reducible refine r_andV ?_)
  | (with_reducible refine r_orV ?_)
  | (with_reducible refine r_notV ?_)
  | (with_reducible refine r_ifE ?_)
  | (with_reducible refine r_gSub ?_)
  | (with_reducible refine r_sadd ?_)
  | (with_reducible refine s_lstRg ?_)
  | (with_reducible refine r_rg1 ?_)
  | (with_reducible refine r_min2 ?_)
  | (with_reducible refine r_par2 ?_)
  | (with_reducible refine r_partI ?_)
  | (with_reducible refine s_lc ?_)
  | (with_reducible refine s_dc ?_)
  | (with_reducible refine r_yes ?_)
  | (with_reducible refine r_iZipA ?_)
  | (with_reducible refine r_isN ?_)
  | (with_reducible refine r_for ?_)
  | (with_reducible refine r_iList ?_)
  | (with_reducible refine r_iTup ?_)
  | (with_reducible refine r_iRng1 ?_)
  | (with_reducible refine r_iRng2 ?_)
  | (with_reducible refine r_iEnum ?_)
  | (with_reducible refine r_iZip ?_)
  | (with_reducible refine r_gName ?_)
  | (with_reducible refine r_isNV ?_)
  | (with_reducible refine r_notNV ?_)
  | (with_reducible refine r_bm ?_)
  | (with_reducible refine r_bm0 ?_)
  | (with_reducible refine r_sl ?_)
  | (with_reducible refine r_noPart ?_)
  | (with_reducible refine r_part ?_)
  | (with_reducible refine r_chain ?_)
  | (with_reducible refine r_iKeys ?_)
  | (with_reducible refine r_iItems ?_)
  | (with_reducible refine r_frz ?_)
  | (with_reducible refine r_dput ?_)
  | (with_reducible refine r_dget ?_)
  | (with_reducible refine r_din ?_)
  | (with_reducible refine r_dnotin ?_)
  | (with_reducible refine r_break ?_)
  | ((with_reducible refine' r_sIn ?h ?_); (case h => walk_at "hs"))
  | ((with_reducible refine' r_sNotIn ?h ?_); (case h => walk_at "hs"))
  | ((with_reducible refine' r_inI ?h ?_); (case h => walk_at "hl"))
  | ((with_reducible refine' r_notInI ?h ?_); (case h => walk_at "hl"))
  | ((with_reducible refine' r_eqNil ?h ?g ?_); (case h => walk_at "hl"); (case g => walk_at "hl"))
  | ((with_reducible refine' r_neNil ?h ?g ?_); (case h => walk_at "hl"); (case g => walk_at "hl"))
  | ((with_reducible refine' iteRT ?hh ?_); (case hh => exact rfl))
  | ((with_reducible refine' iteRF ?hh ?_); (case hh => exact rfl))
  | ((with_reducible refine' r_isiT ?ty ?hk ?_); (case ty => (first | assumption | exact tyx_L (by assumption) | exact tyx_T (by assumption) | exact .base (.non) | exact .base (.bl _) | exact .base (.int _) | exact .base (.str _) | exact tyx_L (by walk_at "hl") | exact tyx_T (by walk_at "hl"))); (case hk => decide +kernel))
  | ((with_reducible refine' r_isiF ?ty ?hk ?_); (case ty => (first | assumption | exact tyx_L (by assumption) | exact tyx_T (by assumption) | exact .base (.non) | exact .base (.bl _) | exact .base (.int _) | exact .base (.str _) | exact tyx_L (by walk_at "hl") | exact tyx_T (by walk_at "hl"))); (case hk => decide +kernel))
  | ((with_reducible refine' r_gTup2 ?hn ?hs ?_); (case hn => exact rfl); (case hs => walk_at "hl"))
  | ((with_reducible refine' s_list ?hl ?_); (case hl => first | exact Or.inl (by walk_at "hl") | exact Or.inr (by walk_at "hl")))
  | ((with_reducible refine' s_tupN ?hl ?_); (case hl => walk_at "hl"))
  | ((with_reducible refine' s_sortN ?hl ?_); (case hl => walk_at "hl"))
  | ((refine' ⟨_, _, rfl, ?hl, ?_⟩); (case hl => first | exact Or.inl (by walk_at "hl") | exact Or.inr (by walk_at "hl")))
  | ((with_reducible refine' r_ixL ?hl ?ha ?_); (case hl => walk_at "hl"); (case ha => first | exact rfl | assumption))
  | ((with_reducible refine' r_ixT ?hl ?ha ?_); (case hl => walk_at "hl"); (case ha => first | exact rfl | assumption))))
local macro_rules | `(tactic| walk_at "rd") => `(tactic| repeat (walk_at "rd1"))

section
variable {P : Program} {w : World} {K : PySem.W.Frag} {mg : Str → Option Value} {base : Heap}

def A_order : Int → List V → Hp → Prop := fun many vs _ => vs = [.int many] ∧ 0 ≤ many ∧ many ≤ 60
def B_order : Int → V → List (Addr × Cel) → Hp → Prop := fun many v N _ => ∃ (q : Addr) (os : List Int), v = .ref q ∧ N = [(q, .is (.lst (os.map V.int)))] ∧ os.Perm (rgI many)
theorem ins_perm (xs : List Int) (i : Nat) (x : Int) : (xs.take i ++ [x] ++ xs.drop i).Perm (xs ++ [x]) := by
  have h : (xs.take i ++ ([x] ++ xs.drop i)).Perm (xs.take i ++ (xs.drop i ++ [x])) := List.Perm.append_left _ List.perm_append_comm
  rw [← List.append_assoc, ← List.append_assoc, List.take_append_drop] at h
  exact h
theorem rgI_snoc {n : Nat} : rgI ((n : Int) + 1) = rgI (n : Int) ++ [(n : Int)] := by
  unfold rgI
  rw [show ((n : Int) + 1).toNat = n + 1 by omega, show ((n : Int)).toNat = n by omega, List.range_succ, List.map_append]
  rfl
theorem ok_l_order (T : Env K mg) : FnOk P w K mg base CX0 3 T.a__law_order T.fd__law_order ["pot", "many"] (SpP A_order B_order) := by
  have nd := sc__law_order.nd
  have G__law_pick : FnOk P w K mg base CX0 2 T.a__law_pick T.fd__law_pick ["pot", "many"] (SpP A_pick B_pick) := ok_l_pick T
  refine T.F__law_order.ok sc__law_order (fun vs H Q E h => ?_) (fun cdv A outer s H vs Q E hr h => ?_)
  · obtain ⟨x, F, p, r, rfl, _, _, _, ⟨rfl, _⟩, _⟩ := h
    rfl
  · obtain ⟨many, F, p, r, rfl, fr, hF, hP, ⟨rfl, hm1, hm2⟩, k⟩ := h
    have S := Sep.startP fr hF hP
    refine ⟨_, (pss_cons (ps_set (i := 2) nd rfl (.inl rfl) (pe_lst pa_nil))
      (pss_cons (ps_for PassesOwn.never rfl (pi_range1 (by rfl) T.n_range (pa_cons (pv 1) pa_nil)) (pg_name (i := 3) nd rfl (.inl rfl)) (pss_one (ps_expr (pe_bm PySem.F.plainAttrs_list PySem.F.slot_list_insert PySem.F.type_list_insert mt_ins (pv 2) (pa_cons (pe_call G__law_pick (hr.mono (by decide)) (by rfl) T.g__law_pick T.F__law_pick.kp T.b__law_pick .nil pass0 (pa_cons (pv 0) (pa_cons (pe_op op_add (pv 3) pe_int) pa_nil))) (pa_cons (pv 3) pa_nil))))))
      (pss_one (ps_ret (pv 2))))), ?_⟩
    walk_at "rd"
    refine ⟨Nat.zero_le _, s_own S fun q H1 S => ?_⟩
    walk_at "rd"
    refine ⟨many, rfl, by omega, by omega, ?_⟩
    refine s_forR (fun i σ' F' M' => ∃ (x3 : Option V) (os : List Int), σ' = [some (.ref p), some (.int many), some (.ref q), x3] ∧ M' = [(q, .is (.lst (os.map V.int))), (p, .pot)] ∧ os.Perm (rgI (i : Int))) S ⟨none, [], rfl, rfl, List.Perm.refl _⟩ ?_ ?_
    · rintro i σ' F1 H2 M' hi S e1 ⟨x3, os, rfl, rfl, h1⟩
      have hl : os.length = i := by rw [h1.length_eq, rgI_len]; omega
      walk_at "rd"
      refine ⟨tyL (by walk_at "hl"), ?_⟩
      walk_at "rd"
      refine r_callP S 1 rfl _ ⟨rfl, by omega, small_up (by omega) (by omega)⟩ fun v N F2 H3 S e2 ⟨z, r, ev, hr0, hr1⟩ => ?_
      subst z ev
      walk_at "rd"
      refine s_insert S 0 rfl (by rw [List.length_map]; omega) hr0 (by omega) fun H4 S => ?_
      refine ⟨_, _, S, by walk_at "ex", _, os.take r.toNat ++ [(0 + (i : Int))] ++ os.drop r.toNat, rfl, ?_, ?_⟩
      · show [(q, Cel.is (.lst (List.take r.toNat (os.map V.int) ++ [V.int (0 + (i : Int))] ++ List.drop r.toNat (os.map V.int)))), (p, Cel.pot)] = _
        rw [List.map_append, List.map_append, List.map_take, List.map_drop]
        rfl
      · rw [show ((i + 1 : Nat) : Int) = (i : Int) + 1 by omega, rgI_snoc, show (0 + (i : Int)) = (i : Int) by omega]
        exact (ins_perm os _ _).trans (List.Perm.append_right _ h1)
    · rintro σ' F1 H2 M' S e1 ⟨x3, os, rfl, rfl, h1⟩
      walk_at "rd"
      refine k _ [(q, .is (.lst (os.map V.int)))] _ _ S ⟨q, os, rfl, rfl, ?_⟩
      rw [show ((many.toNat : Nat) : Int) = many by omega] at h1
      exact h1

end

end
section
local macro_rules | `(tactic| walk_at "ex") => `(tactic| first | exact Evl.Ex.refl _ | assumption | ((refine' Evl.Ex.trans ?x ?y); (case y => assumption); (case x => walk_at "ex")))
local macro_rules | `(tactic| walk_at "hc") => `(tactic| first
  | assumption
  | ((refine' Sep.rdM ?S 0 ?k); (case S => assumption); (case k => exact rfl)) | ((refine' Sep.rdM ?S 1 ?k); (case S => assumption); (case k => exact rfl)) | ((refine' Sep.rdM ?S 2 ?k); (case S => assumption); (case k => exact rfl)) | ((refine' Sep.rdM ?S 3 ?k); (case S => assumption); (case k => exact rfl)) | ((refine' Sep.rdM ?S 4 ?k); (case S => assumption); (case k => exact rfl))
  | ((refine' Sep.rdC ?S ?e ?h); (case S => assumption); (case h => assumption); (case e => walk_at "ex")))
local macro_rules | `(tactic| walk_at "hl") => `(tactic| first
  | assumption
  | ((refine' SqL.of (Sep.rdM ?S 0 ?k)); (case S => assumption); (case k => exact rfl)) | ((refine' SqL.of (Sep.rdM ?S 1 ?k)); (case S => assumption); (case k => exact rfl)) | ((refine' SqL.of (Sep.rdM ?S 2 ?k)); (case S => assumption); (case k => exact rfl)) | ((refine' SqL.of (Sep.rdM ?S 3 ?k)); (case S => assumption); (case k => exact rfl)) | ((refine' SqL.of (Sep.rdM ?S 4 ?k)); (case S => assumption); (case k => exact rfl))
  | ((refine' Sep.rdL ?S ?e ?h); (case S => assumption); (case h => assumption); (case e => walk_at "ex"))
  | ((refine' Sep.rdT ?S ?e ?h); (case S => assumption); (case h => assumption); (case e => walk_at "ex"))
  | ((refine' SqL.of (Sep.rdC ?S ?e ?h)); (case S => assumption); (case h => assumption); (case e => walk_at "ex"))
  | ((refine' SqT.of (Sep.rdC ?S ?e ?h)); (case S => assumption); (case h => assumption); (case e => walk_at "ex"))
  | ((refine' SqL.of ?h); (case h => assumption)) | ((refine' SqT.of ?h); (case h => assumption))
  | ((refine' Evl.ex_l ?e ?h); (case h => assumption); (case e => walk_at "ex")) | ((refine' Evl.ex_t ?e ?h); (case h => assumption); (case e => walk_at "ex"))
  | ((refine' SqL.of (?e _ _ ?h)); (case h => assumption); (case e => walk_at "ex")) | ((refine' SqT.of (?e _ _ ?h)); (case h => assumption); (case e => walk_at "ex")))
local macro_rules | `(tactic| walk_at "hs") => `(tactic| walk_at "hc")
local macro_rules | `(tactic| walk_at "dp") => `(tactic| first
  | assumption
  | ((refine' Sep.rdD ?S ?e ?h); (case S => assumption); (case h => assumption); (case e => walk_at "ex"))
  | ((refine' Dp.ex ?e _ _ ?h); (case h => assumption); (case e => walk_at "ex"))
  | ((refine' DpAll.ex ?e _ _ ?h); (case h => assumption); (case e => walk_at "ex"))
  | (refine' dp_intsD ?h; (case h => walk_at "hl")))
local macro_rules | `(tactic| walk_at "rd1") => `(tactic| (first
  | (with_reducible refine r_seq ?_)
  | (with_reducible refine r_asg ?_)
  | (with_reducible refine r_asgG ?_)
  | (with_reducible refine r_par ?_)
  | (with_reducible refine r_if ?_)
  | (with_reducible refine r_ret ?_)
  | (with_reducible refine r_drop ?_)
  | (with_reducible refine r_next ?_)
  | ((with_reducible refine' r_var ?hx ?_); (case hx => exact rfl))
  | (with_reducible refine r_c ?_)
  | (with_reducible refine r_op ?_)
  | (with_reducible refine r_un ?_)
  | (with_reducible refine r_I0 ?_)
  | ((with_reducible refine' r_I ?_ ?_); (· first | (show (0 : Int) < _; omega) | exact Or.inr ⟨by omega, by omega⟩ | exact Or.inl ⟨by omega, by omega⟩ | exact ⟨by omega, by omega, by decide⟩))
  | (with_reducible refine r_U ?_)
  | (with_reducible refine r_test ?_)
  | (with_reducible refine r_B ?_)
  | (with_reducible refine r_bl ?_)
  | (with_reducible refine r_eqI ?_)
  | (with_reducible refine r_neI ?_)
  | ((with_reducible refine' r_eq ?_ ?_); (· exact rfl))
  | ((with_reducible refine' r_ne ?_ ?_); (· exact rfl))
  | (with_reducible refine r_nil ?_)
  | (with_reducible refine r_cons ?_)
  | (with_reducible refine s_tup ?_)
  | (with_reducible refine s_lst ?_)
  | (with_reducible refine r_call ?_)
  | (with_reducible refine r_cb ?_)
  | (with_reducible refine r_and ?_)
  | (with_reducible refine r_or ?_)
  | (with_reducible refine r_not ?_)
  | (with_reducible refine r_andV ?_)
  | (with_reducible refine r_orV ?_)
  | (with_reducible refine r_notV ?_)
  | (with_reducible refine r_ifE ?_)
  | (with_reducible refine r_gSub ?_)
  | (with_reducible refine r_sadd ?_)
  | (with_reducible refine s_lstRg ?_)
  | (with_reducible refine r_rg1 ?_)
  | (with_reducible refine r_min2 ?_)
  | (with_reducible refine r_par2 ?_)
  | (with_reducible refine r_partI ?_)
  | (with_reducible refine s_lc ?_)
  | (with_reducible refine s_dc ?_)
  | (with_reducible refine r_yes ?_)
  | (with_reducible refine r_iZipA ?_)
  | (with_reducible refine r_isN ?_)
  | (with_reducible refine r_for ?_)
  | (with_reducible refine r_iList ?_)
  | (with_reducible refine r_iTup ?_)
  | (with_reducible refine r_iRng1 ?_)
  | (with_reducible refine r_iRng2 ?_)
  | (with_reducible refine r_iEnum ?_)
  | (with_reducible refine r_iZip ?_)
  | (with_reducible refine r_gName ?_)
  | (with_reducible refine r_isNV ?_)
  | (with_reducible refine r_notNV ?_)
  | (with_reducible refine r_bm ?_)
  | (with_reducible refine r_bm0 ?_)
  | (with_reducible refine r_sl ?_)
  | (with_reducible refine r_noPart ?_)
  | (with_reducible refine r_part ?_)
  | (with_reducible refine r_chain ?_)
  | (with_reducible refine r_iKeys ?_)
  | (with_reducible refine r_iItems ?_)
  | (with_reducible refine r_frz ?_)
  | (with_reducible refine r_dput ?_)
  | (with_reducible refine r_dget ?_)
  | (with_reducible refine r_din ?_)
  | (with_reducible refine r_dnotin ?_)
  | (with_reducible refine r_break ?_)
  | ((with_reducible refine' r_sIn ?h ?_); (case h => walk_at "hs"))
  | ((with_reducible refine' r_sNotIn ?h ?_); (case h => walk_at "hs"))
  | ((with_reducible refine' r_inI ?h ?_); (case h => walk_at "hl"))
  | ((with_reducible refine' r_notInI ?h ?_); (case h => walk_at "hl"))
  | ((with_reducible refine' r_eqNil ?h ?g ?_); (case h => walk_at "hl"); (case g => walk_at "hl"))
  | ((with_reducible refine' r_neNil ?h ?g ?_); (case h => walk_at "hl"); (case g => walk_at "hl"))
  | ((with_reducible refine' iteRT ?hh ?_); (case hh => exact rfl))
  | ((with_reducible refine' iteRF ?hh ?_); (case hh => exact rfl))
  | ((with_reducible refine' r_isiT ?ty ?hk ?_); (case ty => (first | assumption | exact tyx_L (by assumption) | exact tyx_T (by assumption) | exact .base (.non) | exact .base (.bl _) | exact .base (.int _) | exact .base (.str _) | exact tyx_L (by walk_at "hl") | exact tyx_T (by walk_at "hl"))); (case hk => decide +kernel))
  | ((with_reducible refine' r_isiF ?ty ?hk ?_); (case ty => (first | assumption | exact tyx_L (by assumption) | exact tyx_T (by assumption) | exact .base (.non) | exact .base (.bl _) | exact .base (.int _) | exact .base (.str _) | exact tyx_L (by walk_at "hl") | exact tyx_T (by walk_at "hl"))); (case hk => decide +kernel))
  | ((with_reducible refine' r_gTup2 ?hn ?hs ?_); (case hn => exact rfl); (case hs => walk_at "hl"))
  | ((with_reducible refine' s_list ?hl ?_); (case hl => first | exact Or.inl (by walk_at "hl") | exact Or.inr (by walk_at "hl")))
  | ((with_reducible refine' s_tupN ?hl ?_); (case hl => walk_at "hl"))
  | ((with_reducible refine' s_sortN ?hl ?_); (case hl => walk_at "hl"))
  | ((refine' ⟨_, _, rfl, ?hl, ?_⟩); (case hl => first | exact Or.inl (by walk_at "hl") | exact Or.inr (by walk_at "hl")))
  | ((with_reducible refine' r_ixL ?hl ?ha ?_); (case hl => walk_at "hl"); (case ha => first | exact rfl | assumption))
  | ((with_reducible refine' r_ixT ?hl ?ha ?_); (case hl => walk_at "hl"); (case ha => first | exact rfl | assumption))))
local macro_rules | `(tactic| walk_at "rd") => `(tactic| repeat (walk_at "rd1"))

section
variable {P : Program} {w : World} {K : PySem.W.Frag} {mg : Str → Option Value} {base : Heap}

def A_web : Int → List V → Hp → Prop := fun most vs _ => vs = [.int most] ∧ 1 ≤ most ∧ most ≤ 60
def B_web (K : PySem.W.Frag) : Int → V → List (Addr × Cel) → Hp → Prop := fun most v N F => N = [] ∧ ∃ many ties, many ≤ most ∧ WebOk many ties ∧ Dp K F v (webD many ties)
/-- pairs that were drawn row by row, up to (i, j) -/
structure Upto (many : Int) (ps : List (Int × Int)) (i j : Int) : Prop where
  up : ps.Pairwise Lx
  lt : ∀ t ∈ ps, Lx t (i, j)
  ok : ∀ t ∈ ps, 0 ≤ t.1 ∧ t.1 < t.2 ∧ t.2 < many
theorem Upto.mono {many : Int} {ps : List (Int × Int)} {i j i' j' : Int} (h : Upto many ps i j) (e : i < i' ∨ (i = i' ∧ j ≤ j')) : Upto many ps i' j' :=
  ⟨h.up, fun t ht => by have := h.lt t ht; unfold Lx at *; simp only at *; omega, h.ok⟩
theorem Upto.snoc {many : Int} {ps : List (Int × Int)} {i j : Int} (h : Upto many ps i j) (h0 : 0 ≤ i) (h1 : i < j) (h2 : j < many) : Upto many (ps ++ [(i, j)]) i (j + 1) := by
  refine ⟨List.pairwise_append.mpr ⟨h.up, List.pairwise_singleton _ _, fun a ha b hb => by rw [List.mem_singleton.mp hb]; exact h.lt a ha⟩, fun t ht => ?_, fun t ht => ?_⟩
  · rcases List.mem_append.mp ht with ht | ht
    · have := h.lt t ht; unfold Lx at *; simp only at *; omega
    · rw [List.mem_singleton.mp ht]; exact .inr ⟨rfl, by show j < j + 1; omega⟩
  · rcases List.mem_append.mp ht with ht | ht
    · exact h.ok t ht
    · rw [List.mem_singleton.mp ht]; exact ⟨h0, h1, h2⟩
theorem ok_l_any_ties (T : Env K mg) : FnOk P w K mg base CX0 3 T.a__law_any_ties T.fd__law_any_ties ["pot", "most"] (SpP A_web (B_web K)) := by
  have nd := sc__law_any_ties.nd
  have G__law_pick : FnOk P w K mg base CX0 2 T.a__law_pick T.fd__law_pick ["pot", "many"] (SpP A_pick B_pick) := ok_l_pick T
  refine T.F__law_any_ties.ok sc__law_any_ties (fun vs H Q E h => ?_) (fun cdv A outer s H vs Q E hr h => ?_)
  · obtain ⟨x, F, p, r, rfl, _, _, _, ⟨rfl, _⟩, _⟩ := h
    rfl
  · obtain ⟨most, F, p, r, rfl, fr, hF, hP, ⟨rfl, hm1, hm2⟩, k⟩ := h
    have S := Sep.startP fr hF hP
    refine ⟨_, (pss_cons (ps_set (i := 2) nd rfl (.inl rfl) (pe_call G__law_pick (hr.mono (by decide)) (by rfl) T.g__law_pick T.F__law_pick.kp T.b__law_pick .nil pass0 (pa_cons (pv 0) (pa_cons pe_int pa_nil))))
      (pss_cons (ps_set (i := 3) nd rfl (.inl rfl) (pe_op op_add pe_int (pe_call G__law_pick (hr.mono (by decide)) (by rfl) T.g__law_pick T.F__law_pick.kp T.b__law_pick .nil pass0 (pa_cons (pv 0) (pa_cons (pv 1) pa_nil)))))
      (pss_cons (ps_set (i := 4) nd rfl (.inl rfl) (pe_lst pa_nil))
      (pss_cons (ps_for PassesOwn.never rfl (pi_range1 (by rfl) T.n_range (pa_cons (pv 3) pa_nil)) (pg_name (i := 5) nd rfl (.inl rfl)) (pss_one (ps_for PassesOwn.never rfl (pi_range2 (by rfl) T.n_range (pa_cons (pe_op op_add (pv 5) pe_int) (pa_cons (pv 3) pa_nil))) (pg_name (i := 6) nd rfl (.inl rfl)) (pss_one (ps_if (pt_cmpR op_lt (pe_call G__law_pick (hr.mono (by decide)) (by rfl) T.g__law_pick T.F__law_pick.kp T.b__law_pick .nil pass0 (pa_cons (pv 0) (pa_cons pe_int pa_nil))) (pv 2) (nomark _)) (pss_one (ps_expr (pe_bm PySem.F.plainAttrs_list PySem.F.slot_list_append PySem.F.type_list_append mt_append (pv 4) (pa_cons (pe_tup (pa_cons (pv 5) (pa_cons (pv 6) pa_nil))) pa_nil)))) pss_nil)))))
      (pss_one (ps_ret (pe_tup (pa_cons (pv 3) (pa_cons (pe_callTy call_tupN (by rfl) T.n_tuple (by decide +kernel) (pa_cons (pv 4) pa_nil)) pa_nil))))))))), ?_⟩
    walk_at "rd"
    refine r_callP S 0 rfl 7 ⟨rfl, by omega, small_up (by omega) (by omega)⟩ fun v N F1 H1 S e1 ⟨z, share, ev, h10, h11⟩ => ?_
    subst z ev
    walk_at "rd"
    refine r_callP S 0 rfl most ⟨rfl, by omega, small_up (by omega) (by omega)⟩ fun v N F2 H2 S e2 ⟨z, r1, ev, h20, h21⟩ => ?_
    subst z ev
    obtain ⟨many, rfl⟩ : ∃ many, r1 = many - 1 := ⟨r1 + 1, by omega⟩
    have hmany : 1 + (many - 1) = many := by omega
    refine r_I0 ?_
    rw [hmany]
    walk_at "rd"
    refine ⟨Nat.zero_le _, s_own S fun tl H3 S => ?_⟩
    walk_at "rd"
    refine ⟨many, rfl, by omega, by omega, ?_⟩
    refine s_forR (fun i σ' F' M' => ∃ (x5 x6 : Option V) (rs : List V) (ps : List (Int × Int)), σ' = [some (.ref p), some (.int most), some (.int share), some (.int many), some (.ref tl), x5, x6] ∧ M' = [(tl, .is (.lst rs)), (p, .pot)] ∧ TupsAt F' rs ps ∧ Upto many ps (i : Int) 0 ∧ rs.length ≤ i * 60) S ⟨none, none, [], [], rfl, rfl, .nil, ⟨.nil, fun t ht => (by cases ht), fun t ht => (by cases ht)⟩, Nat.zero_le _⟩ ?_ ?_
    · rintro i σ6 F3 H4 M' hi S e3 ⟨x5, x6, rs, ps, rfl, rfl, g4, g5, g6⟩
      walk_at "rd"
      refine ⟨⟨by omega, by omega, by omega, by omega⟩, ?_⟩
      refine s_forR (fun j σ' F' M' => ∃ (x6 : Option V) (rs : List V) (ps : List (Int × Int)), σ' = [some (.ref p), some (.int most), some (.int share), some (.int many), some (.ref tl), some (.int (0 + (i : Int))), x6] ∧ M' = [(tl, .is (.lst rs)), (p, .pot)] ∧ TupsAt F' rs ps ∧ Upto many ps (0 + (i : Int)) (0 + (i : Int) + 1 + (j : Int)) ∧ rs.length ≤ i * 60 + j) S ⟨x6, rs, ps, rfl, rfl, g4, g5.mono (by omega), g6⟩ ?_ ?_
      · rintro j σ8 F4 H5 M' hj S e4 ⟨x6, rs, ps, rfl, rfl, g4, g5, g6⟩
        walk_at "rd"
        refine r_callP S 1 rfl 6 ⟨rfl, by omega, small_up (by omega) (by omega)⟩ fun v N F5 H6 S e5 ⟨z, r, ev, hr0, hr1⟩ => ?_
        subst z ev
        have g4 := g4.mono (ExT.of e5)
        walk_at "rd"
        refine iteB (fun _ => ?_) (fun _ => ?_)
        · walk_at "rd"
          refine ⟨tyL (by walk_at "hl"), ?_⟩
          walk_at "rd"
          refine ⟨(by show 2 ≤ sizeLine; decide), s_new S fun t F6 H7 S e6 ct => ?_⟩
          walk_at "rd"
          refine s_app S 0 rfl (by omega) fun H8 S => ?_
          exact ⟨_, _, S, by walk_at "ex", _, rs ++ [.ref t], ps ++ [(0 + (i : Int), 0 + (i : Int) + 1 + (j : Int))], rfl, rfl, TupsAt.snoc ct (g4.mono (ExT.of e6)), (g5.snoc (by omega) (by omega) (by omega)).mono (by omega), by rw [List.length_append]; simp; omega⟩
        · walk_at "rd"
          exact ⟨_, _, S, by walk_at "ex", _, rs, ps, rfl, rfl, g4, g5.mono (by omega), by omega⟩
      · rintro σ8 F4 H5 M' S e4 ⟨x6, rs, ps, rfl, rfl, g4, g5, g6⟩
        exact ⟨_, _, S, by walk_at "ex", _, x6, rs, ps, rfl, rfl, g4, g5.mono (by omega), by omega⟩
    · rintro σ6 F3 H4 M' S e3 ⟨x5, x6, rs, ps, rfl, rfl, g4, g5, g6⟩
      walk_at "rd"
      refine s_new S fun l F4 H5 S e4 cl => ?_
      walk_at "rd"
      refine ⟨(by show 2 ≤ sizeLine; decide), s_new S fun f F5 H6 S e5 cf => ?_⟩
      refine k _ [] _ _ (S.sub (by simp)) ⟨rfl, many, ps, by omega, ⟨by omega, by omega, g5.ok, g5.up⟩, web_dp (SqT.of cf) (SqT.of (e5 _ _ cl)) ((g4.mono (ExT.of (e4.trans e5))).dp)⟩
/-- what is known of the pairs drawn -/
def KeysOk (many : Int) (kvs : List (List Key × V)) (n : Nat) : Prop := (∀ p ∈ kvs, ∃ a b : Int, p.1 = [.inl a, .inl b] ∧ 0 ≤ a ∧ a < many ∧ 0 ≤ b ∧ b < many) ∧ kvs.length ≤ n
theorem KeysOk.put {many : Int} {kvs : List (List Key × V)} {n : Nat} {a b : Int} {v : V} (h : KeysOk many kvs n) (h1 : 0 ≤ a ∧ a < many) (h2 : 0 ≤ b ∧ b < many) : KeysOk many (putK kvs [.inl a, .inl b] v) (n + 1) := by
  refine ⟨fun p hp => ?_, Nat.le_trans (length_putK kvs _ v) (Nat.succ_le_succ h.2)⟩
  rcases putK_keys kvs _ v p hp with e | ⟨q, hq, e⟩
  · exact ⟨a, b, e, h1.1, h1.2, h2.1, h2.2⟩
  · rw [← e]; exact h.1 q hq
theorem KeysOk.up {many : Int} {kvs : List (List Key × V)} {n m : Nat} (h : KeysOk many kvs n) (e : n ≤ m) : KeysOk many kvs m := ⟨h.1, Nat.le_trans h.2 e⟩
theorem atI_last {cs : List Int} (h : 0 < cs.length) : atI (cs.map V.int) (-1) = some (.int (cs.getD (cs.length - 1) 0)) := by
  unfold atI ixN
  rw [List.length_map, if_neg (by omega), if_pos (by omega)]
  show (cs.map V.int)[((-1 : Int) + (cs.length : Int)).toNat]? = _
  rw [List.getElem?_map, show ((-1 : Int) + (cs.length : Int)).toNat = cs.length - 1 by omega, List.getElem?_eq_getElem (by omega), List.getD_eq_getElem?_getD, List.getElem?_eq_getElem (by omega)]
  rfl
theorem getD_rg {cs : List Int} {many : Int} (h : cs.Perm (rgI many)) {i : Nat} (hi : i < cs.length) : 0 ≤ cs.getD i 0 ∧ cs.getD i 0 < many := by
  rw [List.getD_eq_getElem?_getD, List.getElem?_eq_getElem hi]
  exact rgI_mem.mp (h.mem_iff.mp (List.getElem_mem hi))
theorem ok_l_web (T : Env K mg) : FnOk P w K mg base CX0 4 T.a__law_web T.fd__law_web ["pot", "most"] (SpP A_web (B_web K)) := by
  have nd := sc__law_web.nd
  have G__law_pick : FnOk P w K mg base CX0 2 T.a__law_pick T.fd__law_pick ["pot", "many"] (SpP A_pick B_pick) := ok_l_pick T
  have G__law_order : FnOk P w K mg base CX0 3 T.a__law_order T.fd__law_order ["pot", "many"] (SpP A_order B_order) := ok_l_order T
  have G__law_any_ties : FnOk P w K mg base CX0 3 T.a__law_any_ties T.fd__law_any_ties ["pot", "most"] (SpP A_web (B_web K)) := ok_l_any_ties T
  refine T.F__law_web.ok sc__law_web (fun vs H Q E h => ?_) (fun cdv A outer s H vs Q E hr h => ?_)
  · obtain ⟨x, F, p, r, rfl, _, _, _, ⟨rfl, _⟩, _⟩ := h
    rfl
  · obtain ⟨most, F, p, r, rfl, fr, hF, hP, ⟨rfl, hm1, hm2⟩, k⟩ := h
    have S := Sep.startP fr hF hP
    refine ⟨_, (pss_cons (ps_set (i := 2) nd rfl (.inl rfl) (pe_call G__law_pick (hr.mono (by decide)) (by rfl) T.g__law_pick T.F__law_pick.kp T.b__law_pick .nil pass0 (pa_cons (pv 0) (pa_cons pe_int pa_nil))))
      (pss_cons (ps_if (pt_cmpR op_eq (pv 2) pe_int (nomark _)) (pss_one (ps_ret (pe_call G__law_any_ties (hr.mono (by decide)) (by rfl) T.g__law_any_ties T.F__law_any_ties.kp T.b__law_any_ties .nil pass0 (pa_cons (pv 0) (pa_cons (pe_callB (call_min2 rfl) (by rfl) T.n_min (by decide +kernel) (pa_cons (pv 1) (pa_cons pe_int pa_nil))) pa_nil))))) pss_nil)
      (pss_cons (ps_set (i := 3) nd rfl (.inl rfl) (pe_op op_add pe_int (pe_call G__law_pick (hr.mono (by decide)) (by rfl) T.g__law_pick T.F__law_pick.kp T.b__law_pick .nil pass0 (pa_cons (pv 0) (pa_cons (pv 1) pa_nil)))))
      (pss_cons (ps_set (i := 4) nd rfl (.inl rfl) (pe_call G__law_order (hr.mono (by decide)) (by rfl) T.g__law_order T.F__law_order.kp T.b__law_order .nil pass0 (pa_cons (pv 0) (pa_cons (pv 3) pa_nil))))
      (pss_cons (ps_set (i := 5) nd rfl (.inl rfl) pe_dnewT)
      (Evl.pss_cut (ps_if (pt_cmpR op_lt (pv 2) pe_int (nomark _)) (pss_one (ps_for PassesOwn.never rfl (pi_range1 (by rfl) T.n_range (pa_cons (pe_call G__law_pick (hr.mono (by decide)) (by rfl) T.g__law_pick T.F__law_pick.kp T.b__law_pick .nil pass0 (pa_cons (pv 0) (pa_cons (pe_op op_add (pe_ix ix_list (pe_lst (pa_cons (pv 3) (pa_cons (pe_op op_mul pe_int (pv 3)) (pa_cons (pe_op op_mul pe_int (pv 3)) pa_nil)))) (pv 2) (fun _ _ => rfl)) pe_int) pa_nil))) pa_nil)) (pg_name (i := 6) nd rfl (.inl rfl)) (pss_cons (ps_set (i := 7) nd rfl (.inl rfl) (pe_call G__law_pick (hr.mono (by decide)) (by rfl) T.g__law_pick T.F__law_pick.kp T.b__law_pick .nil pass0 (pa_cons (pv 0) (pa_cons (pv 3) pa_nil))))
      (pss_one (ps_dput (u1 hr) (pv 5) (pe_tup (pa_cons (pv 7) (pa_cons (pe_call G__law_pick (hr.mono (by decide)) (by rfl) T.g__law_pick T.F__law_pick.kp T.b__law_pick .nil pass0 (pa_cons (pv 0) (pa_cons (pv 3) pa_nil))) pa_nil))) pe_bl rfl))))) pss_nil)
      (pss_cons (ps_for PassesOwn.never rfl (pi_range1 (by rfl) T.n_range (pa_cons (pe_op op_sub (pv 3) pe_int) pa_nil)) (pg_name (i := 6) nd rfl (.inl rfl)) (pss_cons (ps_if (pt_cmpR op_gt (pv 2) pe_int (nomark _)) (pss_one (ps_dput (u1 hr) (pv 5) (pe_tup (pa_cons (pe_ix ix_list (pv 4) (pv 6) (fun _ _ => rfl)) (pa_cons (pe_ix ix_list (pv 4) (pe_op op_add (pv 6) pe_int) (fun _ _ => rfl)) pa_nil))) pe_bl rfl)) pss_nil)
      (pss_one (ps_if (pt_cmpR op_eq (pv 2) pe_int (nomark _)) (pss_one (ps_dput (u1 hr) (pv 5) (pe_tup (pa_cons (pe_ix ix_list (pv 4) pe_int (fun _ _ => rfl)) (pa_cons (pe_ix ix_list (pv 4) (pe_op op_add (pv 6) pe_int) (fun _ _ => rfl)) pa_nil))) pe_bl rfl)) pss_nil))))
      (Evl.pss_cut (ps_if (pt_cmpR op_eq (pv 2) pe_int (nomark _)) (pss_one (ps_dput (u1 hr) (pv 5) (pe_tup (pa_cons (pe_ix ix_list (pv 4) pe_int (fun _ _ => rfl)) (pa_cons (pe_ix ix_list (pv 4) (pe_un un_neg pe_int) (fun _ _ => rfl)) pa_nil))) pe_bl rfl)) pss_nil)
      (pss_cons (ps_setLc (i := 8) (own := [("pair", 9)]) (g := gName 9) (tt := tYes) (te := (tTup (tCons (tCB (rLeastT K) (tCons (tVar 9) tNil)) (tCons (tCB (rMostT K) (tCons (tVar 9) tNil)) tNil)))) rfl nd rfl rfl (sw_true rfl rfl rfl (by decide +kernel)) (pi_keys (pe_frz (pv 5))) (blkOk_by (N := ["pot", "most", "shape", "many", "order", "pairs", "k", "one", "ties", "pair"]) (sc := defScope s__law_web) (by decide +kernel)) (fun _ _ _ _ _ => (pg_name (i := 9) nd rfl (.inl rfl))) (fun _ _ _ _ _ => pts_nil) (fun _ _ _ _ _ => (pe_tup (pa_cons (pe_callB (cr_leastT rfl) (by rfl) T.n_min (by decide +kernel) (pa_cons (pv 9) pa_nil)) (pa_cons (pe_callB (cr_mostT rfl) (by rfl) T.n_max (by decide +kernel) (pa_cons (pv 9) pa_nil)) pa_nil)))))
      (pss_one (ps_ret (pe_tup (pa_cons (pv 3) (pa_cons (pe_callTy call_tupN (by rfl) T.n_tuple (by decide +kernel) (pa_cons (pe_callB (cr_sortGreat rfl) (by rfl) T.n_sorted (by decide +kernel) (pa_cons (pe_callTy (cr_greatL rfl hr.units) (by rfl) T.n_set (by decide +kernel) (pa_cons (pe_lc (own := [("pair", 9)]) (g := gName 9) (tt := (tTest (tOp (rI0 fun i j => .bl (decide (i < j))) (tOp (rIxT K) (tVar 9) (tC (.int 0))) (tOp (rIxT K) (tVar 9) (tC (.int 1)))))) (te := (tVar 9)) rfl nd (pi_list (pv 8)) (blkOk_by (N := ["pot", "most", "shape", "many", "order", "pairs", "k", "one", "ties", "pair"]) (sc := defScope s__law_web) (by decide +kernel)) (fun _ _ _ _ _ => (pg_name (i := 9) nd rfl (.inl rfl))) (fun _ _ _ _ _ => pts_one (pt_cmpR op_lt (pe_ix ix_tup (pv 9) pe_int (fun _ _ => rfl)) (pe_ix ix_tup (pv 9) pe_int (fun _ _ => rfl)) (nomark _))) (fun _ _ _ _ _ => (pv 9))) pa_nil)) pa_nil)) pa_nil)) pa_nil)))))))))))))), ?_⟩
    walk_at "rd"
    refine r_callP S 0 rfl 7 ⟨rfl, by omega, small_up (by omega) (by omega)⟩ fun v N F1 H1 S e1 ⟨z, shape, ev, h10, h11⟩ => ?_
    subst z ev
    walk_at "rd"
    refine iteB (fun _ => ?_) (fun c6 => ?_)
    · walk_at "rd"
      refine r_callP S 0 rfl (if 12 < most then 12 else most) ⟨rfl, by split <;> omega, by split <;> omega⟩ fun v N F2 H2 S e2 ⟨z, many, ties, h20, h21, h22⟩ => ?_
      subst z
      exact k _ [] _ _ S ⟨rfl, many, ties, by split at h20 <;> omega, h21, h22⟩
    walk_at "rd"
    refine r_callP S 0 rfl most ⟨rfl, by omega, small_up (by omega) (by omega)⟩ fun v N F2 H2 S e2 ⟨z, r1, ev, h20, h21⟩ => ?_
    subst z ev
    obtain ⟨many, rfl⟩ : ∃ many, r1 = many - 1 := ⟨r1 + 1, by omega⟩
    have hmany : 1 + (many - 1) = many := by omega
    refine r_I0 ?_
    rw [hmany]
    walk_at "rd"
    refine r_callP S 0 rfl many ⟨rfl, by omega, by omega⟩ fun v N F3 H3 S e3 ⟨o, os, ev, z, hos⟩ => ?_
    subst z ev
    obtain ⟨F4, S, e4, co⟩ := S.frz 0 rfl
    have ol : os.length = many.toNat := by rw [hos.length_eq, rgI_len]
    walk_at "rd"
    refine s_dnewT S fun d H5 S => ?_
    walk_at "rd"
    refine ⟨LI [p] H F F4 (fun _ σ' F' M' => ∃ (x6 x7 : Option V) (kvs : List (List Key × V)), σ' = [some (.ref p), some (.int most), some (.int shape), some (.int many), some (.ref o), some (.ref d), x6, x7, none, none] ∧ M' = [(d, .is (.dT kvs)), (p, .pot)] ∧ KeysOk many kvs 180) 0, ?_, ?_⟩
    · walk_at "rd"
      refine iteB (fun c3 => ?_) (fun c3 => ?_)
      · obtain ⟨u, hu, hu1, hu2⟩ : ∃ u : Int, atI [V.int many, V.int (2 * many), V.int (3 * many)] shape = some (.int u) ∧ many ≤ u ∧ u ≤ 180 := by
          have c3 := of_decide_eq_true c3
          rcases (show shape = 0 ∨ shape = 1 ∨ shape = 2 by omega) with e | e | e <;> subst e
          · exact ⟨many, rfl, by omega, by omega⟩
          · exact ⟨2 * many, rfl, by omega, by omega⟩
          · exact ⟨3 * many, rfl, by omega, by omega⟩
        walk_at "rd"
        refine ⟨(by show 3 ≤ sizeLine; decide), s_new S fun l F6 H6 S e6 cl => ?_⟩
        walk_at "rd"
        refine r_callP S 1 rfl (u + 1) ⟨rfl, by omega, small_up (by omega) (by omega)⟩ fun v N F7 H7 S e7 ⟨z, n, ev, hn0, hn1⟩ => ?_
        subst z ev
        walk_at "rd"
        refine ⟨n, rfl, by omega, by omega, ?_⟩
        refine s_forR (fun i σ' F' M' => ∃ (x6 x7 : Option V) (kvs : List (List Key × V)), σ' = [some (.ref p), some (.int most), some (.int shape), some (.int many), some (.ref o), some (.ref d), x6, x7, none, none] ∧ M' = [(d, .is (.dT kvs)), (p, .pot)] ∧ KeysOk many kvs i) S ⟨none, none, [], rfl, rfl, ⟨fun p hp => (by cases hp), Nat.le_refl _⟩⟩ ?_ ?_
        · rintro i σ8 F8 H8 M' hi S e8 ⟨x6, x7, kvs, rfl, rfl, hk⟩
          walk_at "rd"
          refine r_callP S 1 rfl many ⟨rfl, by omega, small_up (by omega) (by omega)⟩ fun v N F9 H9 S e9 ⟨z, one, ev, h30, h31⟩ => ?_
          subst z ev
          walk_at "rd"
          refine r_callP S 1 rfl many ⟨rfl, by omega, small_up (by omega) (by omega)⟩ fun v N F10 H10 S e10 ⟨z, two, ev, h40, h41⟩ => ?_
          subst z ev
          walk_at "rd"
          refine ⟨(by show 2 ≤ sizeLine; decide), s_new S fun t F11 H11 S e11 ct => ?_⟩
          have := hk.2
          refine s_dputT S 0 rfl ct (by omega) fun H12 S => ?_
          exact ⟨_, _, S, by walk_at "ex", _, _, _, rfl, rfl, hk.put ⟨h30, h31⟩ ⟨h40, h41⟩⟩
        · rintro σ8 F8 H8 M' S e8 ⟨x6, x7, kvs, rfl, rfl, hk⟩
          exact ⟨_, _, S, by walk_at "ex", _, _, _, rfl, rfl, hk.up (by omega)⟩
      · walk_at "rd"
        exact ⟨_, _, S, by walk_at "ex", none, none, [], rfl, rfl, ⟨fun p hp => (by cases hp), Nat.zero_le _⟩⟩
    · rintro σ6 H6 ⟨F5, M', S, e5, x6, x7, kvs, rfl, rfl, hk⟩
      walk_at "rd"
      refine ⟨many - 1, rfl, by omega, by omega, ?_⟩
      refine s_forR (fun i σ' F' M' => ∃ (x6 : Option V) (kvs : List (List Key × V)), σ' = [some (.ref p), some (.int most), some (.int shape), some (.int many), some (.ref o), some (.ref d), x6, x7, none, none] ∧ M' = [(d, .is (.dT kvs)), (p, .pot)] ∧ KeysOk many kvs (180 + i)) S ⟨x6, kvs, rfl, rfl, hk⟩ ?_ ?_
      · rintro i σ8 F8 H8 M' hi S e8 ⟨x6, kvs, rfl, rfl, hk⟩
        have a0 : atI (os.map V.int) 0 = some (.int (os.getD 0 0)) := atI_int (by omega) (by omega)
        have a1 : atI (os.map V.int) (0 + (i : Int)) = some (.int (os.getD i 0)) := by
          have := atI_int (cs := os) (i := 0 + (i : Int)) (by omega) (by omega)
          rw [show (0 + (i : Int)).toNat = i by omega] at this
          exact this
        have a2 : atI (os.map V.int) (0 + (i : Int) + 1) = some (.int (os.getD (i + 1) 0)) := by
          have := atI_int (cs := os) (i := 0 + (i : Int) + 1) (by omega) (by omega)
          rw [show (0 + (i : Int) + 1).toNat = i + 1 by omega] at this
          exact this
        have := hk.2
        walk_at "rd"
        refine iteB (fun c3 => ?_) (fun c3 => ?_)
        · walk_at "rd"
          refine ⟨(by show 2 ≤ sizeLine; decide), s_new S fun t F11 H11 S e11 ct => ?_⟩
          refine s_dputT S 0 rfl ct (by omega) fun H12 S => ?_
          walk_at "rd"
          refine iteB (fun c4 => ?_) (fun c4 => ?_)
          · have := of_decide_eq_true c3
            have := of_decide_eq_true c4
            omega
          · walk_at "rd"
            exact ⟨_, _, S, by walk_at "ex", _, _, rfl, rfl, hk.put (getD_rg hos (by omega)) (getD_rg hos (by omega))⟩
        · walk_at "rd"
          refine iteB (fun c4 => ?_) (fun c4 => ?_)
          · walk_at "rd"
            refine ⟨(by show 2 ≤ sizeLine; decide), s_new S fun t F11 H11 S e11 ct => ?_⟩
            refine s_dputT S 0 rfl ct (by omega) fun H12 S => ?_
            exact ⟨_, _, S, by walk_at "ex", _, _, rfl, rfl, hk.put (getD_rg hos (by omega)) (getD_rg hos (by omega))⟩
          · walk_at "rd"
            exact ⟨_, _, S, by walk_at "ex", _, _, rfl, rfl, hk.up (by omega)⟩
      · rintro σ8 F8 H8 M' S e8 ⟨x6, kvs, rfl, rfl, hk⟩
        have hk : KeysOk many kvs 240 := hk.up (by omega)
        have a0 : atI (os.map V.int) 0 = some (.int (os.getD 0 0)) := atI_int (by omega) (by omega)
        have a1 := atI_last (cs := os) (by omega)
        walk_at "rd"
        refine ⟨LI [p] H F F8 (fun _ σ' F' M' => ∃ (kvs : List (List Key × V)), σ' = [some (.ref p), some (.int most), some (.int shape), some (.int many), some (.ref o), some (.ref d), x6, x7, none, none] ∧ M' = [(d, .is (.dT kvs)), (p, .pot)] ∧ KeysOk many kvs 241) 0, ?_, ?_⟩
        · walk_at "rd"
          refine iteB (fun c4 => ?_) (fun c4 => ?_)
          · walk_at "rd"
            refine ⟨(by show 2 ≤ sizeLine; decide), s_new S fun t F11 H11 S e11 ct => ?_⟩
            have := hk.2
            refine s_dputT S 0 rfl ct (by omega) fun H12 S => ?_
            exact ⟨_, _, S, by walk_at "ex", _, rfl, rfl, hk.put (getD_rg hos (by omega)) (getD_rg hos (by omega))⟩
          · walk_at "rd"
            exact ⟨_, _, S, by walk_at "ex", _, rfl, rfl, hk.up (by omega)⟩
        · clear hk
          rintro σ9 H9 ⟨F9, M', S, e9, kvs, rfl, rfl, hk⟩
          walk_at "rd"
          refine s_frz S 0 rfl trivial fun od F10 H10 S e10 cd => ?_
          refine s_ikeysT (by walk_at "hc") ?_
          refine s_lcKT (fun i acc F' M' => ∃ ps : List (Int × Int), M' = [(p, .pot)] ∧ TupsAt F' acc ps ∧ acc.length ≤ i ∧ ∀ t ∈ ps, 0 ≤ t.1 ∧ t.2 < many) cd S ⟨[], rfl, .nil, Nat.le_refl _, fun t ht => (by cases ht)⟩ ?_ ?_
          · rintro i ky v q acc D F11 H11 M' hi hq S e11 ⟨ps, rfl, g1, g2, g3⟩
            have li := (List.getElem?_eq_some_iff.mp hi).1
            have lk := hk.2
            obtain ⟨a, b, rfl, b1, b2, b3, b4⟩ := hk.1 _ (List.mem_of_getElem? hi)
            have hq : SqT K H11 q [.int a, .int b] := SqT.of hq
            walk_at "rd"
            refine ⟨rfl, ?_⟩
            walk_at "rd"
            refine r_least2 hq ?_
            walk_at "rd"
            refine r_most2 hq ?_
            walk_at "rd"
            refine ⟨(by show 2 ≤ sizeLine; decide), s_new S fun t F12 H12 S e12 ct => ?_⟩
            refine CI.put S (by walk_at "ex") (by omega) ⟨ps ++ [(min a b, max a b)], rfl, TupsAt.snoc ct (g1.mono (ExT.of e12)), by rw [List.length_append]; simp; omega, fun t ht => ?_⟩
            rcases List.mem_append.mp ht with ht | ht
            · exact g3 t ht
            · rw [List.mem_singleton.mp ht]
              show 0 ≤ min a b ∧ max a b < many
              omega
          · rintro D acc F11 H11 M' S e11 ⟨ps, rfl, g1, g2, g3⟩
            have lk := hk.2
            have pl : ps.length = acc.length := g1.len.symm
            walk_at "rd"
            refine ⟨D, rfl, ⟨_, by walk_at "hl"⟩, ?_⟩
            refine s_lcD (K := K) (srcMP g1) (fun p : Int × Int => decide (p.1 < p.2)) tieD S (by omega) (fun m hm => by rw [List.mem_singleton.mp hm]; exact List.mem_cons_self) ?_ ?_
            · rintro i pr x acc' D' F12 H12 dt S e12 ⟨t, rfl, ct⟩
              have hx : SqT K H12 t [.int pr.1, .int pr.2] := SqT.of (S.fr _ _ ct)
              walk_at "rd"
              refine ⟨rfl, ?_⟩
              walk_at "rd"
              refine iteB (fun c => ?_) (fun c => ?_)
              · walk_at "rd"
                exact dt.put S (by walk_at "ex") (Evl.Ex.refl _) c (.tup (SqT.of ct) (.cons (.int _) (.cons (.int _) .nil)))
              · exact dt.skip S (by walk_at "ex") (Evl.Ex.refl _) c
            · intro D' acc' F12 H12 S e12 hd
              walk_at "rd"
              refine s_great S (by walk_at "hl") hd (Nat.le_trans (List.length_filter_le _ _) (by omega)) fun q L F13 H13 S e13 cq h1 h2 => ?_
              walk_at "rd"
              refine s_sortGreat S cq h1 h2 fun q2 ys ts H14 S hd2 pw mem => ?_
              walk_at "rd"
              refine s_new S fun l F15 H15 S e15 cl => ?_
              walk_at "rd"
              refine ⟨(by show 2 ≤ sizeLine; decide), s_new S fun f F16 H16 S e16 cf => ?_⟩
              refine k _ [] _ _ (S.sub (by simp)) ⟨rfl, many, ts, by omega, ⟨by omega, by omega, fun t ht => ?_, pw⟩, .tup (SqT.of cf) (.cons (.int _) (.cons (.tup (SqT.of (e16 _ _ cl)) (DpAll.ex (e15.trans e16) _ _ hd2)) .nil))⟩
              have hm := List.mem_filter.mp ((mem t).mp ht)
              have := g3 t hm.1
              have := of_decide_eq_true hm.2
              omega

end

end
section
local macro_rules | `(tactic| walk_at "ex") => `(tactic| first | exact Evl.Ex.refl _ | assumption | ((refine' Evl.Ex.trans ?x ?y); (case y => assumption); (case x => walk_at "ex")))
local macro_rules | `(tactic| walk_at "hc") => `(tactic| first
  | assumption
  | ((refine' Sep.rdM ?S 0 ?k); (case S => assumption); (case k => exact rfl)) | ((refine' Sep.rdM ?S 1 ?k); (case S => assumption); (case k => exact rfl)) | ((refine' Sep.rdM ?S 2 ?k); (case S => assumption); (case k => exact rfl)) | ((refine' Sep.rdM ?S 3 ?k); (case S => assumption); (case k => exact rfl)) | ((refine' Sep.rdM ?S 4 ?k); (case S => assumption); (case k => exact rfl))
  | ((refine' Sep.rdC ?S ?e ?h); (case S => assumption); (case h => assumption); (case e => walk_at "ex")))
local macro_rules | `(tactic| walk_at "hl") => `(tactic| first
  | assumption
  | ((refine' SqL.of (Sep.rdM ?S 0 ?k)); (case S => assumption); (case k => exact rfl)) | ((refine' SqL.of (Sep.rdM ?S 1 ?k)); (case S => assumption); (case k => exact rfl)) | ((refine' SqL.of (Sep.rdM ?S 2 ?k)); (case S => assumption); (case k => exact rfl)) | ((refine' SqL.of (Sep.rdM ?S 3 ?k)); (case S => assumption); (case k => exact rfl)) | ((refine' SqL.of (Sep.rdM ?S 4 ?k)); (case S => assumption); (case k => exact rfl))
  | ((refine' Sep.rdL ?S ?e ?h); (case S => assumption); (case h => assumption); (case e => walk_at "ex"))
  | ((refine' Sep.rdT ?S ?e ?h); (case S => assumption); (case h => assumption); (case e => walk_at "ex"))
  | ((refine' SqL.of (Sep.rdC ?S ?e ?h)); (case S => assumption); (case h => assumption); (case e => walk_at "ex"))
  | ((refine' SqT.of (Sep.rdC ?S ?e ?h)); (case S => assumption); (case h => assumption); (case e => walk_at "ex"))
  | ((refine' SqL.of ?h); (case h => assumption)) | ((refine' SqT.of ?h); (case h => assumption))
  | ((refine' Evl.ex_l ?e ?h); (case h => assumption); (case e => walk_at "ex")) | ((refine' Evl.ex_t ?e ?h); (case h => assumption); (case e => walk_at "ex"))
  | ((refine' SqL.of (?e _ _ ?h)); (case h => assumption); (case e => walk_at "ex")) | ((refine' SqT.of (?e _ _ ?h)); (case h => assumption); (case e => walk_at "ex")))
local macro_rules | `(tactic| walk_at "hs") => `(tactic| walk_at "hc")
local macro_rules | `(tactic| walk_at "dp") => `(tactic| first
  | assumption
  | ((refine' Sep.rdD ?S ?e ?h); (case S => assumption); (case h => assumption); (case e => walk_at "ex"))
  | ((refine' Dp.ex ?e _ _ ?h); (case h => assumption); (case e => walk_at "ex"))
  | ((refine' DpAll.ex ?e _ _ ?h); (case h => assumption); (case e => walk_at "ex"))
  | (refine' dp_intsD ?h; (case h => walk_at "hl")))
local macro_rules | `(tactic| walk_at "rd1") => `(tactic| (first
  | (with_reducible refine r_seq ?_)
  | (with_reducible refine r_asg ?_)
  | (with_reducible refine r_asgG ?_)
  | (with_reducible refine r_par ?_)
  | (with_reducible refine r_if ?_)
  | (with_reducible refine r_ret ?_)
  | (with_reducible refine r_drop ?_)
  | (with_reducible refine r_next ?_)
  | ((with_reducible refine' r_var ?hx ?_); (case hx => exact rfl))
  | (with_reducible refine r_c ?_)
  | (with_reducible refine r_op ?_)
  | (with_reducible refine r_un ?_)
  | (with_reducible refine r_I0 ?_)
  | ((with_reducible refine' r_I ?_ ?_); (· first | (show (0 : Int) < _; omega) | exact Or.inr ⟨by omega, by omega⟩ | exact Or.inl ⟨by omega, by omega⟩ | exact ⟨by omega, by omega, by decide⟩))
  | (with_reducible refine r_U ?_)
  | (with_reducible refine r_test ?_)
  | (with_reducible refine r_B ?_)
  | (with_reducible refine r_bl ?_)
  | (with_reducible refine r_eqI ?_)
  | (with_reducible refine r_neI ?_)
  | ((with_reducible refine' r_eq ?_ ?_); (· exact rfl))
  | ((with_reducible refine' r_ne ?_ ?_); (· exact rfl))
  | (with_reducible refine r_nil ?_)
  | (with_reducible refine r_cons ?_)
  | (with_reducible refine s_tup ?_)
  | (with_reducible refine s_lst ?_)
  | (with_reducible refine r_call ?_)
  | (with_reducible refine r_cb ?_)
  | (with_reducible refine r_and ?_)
  | (with_reducible refine r_or ?_)
  | (with_reducible refine r_not ?_)
  | (with_reducible refine r_andV ?_)
  | (with_reducible refine r_orV ?_)
  | (with_reducible refine r_notV ?_)
  | (with_reducible refine r_ifE ?_)
  | (with_reducible refine r_gSub ?_)
  | (with_reducible refine r_sadd ?_)
  | (with_reducible refine s_lstRg ?_)
  | (with_reducible refine r_rg1 ?_)
  | (with_reducible refine r_min2 ?_)
  | (with_reducible refine r_par2 ?_)
  | (with_reducible refine r_partI ?_)
  | (with_reducible refine s_lc ?_)
  | (with_reducible refine s_dc ?_)
  | (with_reducible refine r_yes ?_)
  | (with_reducible refine r_iZipA ?_)
  | (with_reducible refine r_isN ?_)
  | (with_reducible refine r_for ?_)
  | (with_reducible refine r_iList ?_)
  | (with_reducible refine r_iTup ?_)
  | (with_reducible refine r_iRng1 ?_)
  | (with_reducible refine r_iRng2 ?_)
  | (with_reducible refine r_iEnum ?_)
  | (with_reducible refine r_iZip ?_)
  | (with_reducible refine r_gName ?_)
  | (with_reducible refine r_isNV ?_)
  | (with_reducible refine r_notNV ?_)
  | (with_reducible refine r_bm ?_)
  | (with_reducible refine r_bm0 ?_)
  | (with_reducible refine r_sl ?_)
  | (with_reducible refine r_noPart ?_)
  | (with_reducible refine r_part ?_)
  | (with_reducible refine r_chain ?_)
  | (with_reducible refine r_iKeys ?_)
  | (with_reducible refine r_iItems ?_)
  | (with_reducible refine r_frz ?_)
  | (with_reducible refine r_dput ?_)
  | (with_reducible refine r_dget ?_)
  | (with_reducible refine r_din ?_)
  | (with_reducible refine r_dnotin ?_)
  | (with_reducible refine r_break ?_)
  | ((with_reducible refine' r_sIn ?h ?_); (case h => walk_at "hs"))
  | ((with_reducible refine' r_sNotIn ?h ?_); (case h => walk_at "hs"))
  | ((with_reducible refine' r_inI ?h ?_); (case h => walk_at "hl"))
  | ((with_reducible refine' r_notInI ?h ?_); (case h => walk_at "hl"))
  | ((with_reducible refine' r_eqNil ?h ?g ?_); (case h => walk_at "hl"); (case g => walk_at "hl"))
  | ((with_reducible refine' r_neNil ?h ?g ?_); (case h => walk_at "hl"); (case g => walk_at "hl"))
  | ((with_reducible refine' iteRT ?hh ?_); (case hh => exact rfl))
  | ((with_reducible refine' iteRF ?hh ?_); (case hh => exact rfl))
  | ((with_reducible refine' r_isiT ?ty ?hk ?_); (case ty => (first | assumption | exact tyx_L (by assumption) | exact tyx_T (by assumption) | exact .base (.non) | exact .base (.bl _) | exact .base (.int _) | exact .base (.str _) | exact tyx_L (by walk_at "hl") | exact tyx_T (by walk_at "hl"))); (case hk => decide +kernel))
  | ((with_reducible refine' r_isiF ?ty ?hk ?_); (case ty => (first | assumption | exact tyx_L (by assumption) | exact tyx_T (by assumption) | exact .base (.non) | exact .base (.bl _) | exact .base (.int _) | exact .base (.str _) | exact tyx_L (by walk_at "hl") | exact tyx_T (by walk_at "hl"))); (case hk => decide +kernel))
  | ((with_reducible refine' r_gTup2 ?hn ?hs ?_); (case hn => exact rfl); (case hs => walk_at "hl"))
  | ((with_reducible refine' s_list ?hl ?_); (case hl => first | exact Or.inl (by walk_at "hl") | exact Or.inr (by walk_at "hl")))
  | ((with_reducible refine' s_tupN ?hl ?_); (case hl => walk_at "hl"))
  | ((with_reducible refine' s_sortN ?hl ?_); (case hl => walk_at "hl"))
  | ((refine' ⟨_, _, rfl, ?hl, ?_⟩); (case hl => first | exact Or.inl (by walk_at "hl") | exact Or.inr (by walk_at "hl")))
  | ((with_reducible refine' r_ixL ?hl ?ha ?_); (case hl => walk_at "hl"); (case ha => first | exact rfl | assumption))
  | ((with_reducible refine' r_ixT ?hl ?ha ?_); (case hl => walk_at "hl"); (case ha => first | exact rfl | assumption))))
local macro_rules | `(tactic| walk_at "rd") => `(tactic| repeat (walk_at "rd1"))

section
variable {P : Program} {w : World} {K : PySem.W.Frag} {mg : Str → Option Value} {base : Heap}

theorem ok_l_drawn_web (T : Env K mg) : FnOk P w K mg base CX0 5 T.a__law_drawn_web T.fd__law_drawn_web ["pot", "most"] (SpP A_web (B_web K)) := by
  have nd := sc__law_drawn_web.nd
  have G__law_web : FnOk P w K mg base CX0 4 T.a__law_web T.fd__law_web ["pot", "most"] (SpP A_web (B_web K)) := ok_l_web T
  have G__law_pick : FnOk P w K mg base CX0 2 T.a__law_pick T.fd__law_pick ["pot", "many"] (SpP A_pick B_pick) := ok_l_pick T
  have G__law_any_ties : FnOk P w K mg base CX0 3 T.a__law_any_ties T.fd__law_any_ties ["pot", "most"] (SpP A_web (B_web K)) := ok_l_any_ties T
  refine T.F__law_drawn_web.ok sc__law_drawn_web (fun vs H Q E h => ?_) (fun cdv A outer s H vs Q E hr h => ?_)
  · obtain ⟨x, F, p, r, rfl, _, _, _, ⟨rfl, _⟩, _⟩ := h
    rfl
  · obtain ⟨most, F, p, r, rfl, fr, hF, hP, ⟨rfl, hm1, hm2⟩, k⟩ := h
    have S := Sep.startP fr hF hP
    refine ⟨_, (pss_cons (ps_if (pt_cmpR op_eq (pe_call G__law_pick (hr.mono (by decide)) (by rfl) T.g__law_pick T.F__law_pick.kp T.b__law_pick .nil pass0 (pa_cons (pv 0) (pa_cons pe_int pa_nil))) pe_int (nomark _)) (pss_one (ps_ret (pe_call G__law_any_ties (hr.mono (by decide)) (by rfl) T.g__law_any_ties T.F__law_any_ties.kp T.b__law_any_ties .nil pass0 (pa_cons (pv 0) (pa_cons (pe_callB (call_min2 rfl) (by rfl) T.n_min (by decide +kernel) (pa_cons (pv 1) (pa_cons pe_int pa_nil))) pa_nil))))) pss_nil)
      (pss_one (ps_ret (pe_call G__law_web (hr.mono (by decide)) (by rfl) T.g__law_web T.F__law_web.kp T.b__law_web .nil pass0 (pa_cons (pv 0) (pa_cons (pv 1) pa_nil)))))), ?_⟩
    walk_at "rd"
    refine r_callP S 0 rfl 2 ⟨rfl, by omega, small_up (by omega) (by omega)⟩ fun v N F1 H1 S e1 ⟨z, way, ev, h10, h11⟩ => ?_
    subst z ev
    walk_at "rd"
    refine iteB (fun _ => ?_) (fun _ => ?_)
    · walk_at "rd"
      refine r_callP S 0 rfl (if 7 < most then 7 else most) ⟨rfl, by split <;> omega, by split <;> omega⟩ fun v N F2 H2 S e2 ⟨z, many, ties, h20, h21, h22⟩ => ?_
      subst z
      exact k _ [] _ _ S ⟨rfl, many, ties, by split at h20 <;> omega, h21, h22⟩
    · walk_at "rd"
      refine r_callP S 0 rfl most ⟨rfl, hm1, hm2⟩ fun v N F2 H2 S e2 ⟨z, many, ties, h20, h21, h22⟩ => ?_
      subst z
      exact k _ [] _ _ S ⟨rfl, many, ties, h20, h21, h22⟩

end

end
section
local macro_rules | `(tactic| walk_at "ex") => `(tactic| first | exact Evl.Ex.refl _ | assumption | ((refine' Evl.Ex.trans ?x ?y); (case y => assumption); (case x => walk_at "ex")))
local macro_rules | `(tactic| walk_at "hc") => `(tactic| first
  | assumption
  | ((refine' Sep.rdM ?S 0 ?k); (case S => assumption); (case k => exact rfl)) | ((refine' Sep.rdM ?S 1 ?k); (case S => assumption); (case k => exact rfl)) | ((refine' Sep.rdM ?S 2 ?k); (case S => assumption); (case k => exact rfl)) | ((refine' Sep.rdM ?S 3 ?k); (case S => assumption); (case k => exact rfl)) | ((refine' Sep.rdM ?S 4 ?k); (case S => assumption); (case k => exact rfl))
  | ((refine' Sep.rdC ?S ?e ?h); (case S => assumption); (case h => assumption); (case e => walk_at "ex")))
local macro_rules | `(tactic| walk_at "hl") => `(tactic| first
  | assumption
  | ((refine' SqL.of (Sep.rdM ?S 0 ?k)); (case S => assumption); (case k => exact rfl)) | ((refine' SqL.of (Sep.rdM ?S 1 ?k)); (case S => assumption); (case k => exact rfl)) | ((refine' SqL.of (Sep.rdM ?S 2 ?k)); (case S => assumption); (case k => exact rfl)) | ((refine' SqL.of (Sep.rdM ?S 3 ?k)); (case S => assumption); (case k => exact rfl)) | ((refine' SqL.of (Sep.rdM ?S 4 ?k)); (case S => assumption); (case k => exact rfl))
  | ((refine' Sep.rdL ?S ?e ?h); (case S => assumption); (case h => assumption); (case e => walk_at "ex"))
  | ((refine' Sep.rdT ?S ?e ?h); (case S => assumption); (case h => assumption); (case e => walk_at "ex"))
  | ((refine' SqL.of (Sep.rdC ?S ?e ?h)); (case S => assumption); (case h => assumption); (case e => walk_at "ex"))
  | ((refine' SqT.of (Sep.rdC ?S ?e ?h)); (case S => assumption); (case h => assumption); (case e => walk_at "ex"))
  | ((refine' SqL.of ?h); (case h => assumption)) | ((refine' SqT.of ?h); (case h => assumption))
  | ((refine' Evl.ex_l ?e ?h); (case h => assumption); (case e => walk_at "ex")) | ((refine' Evl.ex_t ?e ?h); (case h => assumption); (case e => walk_at "ex"))
  | ((refine' SqL.of (?e _ _ ?h)); (case h => assumption); (case e => walk_at "ex")) | ((refine' SqT.of (?e _ _ ?h)); (case h => assumption); (case e => walk_at "ex")))
local macro_rules | `(tactic| walk_at "hs") => `(tactic| walk_at "hc")
local macro_rules | `(tactic| walk_at "dp") => `(tactic| first
  | assumption
  | ((refine' Sep.rdD ?S ?e ?h); (case S => assumption); (case h => assumption); (case e => walk_at "ex"))
  | ((refine' Dp.ex ?e _ _ ?h); (case h => assumption); (case e => walk_at "ex"))
  | ((refine' DpAll.ex ?e _ _ ?h); (case h => assumption); (case e => walk_at "ex"))
  | (refine' dp_intsD ?h; (case h => walk_at "hl")))
local macro_rules | `(tactic| walk_at "rd1") => `(tactic| (first
  | (with_reducible refine r_seq ?_)
  | (with_reducible refine r_asg ?_)
  | (with_reducible refine r_asgG ?_)
  | (with_reducible refine r_par ?_)
  | (with_reducible refine r_if ?_)
  | (with_reducible refine r_ret ?_)
  | (with_reducible refine r_drop ?_)
  | (with_reducible refine r_next ?_)
  | ((with_reducible refine' r_var ?hx ?_); (case hx => exact rfl))
  | (with_reducible refine r_c ?_)
  | (with_reducible refine r_op ?_)
  | (with_reducible refine r_un ?_)
  | (with_reducible refine r_I0 ?_)
  | ((with_reducible refine' r_I ?_ ?_); (· first | (show (0 : Int) < _; omega) | exact Or.inr ⟨by omega, by omega⟩ | exact Or.inl ⟨by omega, by omega⟩ | exact ⟨by omega, by omega, by decide⟩))
  | (with_reducible refine r_U ?_)
  | (with_reducible refine r_test ?_)
  | (with_reducible refine r_B ?_)
  | (with_reducible refine r_bl ?_)
  | (with_reducible refine r_eqI ?_)
  | (with_reducible refine r_neI ?_)
  | ((with_reducible refine' r_eq ?_ ?_); (· exact rfl))
  | ((with_reducible refine' r_ne ?_ ?_); (· exact rfl))
  | (with_reducible refine r_nil ?_)
  | (with_reducible refine r_cons ?_)
  | (with_reducible refine s_tup ?_)
  | (with_reducible refine s_lst ?_)
  | (with_reducible refine r_call ?_)
  | (with_reducible refine r_cb ?_)
  | (with_reducible refine r_and ?_)
  | (with_reducible refine r_or ?_)
  | (with_reducible refine r_not ?_)
  | (with_reducible refine r_andV ?_)
  | (with_reducible refine r_orV ?_)
  | (with_reducible refine r_notV ?_)
  | (with_reducible refine r_ifE ?_)
  | (with_reducible refine r_gSub ?_)
  | (with_reducible refine r_sadd ?_)
  | (with_reducible refine s_lstRg ?_)
  | (with_reducible refine r_rg1 ?_)
  | (with_reducible refine r_min2 ?_)
  | (with_reducible refine r_par2 ?_)
  | (with_reducible refine r_partI ?_)
  | (with_reducible refine s_lc ?_)
  | (with_reducible refine s_dc ?_)
  | (with_reducible refine r_yes ?_)
  | (with_reducible refine r_iZipA ?_)
  | (with_reducible refine r_isN ?_)
  | (with_reducible refine r_for ?_)
  | (with_reducible refine r_iList ?_)
  | (with_reducible refine r_iTup ?_)
  | (with_reducible refine r_iRng1 ?_)
  | (with_reducible refine r_iRng2 ?_)
  | (with_reducible refine r_iEnum ?_)
  | (with_reducible refine r_iZip ?_)
  | (with_reducible refine r_gName ?_)
  | (with_reducible refine r_isNV ?_)
  | (with_reducible refine r_notNV ?_)
  | (with_reducible refine r_bm ?_)
  | (with_reducible refine r_bm0 ?_)
  | (with_reducible refine r_sl ?_)
  | (with_reducible refine r_noPart ?_)
  | (with_reducible refine r_part ?_)
  | (with_reducible refine r_chain ?_)
  | (with_reducible refine r_iKeys ?_)
  | (with_reducible refine r_iItems ?_)
  | (with_reducible refine r_frz ?_)
  | (with_reducible refine r_dput ?_)
  | (with_reducible refine r_dget ?_)
  | (with_reducible refine r_din ?_)
  | (with_reducible refine r_dnotin ?_)
  | (with_reducible refine r_break ?_)
  | ((with_reducible refine' r_sIn ?h ?_); (case h => walk_at "hs"))
  | ((with_reducible refine' r_sNotIn ?h ?_); (case h => walk_at "hs"))
  | ((with_reducible refine' r_inI ?h ?_); (case h => walk_at "hl"))
  | ((with_reducible refine' r_notInI ?h ?_); (case h => walk_at "hl"))
  | ((with_reducible refine' r_eqNil ?h ?g ?_); (case h => walk_at "hl"); (case g => walk_at "hl"))
  | ((with_reducible refine' r_neNil ?h ?g ?_); (case h => walk_at "hl"); (case g => walk_at "hl"))
  | ((with_reducible refine' iteRT ?hh ?_); (case hh => exact rfl))
  | ((with_reducible refine' iteRF ?hh ?_); (case hh => exact rfl))
  | ((with_reducible refine' r_isiT ?ty ?hk ?_); (case ty => (first | assumption | exact tyx_L (by assumption) | exact tyx_T (by assumption) | exact .base (.non) | exact .base (.bl _) | exact .base (.int _) | exact .base (.str _) | exact tyx_L (by walk_at "hl") | exact tyx_T (by walk_at "hl"))); (case hk => decide +kernel))
  | ((with_reducible refine' r_isiF ?ty ?hk ?_); (case ty => (first | assumption | exact tyx_L (by assumption) | exact tyx_T (by assumption) | exact .base (.non) | exact .base (.bl _) | exact .base (.int _) | exact .base (.str _) | exact tyx_L (by walk_at "hl") | exact tyx_T (by walk_at "hl"))); (case hk => decide +kernel))
  | ((with_reducible refine' r_gTup2 ?hn ?hs ?_); (case hn => exact rfl); (case hs => walk_at "hl"))
  | ((with_reducible refine' s_list ?hl ?_); (case hl => first | exact Or.inl (by walk_at "hl") | exact Or.inr (by walk_at "hl")))
  | ((with_reducible refine' s_tupN ?hl ?_); (case hl => walk_at "hl"))
  | ((with_reducible refine' s_sortN ?hl ?_); (case hl => walk_at "hl"))
  | ((refine' ⟨_, _, rfl, ?hl, ?_⟩); (case hl => first | exact Or.inl (by walk_at "hl") | exact Or.inr (by walk_at "hl")))
  | ((with_reducible refine' r_ixL ?hl ?ha ?_); (case hl => walk_at "hl"); (case ha => first | exact rfl | assumption))
  | ((with_reducible refine' r_ixT ?hl ?ha ?_); (case hl => walk_at "hl"); (case ha => first | exact rfl | assumption))))
local macro_rules | `(tactic| walk_at "rd") => `(tactic| repeat (walk_at "rd1"))

section
variable {P : Program} {w : World} {K : PySem.W.Frag} {mg : Str → Option Value} {base : Heap}

/-- the two represent one datum of depth below n -/
def A_same (K : PySem.W.Frag) (n : Nat) : PyData → List V → Hp → Prop := fun d vs F => ∃ v u, vs = [v, u] ∧ Dp K F v d ∧ Dp K F u d ∧ d.depth < n ∧ wd d = true
def B_same : PyData → V → List (Addr × Cel) → Hp → Prop := fun _ v N _ => v = .bl true ∧ N = []
theorem all_rep (n : Nat) : (List.replicate n true).all id = true := by simp
theorem ok_same0 (T : Env K mg) : FnOk P w K mg base CX0 1 T.a__law_same T.fd__law_same ["found", "due"] (SpF (A_same K 0) B_same) := by
  refine T.F__law_same.ok sc__law_same (fun vs H Q E h => ?_) (fun cdv A outer s H vs Q E hr h => ?_)
  · obtain ⟨d, F, _, ⟨v, u, rfl, _⟩, _⟩ := h
    rfl
  · obtain ⟨d, F, _, ⟨v, u, _, _, _, h, _⟩, _⟩ := h
    exact absurd h (Nat.not_lt_zero _)
theorem ok_sameS (T : Env K mg) {n : Nat} (G__law_same : FnOk P w K mg base CX0 (n + 1) T.a__law_same T.fd__law_same ["found", "due"] (SpF (A_same K n) B_same)) : FnOk P w K mg base CX0 (n + 2) T.a__law_same T.fd__law_same ["found", "due"] (SpF (A_same K (n + 1)) B_same) := by
  have nd := sc__law_same.nd
  refine T.F__law_same.ok sc__law_same (fun vs H Q E h => ?_) (fun cdv A outer s H vs Q E hr h => ?_)
  · obtain ⟨d, F, _, ⟨v, u, rfl, _⟩, _⟩ := h
    rfl
  · obtain ⟨d, F, fr, ⟨v, u, rfl, hv0, hu0, hn, hw⟩, k⟩ := h
    have hv := Dp.ex fr _ _ hv0
    have hu := Dp.ex fr _ _ hu0
    clear hv0 hu0
    have fin : Q (.bl true) H := k _ _ _ _ (Sep.scal fr (Evl.Ex.refl _)) ⟨rfl, rfl⟩
    refine ⟨_, (pss_cons (ps_if (PW.pt (pw_or (pt_cmpR op_isN (pv 1) pe_non (nomark _)) (pw_or1 (pt_val (pe_callB call_isi (by rfl) T.n_isinstance (by decide +kernel) (pa_cons (pv 1) (pa_cons (pe_bltn (v := .ty "bool") (u := .type "bool") (by rfl) T.n_bool (by decide +kernel) rfl) pa_nil))))))) (pss_one (ps_ret (pe_and (pe_cmpR op_eq (pe_callB call_isi (by rfl) T.n_isinstance (by decide +kernel) (pa_cons (pv 0) (pa_cons (pe_bltn (v := .ty "bool") (u := .type "bool") (by rfl) T.n_bool (by decide +kernel) rfl) pa_nil))) (pe_callB call_isi (by rfl) T.n_isinstance (by decide +kernel) (pa_cons (pv 1) (pa_cons (pe_bltn (v := .ty "bool") (u := .type "bool") (by rfl) T.n_bool (by decide +kernel) rfl) pa_nil))) (nomark _)) (pe_one (pe_cmpR op_eq (pv 0) (pv 1) (nomark _)))))) pss_nil)
      (pss_cons (ps_if (pt_val (pe_callB call_isi (by rfl) T.n_isinstance (by decide +kernel) (pa_cons (pv 1) (pa_cons (pe_bltn (v := .ty "str") (u := .type "str") (by rfl) T.n_str (by decide +kernel) rfl) pa_nil)))) (pss_one (ps_ret (pe_and (pe_callB call_isi (by rfl) T.n_isinstance (by decide +kernel) (pa_cons (pv 0) (pa_cons (pe_bltn (v := .ty "str") (u := .type "str") (by rfl) T.n_str (by decide +kernel) rfl) pa_nil))) (pe_one (pe_cmpR op_eq (pv 0) (pv 1) (nomark _)))))) pss_nil)
      (pss_cons (ps_if (pt_val (pe_callB call_isi (by rfl) T.n_isinstance (by decide +kernel) (pa_cons (pv 1) (pa_cons (pe_bltn (v := .ty "int") (u := .type "int") (by rfl) T.n_int (by decide +kernel) rfl) pa_nil)))) (pss_one (ps_ret (pe_and (pe_callB call_isi (by rfl) T.n_isinstance (by decide +kernel) (pa_cons (pv 0) (pa_cons (pe_bltn (v := .ty "int") (u := .type "int") (by rfl) T.n_int (by decide +kernel) rfl) pa_nil))) (pe_and (pe_not (pe_callB call_isi (by rfl) T.n_isinstance (by decide +kernel) (pa_cons (pv 0) (pa_cons (pe_bltn (v := .ty "bool") (u := .type "bool") (by rfl) T.n_bool (by decide +kernel) rfl) pa_nil)))) (pe_one (pe_cmpR op_eq (pv 0) (pv 1) (nomark _))))))) pss_nil)
      (pss_cons (ps_if (PW.pt (pw_or (pt_cmpR op_ne (pe_callB call_isi (by rfl) T.n_isinstance (by decide +kernel) (pa_cons (pv 1) (pa_cons (pe_bltn (v := .ty "tuple") (u := .type "tuple") (by rfl) T.n_tuple (by decide +kernel) rfl) pa_nil))) (pe_callB call_isi (by rfl) T.n_isinstance (by decide +kernel) (pa_cons (pv 0) (pa_cons (pe_bltn (v := .ty "tuple") (u := .type "tuple") (by rfl) T.n_tuple (by decide +kernel) rfl) pa_nil))) (nomark _)) (pw_or1 (pt_cmpR op_ne (pe_callB call_isi (by rfl) T.n_isinstance (by decide +kernel) (pa_cons (pv 1) (pa_cons (pe_bltn (v := .ty "list") (u := .type "list") (by rfl) T.n_list (by decide +kernel) rfl) pa_nil))) (pe_callB call_isi (by rfl) T.n_isinstance (by decide +kernel) (pa_cons (pv 0) (pa_cons (pe_bltn (v := .ty "list") (u := .type "list") (by rfl) T.n_list (by decide +kernel) rfl) pa_nil))) (nomark _))))) (pss_one (ps_ret pe_bl)) pss_nil)
      (pss_one (ps_ret (pe_and (pe_cmpR op_eq (pe_callB call_len_seq (by rfl) T.n_len PySem.boot_len (pa_cons (pv 0) pa_nil)) (pe_callB call_len_seq (by rfl) T.n_len PySem.boot_len (pa_cons (pv 1) pa_nil)) (nomark _)) (pe_one (pe_callB (cr_all rfl) (by rfl) T.n_all (by decide +kernel) (pa_cons (pe_lc (own := [("one", 2), ("other", 3)]) (g := (gTup K 2 (gCons (gName 2) (gCons (gName 3) gNil)))) (tt := tYes) (te := (tCall (SpF (A_same K n) B_same) [] E0 (tCons (tVar 2) (tCons (tVar 3) tNil)))) rfl nd (RZ.pi_zipA (by rfl) T.n_zip (pa_cons (pv 0) (pa_cons (pv 1) pa_nil))) (blkOk_by (N := ["found", "due", "one", "other"]) (sc := defScope s__law_same) (by decide +kernel)) (fun _ _ _ _ _ => (pg_tup rfl (pgs_cons (pg_name (i := 2) nd rfl (.inl rfl)) (pgs_cons (pg_name (i := 3) nd rfl (.inl rfl)) pgs_nil)))) (fun _ _ _ _ _ => pts_nil) (fun _ _ _ _ _ => (pe_call G__law_same hr (by rfl) T.g__law_same T.F__law_same.kp T.b__law_same .nil pass0 (pa_cons (pv 2) (pa_cons (pv 3) pa_nil))))) pa_nil)))))))))), ?_⟩
    cases hv with
    | non =>
      cases hu
      walk_at "rd"
      exact fin
    | bl b =>
      cases hu
      walk_at "rd"
      show Q (.bl (decide (V.bl b = V.bl b))) _
      rw [decide_eq_true rfl]
      exact fin
    | int i =>
      cases hu
      walk_at "rd"
      show Q (.bl (decide (i = i))) _
      rw [decide_eq_true rfl]
      exact fin
    | str z =>
      cases hu
      walk_at "rd"
      show Q (.bl (decide (V.str z = V.str z))) _
      rw [decide_eq_true rfl]
      exact fin
    | lst h1 h2 =>
      rename_i a1 xs1 ds
      cases hu with
      | lst g1 g2 =>
        rename_i a2 xs2
        have l1 := dpAll_get h2
        have l2 := dpAll_get g2
        rw [wd, Bool.and_eq_true] at hw
        rw [PyData.depth] at hn
        have hl := of_decide_eq_true hw.1
        walk_at "rd"
        refine iteRT (by rw [l1.1, l2.1]; simp) ?_
        walk_at "rd"
        refine ⟨_, _, _, _, rfl, .inl ⟨h1, g1, fun D hD => ?_⟩⟩
        have nD : H D = none := hD
        refine lc_it (walk_zip (xs := xs1) (ys := xs2) rfl) (fun i H' => H' D = some (.lst ((List.replicate i true).map V.bl)) ∧ Evl.Ex H H') ?_ ?_ ?_ ?_
        · exact ⟨upd_same, Evl.Ex.new hD⟩
        · rintro i H' _ ⟨_, e⟩
          exact ⟨Evl.ex_l e h1, Evl.ex_l e g1⟩
        · rintro i v H1 H2 hi ⟨hd, e⟩ ⟨t, x, y, rfl, ht, rfl, ex, ey⟩
          obtain ⟨d1, e1, p1⟩ := l1.2 i x ex
          obtain ⟨d2, e2, p2⟩ := l2.2 i y ey
          rw [e1] at e2
          cases e2
          have e' := e.trans (Evl.Ex.new (o := .tup [x, y]) ht)
          have m1 : d1 ∈ ds := List.mem_of_getElem? e1
          have m2 := depthAll_mem m1
          have Dt : D ≠ t := ne_of_none hd ht
          have ct : (upd H1 t (.tup [x, y])) t = some (.tup [x, y]) := upd_same
          have ct := SqT.of (K := K) ct
          walk_at "rd"
          refine ⟨rfl, ?_⟩
          walk_at "rd"
          refine ⟨d1, _, Evl.Ex.refl _, ⟨x, y, rfl, Dp.ex e' _ _ p1, Dp.ex e' _ _ p2, by omega, wdAll_mem hw.2 m1⟩, fun v N F3 H3 S3 ⟨ev, _⟩ => ?_⟩
          subst ev
          have e3 := S3.ex
          refine ⟨_, e3 D _ (by rw [upd_ne Dt]; exact hd), Evl.sz_lt (by rw [List.length_map, List.length_replicate]; rw [l1.1, l2.1] at hi; omega), ?_, (e'.trans e3).mut nD⟩
          rw [upd_same, List.replicate_succ', List.map_append]
          rfl
        · rintro H' ⟨hd, e⟩
          refine ⟨D, List.replicate _ true, rfl, SqL.of hd, ?_⟩
          rw [all_rep]
          exact k _ _ _ _ (Sep.scal fr e) ⟨rfl, rfl⟩
    | tup h1 h2 =>
      rename_i a1 xs1 ds
      cases hu with
      | tup g1 g2 =>
        rename_i a2 xs2
        have l1 := dpAll_get h2
        have l2 := dpAll_get g2
        rw [wd, Bool.and_eq_true] at hw
        rw [PyData.depth] at hn
        have hl := of_decide_eq_true hw.1
        walk_at "rd"
        refine iteRT (by rw [l1.1, l2.1]; simp) ?_
        walk_at "rd"
        refine ⟨_, _, _, _, rfl, .inr ⟨h1, g1, fun D hD => ?_⟩⟩
        have nD : H D = none := hD
        refine lc_it (walk_zipT (xs := xs1) (ys := xs2) rfl) (fun i H' => H' D = some (.lst ((List.replicate i true).map V.bl)) ∧ Evl.Ex H H') ?_ ?_ ?_ ?_
        · exact ⟨upd_same, Evl.Ex.new hD⟩
        · rintro i H' _ ⟨_, e⟩
          exact ⟨Evl.ex_t e h1, Evl.ex_t e g1⟩
        · rintro i v H1 H2 hi ⟨hd, e⟩ ⟨t, x, y, rfl, ht, rfl, ex, ey⟩
          obtain ⟨d1, e1, p1⟩ := l1.2 i x ex
          obtain ⟨d2, e2, p2⟩ := l2.2 i y ey
          rw [e1] at e2
          cases e2
          have e' := e.trans (Evl.Ex.new (o := .tup [x, y]) ht)
          have m1 : d1 ∈ ds := List.mem_of_getElem? e1
          have m2 := depthAll_mem m1
          have Dt : D ≠ t := ne_of_none hd ht
          have ct : (upd H1 t (.tup [x, y])) t = some (.tup [x, y]) := upd_same
          have ct := SqT.of (K := K) ct
          walk_at "rd"
          refine ⟨rfl, ?_⟩
          walk_at "rd"
          refine ⟨d1, _, Evl.Ex.refl _, ⟨x, y, rfl, Dp.ex e' _ _ p1, Dp.ex e' _ _ p2, by omega, wdAll_mem hw.2 m1⟩, fun v N F3 H3 S3 ⟨ev, _⟩ => ?_⟩
          subst ev
          have e3 := S3.ex
          refine ⟨_, e3 D _ (by rw [upd_ne Dt]; exact hd), Evl.sz_lt (by rw [List.length_map, List.length_replicate]; rw [l1.1, l2.1] at hi; omega), ?_, (e'.trans e3).mut nD⟩
          rw [upd_same, List.replicate_succ', List.map_append]
          rfl
        · rintro H' ⟨hd, e⟩
          refine ⟨D, List.replicate _ true, rfl, SqL.of hd, ?_⟩
          rw [all_rep]
          exact k _ _ _ _ (Sep.scal fr e) ⟨rfl, rfl⟩

theorem ok_same (T : Env K mg) : ∀ n, FnOk P w K mg base CX0 (n + 1) T.a__law_same T.fd__law_same ["found", "due"] (SpF (A_same K n) B_same)
  | 0 => ok_same0 T
  | n + 1 => ok_sameS T (ok_same T n)
theorem ok_l_same (T : Env K mg) : FnOk P w K mg base CX0 8 T.a__law_same T.fd__law_same ["found", "due"] (SpF (A_same K 7) B_same) := ok_same T 7

end

end
section
local macro_rules | `(tactic| walk_at "ex") => `(tactic| first | exact Evl.Ex.refl _ | assumption | ((refine' Evl.Ex.trans ?x ?y); (case y => assumption); (case x => walk_at "ex")))
local macro_rules | `(tactic| walk_at "hc") => `(tactic| first
  | assumption
  | ((refine' Sep.rdM ?S 0 ?k); (case S => assumption); (case k => exact rfl)) | ((refine' Sep.rdM ?S 1 ?k); (case S => assumption); (case k => exact rfl)) | ((refine' Sep.rdM ?S 2 ?k); (case S => assumption); (case k => exact rfl)) | ((refine' Sep.rdM ?S 3 ?k); (case S => assumption); (case k => exact rfl)) | ((refine' Sep.rdM ?S 4 ?k); (case S => assumption); (case k => exact rfl))
  | ((refine' Sep.rdC ?S ?e ?h); (case S => assumption); (case h => assumption); (case e => walk_at "ex")))
local macro_rules | `(tactic| walk_at "hl") => `(tactic| first
  | assumption
  | ((refine' SqL.of (Sep.rdM ?S 0 ?k)); (case S => assumption); (case k => exact rfl)) | ((refine' SqL.of (Sep.rdM ?S 1 ?k)); (case S => assumption); (case k => exact rfl)) | ((refine' SqL.of (Sep.rdM ?S 2 ?k)); (case S => assumption); (case k => exact rfl)) | ((refine' SqL.of (Sep.rdM ?S 3 ?k)); (case S => assumption); (case k => exact rfl)) | ((refine' SqL.of (Sep.rdM ?S 4 ?k)); (case S => assumption); (case k => exact rfl))
  | ((refine' Sep.rdL ?S ?e ?h); (case S => assumption); (case h => assumption); (case e => walk_at "ex"))
  | ((refine' Sep.rdT ?S ?e ?h); (case S => assumption); (case h => assumption); (case e => walk_at "ex"))
  | ((refine' SqL.of (Sep.rdC ?S ?e ?h)); (case S => assumption); (case h => assumption); (case e => walk_at "ex"))
  | ((refine' SqT.of (Sep.rdC ?S ?e ?h)); (case S => assumption); (case h => assumption); (case e => walk_at "ex"))
  | ((refine' SqL.of ?h); (case h => assumption)) | ((refine' SqT.of ?h); (case h => assumption))
  | ((refine' Evl.ex_l ?e ?h); (case h => assumption); (case e => walk_at "ex")) | ((refine' Evl.ex_t ?e ?h); (case h => assumption); (case e => walk_at "ex"))
  | ((refine' SqL.of (?e _ _ ?h)); (case h => assumption); (case e => walk_at "ex")) | ((refine' SqT.of (?e _ _ ?h)); (case h => assumption); (case e => walk_at "ex")))
local macro_rules | `(tactic| walk_at "hs") => `(tactic| walk_at "hc")
local macro_rules | `(tactic| walk_at "dp") => `(tactic| first
  | assumption
  | ((refine' Sep.rdD ?S ?e ?h); (case S => assumption); (case h => assumption); (case e => walk_at "ex"))
  | ((refine' Dp.ex ?e _ _ ?h); (case h => assumption); (case e => walk_at "ex"))
  | ((refine' DpAll.ex ?e _ _ ?h); (case h => assumption); (case e => walk_at "ex"))
  | (refine' dp_intsD ?h; (case h => walk_at "hl")))
local macro_rules | `(tactic| walk_at "rd1") => `(tactic| (first
  | (with_reducible refine r_seq ?_)
  | (with_reducible refine r_asg ?_)
  | (with_reducible refine r_asgG ?_)
  | (with_reducible refine r_par ?_)
  | (with_reducible refine r_if ?_)
  | (with_reducible refine r_ret ?_)
  | (with_reducible refine r_drop ?_)
  | (with_reducible refine r_next ?_)
  | ((with_reducible refine' r_var ?hx ?_); (case hx => exact rfl))
  | (with_reducible refine r_c ?_)
  | (with_reducible refine r_op ?_)
  | (with_reducible refine r_un ?_)
  | (with_reducible refine r_I0 ?_)
  | ((with_reducible refine' r_I ?_ ?_); (· first | (show (0 : Int) < _; omega) | exact Or.inr ⟨by omega, by omega⟩ | exact Or.inl ⟨by omega, by omega⟩ | exact ⟨by omega, by omega, by decide⟩))
  | (with_reducible refine r_U ?_)
  | (with_reducible refine r_test ?_)
  | (with_reducible refine r_B ?_)
  | (with_reducible refine r_bl ?_)
  | (with_reducible refine r_eqI ?_)
  | (with_reducible refine r_neI ?_)
  | ((with_reducible refine' r_eq ?_ ?_); (· exact rfl))
  | ((with_reducible refine' r_ne ?_ ?_); (· exact rfl))
  | (with_reducible refine r_nil ?_)
  | (with_reducible refine r_cons ?_)
  | (with_reducible refine s_tup ?_)
  | (with_reducible refine s_lst ?_)
  | (with_reducible refine r_call ?_)
  | (with_reducible refine r_cb ?_)
  | (with_reducible refine r_and ?_)
  | (with_reducible refine r_or ?_)
  | (with_reducible refine r_not ?_)
  | (with_reducible refine r_andV ?_)
  | (with_reducible refine r_orV ?_)
  | (with_reducible refine r_notV ?_)
  | (with_reducible refine r_ifE ?_)
  | (with_reducible refine r_gSub ?_)
  | (with_reducible refine r_sadd ?_)
  | (with_reducible refine s_lstRg ?_)
  | (with_reducible refine r_rg1 ?_)
  | (with_reducible refine r_min2 ?_)
  | (with_reducible refine r_par2 ?_)
  | (with_reducible refine r_partI ?_)
  | (with_reducible refine s_lc ?_)
  | (with_reducible refine s_dc ?_)
  | (with_reducible refine r_yes ?_)
  | (with_reducible refine r_iZipA ?_)
  | (with_reducible refine r_isN ?_)
  | (with_reducible refine r_for ?_)
  | (with_reducible refine r_iList ?_)
  | (with_reducible refine r_iTup ?_)
  | (with_reducible refine r_iRng1 ?_)
  | (with_reducible refine r_iRng2 ?_)
  | (with_reducible refine r_iEnum ?_)
  | (with_reducible refine r_iZip ?_)
  | (with_reducible refine r_gName ?_)
  | (with_reducible refine r_isNV ?_)
  | (with_reducible refine r_notNV ?_)
  | (with_reducible refine r_bm ?_)
  | (with_reducible refine r_bm0 ?_)
  | (with_reducible refine r_sl ?_)
  | (with_reducible refine r_noPart ?_)
  | (with_reducible refine r_part ?_)
  | (with_reducible refine r_chain ?_)
  | (with_reducible refine r_iKeys ?_)
  | (with_reducible refine r_iItems ?_)
  | (with_reducible refine r_frz ?_)
  | (with_reducible refine r_dput ?_)
  | (with_reducible refine r_dget ?_)
  | (with_reducible refine r_din ?_)
  | (with_reducible refine r_dnotin ?_)
  | (with_reducible refine r_break ?_)
  | ((with_reducible refine' r_sIn ?h ?_); (case h => walk_at "hs"))
  | ((with_reducible refine' r_sNotIn ?h ?_); (case h => walk_at "hs"))
  | ((with_reducible refine' r_inI ?h ?_); (case h => walk_at "hl"))
  | ((with_reducible refine' r_notInI ?h ?_); (case h => walk_at "hl"))
  | ((with_reducible refine' r_eqNil ?h ?g ?_); (case h => walk_at "hl"); (case g => walk_at "hl"))
  | ((with_reducible refine' r_neNil ?h ?g ?_); (case h => walk_at "hl"); (case g => walk_at "hl"))
  | ((with_reducible refine' iteRT ?hh ?_); (case hh => exact rfl))
  | ((with_reducible refine' iteRF ?hh ?_); (case hh => exact rfl))
  | ((with_reducible refine' r_isiT ?ty ?hk ?_); (case ty => (first | assumption | exact tyx_L (by assumption) | exact tyx_T (by assumption) | exact .base (.non) | exact .base (.bl _) | exact .base (.int _) | exact .base (.str _) | exact tyx_L (by walk_at "hl") | exact tyx_T (by walk_at "hl"))); (case hk => decide +kernel))
  | ((with_reducible refine' r_isiF ?ty ?hk ?_); (case ty => (first | assumption | exact tyx_L (by assumption) | exact tyx_T (by assumption) | exact .base (.non) | exact .base (.bl _) | exact .base (.int _) | exact .base (.str _) | exact tyx_L (by walk_at "hl") | exact tyx_T (by walk_at "hl"))); (case hk => decide +kernel))
  | ((with_reducible refine' r_gTup2 ?hn ?hs ?_); (case hn => exact rfl); (case hs => walk_at "hl"))
  | ((with_reducible refine' s_list ?hl ?_); (case hl => first | exact Or.inl (by walk_at "hl") | exact Or.inr (by walk_at "hl")))
  | ((with_reducible refine' s_tupN ?hl ?_); (case hl => walk_at "hl"))
  | ((with_reducible refine' s_sortN ?hl ?_); (case hl => walk_at "hl"))
  | ((refine' ⟨_, _, rfl, ?hl, ?_⟩); (case hl => first | exact Or.inl (by walk_at "hl") | exact Or.inr (by walk_at "hl")))
  | ((with_reducible refine' r_ixL ?hl ?ha ?_); (case hl => walk_at "hl"); (case ha => first | exact rfl | assumption))
  | ((with_reducible refine' r_ixT ?hl ?ha ?_); (case hl => walk_at "hl"); (case ha => first | exact rfl | assumption))))
local macro_rules | `(tactic| walk_at "rd") => `(tactic| repeat (walk_at "rd1"))

section
variable {P : Program} {w : World} {K : PySem.W.Frag} {mg : Str → Option Value} {base : Heap}

def A_nleft (K : PySem.W.Frag) : (Int × List (Int × Int) × List Int × Addr) → List V → Hp → Prop := fun | (many, ties, left, a), vs, F => ∃ v, vs = [v, .ref a] ∧ Dp K F v (webD many ties) ∧ UpT ties ∧ F a = some (.lst (left.map V.int)) ∧ left.Nodup ∧ left.length ≤ 60 ∧ ties.length ≤ 4000
def B_nleft : (Int × List (Int × Int) × List Int × Addr) → V → List (Addr × Cel) → Hp → Prop := fun | (_, ties, left, a), v, N, F => N = [] ∧ ∃ d, v = .ref d ∧ NearNew F d ties left a
/-- the lists of those left, ties ts gone through -/
def zipC (ts : List (Int × Int)) (left : List Int) (as : List Addr) : List (Addr × HO) := List.zipWith (fun a h => (a, HO.lst ((nbL ts left h).map V.int))) as left
theorem zipC_at {ts : List (Int × Int)} {left : List Int} {as : List Addr} {i : Nat} {h : Int} {a : Addr} (e1 : as[i]? = some a) (e2 : left[i]? = some h) : (zipC ts left as)[i]? = some (a, HO.lst ((nbL ts left h).map V.int)) := by
  unfold zipC
  rw [List.getElem?_zipWith, e1, e2]
theorem nbL_le (ts : List (Int × Int)) (left : List Int) (h : Int) : (nbL ts left h).length ≤ ts.length := by
  induction ts with
  | nil => exact Nat.le_refl _
  | cons t r ih =>
    unfold nbL at ih ⊢
    rw [List.flatMap_cons, List.length_append, List.length_cons]
    have : (if t.1 ∈ left ∧ t.2 ∈ left then (if t.1 = h then [t.2] else if t.2 = h then [t.1] else []) else ([] : List Int)).length ≤ 1 := by
      split
      · split
        · exact Nat.le_refl _
        · split
          · exact Nat.le_refl _
          · exact Nat.zero_le _
      · exact Nat.zero_le _
    omega
theorem zipC_skip {ts : List (Int × Int)} {left : List Int} {as : List Addr} {t : Int × Int} (c : ¬ (t.1 ∈ left ∧ t.2 ∈ left)) : zipC (ts ++ [t]) left as = zipC ts left as := by
  unfold zipC
  congr 1
  funext a h
  rw [nbL_snoc, if_neg c, List.append_nil]
theorem zipC_tie {ts : List (Int × Int)} {left : List Int} {as : List Addr} {t : Int × Int} {i j : Nat} {a b : Addr} (nd : left.Nodup) (lt : t.1 < t.2) (i1 : left[i]? = some t.1) (i2 : as[i]? = some a) (j1 : left[j]? = some t.2) (j2 : as[j]? = some b) :
    ((zipC ts left as).set i (a, .lst ((nbL ts left t.1 ++ [t.2]).map V.int))).set j (b, .lst ((nbL ts left t.2 ++ [t.1]).map V.int)) = zipC (ts ++ [t]) left as := by
  have m1 := List.mem_of_getElem? i1
  have m2 := List.mem_of_getElem? j1
  have ij : i ≠ j := fun e => by rw [e, j1] at i1; have := Option.some.inj i1; omega
  refine List.ext_getElem? fun n => ?_
  unfold zipC
  by_cases c2 : j = n
  · subst c2
    have l2 := (List.getElem?_eq_some_iff.mp j2).1
    have l1 := (List.getElem?_eq_some_iff.mp j1).1
    rw [List.getElem?_set_self (by rw [List.length_set, List.length_zipWith]; omega), List.getElem?_zipWith, j2, j1]
    have ne : t.1 ≠ t.2 := by omega
    simp [nbL_snoc, m1, m2, ne]
  · rw [List.getElem?_set_ne c2]
    by_cases c1 : i = n
    · subst c1
      have l2 := (List.getElem?_eq_some_iff.mp i2).1
      have l1 := (List.getElem?_eq_some_iff.mp i1).1
      rw [List.getElem?_set_self (by rw [List.length_zipWith]; omega), List.getElem?_zipWith, i2, i1]
      simp [nbL_snoc, m1, m2]
    · rw [List.getElem?_set_ne c1, List.getElem?_zipWith, List.getElem?_zipWith]
      cases q1 : as[n]? with
      | none => rfl
      | some x =>
        cases q2 : left[n]? with
        | none => rfl
        | some h =>
          have n1 : t.1 ≠ h := fun e => c1 (nd_ix' nd (by rw [e]; exact q2) i1).symm
          have n2 : t.2 ≠ h := fun e => c2 (nd_ix' nd (by rw [e]; exact q2) j1).symm
          simp only [nbL_snoc]
          rw [if_pos ⟨m1, m2⟩, if_neg n1, if_neg n2, List.append_nil]
theorem zipC_nil {left : List Int} {as : List Addr} (e : as.length = left.length) : zipC [] left as = as.map fun a => (a, HO.lst []) := by
  refine List.ext_getElem? fun n => ?_
  unfold zipC
  rw [List.getElem?_zipWith, List.getElem?_map]
  by_cases c : n < as.length
  · rw [List.getElem?_eq_getElem c, List.getElem?_eq_getElem (by omega)]
    rfl
  · rw [List.getElem?_eq_none (by omega)]
    rfl
theorem ok_near_left (T : Env K mg) : FnOk P w K mg base CX0 1 T.a_near_left T.fd_near_left ["web", "left"] (SpF (A_nleft K) B_nleft) := by
  have nd := sc_near_left.nd
  refine T.F_near_left.ok sc_near_left (fun vs H Q E h => ?_) (fun cdv A outer s H vs Q E hr h => ?_)
  · obtain ⟨⟨_, _, _, _⟩, F, _, ⟨v, rfl, _⟩, _⟩ := h
    rfl
  · obtain ⟨⟨many, ties, left, a⟩, F, fr, ⟨v, rfl, hv, ut, ha0, nd0, hl, ht⟩, k⟩ := h
    have ha : SqL K F a (left.map V.int) := SqL.of ha0
    obtain ⟨wa, wb, ws, rfl, s1, s2, s3⟩ := webD_at hv
    have S := Sep.start0 fr
    refine ⟨_, (pss_cons (ps_asgDc (i := 2) (own := [("house", 5)]) (g := gName 5) (tt := tYes) (tk := (tVar 5)) (tv := (tLst tNil)) rfl nd rfl rfl (swaps_dc rfl rfl rfl (by decide +kernel)) (pi_list (pv 1)) (blkOk_by (N := ["web", "left", "near", "one", "other", "house"]) (sc := defScope s_near_left) (by decide +kernel)) (fun _ _ _ _ _ => (pg_name (i := 5) nd rfl (.inl rfl))) (fun _ _ _ _ _ => pts_nil) (fun _ _ _ _ _ => (pv 5)) (fun _ _ _ _ _ => (pe_lst pa_nil)))
      (pss_cons (ps_for PassesOwn.never rfl (pi_tup (pe_ix ix_tup (pv 0) pe_int (fun _ _ => rfl))) (pg_tup rfl (pgs_cons (pg_name (i := 3) nd rfl (.inl rfl)) (pgs_cons (pg_name (i := 4) nd rfl (.inl rfl)) pgs_nil))) (pss_one (ps_if (PW.pt (pw_and (pt_cmp (pc_din (u1 hr) (pv 3) (pv 2))) (pw_and1 (pt_cmp (pc_din (u1 hr) (pv 4) (pv 2)))))) (pss_cons (ps_expr (pe_bm PySem.F.plainAttrs_list PySem.F.slot_list_append PySem.F.type_list_append mt_append (pe_dget (u1 hr) (pv 2) (pv 3) (fun _ _ => rfl)) (pa_cons (pv 4) pa_nil)))
      (pss_one (ps_expr (pe_bm PySem.F.plainAttrs_list PySem.F.slot_list_append PySem.F.type_list_append mt_append (pe_dget (u1 hr) (pv 2) (pv 4) (fun _ _ => rfl)) (pa_cons (pv 3) pa_nil))))) pss_nil)))
      (pss_one (ps_ret (pe_frz (pv 2)))))), ?_⟩
    walk_at "rd"
    refine ⟨a, rfl, ⟨_, by walk_at "hl"⟩, ?_⟩
    refine s_dcI (srcI (K := K) ha) (fun i kvs F' M' => ∃ as : List Addr, as.length = i ∧ kvs = nearK (left.take i) as ∧ M' = cellsOf (as.map fun a => (a, HO.lst []))) S ⟨[], rfl, by rw [List.take_zero]; rfl, rfl⟩ (fun _ _ _ _ _ m hm => by cases hm) ?_ ?_
    · rintro i h x kvs D F1 F2 H2 M' hi S e1 e2 ex ⟨as, a1, rfl, rfl⟩
      subst ex
      have li := (List.getElem?_eq_some_iff.mp hi).1
      walk_at "rd"
      refine ⟨rfl, ?_⟩
      walk_at "rd"
      refine ⟨Nat.zero_le _, s_own S fun q H3 S => ?_⟩
      refine CD.put S 1 rfl (by walk_at "ex") (by unfold nearK; rw [List.length_zipWith]; omega) fun H4 S => ?_
      rw [nearK_put nd0 hi a1] at S
      refine ⟨_, _, _, S.perm (N := (D, .is (.dK (nearK (left.take (i + 1)) (as ++ [q])))) :: cellsOf ((as ++ [q]).map fun a => (a, HO.lst []))) ?_, by walk_at "ex", as ++ [q], by rw [List.length_append, a1]; rfl, rfl, rfl⟩
      show (_ :: cellsOf ((as ++ [q]).map fun a => (a, HO.lst []))).Perm ((q, .is (.lst [])) :: (D, .is (.dK (nearK (left.take (i + 1)) (as ++ [q])))) :: cellsOf (as.map fun a => (a, HO.lst [])))
      refine (List.Perm.cons _ ?_).trans (List.Perm.swap _ _ _)
      rw [List.map_append]
      unfold cellsOf
      rw [List.map_append]
      exact List.perm_append_comm
    · rintro D kvs F1 H1 M' S e1 ⟨as, a1, rfl, rfl⟩
      rw [List.take_length] at S
      rw [← zipC_nil a1] at S
      walk_at "rd"
      refine ⟨wb, rfl, ⟨ws, by walk_at "hl"⟩, ?_⟩
      refine s_for (fun i σ' F' M' => ∃ x3 x4 : Option V, σ' = [some (.ref wa), some (.ref a), some (.ref D), x3, x4, none] ∧ M' = (D, .is (.dK (nearK left as))) :: cellsOf (zipC (ties.take i) left as)) (srcDT (as := ties) (da := tieD) (Evl.ex_t e1 s2) (DpAll.ex e1 _ _ s3)) S ⟨none, none, rfl, by rw [List.take_zero]⟩ (fun _ _ _ _ _ m hm => by cases hm) ?_ ?_
      · rintro i t x σ' F2 F3 H3 M' et S e2 e3 hx ⟨x3, x4, rfl, rfl⟩
        obtain ⟨ta, rfl, st⟩ := tieD_at hx
        have tm := List.mem_of_getElem? et
        have lt := ut t tm
        have li := (List.getElem?_eq_some_iff.mp et).1
        walk_at "rd"
        refine s_din (.inl (S.rdM 0 rfl)) ?_
        walk_at "rd"
        rw [nearK_some nd0 a1]
        refine iteB (fun c1 => ?_) (fun c1 => ?_)
        · walk_at "rd"
          refine s_din (.inl (S.rdM 0 rfl)) ?_
          walk_at "rd"
          rw [nearK_some nd0 a1]
          refine iteB (fun c2 => ?_) (fun c2 => ?_)
          · have c1 := of_decide_eq_true c1
            have c2 := of_decide_eq_true c2
            obtain ⟨p1, hp1⟩ := List.mem_iff_getElem?.mp c1
            obtain ⟨p2, hp2⟩ := List.mem_iff_getElem?.mp c2
            have l1 := (List.getElem?_eq_some_iff.mp hp1).1
            have l2 := (List.getElem?_eq_some_iff.mp hp2).1
            obtain ⟨b1, hb1⟩ : ∃ b, as[p1]? = some b := ⟨_, List.getElem?_eq_getElem (by omega)⟩
            obtain ⟨b2, hb2⟩ : ∃ b, as[p2]? = some b := ⟨_, List.getElem?_eq_getElem (by omega)⟩
            have n1 := nbL_le (ties.take i) left t.1
            have n2 := nbL_le (ties.take i) left t.2
            rw [List.length_take] at n1 n2
            have ne : p1 ≠ p2 := fun e => by rw [e, hp2] at hp1; have := Option.some.inj hp1; omega
            walk_at "rd"
            refine s_dget (.inl (S.rdM 0 rfl)) (nearK_val nd0 hp1 hb1) ?_
            walk_at "rd"
            refine ⟨tyL (SqL.of (S.rdM (p1 + 1) (cells_at (zipC_at hb1 hp1)))), ?_⟩
            walk_at "rd"
            refine s_app S (p1 + 1) (cells_at (zipC_at hb1 hp1)) (by rw [List.length_map]; omega) fun H4 S => ?_
            rw [List.set_cons_succ, cells_put] at S
            walk_at "rd"
            refine s_dget (.inl (S.rdM 0 rfl)) (nearK_val nd0 hp2 hb2) ?_
            walk_at "rd"
            have cz := cells_at (show ((zipC (ties.take i) left as).set p1 (b1, .lst ((nbL (ties.take i) left t.1).map V.int ++ [.int t.2])))[p2]? = _ by rw [List.getElem?_set_ne ne]; exact zipC_at hb2 hp2)
            refine ⟨tyL (SqL.of (S.rdM (p2 + 1) cz)), ?_⟩
            walk_at "rd"
            refine s_app S (p2 + 1) cz (by rw [List.length_map]; omega) fun H5 S => ?_
            rw [List.set_cons_succ, cells_put] at S
            refine ⟨_, _, S, by walk_at "ex", _, _, rfl, ?_⟩
            have z := zipC_tie (ts := ties.take i) nd0 lt hp1 hb1 hp2 hb2
            rw [List.map_append, List.map_append] at z
            rw [take_snoc et, ← z]
            rfl
          · walk_at "rd"
            refine ⟨_, _, S, by walk_at "ex", _, _, rfl, ?_⟩
            rw [take_snoc et, zipC_skip fun z => of_decide_eq_false c2 z.2]
        · walk_at "rd"
          refine ⟨_, _, S, by walk_at "ex", _, _, rfl, ?_⟩
          rw [take_snoc et, zipC_skip fun z => of_decide_eq_false c1 z.1]
      · rintro σ' F2 H2 M' S e2 ⟨x3, x4, rfl, rfl⟩
        rw [List.take_length] at S
        have ca := (e1.trans e2) _ _ ha0
        have off : ∀ m ∈ ((D, Cel.is (.dK (nearK left as))) :: cellsOf (zipC ties left as)), m.1 ≠ a := fun m hm e => by
          have := (S.own m hm).2
          rw [e, ca] at this
          cases this
        have oD := off _ List.mem_cons_self
        have oA : ∀ b ∈ as, b ≠ a := fun b hb => by
          obtain ⟨i, hi⟩ := List.mem_iff_getElem?.mp hb
          have li := (List.getElem?_eq_some_iff.mp hi).1
          exact off (b, _) (List.mem_cons_of_mem _ (List.mem_of_getElem? (cells_at (zipC_at hi (List.getElem?_eq_getElem (show i < left.length by omega))))))
        walk_at "rd"
        refine s_frz S 0 rfl trivial fun od F3 H3 S e3 cd => ?_
        have S : Sep [] H F F3 H3 (cellsOf (zipC ties left as) ++ []) := by rw [List.append_nil]; exact S
        obtain ⟨F4, S, e4, c4⟩ := S.frzAll
        refine k _ [] _ _ S ⟨rfl, D, rfl, oD, od, as, a1, e4 _ _ cd, fun i h a x y => c4 (a, _) (List.mem_of_getElem? (zipC_at y x)), oA⟩

end

end
section
local macro_rules | `(tactic| walk_at "ex") => `(tactic| first | exact Evl.Ex.refl _ | assumption | ((refine' Evl.Ex.trans ?x ?y); (case y => assumption); (case x => walk_at "ex")))
local macro_rules | `(tactic| walk_at "hc") => `(tactic| first
  | assumption
  | ((refine' Sep.rdM ?S 0 ?k); (case S => assumption); (case k => exact rfl)) | ((refine' Sep.rdM ?S 1 ?k); (case S => assumption); (case k => exact rfl)) | ((refine' Sep.rdM ?S 2 ?k); (case S => assumption); (case k => exact rfl)) | ((refine' Sep.rdM ?S 3 ?k); (case S => assumption); (case k => exact rfl)) | ((refine' Sep.rdM ?S 4 ?k); (case S => assumption); (case k => exact rfl))
  | ((refine' Sep.rdC ?S ?e ?h); (case S => assumption); (case h => assumption); (case e => walk_at "ex")))
local macro_rules | `(tactic| walk_at "hl") => `(tactic| first
  | assumption
  | ((refine' SqL.of (Sep.rdM ?S 0 ?k)); (case S => assumption); (case k => exact rfl)) | ((refine' SqL.of (Sep.rdM ?S 1 ?k)); (case S => assumption); (case k => exact rfl)) | ((refine' SqL.of (Sep.rdM ?S 2 ?k)); (case S => assumption); (case k => exact rfl)) | ((refine' SqL.of (Sep.rdM ?S 3 ?k)); (case S => assumption); (case k => exact rfl)) | ((refine' SqL.of (Sep.rdM ?S 4 ?k)); (case S => assumption); (case k => exact rfl))
  | ((refine' Sep.rdL ?S ?e ?h); (case S => assumption); (case h => assumption); (case e => walk_at "ex"))
  | ((refine' Sep.rdT ?S ?e ?h); (case S => assumption); (case h => assumption); (case e => walk_at "ex"))
  | ((refine' SqL.of (Sep.rdC ?S ?e ?h)); (case S => assumption); (case h => assumption); (case e => walk_at "ex"))
  | ((refine' SqT.of (Sep.rdC ?S ?e ?h)); (case S => assumption); (case h => assumption); (case e => walk_at "ex"))
  | ((refine' SqL.of ?h); (case h => assumption)) | ((refine' SqT.of ?h); (case h => assumption))
  | ((refine' Evl.ex_l ?e ?h); (case h => assumption); (case e => walk_at "ex")) | ((refine' Evl.ex_t ?e ?h); (case h => assumption); (case e => walk_at "ex"))
  | ((refine' SqL.of (?e _ _ ?h)); (case h => assumption); (case e => walk_at "ex")) | ((refine' SqT.of (?e _ _ ?h)); (case h => assumption); (case e => walk_at "ex")))
local macro_rules | `(tactic| walk_at "hs") => `(tactic| walk_at "hc")
local macro_rules | `(tactic| walk_at "dp") => `(tactic| first
  | assumption
  | ((refine' Sep.rdD ?S ?e ?h); (case S => assumption); (case h => assumption); (case e => walk_at "ex"))
  | ((refine' Dp.ex ?e _ _ ?h); (case h => assumption); (case e => walk_at "ex"))
  | ((refine' DpAll.ex ?e _ _ ?h); (case h => assumption); (case e => walk_at "ex"))
  | (refine' dp_intsD ?h; (case h => walk_at "hl")))
local macro_rules | `(tactic| walk_at "rd1") => `(tactic| (first
  | (with_reducible refine r_seq ?_)
  | (with_reducible refine r_asg ?_)
  | (with_reducible refine r_asgG ?_)
  | (with_reducible refine r_par ?_)
  | (with_reducible refine r_if ?_)
  | (with_reducible refine r_ret ?_)
  | (with_reducible refine r_drop ?_)
  | (with_reducible refine r_next ?_)
  | ((with_reducible refine' r_var ?hx ?_); (case hx => exact rfl))
  | (with_reducible refine r_c ?_)
  | (with_reducible refine r_op ?_)
  | (with_reducible refine r_un ?_)
  | (with_reducible refine r_I0 ?_)
  | ((with_reducible refine' r_I ?_ ?_); (· first | (show (0 : Int) < _; omega) | exact Or.inr ⟨by omega, by omega⟩ | exact Or.inl ⟨by omega, by omega⟩ | exact ⟨by omega, by omega, by decide⟩))
  | (with_reducible refine r_U ?_)
  | (with_reducible refine r_test ?_)
  | (with_reducible refine r_B ?_)
  | (with_reducible refine r_bl ?_)
  | (with_reducible refine r_eqI ?_)
  | (with_reducible refine r_neI ?_)
  | ((with_reducible refine' r_eq ?_ ?_); (· exact rfl))
  | ((with_reducible refine' r_ne ?_ ?_); (· exact rfl))
  | (with_reducible refine r_nil ?_)
  | (with_reducible refine r_cons ?_)
  | (with_reducible refine s_tup ?_)
  | (with_reducible refine s_lst ?_)
  | (with_reducible refine r_call ?_)
  | (with_reducible refine r_cb ?_)
  | (with_reducible refine r_and ?_)
  | (with_reducible refine r_or ?_)
  | (with_reducible refine r_not ?_)
  | (with_reducible refine r_andV ?_)
  | (with_reducible refine r_orV ?_)
  | (with_reducible refine r_notV ?_)
  | (with_reducible refine r_ifE ?_)
  | (with_reducible refine r_gSub ?_)
  | (with_reducible refine r_sadd ?_)
  | (with_reducible refine s_lstRg ?_)
  | (with_reducible refine r_rg1 ?_)
  | (with_reducible refine r_min2 ?_)
  | (with_reducible refine r_par2 ?_)
  | (with_reducible refine r_partI ?_)
  | (with_reducible refine s_lc ?_)
  | (with_reducible refine s_dc ?_)
  | (with_reducible refine r_yes ?_)
  | (with_reducible refine r_iZipA ?_)
  | (with_reducible refine r_isN ?_)
  | (with_reducible refine r_for ?_)
  | (with_reducible refine r_iList ?_)
  | (with_reducible refine r_iTup ?_)
  | (with_reducible refine r_iRng1 ?_)
  | (with_reducible refine r_iRng2 ?_)
  | (with_reducible refine r_iEnum ?_)
  | (with_reducible refine r_iZip ?_)
  | (with_reducible refine r_gName ?_)
  | (with_reducible refine r_isNV ?_)
  | (with_reducible refine r_notNV ?_)
  | (with_reducible refine r_bm ?_)
  | (with_reducible refine r_bm0 ?_)
  | (with_reducible refine r_sl ?_)
  | (with_reducible refine r_noPart ?_)
  | (with_reducible refine r_part ?_)
  | (with_reducible refine r_chain ?_)
  | (with_reducible refine r_iKeys ?_)
  | (with_reducible refine r_iItems ?_)
  | (with_reducible refine r_frz ?_)
  | (with_reducible refine r_dput ?_)
  | (with_reducible refine r_dget ?_)
  | (with_reducible refine r_din ?_)
  | (with_reducible refine r_dnotin ?_)
  | (with_reducible refine r_break ?_)
  | ((with_reducible refine' r_sIn ?h ?_); (case h => walk_at "hs"))
  | ((with_reducible refine' r_sNotIn ?h ?_); (case h => walk_at "hs"))
  | ((with_reducible refine' r_inI ?h ?_); (case h => walk_at "hl"))
  | ((with_reducible refine' r_notInI ?h ?_); (case h => walk_at "hl"))
  | ((with_reducible refine' r_eqNil ?h ?g ?_); (case h => walk_at "hl"); (case g => walk_at "hl"))
  | ((with_reducible refine' r_neNil ?h ?g ?_); (case h => walk_at "hl"); (case g => walk_at "hl"))
  | ((with_reducible refine' iteRT ?hh ?_); (case hh => exact rfl))
  | ((with_reducible refine' iteRF ?hh ?_); (case hh => exact rfl))
  | ((with_reducible refine' r_isiT ?ty ?hk ?_); (case ty => (first | assumption | exact tyx_L (by assumption) | exact tyx_T (by assumption) | exact .base (.non) | exact .base (.bl _) | exact .base (.int _) | exact .base (.str _) | exact tyx_L (by walk_at "hl") | exact tyx_T (by walk_at "hl"))); (case hk => decide +kernel))
  | ((with_reducible refine' r_isiF ?ty ?hk ?_); (case ty => (first | assumption | exact tyx_L (by assumption) | exact tyx_T (by assumption) | exact .base (.non) | exact .base (.bl _) | exact .base (.int _) | exact .base (.str _) | exact tyx_L (by walk_at "hl") | exact tyx_T (by walk_at "hl"))); (case hk => decide +kernel))
  | ((with_reducible refine' r_gTup2 ?hn ?hs ?_); (case hn => exact rfl); (case hs => walk_at "hl"))
  | ((with_reducible refine' s_list ?hl ?_); (case hl => first | exact Or.inl (by walk_at "hl") | exact Or.inr (by walk_at "hl")))
  | ((with_reducible refine' s_tupN ?hl ?_); (case hl => walk_at "hl"))
  | ((with_reducible refine' s_sortN ?hl ?_); (case hl => walk_at "hl"))
  | ((refine' ⟨_, _, rfl, ?hl, ?_⟩); (case hl => first | exact Or.inl (by walk_at "hl") | exact Or.inr (by walk_at "hl")))
  | ((with_reducible refine' r_ixL ?hl ?ha ?_); (case hl => walk_at "hl"); (case ha => first | exact rfl | assumption))
  | ((with_reducible refine' r_ixT ?hl ?ha ?_); (case hl => walk_at "hl"); (case ha => first | exact rfl | assumption))))
local macro_rules | `(tactic| walk_at "rd") => `(tactic| repeat (walk_at "rd1"))

section
variable {P : Program} {w : World} {K : PySem.W.Frag} {mg : Str → Option Value} {base : Heap}

abbrev Small60 (ties : List (Int × Int)) (left : List Int) : Prop := UpT ties ∧ left.length ≤ 60 ∧ ties.length ≤ 4000
def A_least (K : PySem.W.Frag) : (List (Int × Int) × List Int × List Int) → List V → Hp → Prop := fun | (ties, left, row), vs, F => ∃ d r, vs = [.ref d, .ref r] ∧ NearAt F d ties left ∧ SqL K F r (row.map V.int) ∧ Small60 ties left ∧ ∀ h ∈ left, 0 ≤ h ∧ h < (row.length : Int)
def B_ints {α : Type} (f : α → List Int) : α → V → List (Addr × Cel) → Hp → Prop := fun x v N _ => ∃ q, v = .ref q ∧ N = [(q, .is (.lst ((f x).map V.int)))]
abbrev B_least : (List (Int × Int) × List Int × List Int) → V → List (Addr × Cel) → Hp → Prop := B_ints fun | (ties, left, row) => leastOf ties left (rowF row)
def A_out (K : PySem.W.Frag) : (List (Int × Int) × List Int × List Int) → List V → Hp → Prop := fun | (ties, left, c), vs, F => ∃ d r, vs = [.ref d, .ref r] ∧ NearAt F d ties left ∧ SqL K F r (c.map V.int) ∧ Small60 ties left ∧ c.length ≤ 1000
abbrev B_out : (List (Int × Int) × List Int × List Int) → V → List (Addr × Cel) → Hp → Prop := B_ints fun | (ties, left, c) => outBy ties left c
theorem ok_out_by (T : Env K mg) : FnOk P w K mg base CX0 1 T.a_out_by T.fd_out_by ["near", "chosen"] (SpF (A_out K) B_out) := by
  have nd := sc_out_by.nd
  refine T.F_out_by.ok sc_out_by (fun vs H Q E h => ?_) (fun cdv A outer s H vs Q E hr h => ?_)
  · obtain ⟨⟨_, _, _⟩, F, _, ⟨d, r, rfl, _⟩, _⟩ := h
    rfl
  · obtain ⟨⟨ties, left, c⟩, F, fr, ⟨d, r, rfl, ⟨od, as, la, cd, cl⟩, hr', ⟨ut, hl, ht⟩, hc⟩, k⟩ := h
    have S := Sep.start0 fr
    refine ⟨_, (pss_cons (ps_set (i := 2) nd rfl (.inr rfl) (pe_callTy (cr_setN rfl) (by rfl) T.n_set (by decide +kernel) (pa_cons (pv 1) pa_nil)))
      (pss_cons (ps_set (i := 3) nd rfl (.inl rfl) (pe_lst pa_nil))
      (pss_cons (ps_for PassesOwn.never rfl (pi_items (pv 0)) (pg_tup rfl (pgs_cons (pg_name (i := 4) nd rfl (.inl rfl)) (pgs_cons (pg_name (i := 5) nd rfl (.inl rfl)) pgs_nil))) (pss_one (ps_if (pt_val (pe_callB (cr_any rfl) (by rfl) T.n_any (by decide +kernel) (pa_cons (pe_lc (own := [("other", 6)]) (g := gName 6) (tt := tYes) (te := (tOp (rSIn w) (tVar 6) (tVar 2))) rfl nd (pi_list (pv 5)) (blkOk_by (N := ["near", "chosen", "inside", "out", "house", "others", "other"]) (sc := defScope s_out_by) (by decide +kernel)) (fun _ _ _ _ _ => (pg_name (i := 6) nd rfl (.inl rfl))) (fun _ _ _ _ _ => pts_nil) (fun _ _ _ _ _ => (pe_cmpR or_sin (pv 6) (pv 2) rfl))) pa_nil))) (pss_one (ps_expr (pe_bm PySem.F.plainAttrs_list PySem.F.slot_list_append PySem.F.type_list_append mt_append (pv 3) (pa_cons (pv 4) pa_nil)))) pss_nil)))
      (pss_one (ps_ret (pv 3)))))), ?_⟩
    walk_at "rd"
    refine s_setN (w := w) S (by walk_at "hl") (by omega) fun ins n F1 H1 hn S e1 ci => ?_
    walk_at "rd"
    refine ⟨Nat.zero_le _, s_own S fun q H2 S => ?_⟩
    walk_at "rd"
    have cd := e1 _ _ cd
    refine s_iitems (by walk_at "hc") ?_
    refine s_forN (fun i σ' F' M' => ∃ x4 x5 : Option V, σ' = [some (.ref d), some (.ref r), some (.ref ins), some (.ref q), x4, x5, none] ∧ M' = [(q, .is (.lst (((left.take i).filter fun h => (nbL ties left h).any fun o => decide (o ∈ c)).map V.int)))]) S la cd ⟨none, none, rfl, rfl⟩ ?_ ?_
    · rintro i h a t σ' F2 F3 H3 M' i1 i2 S e2 e3 ct ⟨x3, x4, rfl, rfl⟩
      have ca := cl i h a i1 i2
      have nl := nbL_le ties left h
      have fl := List.length_filter_le (fun h => (nbL ties left h).any fun o => decide (o ∈ c)) (left.take i)
      rw [List.length_take] at fl
      walk_at "rd"
      refine ⟨a, rfl, ⟨_, by walk_at "hl"⟩, ?_⟩
      refine s_lcV (srcI (K := K) (ns := nbL ties left h) (SqL.of ((e1.trans (e2.trans e3)) _ _ ca))) (fun _ => true) (fun o => .bl (decide (o ∈ c))) S (by omega) (fun m hm => by cases hm) ?_ ?_
      · rintro j o x acc D F4 H4 vt S e4 rfl
        walk_at "rd"
        refine ⟨rfl, ?_⟩
        walk_at "rd"
        exact vt.put S (by walk_at "ex") rfl rfl
      · intro D F4 H4 S e4
        rw [List.filter_eq_self.mpr (fun _ _ => rfl)] at S
        walk_at "rd"
        refine ⟨D, (nbL ties left h).map fun o => decide (o ∈ c), rfl, by rw [List.map_map]; exact SqL.of (S.rdM 0 rfl), ?_⟩
        walk_at "rd"
        rw [List.any_map, show (nbL ties left h).any (id ∘ fun o => decide (o ∈ c)) = (nbL ties left h).any fun o => decide (o ∈ c) from rfl]
        have S := S.drop 0
        refine iteB (fun cc => ?_) (fun cc => ?_)
        · walk_at "rd"
          refine ⟨tyL (by walk_at "hl"), ?_⟩
          walk_at "rd"
          refine s_app S 0 rfl (by rw [List.length_map]; omega) fun H5 S => ?_
          refine ⟨_, _, S, by walk_at "ex", _, _, rfl, ?_⟩
          rw [take_filter _ _ i1, if_pos cc, List.map_append]
          rfl
        · walk_at "rd"
          refine ⟨_, _, S, by walk_at "ex", _, _, rfl, ?_⟩
          rw [take_filter _ _ i1, if_neg (by rw [cc]; decide), List.append_nil]
          rfl
    · rintro σ' F2 H3 M' S e2 ⟨x3, x4, rfl, rfl⟩
      rw [List.take_length] at S
      walk_at "rd"
      exact k _ _ _ _ S ⟨q, rfl, rfl⟩
def A_behind (K : PySem.W.Frag) : (List (Int × Int) × List Int × List Int × List Int) → List V → Hp → Prop := fun | (ties, left, c, o), vs, F => ∃ d p q, vs = [.ref d, .ref p, .ref q] ∧ NearAt F d ties left ∧ F p = some (.lst (c.map V.int)) ∧ F q = some (.lst (o.map V.int)) ∧ left.length ≤ 60 ∧ c.length ≤ 400 ∧ o.length ≤ 400
abbrev B_behind : (List (Int × Int) × List Int × List Int × List Int) → V → List (Addr × Cel) → Hp → Prop := B_ints fun | (_, left, c, o) => behind left c o
theorem ok_left_behind (T : Env K mg) : FnOk P w K mg base CX0 1 T.a_left_behind T.fd_left_behind ["near", "chosen", "out"] (SpF (A_behind K) B_behind) := by
  have nd := sc_left_behind.nd
  refine T.F_left_behind.ok sc_left_behind (fun vs H Q E h => ?_) (fun cdv A outer s H vs Q E hr h => ?_)
  · obtain ⟨⟨_, _, _, _⟩, F, _, ⟨d, p, q, rfl, _⟩, _⟩ := h
    rfl
  · obtain ⟨⟨ties, left, c, o⟩, F, fr, ⟨d, p, q, rfl, ⟨od, as, la, cd, cl⟩, hp, hq, hl, hc, ho⟩, k⟩ := h
    have S := Sep.start0 fr
    refine ⟨_, (pss_cons (ps_set (i := 3) nd rfl (.inr rfl) (pe_callTy (cr_setN rfl) (by rfl) T.n_set (by decide +kernel) (pa_cons (pe_op op_cat (pv 1) (pv 2)) pa_nil)))
      (pss_one (ps_ret (pe_lc (own := [("house", 4)]) (g := gName 4) (tt := (tTest (tOp (rSNotIn w) (tVar 4) (tVar 3)))) (te := (tVar 4)) rfl nd (pi_keys (pv 0)) (blkOk_by (N := ["near", "chosen", "out", "decided", "house"]) (sc := defScope s_left_behind) (by decide +kernel)) (fun _ _ _ _ _ => (pg_name (i := 4) nd rfl (.inl rfl))) (fun _ _ _ _ _ => pts_one (pt_cmpR or_snotin (pv 4) (pv 3) rfl)) (fun _ _ _ _ _ => (pv 4)))))), ?_⟩
    walk_at "rd"
    refine s_cat (S.fr _ _ hp) (S.fr _ _ hq) (by rw [List.length_map, List.length_map]; omega) ?_
    refine s_new S fun z F1 H1 S e1 cz => ?_
    rw [← List.map_append] at cz
    walk_at "rd"
    refine s_setN (w := w) S (by walk_at "hl") (by rw [List.length_append]; omega) fun ins n F2 H2 hn S e2 ci => ?_
    walk_at "rd"
    refine s_ikeys (by walk_at "hc") ?_
    refine s_lcV (srcN la ((e1.trans e2) _ _ cd)) (fun h => !decide (h ∈ c ++ o)) (fun h => .int h) S (by omega) (fun m hm => by cases hm) ?_ ?_
    · rintro j h x acc D F3 H3 vt S e3 rfl
      walk_at "rd"
      refine ⟨rfl, ?_⟩
      walk_at "rd"
      refine iteB (fun cc => ?_) (fun cc => ?_)
      · walk_at "rd"
        exact vt.put S (by walk_at "ex") cc rfl
      · exact vt.skip S (by walk_at "ex") cc
    · intro D F3 H3 S e3
      exact k _ _ _ _ S ⟨D, rfl, rfl⟩
def drawsD (ds : List (List Int)) : PyData := .list (ds.map intsD)
def A_runby (K : PySem.W.Frag) : (Int × List (Int × Int) × List (List Int)) → List V → Hp → Prop := fun | (many, ties, ds), vs, F => ∃ v u, vs = [v, u] ∧ Dp K F v (webD many ties) ∧ WebOk many ties ∧ ties.length ≤ 4000 ∧ Dp K F u (drawsD ds) ∧ (∀ row ∈ ds, (row.length : Int) = many) ∧ ds.length ≤ 200
def B_runby : (Int × List (Int × Int) × List (List Int)) → V → List (Addr × Cel) → Hp → Prop := fun | (many, ties, ds), v, N, F => RunAt (runL ties (rgI many) ds).1 (runL ties (rgI many) ds).2 v N F
theorem np_one {α : Type} {f : α → List Int} (x : α) : ∀ v N F', B_ints f x v N F' → ∀ m ∈ N, ∃ o, m.2 = Cel.is o := by
  rintro v N F' ⟨q, _, rfl⟩ m hm
  rw [List.mem_singleton.mp hm]
  exact ⟨_, rfl⟩
end

end
section
local macro_rules | `(tactic| walk_at "ex") => `(tactic| first | exact Evl.Ex.refl _ | assumption | ((refine' Evl.Ex.trans ?x ?y); (case y => assumption); (case x => walk_at "ex")))
local macro_rules | `(tactic| walk_at "hc") => `(tactic| first
  | assumption
  | ((refine' Sep.rdM ?S 0 ?k); (case S => assumption); (case k => exact rfl)) | ((refine' Sep.rdM ?S 1 ?k); (case S => assumption); (case k => exact rfl)) | ((refine' Sep.rdM ?S 2 ?k); (case S => assumption); (case k => exact rfl)) | ((refine' Sep.rdM ?S 3 ?k); (case S => assumption); (case k => exact rfl)) | ((refine' Sep.rdM ?S 4 ?k); (case S => assumption); (case k => exact rfl))
  | ((refine' Sep.rdC ?S ?e ?h); (case S => assumption); (case h => assumption); (case e => walk_at "ex")))
local macro_rules | `(tactic| walk_at "hl") => `(tactic| first
  | assumption
  | ((refine' SqL.of (Sep.rdM ?S 0 ?k)); (case S => assumption); (case k => exact rfl)) | ((refine' SqL.of (Sep.rdM ?S 1 ?k)); (case S => assumption); (case k => exact rfl)) | ((refine' SqL.of (Sep.rdM ?S 2 ?k)); (case S => assumption); (case k => exact rfl)) | ((refine' SqL.of (Sep.rdM ?S 3 ?k)); (case S => assumption); (case k => exact rfl)) | ((refine' SqL.of (Sep.rdM ?S 4 ?k)); (case S => assumption); (case k => exact rfl))
  | ((refine' Sep.rdL ?S ?e ?h); (case S => assumption); (case h => assumption); (case e => walk_at "ex"))
  | ((refine' Sep.rdT ?S ?e ?h); (case S => assumption); (case h => assumption); (case e => walk_at "ex"))
  | ((refine' SqL.of (Sep.rdC ?S ?e ?h)); (case S => assumption); (case h => assumption); (case e => walk_at "ex"))
  | ((refine' SqT.of (Sep.rdC ?S ?e ?h)); (case S => assumption); (case h => assumption); (case e => walk_at "ex"))
  | ((refine' SqL.of ?h); (case h => assumption)) | ((refine' SqT.of ?h); (case h => assumption))
  | ((refine' Evl.ex_l ?e ?h); (case h => assumption); (case e => walk_at "ex")) | ((refine' Evl.ex_t ?e ?h); (case h => assumption); (case e => walk_at "ex"))
  | ((refine' SqL.of (?e _ _ ?h)); (case h => assumption); (case e => walk_at "ex")) | ((refine' SqT.of (?e _ _ ?h)); (case h => assumption); (case e => walk_at "ex")))
local macro_rules | `(tactic| walk_at "hs") => `(tactic| walk_at "hc")
local macro_rules | `(tactic| walk_at "dp") => `(tactic| first
  | assumption
  | ((refine' Sep.rdD ?S ?e ?h); (case S => assumption); (case h => assumption); (case e => walk_at "ex"))
  | ((refine' Dp.ex ?e _ _ ?h); (case h => assumption); (case e => walk_at "ex"))
  | ((refine' DpAll.ex ?e _ _ ?h); (case h => assumption); (case e => walk_at "ex"))
  | (refine' dp_intsD ?h; (case h => walk_at "hl")))
local macro_rules | `(tactic| walk_at "rd1") => `(tactic| (first
  | (with_reducible refine r_seq ?_)
  | (with_reducible refine r_asg ?_)
  | (with_reducible refine r_asgG ?_)
  | (with_reducible refine r_par ?_)
  | (with_reducible refine r_if ?_)
  | (with_reducible refine r_ret ?_)
  | (with_reducible refine r_drop ?_)
  | (with_reducible refine r_next ?_)
  | ((with_reducible refine' r_var ?hx ?_); (case hx => exact rfl))
  | (with_reducible refine r_c ?_)
  | (with_reducible refine r_op ?_)
  | (with_reducible refine r_un ?_)
  | (with_reducible refine r_I0 ?_)
  | ((with_reducible refine' r_I ?_ ?_); (· first | (show (0 : Int) < _; omega) | exact Or.inr ⟨by omega, by omega⟩ | exact Or.inl ⟨by omega, by omega⟩ | exact ⟨by omega, by omega, by decide⟩))
  | (with_reducible refine r_U ?_)
  | (with_reducible refine r_test ?_)
  | (with_reducible refine r_B ?_)
  | (with_reducible refine r_bl ?_)
  | (with_reducible refine r_eqI ?_)
  | (with_reducible refine r_neI ?_)
  | ((with_reducible refine' r_eq ?_ ?_); (· exact rfl))
  | ((with_reducible refine' r_ne ?_ ?_); (· exact rfl))
  | (with_reducible refine r_nil ?_)
  | (with_reducible refine r_cons ?_)
  | (with_reducible refine s_tup ?_)
  | (with_reducible refine s_lst ?_)
  | (with_reducible refine r_call ?_)
  | (with_reducible refine r_cb ?_)
  | (with_reducible refine r_and ?_)
  | (with_reducible refine r_or ?_)
  | (with_reducible refine r_not ?_)
  | (with_reducible refine r_andV ?_)
  | (with_reducible refine r_orV ?_)
  | (with_reducible refine r_notV ?_)
  | (with_reducible refine r_ifE ?_)
  | (with_reducible refine r_gSub ?_)
  | (with_reducible refine r_sadd ?_)
  | (with_reducible refine s_lstRg ?_)
  | (with_reducible refine r_rg1 ?_)
  | (with_reducible refine r_min2 ?_)
  | (with_reducible refine r_par2 ?_)
  | (with_reducible refine r_partI ?_)
  | (with_reducible refine s_lc ?_)
  | (with_reducible refine s_dc ?_)
  | (with_reducible refine r_yes ?_)
  | (with_reducible refine r_iZipA ?_)
  | (with_reducible refine r_isN ?_)
  | (with_reducible refine r_for ?_)
  | (with_reducible refine r_iList ?_)
  | (with_reducible refine r_iTup ?_)
  | (with_reducible refine r_iRng1 ?_)
  | (with_reducible refine r_iRng2 ?_)
  | (with_reducible refine r_iEnum ?_)
  | (with_reducible refine r_iZip ?_)
  | (with_reducible refine r_gName ?_)
  | (with_reducible refine r_isNV ?_)
  | (with_reducible refine r_notNV ?_)
  | (with_reducible refine r_bm ?_)
  | (with_reducible refine r_bm0 ?_)
  | (with_reducible refine r_sl ?_)
  | (with_reducible refine r_noPart ?_)
  | (with_reducible refine r_part ?_)
  | (with_reducible refine r_chain ?_)
  | (with_reducible refine r_iKeys ?_)
  | (with_reducible refine r_iItems ?_)
  | (with_reducible refine r_frz ?_)
  | (with_reducible refine r_dput ?_)
  | (with_reducible refine r_dget ?_)
  | (with_reducible refine r_din ?_)
  | (with_reducible refine r_dnotin ?_)
  | (with_reducible refine r_break ?_)
  | ((with_reducible refine' r_sIn ?h ?_); (case h => walk_at "hs"))
  | ((with_reducible refine' r_sNotIn ?h ?_); (case h => walk_at "hs"))
  | ((with_reducible refine' r_inI ?h ?_); (case h => walk_at "hl"))
  | ((with_reducible refine' r_notInI ?h ?_); (case h => walk_at "hl"))
  | ((with_reducible refine' r_eqNil ?h ?g ?_); (case h => walk_at "hl"); (case g => walk_at "hl"))
  | ((with_reducible refine' r_neNil ?h ?g ?_); (case h => walk_at "hl"); (case g => walk_at "hl"))
  | ((with_reducible refine' iteRT ?hh ?_); (case hh => exact rfl))
  | ((with_reducible refine' iteRF ?hh ?_); (case hh => exact rfl))
  | ((with_reducible refine' r_isiT ?ty ?hk ?_); (case ty => (first | assumption | exact tyx_L (by assumption) | exact tyx_T (by assumption) | exact .base (.non) | exact .base (.bl _) | exact .base (.int _) | exact .base (.str _) | exact tyx_L (by walk_at "hl") | exact tyx_T (by walk_at "hl"))); (case hk => decide +kernel))
  | ((with_reducible refine' r_isiF ?ty ?hk ?_); (case ty => (first | assumption | exact tyx_L (by assumption) | exact tyx_T (by assumption) | exact .base (.non) | exact .base (.bl _) | exact .base (.int _) | exact .base (.str _) | exact tyx_L (by walk_at "hl") | exact tyx_T (by walk_at "hl"))); (case hk => decide +kernel))
  | ((with_reducible refine' r_gTup2 ?hn ?hs ?_); (case hn => exact rfl); (case hs => walk_at "hl"))
  | ((with_reducible refine' s_list ?hl ?_); (case hl => first | exact Or.inl (by walk_at "hl") | exact Or.inr (by walk_at "hl")))
  | ((with_reducible refine' s_tupN ?hl ?_); (case hl => walk_at "hl"))
  | ((with_reducible refine' s_sortN ?hl ?_); (case hl => walk_at "hl"))
  | ((refine' ⟨_, _, rfl, ?hl, ?_⟩); (case hl => first | exact Or.inl (by walk_at "hl") | exact Or.inr (by walk_at "hl")))
  | ((with_reducible refine' r_ixL ?hl ?ha ?_); (case hl => walk_at "hl"); (case ha => first | exact rfl | assumption))
  | ((with_reducible refine' r_ixT ?hl ?ha ?_); (case hl => walk_at "hl"); (case ha => first | exact rfl | assumption))))
local macro_rules | `(tactic| walk_at "rd") => `(tactic| repeat (walk_at "rd1"))

section
variable {P : Program} {w : World} {K : PySem.W.Frag} {mg : Str → Option Value} {base : Heap}

def B_may : (List (Int × Int) × List Int × List Int) → V → List (Addr × Cel) → Hp → Prop := fun | (ties, left, c), v, N, _ => N = [] ∧ v = .bl (mayB ties left c)
def mayH (ties : List (Int × Int)) (left c : List Int) (h : Int) : Bool := !(!decide (h ∈ c) && (nbL ties left h).isEmpty) && !(decide (h ∈ c) && (nbL ties left h).any fun o => decide (o ∈ c))
theorem ok_may_choose (T : Env K mg) : FnOk P w K mg base CX0 1 T.a_may_choose T.fd_may_choose ["near", "chosen"] (SpF (A_out K) B_may) := by
  have nd := sc_may_choose.nd
  refine T.F_may_choose.ok sc_may_choose (fun vs H Q E h => ?_) (fun cdv A outer s H vs Q E hr h => ?_)
  · obtain ⟨⟨_, _, _⟩, F, _, ⟨d, r, rfl, _⟩, _⟩ := h
    rfl
  · obtain ⟨⟨ties, left, c⟩, F, fr, ⟨d, r, rfl, ⟨od, as, la, cd, cl⟩, hr', ⟨ut, hl, ht⟩, hc⟩, k⟩ := h
    have S := Sep.start0 fr
    refine ⟨_, (pss_cons (ps_set (i := 2) nd rfl (.inr rfl) (pe_callTy (cr_setN rfl) (by rfl) T.n_set (by decide +kernel) (pa_cons (pv 1) pa_nil)))
      (pss_cons (ps_if (pt_cmpR (op_neD hr.units) (pv 1) (pe_lc (own := [("house", 3)]) (g := gName 3) (tt := (tTest (tOp (rSIn w) (tVar 3) (tVar 2)))) (te := (tVar 3)) rfl nd (pi_keys (pv 0)) (blkOk_by (N := ["near", "chosen", "inside", "house", "others", "other"]) (sc := defScope s_may_choose) (by decide +kernel)) (fun _ _ _ _ _ => (pg_name (i := 3) nd rfl (.inl rfl))) (fun _ _ _ _ _ => pts_one (pt_cmpR or_sin (pv 3) (pv 2) rfl)) (fun _ _ _ _ _ => (pv 3))) (nomark _)) (pss_one (ps_ret pe_bl)) pss_nil)
      (pss_cons (ps_for PassesOwn.never rfl (pi_items (pv 0)) (pg_tup rfl (pgs_cons (pg_name (i := 3) nd rfl (.inl rfl)) (pgs_cons (pg_name (i := 4) nd rfl (.inl rfl)) pgs_nil))) (Evl.pss_cut (ps_if (PW.pt (pw_and (pt_cmpR or_snotin (pv 3) (pv 2) rfl) (pw_and1 (pt_not (pt_truth (pv 4) (fun _ => rfl)))))) (pss_one (ps_ret pe_bl)) pss_nil)
      (pss_one (ps_if (PW.pt (pw_and (pt_cmpR or_sin (pv 3) (pv 2) rfl) (pw_and1 (pt_val (pe_callB (cr_any rfl) (by rfl) T.n_any (by decide +kernel) (pa_cons (pe_lc (own := [("other", 5)]) (g := gName 5) (tt := tYes) (te := (tOp (rSIn w) (tVar 5) (tVar 2))) rfl nd (pi_list (pv 4)) (blkOk_by (N := ["near", "chosen", "inside", "house", "others", "other"]) (sc := defScope s_may_choose) (by decide +kernel)) (fun _ _ _ _ _ => (pg_name (i := 5) nd rfl (.inl rfl))) (fun _ _ _ _ _ => pts_nil) (fun _ _ _ _ _ => (pe_cmpR or_sin (pv 5) (pv 2) rfl))) pa_nil)))))) (pss_one (ps_ret pe_bl)) pss_nil))))
      (pss_one (ps_ret pe_bl))))), ?_⟩
    walk_at "rd"
    refine s_setN (w := w) S (by walk_at "hl") (by omega) fun ins n F1 H1 hn S e1 ci => ?_
    walk_at "rd"
    have cd := e1 _ _ cd
    refine s_ikeys (by walk_at "hc") ?_
    refine s_lcV (srcN la cd) (fun h => decide (h ∈ c)) (fun h => .int h) S (by omega) (fun m hm => by cases hm) ?_ ?_
    · rintro j h x acc D F3 H3 vt S e3 rfl
      walk_at "rd"
      refine ⟨rfl, ?_⟩
      walk_at "rd"
      refine iteB (fun cc => ?_) (fun cc => ?_)
      · walk_at "rd"
        exact vt.put S (by walk_at "ex") cc rfl
      · exact vt.skip S (by walk_at "ex") cc
    · intro D F2 H2 S e2
      obtain ⟨F3, S, e3, c3⟩ := S.frz 0 rfl
      refine r_neInts (a := c) (b := left.filter fun h => decide (h ∈ c)) (by walk_at "hl") (by walk_at "hl") ?_
      walk_at "rd"
      refine iteB (fun c1 => ?_) (fun c1 => ?_)
      · walk_at "rd"
        refine k _ [] _ _ S ⟨rfl, ?_⟩
        have c1 : ¬ c = left.filter fun h => decide (h ∈ c) := by simpa using c1
        unfold mayB
        rw [decide_eq_false c1]
        rfl
      · have c1 : c = left.filter fun h => decide (h ∈ c) := by simpa using c1
        walk_at "rd"
        have cd := (e2.trans e3) _ _ cd
        refine s_iitems (by walk_at "hc") ?_
        refine s_forN (fun i σ' F' M' => ∃ x3 x4 : Option V, σ' = [some (.ref d), some (.ref r), some (.ref ins), x3, x4, none] ∧ M' = [] ∧ ∀ h ∈ left.take i, mayH ties left c h = true) S la cd ⟨_, _, rfl, rfl, fun h hh => by simp at hh⟩ ?_ ?_
        · rintro i h a t σ' F4 F5 H4 M' i1 i2 S e4 e5 ct ⟨x3, x4, rfl, rfl, g1⟩
          have ca := (show Evl.Ex F F5 by walk_at "ex") _ _ (cl i h a i1 i2)
          have nl := nbL_le ties left h
          have hm := List.mem_of_getElem? i1
          have bad : mayH ties left c h = false → mayB ties left c = false := fun z => by
            unfold mayB
            rw [Bool.and_eq_false_iff]
            exact .inr (List.all_eq_false.mpr ⟨h, hm, by unfold mayH at z; rw [z]; decide⟩)
          walk_at "rd"
          refine ⟨LI [] H F F5 (fun _ σ' F' M' => σ' = [some (.ref d), some (.ref r), some (.ref ins), some (.int h), some (.ref a), none] ∧ M' = [] ∧ (!decide (h ∈ c) && (nbL ties left h).isEmpty) = false) 0, ?_, ?_⟩
          · walk_at "rd"
            refine iteB (fun cn => ?_) (fun cn => ?_)
            · walk_at "rd"
              refine ⟨!((nbL ties left h).map V.int).isEmpty, .inl ⟨_, by walk_at "hl", rfl⟩, ?_⟩
              rw [List.isEmpty_map]
              refine iteB (fun ce => ?_) (fun ce => ?_)
              · walk_at "rd"
                refine k _ [] _ _ S ⟨rfl, ?_⟩
                rw [bad ?_]
                unfold mayH
                rw [cn, show (nbL ties left h).isEmpty = true by simpa using ce]
                rfl
              · walk_at "rd"
                refine ⟨_, _, S, Evl.Ex.refl _, rfl, rfl, ?_⟩
                rw [show (nbL ties left h).isEmpty = false by simpa using ce, Bool.and_false]
            · walk_at "rd"
              exact ⟨_, _, S, Evl.Ex.refl _, rfl, rfl, by rw [cn]; rfl⟩
          · rintro σ' H5 ⟨F6, M', S, e6, rfl, rfl, cf⟩
            walk_at "rd"
            refine iteB (fun cn => ?_) (fun cn => ?_)
            · walk_at "rd"
              refine ⟨a, rfl, ⟨_, by walk_at "hl"⟩, ?_⟩
              refine s_lcV (srcI (K := K) (ns := nbL ties left h) (SqL.of (e6 _ _ ca))) (fun _ => true) (fun o => .bl (decide (o ∈ c))) S (by omega) (fun m hm => by cases hm) ?_ ?_
              · rintro j o x acc D F7 H6 vt S e7 rfl
                walk_at "rd"
                refine ⟨rfl, ?_⟩
                walk_at "rd"
                exact vt.put S (by walk_at "ex") rfl rfl
              · intro D F7 H6 S e7
                rw [List.filter_eq_self.mpr (fun _ _ => rfl)] at S
                walk_at "rd"
                refine ⟨D, (nbL ties left h).map fun o => decide (o ∈ c), rfl, by rw [List.map_map]; exact SqL.of (S.rdM 0 rfl), ?_⟩
                walk_at "rd"
                rw [List.any_map, show (nbL ties left h).any (id ∘ fun o => decide (o ∈ c)) = (nbL ties left h).any fun o => decide (o ∈ c) from rfl]
                have S := S.drop 0
                refine iteB (fun ca => ?_) (fun ca => ?_)
                · walk_at "rd"
                  refine k _ [] _ _ S ⟨rfl, ?_⟩
                  rw [bad ?_]
                  unfold mayH
                  rw [cn, ca]
                  simp
                · walk_at "rd"
                  refine ⟨_, _, S, by walk_at "ex", _, _, rfl, rfl, fun x hx => ?_⟩
                  rw [take_snoc i1] at hx
                  rcases List.mem_append.mp hx with hx | hx
                  · exact g1 x hx
                  · rw [List.mem_singleton.mp hx]
                    unfold mayH
                    rw [cf, ca]
                    simp
            · walk_at "rd"
              refine ⟨_, _, S, by walk_at "ex", _, _, rfl, rfl, fun x hx => ?_⟩
              rw [take_snoc i1] at hx
              rcases List.mem_append.mp hx with hx | hx
              · exact g1 x hx
              · rw [List.mem_singleton.mp hx]
                unfold mayH
                rw [cf, cn]
                rfl
        · rintro σ' F4 H4 M' S e4 ⟨x3, x4, rfl, rfl, g1⟩
          rw [List.take_length] at g1
          walk_at "rd"
          refine k _ [] _ _ S ⟨rfl, ?_⟩
          unfold mayB
          rw [decide_eq_true c1]
          have z : left.all (mayH ties left c) = true := List.all_eq_true.mpr fun h hh => g1 h hh
          unfold mayH at z
          rw [z]
          rfl
def A_isrun (K : PySem.W.Frag) : (Int × List (Int × Int) × List (List Int × List Int) × List Int) → List V → Hp → Prop := fun | (many, ties, rs, e), vs, F => ∃ v R L xs, vs = [v, .ref R, .ref L] ∧ Dp K F v (webD many ties) ∧ WebOk many ties ∧ SqL K F R xs ∧ RowsV F xs rs ∧ SqL K F L (e.map V.int) ∧ rs.length ≤ 1000 ∧ (∀ r ∈ rs, r.1.length ≤ 400 ∧ r.2.length ≤ 400)
def B_isrun : (Int × List (Int × Int) × List (List Int × List Int) × List Int) → V → List (Addr × Cel) → Hp → Prop := fun | (many, ties, rs, e), v, N, _ => N = [] ∧ v = .bl (isRunB ties (rgI many) rs e)
theorem ok_is_run (T : Env K mg) : FnOk P w K mg base CX0 2 T.a_is_run T.fd_is_run ["web", "rounds", "left"] (SpF (A_isrun K) B_isrun) := by
  have nd := sc_is_run.nd
  have G_near_left : FnOk P w K mg base CX0 1 T.a_near_left T.fd_near_left ["web", "left"] (SpF (A_nleft K) B_nleft) := ok_near_left T
  have G_left_behind : FnOk P w K mg base CX0 1 T.a_left_behind T.fd_left_behind ["near", "chosen", "out"] (SpF (A_behind K) B_behind) := ok_left_behind T
  have G_may_choose : FnOk P w K mg base CX0 1 T.a_may_choose T.fd_may_choose ["near", "chosen"] (SpF (A_out K) B_may) := ok_may_choose T
  have G_out_by : FnOk P w K mg base CX0 1 T.a_out_by T.fd_out_by ["near", "chosen"] (SpF (A_out K) B_out) := ok_out_by T
  refine T.F_is_run.ok sc_is_run (fun vs H Q E h => ?_) (fun cdv A outer s H vs Q E hr h => ?_)
  · obtain ⟨⟨_, _, _, _⟩, F, _, ⟨v, R, L, xs, rfl, _⟩, _⟩ := h
    rfl
  · obtain ⟨⟨many, ties, rs, e⟩, F, fr, ⟨v, R, L, xs, rfl, hv, W, hR, hx, hL, hl, hs⟩, k⟩ := h
    have ut : UpT ties := fun t ht => (W.ok t ht).2.1
    have tl := W.few
    obtain ⟨wa, wb, ws, rfl, s1, s2, s3⟩ := webD_at hv
    have w1 := W.lo
    have w2 := W.hi
    have S := Sep.start0 fr
    refine ⟨_, (pss_cons (ps_set (i := 3) nd rfl (.inl rfl) (pe_listRg rfl (by rfl) T.n_list (prg_1 (by rfl) T.n_range (pe_ix ix_tup (pv 0) pe_int (fun _ _ => rfl)))))
      (pss_cons (ps_for PassesOwn.never rfl (pi_list (pv 1)) (pg_tup rfl (pgs_cons (pg_name (i := 4) nd rfl (.inl rfl)) (pgs_cons (pg_name (i := 5) nd rfl (.inl rfl)) pgs_nil))) (pss_cons (ps_set (i := 6) nd rfl (.inl rfl) (pe_call G_near_left (hr.mono (by decide)) (by rfl) T.g_near_left T.F_near_left.kp T.b_near_left .nil pass0 (pa_cons (pv 0) (pa_cons (pv 3) pa_nil))))
      (pss_cons (ps_if (PW.pt (pw_or (pt_not (pt_truth (pv 3) (fun _ => rfl))) (pw_or (pt_not (pt_val (pe_call G_may_choose (hr.mono (by decide)) (by rfl) T.g_may_choose T.F_may_choose.kp T.b_may_choose .nil pass0 (pa_cons (pv 6) (pa_cons (pv 4) pa_nil))))) (pw_or1 (pt_cmpR (op_neD hr.units) (pv 5) (pe_call G_out_by (hr.mono (by decide)) (by rfl) T.g_out_by T.F_out_by.kp T.b_out_by .nil pass0 (pa_cons (pv 6) (pa_cons (pv 4) pa_nil))) (nomark _)))))) (pss_one (ps_ret pe_bl)) pss_nil)
      (pss_one (ps_set (i := 3) nd rfl (.inl rfl) (pe_call G_left_behind (hr.mono (by decide)) (by rfl) T.g_left_behind T.F_left_behind.kp T.b_left_behind .nil pass0 (pa_cons (pv 6) (pa_cons (pv 4) (pa_cons (pv 5) pa_nil)))))))))
      (pss_one (ps_ret (pe_cmpR (op_eqD hr.units) (pv 2) (pv 3) (nomark _)))))), ?_⟩
    walk_at "rd"
    refine ⟨⟨by omega, by omega, by omega, by omega, by omega⟩, ?_⟩
    rw [rgV_eq]
    refine s_new S fun l F1 H1 S e1 cl => ?_
    walk_at "rd"
    refine ⟨R, rfl, ⟨xs, by walk_at "hl"⟩, ?_⟩
    refine s_for (fun i σ' F' M' => ∃ (x4 x5 x6 : Option V) (l : Addr) (left : List Int), σ' = [some (.ref wa), some (.ref R), some (.ref L), some (.ref l), x4, x5, x6] ∧ M' = [] ∧ F' l = some (.lst (left.map V.int)) ∧ left.Pairwise (· < ·) ∧ left.length ≤ 60 ∧ isRunB ties (rgI many) rs e = isRunB ties left (rs.drop i) e) (srcRows (K := K) (Evl.ex_l e1 hR) (hx.ex e1)) S ⟨none, none, none, l, rgI many, rfl, rfl, cl, rgI_up many, by rw [rgI_len]; omega, rfl⟩ (fun _ _ _ _ _ m hm => by cases hm) ?_ ?_
    · rintro i r x σ' F2 F3 H3 M' hi S e2 e3 ⟨t, c, o, rfl, ct, cc, co⟩ ⟨x4, x5, x6, l, left, rfl, rfl, g1, up, h60, he⟩
      have rl := hs r (List.mem_of_getElem? hi)
      have li := (List.getElem?_eq_some_iff.mp hi).1
      have dd : rs.drop i = r :: rs.drop (i + 1) := by
        rw [List.drop_eq_getElem_cons li]
        congr 1
        rw [List.getElem?_eq_getElem li] at hi
        exact Option.some.inj hi
      rw [dd, isRunB] at he
      have g1 := e3 _ _ g1
      have nd1 : left.Nodup := up.imp fun h => Int.ne_of_lt h
      walk_at "rd"
      refine r_callF S (many, ties, left, l) ⟨_, rfl, Dp.ex (show Evl.Ex F F3 by walk_at "ex") _ _ hv, ut, g1, nd1, h60, tl⟩ ?_
      rintro v N F4 H4 S e4 ⟨rfl, d, rfl, nn⟩
      have na := nn.at' (fun _ _ => rfl)
      walk_at "rd"
      refine ⟨!(left.map V.int).isEmpty, .inl ⟨_, SqL.of (S.fr _ _ (e4 _ _ g1)), rfl⟩, ?_⟩
      rw [List.isEmpty_map]
      refine iteB (fun ce => ?_) (fun ce => ?_)
      · walk_at "rd"
        refine k _ [] _ _ S ⟨rfl, ?_⟩
        rw [he, show left.isEmpty = true by simpa using ce]
        rfl
      · have ce : left.isEmpty = false := by simpa using ce
        walk_at "rd"
        refine r_callF S (ties, left, r.1) ⟨d, c, rfl, na, SqL.of (e4 _ _ cc), ⟨ut, h60, tl⟩, by omega⟩ ?_
        rintro v N F5 H5 S e5 ⟨rfl, rfl⟩
        walk_at "rd"
        refine iteB (fun c1 => ?_) (fun c1 => ?_)
        · walk_at "rd"
          refine k _ [] _ _ S ⟨rfl, ?_⟩
          rw [he, show mayB ties left r.1 = false by simpa using c1, Bool.and_false]
          rfl
        · have c1 : mayB ties left r.1 = true := by simpa using c1
          walk_at "rd"
          refine r_callF S (ties, left, r.1) ⟨d, c, rfl, na.ex e5, SqL.of ((e4.trans e5) _ _ cc), ⟨ut, h60, tl⟩, by omega⟩ ?_
          rintro v N F6 H6 S e6 ⟨ob, rfl, rfl⟩
          obtain ⟨F7, S, e7, c7⟩ := S.frz 0 rfl
          refine r_neInts (a := r.2) (b := outBy ties left r.1) (by walk_at "hl") (by walk_at "hl") ?_
          walk_at "rd"
          refine iteB (fun c2 => ?_) (fun c2 => ?_)
          · walk_at "rd"
            refine k _ [] _ _ S ⟨rfl, ?_⟩
            rw [he, show decide (r.2 = outBy ties left r.1) = false by simpa using c2, Bool.and_false]
            rfl
          · have c2 : r.2 = outBy ties left r.1 := by simpa using c2
            walk_at "rd"
            have E7 : Evl.Ex F3 F7 := by walk_at "ex"
            refine r_callF S (ties, left, r.1, r.2) ⟨d, c, o, rfl, na.ex ((e5.trans e6).trans e7), E7 _ _ cc, E7 _ _ co, h60, rl.1, rl.2⟩ ?_
            clear E7
            rintro v N F8 H8 S e8 ⟨nb, rfl, rfl⟩
            obtain ⟨F9, S, e9, c9⟩ := S.frz 0 rfl
            walk_at "rd"
            refine ⟨_, _, S, by walk_at "ex", _, _, _, nb, behind left r.1 r.2, rfl, rfl, c9, behind_up up, Nat.le_trans behind_len h60, ?_⟩
            rw [he, ce, c1, decide_eq_true c2]
            rfl
    · rintro σ' F2 H2 M' S e2 ⟨x4, x5, x6, l, left, rfl, rfl, g1, up, h60, he⟩
      rw [List.drop_length, isRunB] at he
      walk_at "rd"
      refine r_eqInts (a := e) (b := left) (by walk_at "hl") (by walk_at "hl") ?_
      refine k _ [] _ _ S ⟨rfl, ?_⟩
      rw [he]
      congr 1
      exact decide_eq_decide.mpr eq_comm

end

end
section
local macro_rules | `(tactic| walk_at "ex") => `(tactic| first | exact Evl.Ex.refl _ | assumption | ((refine' Evl.Ex.trans ?x ?y); (case y => assumption); (case x => walk_at "ex")))
local macro_rules | `(tactic| walk_at "hc") => `(tactic| first
  | assumption
  | ((refine' Sep.rdM ?S 0 ?k); (case S => assumption); (case k => exact rfl)) | ((refine' Sep.rdM ?S 1 ?k); (case S => assumption); (case k => exact rfl)) | ((refine' Sep.rdM ?S 2 ?k); (case S => assumption); (case k => exact rfl)) | ((refine' Sep.rdM ?S 3 ?k); (case S => assumption); (case k => exact rfl)) | ((refine' Sep.rdM ?S 4 ?k); (case S => assumption); (case k => exact rfl))
  | ((refine' Sep.rdC ?S ?e ?h); (case S => assumption); (case h => assumption); (case e => walk_at "ex")))
local macro_rules | `(tactic| walk_at "hl") => `(tactic| first
  | assumption
  | ((refine' SqL.of (Sep.rdM ?S 0 ?k)); (case S => assumption); (case k => exact rfl)) | ((refine' SqL.of (Sep.rdM ?S 1 ?k)); (case S => assumption); (case k => exact rfl)) | ((refine' SqL.of (Sep.rdM ?S 2 ?k)); (case S => assumption); (case k => exact rfl)) | ((refine' SqL.of (Sep.rdM ?S 3 ?k)); (case S => assumption); (case k => exact rfl)) | ((refine' SqL.of (Sep.rdM ?S 4 ?k)); (case S => assumption); (case k => exact rfl))
  | ((refine' Sep.rdL ?S ?e ?h); (case S => assumption); (case h => assumption); (case e => walk_at "ex"))
  | ((refine' Sep.rdT ?S ?e ?h); (case S => assumption); (case h => assumption); (case e => walk_at "ex"))
  | ((refine' SqL.of (Sep.rdC ?S ?e ?h)); (case S => assumption); (case h => assumption); (case e => walk_at "ex"))
  | ((refine' SqT.of (Sep.rdC ?S ?e ?h)); (case S => assumption); (case h => assumption); (case e => walk_at "ex"))
  | ((refine' SqL.of ?h); (case h => assumption)) | ((refine' SqT.of ?h); (case h => assumption))
  | ((refine' Evl.ex_l ?e ?h); (case h => assumption); (case e => walk_at "ex")) | ((refine' Evl.ex_t ?e ?h); (case h => assumption); (case e => walk_at "ex"))
  | ((refine' SqL.of (?e _ _ ?h)); (case h => assumption); (case e => walk_at "ex")) | ((refine' SqT.of (?e _ _ ?h)); (case h => assumption); (case e => walk_at "ex")))
local macro_rules | `(tactic| walk_at "hs") => `(tactic| walk_at "hc")
local macro_rules | `(tactic| walk_at "dp") => `(tactic| first
  | assumption
  | ((refine' Sep.rdD ?S ?e ?h); (case S => assumption); (case h => assumption); (case e => walk_at "ex"))
  | ((refine' Dp.ex ?e _ _ ?h); (case h => assumption); (case e => walk_at "ex"))
  | ((refine' DpAll.ex ?e _ _ ?h); (case h => assumption); (case e => walk_at "ex"))
  | (refine' dp_intsD ?h; (case h => walk_at "hl")))
local macro_rules | `(tactic| walk_at "rd1") => `(tactic| (first
  | (with_reducible refine r_seq ?_)
  | (with_reducible refine r_asg ?_)
  | (with_reducible refine r_asgG ?_)
  | (with_reducible refine r_par ?_)
  | (with_reducible refine r_if ?_)
  | (with_reducible refine r_ret ?_)
  | (with_reducible refine r_drop ?_)
  | (with_reducible refine r_next ?_)
  | ((with_reducible refine' r_var ?hx ?_); (case hx => exact rfl))
  | (with_reducible refine r_c ?_)
  | (with_reducible refine r_op ?_)
  | (with_reducible refine r_un ?_)
  | (with_reducible refine r_I0 ?_)
  | ((with_reducible refine' r_I ?_ ?_); (· first | (show (0 : Int) < _; omega) | exact Or.inr ⟨by omega, by omega⟩ | exact Or.inl ⟨by omega, by omega⟩ | exact ⟨by omega, by omega, by decide⟩))
  | (with_reducible refine r_U ?_)
  | (with_reducible refine r_test ?_)
  | (with_reducible refine r_B ?_)
  | (with_reducible refine r_bl ?_)
  | (with_reducible refine r_eqI ?_)
  | (with_reducible refine r_neI ?_)
  | ((with_reducible refine' r_eq ?_ ?_); (· exact rfl))
  | ((with_reducible refine' r_ne ?_ ?_); (· exact rfl))
  | (with_reducible refine r_nil ?_)
  | (with_reducible refine r_cons ?_)
  | (with_reducible refine s_tup ?_)
  | (with_reducible refine s_lst ?_)
  | (with_reducible refine r_call ?_)
  | (with_reducible refine r_cb ?_)
  | (with_reducible refine r_and ?_)
  | (with_reducible refine r_or ?_)
  | (with_reducible refine r_not ?_)
  | (with_reducible refine r_andV ?_)
  | (with_reducible refine r_orV ?_)
  | (with_reducible refine r_notV ?_)
  | (with_reducible refine r_ifE ?_)
  | (with_reducible refine r_gSub ?_)
  | (with_reducible refine r_sadd ?_)
  | (with_reducible refine s_lstRg ?_)
  | (with_reducible refine r_rg1 ?_)
  | (with_reducible refine r_min2 ?_)
  | (with_reducible refine r_par2 ?_)
  | (with_reducible refine r_partI ?_)
  | (with_reducible refine s_lc ?_)
  | (with_reducible refine s_dc ?_)
  | (with_reducible refine r_yes ?_)
  | (with_reducible refine r_iZipA ?_)
  | (with_reducible refine r_isN ?_)
  | (with_reducible refine r_for ?_)
  | (with_reducible refine r_iList ?_)
  | (with_reducible refine r_iTup ?_)
  | (with_reducible refine r_iRng1 ?_)
  | (with_reducible refine r_iRng2 ?_)
  | (with_reducible refine r_iEnum ?_)
  | (with_reducible refine r_iZip ?_)
  | (with_reducible refine r_gName ?_)
  | (with_reducible refine r_isNV ?_)
  | (with_reducible refine r_notNV ?_)
  | (with_reducible refine r_bm ?_)
  | (with_reducible refine r_bm0 ?_)
  | (with_reducible refine r_sl ?_)
  | (with_reducible refine r_noPart ?_)
  | (with_reducible refine r_part ?_)
  | (with_reducible refine r_chain ?_)
  | (with_reducible refine r_iKeys ?_)
  | (with_reducible refine r_iItems ?_)
  | (with_reducible refine r_frz ?_)
  | (with_reducible refine r_dput ?_)
  | (with_reducible refine r_dget ?_)
  | (with_reducible refine r_din ?_)
  | (with_reducible refine r_dnotin ?_)
  | (with_reducible refine r_break ?_)
  | ((with_reducible refine' r_sIn ?h ?_); (case h => walk_at "hs"))
  | ((with_reducible refine' r_sNotIn ?h ?_); (case h => walk_at "hs"))
  | ((with_reducible refine' r_inI ?h ?_); (case h => walk_at "hl"))
  | ((with_reducible refine' r_notInI ?h ?_); (case h => walk_at "hl"))
  | ((with_reducible refine' r_eqNil ?h ?g ?_); (case h => walk_at "hl"); (case g => walk_at "hl"))
  | ((with_reducible refine' r_neNil ?h ?g ?_); (case h => walk_at "hl"); (case g => walk_at "hl"))
  | ((with_reducible refine' iteRT ?hh ?_); (case hh => exact rfl))
  | ((with_reducible refine' iteRF ?hh ?_); (case hh => exact rfl))
  | ((with_reducible refine' r_isiT ?ty ?hk ?_); (case ty => (first | assumption | exact tyx_L (by assumption) | exact tyx_T (by assumption) | exact .base (.non) | exact .base (.bl _) | exact .base (.int _) | exact .base (.str _) | exact tyx_L (by walk_at "hl") | exact tyx_T (by walk_at "hl"))); (case hk => decide +kernel))
  | ((with_reducible refine' r_isiF ?ty ?hk ?_); (case ty => (first | assumption | exact tyx_L (by assumption) | exact tyx_T (by assumption) | exact .base (.non) | exact .base (.bl _) | exact .base (.int _) | exact .base (.str _) | exact tyx_L (by walk_at "hl") | exact tyx_T (by walk_at "hl"))); (case hk => decide +kernel))
  | ((with_reducible refine' r_gTup2 ?hn ?hs ?_); (case hn => exact rfl); (case hs => walk_at "hl"))
  | ((with_reducible refine' s_list ?hl ?_); (case hl => first | exact Or.inl (by walk_at "hl") | exact Or.inr (by walk_at "hl")))
  | ((with_reducible refine' s_tupN ?hl ?_); (case hl => walk_at "hl"))
  | ((with_reducible refine' s_sortN ?hl ?_); (case hl => walk_at "hl"))
  | ((refine' ⟨_, _, rfl, ?hl, ?_⟩); (case hl => first | exact Or.inl (by walk_at "hl") | exact Or.inr (by walk_at "hl")))
  | ((with_reducible refine' r_ixL ?hl ?ha ?_); (case hl => walk_at "hl"); (case ha => first | exact rfl | assumption))
  | ((with_reducible refine' r_ixT ?hl ?ha ?_); (case hl => walk_at "hl"); (case ha => first | exact rfl | assumption))))
local macro_rules | `(tactic| walk_at "rd") => `(tactic| repeat (walk_at "rd1"))

section
variable {P : Program} {w : World} {K : PySem.W.Frag} {mg : Str → Option Value} {base : Heap}

structure NearL (many : Int) (ties : List (Int × Int)) (L : List (List Int)) : Prop where
  len : L.length = many.toNat
  mem : ∀ h, 0 ≤ h → h < many → ∀ o, o ∈ L.getD h.toNat [] ↔ TiedW ties h o
  few : ∀ l ∈ L, l.length ≤ 4000
def A_lnear (K : PySem.W.Frag) : (Int × List (Int × Int)) → List V → Hp → Prop := fun | (many, ties), vs, F => ∃ v, vs = [v] ∧ Dp K F v (webD many ties) ∧ WebOk many ties ∧ ties.length ≤ 4000
def B_lnear (K : PySem.W.Frag) : (Int × List (Int × Int)) → V → List (Addr × Cel) → Hp → Prop := fun | (many, ties), v, N, F => N = [] ∧ ∃ L, Dp K F v (drawsD L) ∧ NearL many ties L
theorem ok_l_near (T : Env K mg) : FnOk P w K mg base CX0 1 T.a__law_near T.fd__law_near ["web"] (SpF (A_lnear K) (B_lnear K)) := by
  have nd := sc__law_near.nd
  refine T.F__law_near.ok sc__law_near (fun vs H Q E h => ?_) (fun cdv A outer s H vs Q E hr h => ?_)
  · obtain ⟨⟨_, _⟩, F, _, ⟨v, rfl, _⟩, _⟩ := h
    rfl
  · obtain ⟨⟨many, ties⟩, F, fr, ⟨v, rfl, hv, W, ht⟩, k⟩ := h
    obtain ⟨wa, wb, ws, rfl, s1, s2, s3⟩ := webD_at hv
    have w1 := W.lo
    have w2 := W.hi
    have gl := rgI_len many
    have gn := rgI_nd many
    have ut : UpT ties := fun t ht => (W.ok t ht).2.1
    have S := Sep.start0 fr
    refine ⟨_, (pss_cons (ps_setLc (i := 1) (own := [("house", 4)]) (g := gName 4) (tt := tYes) (te := (tLst tNil)) rfl nd rfl rfl (sw_true rfl rfl rfl (by decide +kernel)) (pi_range1 (by rfl) T.n_range (pa_cons (pe_ix ix_tup (pv 0) pe_int (fun _ _ => rfl)) pa_nil)) (blkOk_by (N := ["web", "found", "one", "other", "house", "some"]) (sc := defScope s__law_near) (by decide +kernel)) (fun _ _ _ _ _ => (pg_name (i := 4) nd rfl (.inl rfl))) (fun _ _ _ _ _ => pts_nil) (fun _ _ _ _ _ => (pe_lst pa_nil)))
      (pss_cons (ps_for PassesOwn.never rfl (pi_tup (pe_ix ix_tup (pv 0) pe_int (fun _ _ => rfl))) (pg_tup rfl (pgs_cons (pg_name (i := 2) nd rfl (.inl rfl)) (pgs_cons (pg_name (i := 3) nd rfl (.inl rfl)) pgs_nil))) (pss_cons (ps_expr (pe_bm PySem.F.plainAttrs_list PySem.F.slot_list_append PySem.F.type_list_append mt_append (pe_ix ix_list (pv 1) (pv 2) (fun _ _ => rfl)) (pa_cons (pv 3) pa_nil)))
      (pss_one (ps_expr (pe_bm PySem.F.plainAttrs_list PySem.F.slot_list_append PySem.F.type_list_append mt_append (pe_ix ix_list (pv 1) (pv 3) (fun _ _ => rfl)) (pa_cons (pv 2) pa_nil))))))
      (pss_one (ps_ret (pe_lc (own := [("some", 5)]) (g := gName 5) (tt := tYes) (te := (tCB (rSortN K) (tCons (tVar 5) tNil))) rfl nd (pi_list (pv 1)) (blkOk_by (N := ["web", "found", "one", "other", "house", "some"]) (sc := defScope s__law_near) (by decide +kernel)) (fun _ _ _ _ _ => (pg_name (i := 5) nd rfl (.inl rfl))) (fun _ _ _ _ _ => pts_nil) (fun _ _ _ _ _ => (pe_callB cr_sortedN (by rfl) T.n_sorted (by decide +kernel) (pa_cons (pv 5) pa_nil)))))))), ?_⟩
    walk_at "rd"
    refine ⟨many, rfl, by omega, by omega, ?_⟩
    refine s_lcI srcRG (fun i acc F' M' => ∃ as : List Addr, as.length = i ∧ acc = as.map V.ref ∧ M' = cellsOf (as.map fun a => (a, HO.lst []))) S ⟨[], rfl, rfl, rfl⟩ (fun _ _ _ _ _ m hm => by cases hm) ?_ ?_
    · rintro i h x acc D F1 F2 H2 M' hi S e1 e2 ex ⟨as, a1, rfl, rfl⟩
      subst ex
      have li := (List.getElem?_eq_some_iff.mp hi).1
      walk_at "rd"
      refine ⟨rfl, ?_⟩
      walk_at "rd"
      refine ⟨Nat.zero_le _, s_own S fun q H3 S => ?_⟩
      refine ⟨as.map V.ref, S.rdM 1 rfl, Evl.sz_lt (by rw [List.length_map]; omega), as.map V.ref ++ [.ref q], F2, cellsOf ((as ++ [q]).map fun a => (a, HO.lst [])), (S.put 1 rfl (.lst (as.map V.ref ++ [.ref q]))).perm ?_, by walk_at "ex", as ++ [q], by rw [List.length_append, a1]; rfl, by rw [List.map_append]; rfl, rfl⟩
      show (_ :: cellsOf ((as ++ [q]).map fun a => (a, HO.lst []))).Perm ((q, .is (.lst [])) :: (D, .is (.lst (as.map V.ref ++ [.ref q]))) :: cellsOf (as.map fun a => (a, HO.lst [])))
      refine (List.Perm.cons _ ?_).trans (List.Perm.swap _ _ _)
      rw [List.map_append]
      unfold cellsOf
      rw [List.map_append]
      exact List.perm_append_comm
    · rintro D acc F1 H1 M' S e1 ⟨as, a1, rfl, rfl⟩
      rw [← zipC_nil a1] at S
      walk_at "rd"
      refine ⟨wb, rfl, ⟨ws, by walk_at "hl"⟩, ?_⟩
      refine s_for (fun i σ' F' M' => ∃ x2 x3 : Option V, σ' = [some (.ref wa), some (.ref D), x2, x3, none, none] ∧ M' = (D, .is (.lst (as.map V.ref))) :: cellsOf (zipC (ties.take i) (rgI many) as)) (srcDT (as := ties) (da := tieD) (Evl.ex_t e1 s2) (DpAll.ex e1 _ _ s3)) S ⟨none, none, rfl, by rw [List.take_zero]⟩ (fun _ _ _ _ _ m hm => by cases hm) ?_ ?_
      · rintro i t x σ' F2 F3 H3 M' et S e2 e3 hx ⟨x3, x4, rfl, rfl⟩
        obtain ⟨ta, rfl, st⟩ := tieD_at hx
        have ok := W.ok t (List.mem_of_getElem? et)
        have li := (List.getElem?_eq_some_iff.mp et).1
        have hp1 : (rgI many)[t.1.toNat]? = some t.1 := by
          have := rgI_get (n := many) (i := t.1.toNat) (by omega)
          rw [this]; congr 1; omega
        have hp2 : (rgI many)[t.2.toNat]? = some t.2 := by
          have := rgI_get (n := many) (i := t.2.toNat) (by omega)
          rw [this]; congr 1; omega
        obtain ⟨b1, hb1⟩ : ∃ b, as[t.1.toNat]? = some b := ⟨_, List.getElem?_eq_getElem (by omega)⟩
        obtain ⟨b2, hb2⟩ : ∃ b, as[t.2.toNat]? = some b := ⟨_, List.getElem?_eq_getElem (by omega)⟩
        have n1 := nbL_le (ties.take i) (rgI many) t.1
        have n2 := nbL_le (ties.take i) (rgI many) t.2
        rw [List.length_take] at n1 n2
        have ne : t.1.toNat ≠ t.2.toNat := by omega
        have ax1 : atI (as.map V.ref) t.1 = some (.ref b1) := atI_of (by omega) (by rw [List.getElem?_map, hb1]; rfl)
        have ax2 : atI (as.map V.ref) t.2 = some (.ref b2) := atI_of (by omega) (by rw [List.getElem?_map, hb2]; rfl)
        walk_at "rd"
        refine ⟨tyL (SqL.of (S.rdM (t.1.toNat + 1) (cells_at (zipC_at hb1 hp1)))), ?_⟩
        walk_at "rd"
        refine s_app S (t.1.toNat + 1) (cells_at (zipC_at hb1 hp1)) (by rw [List.length_map]; omega) fun H4 S => ?_
        rw [List.set_cons_succ, cells_put] at S
        walk_at "rd"
        have cz := cells_at (show ((zipC (ties.take i) (rgI many) as).set t.1.toNat (b1, .lst ((nbL (ties.take i) (rgI many) t.1).map V.int ++ [.int t.2])))[t.2.toNat]? = _ by rw [List.getElem?_set_ne ne]; exact zipC_at hb2 hp2)
        refine ⟨tyL (SqL.of (S.rdM (t.2.toNat + 1) cz)), ?_⟩
        walk_at "rd"
        refine s_app S (t.2.toNat + 1) cz (by rw [List.length_map]; omega) fun H5 S => ?_
        rw [List.set_cons_succ, cells_put] at S
        refine ⟨_, _, S, by walk_at "ex", _, _, rfl, ?_⟩
        have z := zipC_tie (ts := ties.take i) gn ok.2.1 hp1 hb1 hp2 hb2
        rw [List.map_append, List.map_append] at z
        rw [take_snoc et, ← z]
        rfl
      · rintro σ' F2 H2 M' S e2 ⟨x3, x4, rfl, rfl⟩
        rw [List.take_length] at S
        obtain ⟨F3, S, e3, c3⟩ := S.frz 0 rfl
        have S : Sep [] H F F3 H2 (cellsOf (zipC ties (rgI many) as) ++ []) := by rw [List.append_nil]; exact S
        obtain ⟨F4, S, e4, c4⟩ := S.frzAll
        have cl : ∀ (i : Nat) a, as[i]? = some a → SqL K F4 a ((nbL ties (rgI many) (i : Int)).map V.int) := fun i a x => SqL.of (c4 (a, _) (List.mem_of_getElem? (zipC_at x (rgI_get (by have := (List.getElem?_eq_some_iff.mp x).1; omega)))))
        walk_at "rd"
        refine ⟨D, rfl, ⟨_, by walk_at "hl"⟩, ?_⟩
        refine s_lcI (srcV (K := K) (SqL.of (e4 _ _ c3))) (fun i acc F' M' => ∃ L : List (List Int), M' = [] ∧ DpAll K F' acc (L.map intsD) ∧ L.length = i ∧ ∀ (j : Nat) l, L[j]? = some l → l.Perm (nbL ties (rgI many) (j : Int))) S ⟨[], rfl, .nil, rfl, fun j l h => by simp at h⟩ (fun _ _ _ _ _ m hm => by cases hm) ?_ ?_
        · rintro i y x acc D' F5 F6 H6 M' hi S e5 e6 ex ⟨L, rfl, g1, g2, g3⟩
          subst ex
          rw [List.getElem?_map] at hi
          cases ha : as[i]? with
          | none => rw [ha] at hi; cases hi
          | some a =>
            rw [ha] at hi
            cases hi
            have li := (List.getElem?_eq_some_iff.mp ha).1
            have cl := Evl.ex_l (e5.trans e6) (cl i a ha)
            have al := (dpAll_get g1).1
            rw [List.length_map] at al
            walk_at "rd"
            refine ⟨rfl, ?_⟩
            walk_at "rd"
            refine fun ns pm pw => s_new S fun q F7 H7 S e7 cq => ?_
            refine CI.put S (by walk_at "ex") (by omega) ⟨L ++ [ns], rfl, ?_, by rw [List.length_append, g2]; rfl, fun j l hj => ?_⟩
            · rw [List.map_append]
              exact dpAll_app (DpAll.ex (e6.trans e7) _ _ g1) (.cons (dp_intsD (SqL.of cq)) .nil)
            · rcases snoc_at hj with ⟨_, h⟩ | ⟨h1, h2⟩
              · exact g3 j l h
              · rw [h2, h1, g2]
                exact pm
        · rintro D' acc F5 H5 M' S e5 ⟨L, rfl, g1, g2, g3⟩
          rw [List.length_map] at g2
          obtain ⟨F6, S, e6, c6⟩ := S.frz 0 rfl
          refine k _ [] _ _ S ⟨rfl, L, .lst (SqL.of c6) (DpAll.ex e6 _ _ g1), by omega, fun h h0 h1 o => ?_, fun l hl => ?_⟩
          · have lt : h.toNat < L.length := by omega
            have g := g3 h.toNat _ (List.getElem?_eq_getElem lt)
            rw [List.getD_eq_getElem?_getD, List.getElem?_eq_getElem lt]
            show o ∈ L[h.toNat] ↔ _
            rw [g.mem_iff, show ((h.toNat : Nat) : Int) = h by omega, nbL_mem ut]
            refine ⟨fun z => z.2.2, fun z => ⟨rgI_mem.mpr ⟨h0, h1⟩, ?_, z⟩⟩
            rcases z with z | z
            · have := W.ok _ z
              simp only at this
              exact rgI_mem.mpr (by omega)
            · have := W.ok _ z
              simp only at this
              exact rgI_mem.mpr (by omega)
          · obtain ⟨j, hj⟩ := List.mem_iff_getElem?.mp hl
            rw [(g3 j l hj).length_eq]
            exact Nat.le_trans (nbL_le _ _ _) ht

end

end
section
local macro_rules | `(tactic| walk_at "ex") => `(tactic| first | exact Evl.Ex.refl _ | assumption | ((refine' Evl.Ex.trans ?x ?y); (case y => assumption); (case x => walk_at "ex")))
local macro_rules | `(tactic| walk_at "hc") => `(tactic| first
  | assumption
  | ((refine' Sep.rdM ?S 0 ?k); (case S => assumption); (case k => exact rfl)) | ((refine' Sep.rdM ?S 1 ?k); (case S => assumption); (case k => exact rfl)) | ((refine' Sep.rdM ?S 2 ?k); (case S => assumption); (case k => exact rfl)) | ((refine' Sep.rdM ?S 3 ?k); (case S => assumption); (case k => exact rfl)) | ((refine' Sep.rdM ?S 4 ?k); (case S => assumption); (case k => exact rfl))
  | ((refine' Sep.rdC ?S ?e ?h); (case S => assumption); (case h => assumption); (case e => walk_at "ex")))
local macro_rules | `(tactic| walk_at "hl") => `(tactic| first
  | assumption
  | ((refine' SqL.of (Sep.rdM ?S 0 ?k)); (case S => assumption); (case k => exact rfl)) | ((refine' SqL.of (Sep.rdM ?S 1 ?k)); (case S => assumption); (case k => exact rfl)) | ((refine' SqL.of (Sep.rdM ?S 2 ?k)); (case S => assumption); (case k => exact rfl)) | ((refine' SqL.of (Sep.rdM ?S 3 ?k)); (case S => assumption); (case k => exact rfl)) | ((refine' SqL.of (Sep.rdM ?S 4 ?k)); (case S => assumption); (case k => exact rfl))
  | ((refine' Sep.rdL ?S ?e ?h); (case S => assumption); (case h => assumption); (case e => walk_at "ex"))
  | ((refine' Sep.rdT ?S ?e ?h); (case S => assumption); (case h => assumption); (case e => walk_at "ex"))
  | ((refine' SqL.of (Sep.rdC ?S ?e ?h)); (case S => assumption); (case h => assumption); (case e => walk_at "ex"))
  | ((refine' SqT.of (Sep.rdC ?S ?e ?h)); (case S => assumption); (case h => assumption); (case e => walk_at "ex"))
  | ((refine' SqL.of ?h); (case h => assumption)) | ((refine' SqT.of ?h); (case h => assumption))
  | ((refine' Evl.ex_l ?e ?h); (case h => assumption); (case e => walk_at "ex")) | ((refine' Evl.ex_t ?e ?h); (case h => assumption); (case e => walk_at "ex"))
  | ((refine' SqL.of (?e _ _ ?h)); (case h => assumption); (case e => walk_at "ex")) | ((refine' SqT.of (?e _ _ ?h)); (case h => assumption); (case e => walk_at "ex")))
local macro_rules | `(tactic| walk_at "hs") => `(tactic| walk_at "hc")
local macro_rules | `(tactic| walk_at "dp") => `(tactic| first
  | assumption
  | ((refine' Sep.rdD ?S ?e ?h); (case S => assumption); (case h => assumption); (case e => walk_at "ex"))
  | ((refine' Dp.ex ?e _ _ ?h); (case h => assumption); (case e => walk_at "ex"))
  | ((refine' DpAll.ex ?e _ _ ?h); (case h => assumption); (case e => walk_at "ex"))
  | (refine' dp_intsD ?h; (case h => walk_at "hl")))
local macro_rules | `(tactic| walk_at "rd1") => `(tactic| (first
  | (with_reducible refine r_seq ?_)
  | (with_reducible refine r_asg ?_)
  | (with_reducible refine r_asgG ?_)
  | (with_reducible refine r_par ?_)
  | (with_reducible refine r_if ?_)
  | (with_reducible refine r_ret ?_)
  | (with_reducible refine r_drop ?_)
  | (with_reducible refine r_next ?_)
  | ((with_reducible refine' r_var ?hx ?_); (case hx => exact rfl))
  | (with_reducible refine r_c ?_)
  | (with_reducible refine r_op ?_)
  | (with_reducible refine r_un ?_)
  | (with_reducible refine r_I0 ?_)
  | ((with_reducible refine' r_I ?_ ?_); (· first | (show (0 : Int) < _; omega) | exact Or.inr ⟨by omega, by omega⟩ | exact Or.inl ⟨by omega, by omega⟩ | exact ⟨by omega, by omega, by decide⟩))
  | (with_reducible refine r_U ?_)
  | (with_reducible refine r_test ?_)
  | (with_reducible refine r_B ?_)
  | (with_reducible refine r_bl ?_)
  | (with_reducible refine r_eqI ?_)
  | (with_reducible refine r_neI ?_)
  | ((with_reducible refine' r_eq ?_ ?_); (· exact rfl))
  | ((with_reducible refine' r_ne ?_ ?_); (· exact rfl))
  | (with_reducible refine r_nil ?_)
  | (with_reducible refine r_cons ?_)
  | (with_reducible refine s_tup ?_)
  | (with_reducible refine s_lst ?_)
  | (with_reducible refine r_call ?_)
  | (with_reducible refine r_cb ?_)
  | (with_reducible refine r_and ?_)
  | (with_reducible refine r_or ?_)
  | (with_reducible refine r_not ?_)
  | (with_reducible refine r_andV ?_)
  | (with_reducible refine r_orV ?_)
  | (with_reducible refine r_notV ?_)
  | (with_reducible refine r_ifE ?_)
  | (with_reducible refine r_gSub ?_)
  | (with_reducible refine r_sadd ?_)
  | (with_reducible refine s_lstRg ?_)
  | (with_reducible refine r_rg1 ?_)
  | (with_reducible refine r_min2 ?_)
  | (with_reducible refine r_par2 ?_)
  | (with_reducible refine r_partI ?_)
  | (with_reducible refine s_lc ?_)
  | (with_reducible refine s_dc ?_)
  | (with_reducible refine r_yes ?_)
  | (with_reducible refine r_iZipA ?_)
  | (with_reducible refine r_isN ?_)
  | (with_reducible refine r_for ?_)
  | (with_reducible refine r_iList ?_)
  | (with_reducible refine r_iTup ?_)
  | (with_reducible refine r_iRng1 ?_)
  | (with_reducible refine r_iRng2 ?_)
  | (with_reducible refine r_iEnum ?_)
  | (with_reducible refine r_iZip ?_)
  | (with_reducible refine r_gName ?_)
  | (with_reducible refine r_isNV ?_)
  | (with_reducible refine r_notNV ?_)
  | (with_reducible refine r_bm ?_)
  | (with_reducible refine r_bm0 ?_)
  | (with_reducible refine r_sl ?_)
  | (with_reducible refine r_noPart ?_)
  | (with_reducible refine r_part ?_)
  | (with_reducible refine r_chain ?_)
  | (with_reducible refine r_iKeys ?_)
  | (with_reducible refine r_iItems ?_)
  | (with_reducible refine r_frz ?_)
  | (with_reducible refine r_dput ?_)
  | (with_reducible refine r_dget ?_)
  | (with_reducible refine r_din ?_)
  | (with_reducible refine r_dnotin ?_)
  | (with_reducible refine r_break ?_)
  | ((with_reducible refine' r_sIn ?h ?_); (case h => walk_at "hs"))
  | ((with_reducible refine' r_sNotIn ?h ?_); (case h => walk_at "hs"))
  | ((with_reducible refine' r_inI ?h ?_); (case h => walk_at "hl"))
  | ((with_reducible refine' r_notInI ?h ?_); (case h => walk_at "hl"))
  | ((with_reducible refine' r_eqNil ?h ?g ?_); (case h => walk_at "hl"); (case g => walk_at "hl"))
  | ((with_reducible refine' r_neNil ?h ?g ?_); (case h => walk_at "hl"); (case g => walk_at "hl"))
  | ((with_reducible refine' iteRT ?hh ?_); (case hh => exact rfl))
  | ((with_reducible refine' iteRF ?hh ?_); (case hh => exact rfl))
  | ((with_reducible refine' r_isiT ?ty ?hk ?_); (case ty => (first | assumption | exact tyx_L (by assumption) | exact tyx_T (by assumption) | exact .base (.non) | exact .base (.bl _) | exact .base (.int _) | exact .base (.str _) | exact tyx_L (by walk_at "hl") | exact tyx_T (by walk_at "hl"))); (case hk => decide +kernel))
  | ((with_reducible refine' r_isiF ?ty ?hk ?_); (case ty => (first | assumption | exact tyx_L (by assumption) | exact tyx_T (by assumption) | exact .base (.non) | exact .base (.bl _) | exact .base (.int _) | exact .base (.str _) | exact tyx_L (by walk_at "hl") | exact tyx_T (by walk_at "hl"))); (case hk => decide +kernel))
  | ((with_reducible refine' r_gTup2 ?hn ?hs ?_); (case hn => exact rfl); (case hs => walk_at "hl"))
  | ((with_reducible refine' s_list ?hl ?_); (case hl => first | exact Or.inl (by walk_at "hl") | exact Or.inr (by walk_at "hl")))
  | ((with_reducible refine' s_tupN ?hl ?_); (case hl => walk_at "hl"))
  | ((with_reducible refine' s_sortN ?hl ?_); (case hl => walk_at "hl"))
  | ((refine' ⟨_, _, rfl, ?hl, ?_⟩); (case hl => first | exact Or.inl (by walk_at "hl") | exact Or.inr (by walk_at "hl")))
  | ((with_reducible refine' r_ixL ?hl ?ha ?_); (case hl => walk_at "hl"); (case ha => first | exact rfl | assumption))
  | ((with_reducible refine' r_ixT ?hl ?ha ?_); (case hl => walk_at "hl"); (case ha => first | exact rfl | assumption))))
local macro_rules | `(tactic| walk_at "rd") => `(tactic| repeat (walk_at "rd1"))

section
variable {P : Program} {w : World} {K : PySem.W.Frag} {mg : Str → Option Value} {base : Heap}

structure DrawsOk (many : Int) (ds : List (List Int)) : Prop where
  len : ∀ row ∈ ds, (row.length : Int) = many
  nn : ∀ row ∈ ds, ∀ x ∈ row, 0 ≤ x
def A_draws : (Int × Int) → List V → Hp → Prop := fun | (many, most), vs, _ => vs = [.int many, .int most] ∧ 1 ≤ many ∧ many ≤ 60 ∧ 0 ≤ most ∧ most ≤ 100
/-- a list of one's own of lists that stay -/
def B_draws (K : PySem.W.Frag) : (Int × Int) → V → List (Addr × Cel) → Hp → Prop := fun | (many, most), v, N, F => ∃ q xs ds, v = .ref q ∧ N = [(q, .is (.lst xs))] ∧ DpAll K F xs (ds.map intsD) ∧ DrawsOk many ds ∧ (ds.length : Int) ≤ most
theorem sides_ok (r : Int) (h0 : 0 ≤ r) (h1 : r < 6) : ∃ u : Int, atI [V.int 1, V.int 2, V.int 3, V.int 10, V.int (10 ^ (6 : Int).toNat), V.int (10 ^ (59 : Int).toNat)] r = some (.int u) ∧ 0 < u ∧ u.natAbs < 2 ^ 1000 := by
  rcases (show r = 0 ∨ r = 1 ∨ r = 2 ∨ r = 3 ∨ r = 4 ∨ r = 5 by omega) with e | e | e | e | e | e <;> subst e
  · exact ⟨1, rfl, by decide, by decide⟩
  · exact ⟨2, rfl, by decide, by decide⟩
  · exact ⟨3, rfl, by decide, by decide⟩
  · exact ⟨10, rfl, by decide, by decide⟩
  · exact ⟨10 ^ (6 : Int).toNat, rfl, by decide +kernel, by decide +kernel⟩
  · exact ⟨10 ^ (59 : Int).toNat, rfl, by decide +kernel, by decide +kernel⟩
theorem ok_l_draws (T : Env K mg) : FnOk P w K mg base CX0 3 T.a__law_draws T.fd__law_draws ["pot", "many", "most"] (SpP A_draws (B_draws K)) := by
  have nd := sc__law_draws.nd
  have G__law_pick : FnOk P w K mg base CX0 2 T.a__law_pick T.fd__law_pick ["pot", "many"] (SpP A_pick B_pick) := ok_l_pick T
  refine T.F__law_draws.ok sc__law_draws (fun vs H Q E h => ?_) (fun cdv A outer s H vs Q E hr h => ?_)
  · obtain ⟨⟨_, _⟩, F, p, r, rfl, _, _, _, ⟨rfl, _⟩, _⟩ := h
    rfl
  · obtain ⟨⟨many, most⟩, F, p, r, rfl, fr, hF, hP, ⟨rfl, hm1, hm2, hs1, hs2⟩, k⟩ := h
    have S := Sep.startP fr hF hP
    refine ⟨_, (pss_cons (ps_set (i := 3) nd rfl (.inl rfl) (pe_lst pa_nil))
      (pss_cons (ps_for PassesOwn.never rfl (pi_range1 (by rfl) T.n_range (pa_cons (pe_call G__law_pick (hr.mono (by decide)) (by rfl) T.g__law_pick T.F__law_pick.kp T.b__law_pick .nil pass0 (pa_cons (pv 0) (pa_cons (pe_op op_add (pv 2) pe_int) pa_nil))) pa_nil)) (pg_name (i := 4) nd rfl (.inl rfl)) (pss_cons (ps_set (i := 5) nd rfl (.inr rfl) (pe_ix ix_list (pe_lst (pa_cons pe_int (pa_cons pe_int (pa_cons pe_int (pa_cons pe_int (pa_cons (pe_op op_pow pe_int pe_int) (pa_cons (pe_op op_pow pe_int pe_int) pa_nil))))))) (pe_call G__law_pick (hr.mono (by decide)) (by rfl) T.g__law_pick T.F__law_pick.kp T.b__law_pick .nil pass0 (pa_cons (pv 0) (pa_cons pe_int pa_nil))) (fun _ _ => rfl)))
      (pss_one (ps_expr (pe_bm PySem.F.plainAttrs_list PySem.F.slot_list_append PySem.F.type_list_append mt_append (pv 3) (pa_cons (pe_lc (own := [("house", 6)]) (g := gName 6) (tt := tYes) (te := (tCall (SpP A_pick B_pick) [] E0 (tCons (tVar 0) (tCons (tVar 5) tNil)))) rfl nd (pi_range1 (by rfl) T.n_range (pa_cons (pv 1) pa_nil)) (blkOk_by (N := ["pot", "many", "most", "found", "turn", "sides", "house"]) (sc := defScope s__law_draws) (by decide +kernel)) (fun _ _ _ _ _ => (pg_name (i := 6) nd rfl (.inl rfl))) (fun _ _ _ _ _ => pts_nil) (fun _ _ _ _ _ => (pe_call G__law_pick (hr.mono (by decide)) (by rfl) T.g__law_pick T.F__law_pick.kp T.b__law_pick .nil pass0 (pa_cons (pv 0) (pa_cons (pv 5) pa_nil))))) pa_nil))))))
      (pss_one (ps_ret (pv 3))))), ?_⟩
    walk_at "rd"
    refine ⟨Nat.zero_le _, s_own S fun q H1 S => ?_⟩
    walk_at "rd"
    refine r_callP S 1 rfl (most + 1) ⟨rfl, by omega, small_up (by omega) (by omega)⟩ fun v N F1 H2 S e1 ⟨z, n, ev, hn0, hn1⟩ => ?_
    subst z ev
    walk_at "rd"
    refine ⟨n, rfl, by omega, by omega, ?_⟩
    refine s_forR (fun i σ' F' M' => ∃ (x4 x5 : Option V) (xs : List V) (ds : List (List Int)), σ' = [some (.ref p), some (.int many), some (.int most), some (.ref q), x4, x5, none] ∧ M' = [(q, .is (.lst xs)), (p, .pot)] ∧ DpAll K F' xs (ds.map intsD) ∧ DrawsOk many ds ∧ ds.length = i) S ⟨none, none, [], [], rfl, rfl, .nil, ⟨fun r hr => (by cases hr), fun r hr => (by cases hr)⟩, rfl⟩ ?_ ?_
    · rintro i σ' F2 H3 M' hi S e2 ⟨x4, x5, xs, ds, rfl, rfl, g1, g2, g3⟩
      have gl := (dpAll_get g1).1
      rw [List.length_map] at gl
      walk_at "rd"
      refine ⟨(by show 6 ≤ sizeLine; decide), s_new S fun l F3 H4 S e3 cl => ?_⟩
      walk_at "rd"
      refine r_callP S 1 rfl 6 ⟨rfl, by omega, small_up (by omega) (by omega)⟩ fun v N F4 H5 S e4 ⟨z, r, ev, hr0, hr1⟩ => ?_
      subst z ev
      obtain ⟨u, hu, hu1, hu2⟩ := sides_ok r hr0 hr1
      walk_at "rd"
      refine ⟨tyL (by walk_at "hl"), ?_⟩
      walk_at "rd"
      refine ⟨many, rfl, by omega, by omega, ?_⟩
      refine s_lcI srcRG (fun i acc F' M' => ∃ ns : List Int, acc = ns.map V.int ∧ M' = [(q, .is (.lst xs)), (p, .pot)] ∧ ns.length = i ∧ ∀ x ∈ ns, 0 ≤ x) S ⟨[], rfl, rfl, rfl, fun x hx => (by cases hx)⟩ (fun _ _ _ _ _ m hm => by cases hm) ?_ ?_
      · rintro j h x acc D F5 F6 H6 M' hj S e5 e6 ex ⟨ns, rfl, rfl, h1, h2⟩
        subst ex
        have lj := (List.getElem?_eq_some_iff.mp hj).1
        rw [rgI_len] at lj
        walk_at "rd"
        refine ⟨rfl, ?_⟩
        walk_at "rd"
        refine r_callP S 2 rfl u ⟨rfl, hu1, hu2⟩ fun v N F7 H7 S e7 ⟨z, x, ev, hx0, hx1⟩ => ?_
        subst z ev
        refine CI.put S (by walk_at "ex") (by rw [List.length_map]; omega) ⟨ns ++ [x], by rw [List.map_append]; rfl, rfl, by rw [List.length_append, h1]; rfl, fun y hy => ?_⟩
        rcases List.mem_append.mp hy with hy | hy
        · exact h2 y hy
        · rw [List.mem_singleton.mp hy]; exact hx0
      · rintro D acc F5 H6 M' S e5 ⟨ns, rfl, rfl, h1, h2⟩
        rw [rgI_len] at h1
        obtain ⟨F6, S, e6, c6⟩ := S.frz 0 rfl
        walk_at "rd"
        refine s_app S 0 rfl (by omega) fun H7 S => ?_
        refine ⟨_, _, S, by walk_at "ex", _, _, xs ++ [.ref D], ds ++ [ns], rfl, rfl, ?_, ⟨fun row hr => ?_, fun row hr => ?_⟩, by rw [List.length_append, g3]; rfl⟩
        · rw [List.map_append]
          exact dpAll_app (DpAll.ex (by walk_at "ex") _ _ g1) (.cons (dp_intsD (SqL.of c6)) .nil)
        · rcases List.mem_append.mp hr with hr | hr
          · exact g2.len row hr
          · rw [List.mem_singleton.mp hr]; omega
        · rcases List.mem_append.mp hr with hr | hr
          · exact g2.nn row hr
          · rw [List.mem_singleton.mp hr]; exact h2
    · rintro σ' F2 H3 M' S e2 ⟨x4, x5, xs, ds, rfl, rfl, g1, g2, g3⟩
      walk_at "rd"
      exact k _ _ _ _ S ⟨q, xs, ds, rfl, rfl, g1, g2, by omega⟩

end

end
section
local macro_rules | `(tactic| walk_at "ex") => `(tactic| first | exact Evl.Ex.refl _ | assumption | ((refine' Evl.Ex.trans ?x ?y); (case y => assumption); (case x => walk_at "ex")))
local macro_rules | `(tactic| walk_at "hc") => `(tactic| first
  | assumption
  | ((refine' Sep.rdM ?S 0 ?k); (case S => assumption); (case k => exact rfl)) | ((refine' Sep.rdM ?S 1 ?k); (case S => assumption); (case k => exact rfl)) | ((refine' Sep.rdM ?S 2 ?k); (case S => assumption); (case k => exact rfl)) | ((refine' Sep.rdM ?S 3 ?k); (case S => assumption); (case k => exact rfl)) | ((refine' Sep.rdM ?S 4 ?k); (case S => assumption); (case k => exact rfl))
  | ((refine' Sep.rdC ?S ?e ?h); (case S => assumption); (case h => assumption); (case e => walk_at "ex")))
local macro_rules | `(tactic| walk_at "hl") => `(tactic| first
  | assumption
  | ((refine' SqL.of (Sep.rdM ?S 0 ?k)); (case S => assumption); (case k => exact rfl)) | ((refine' SqL.of (Sep.rdM ?S 1 ?k)); (case S => assumption); (case k => exact rfl)) | ((refine' SqL.of (Sep.rdM ?S 2 ?k)); (case S => assumption); (case k => exact rfl)) | ((refine' SqL.of (Sep.rdM ?S 3 ?k)); (case S => assumption); (case k => exact rfl)) | ((refine' SqL.of (Sep.rdM ?S 4 ?k)); (case S => assumption); (case k => exact rfl))
  | ((refine' Sep.rdL ?S ?e ?h); (case S => assumption); (case h => assumption); (case e => walk_at "ex"))
  | ((refine' Sep.rdT ?S ?e ?h); (case S => assumption); (case h => assumption); (case e => walk_at "ex"))
  | ((refine' SqL.of (Sep.rdC ?S ?e ?h)); (case S => assumption); (case h => assumption); (case e => walk_at "ex"))
  | ((refine' SqT.of (Sep.rdC ?S ?e ?h)); (case S => assumption); (case h => assumption); (case e => walk_at "ex"))
  | ((refine' SqL.of ?h); (case h => assumption)) | ((refine' SqT.of ?h); (case h => assumption))
  | ((refine' Evl.ex_l ?e ?h); (case h => assumption); (case e => walk_at "ex")) | ((refine' Evl.ex_t ?e ?h); (case h => assumption); (case e => walk_at "ex"))
  | ((refine' SqL.of (?e _ _ ?h)); (case h => assumption); (case e => walk_at "ex")) | ((refine' SqT.of (?e _ _ ?h)); (case h => assumption); (case e => walk_at "ex")))
local macro_rules | `(tactic| walk_at "hs") => `(tactic| walk_at "hc")
local macro_rules | `(tactic| walk_at "dp") => `(tactic| first
  | assumption
  | ((refine' Sep.rdD ?S ?e ?h); (case S => assumption); (case h => assumption); (case e => walk_at "ex"))
  | ((refine' Dp.ex ?e _ _ ?h); (case h => assumption); (case e => walk_at "ex"))
  | ((refine' DpAll.ex ?e _ _ ?h); (case h => assumption); (case e => walk_at "ex"))
  | (refine' dp_intsD ?h; (case h => walk_at "hl")))
local macro_rules | `(tactic| walk_at "rd1") => `(tactic| (first
  | (with_reducible refine r_seq ?_)
  | (with_reducible refine r_asg ?_)
  | (with_reducible refine r_asgG ?_)
  | (with_reducible refine r_par ?_)
  | (with_reducible refine r_if ?_)
  | (with_reducible refine r_ret ?_)
  | (with_reducible refine r_drop ?_)
  | (with_reducible refine r_next ?_)
  | ((with_reducible refine' r_var ?hx ?_); (case hx => exact rfl))
  | (with_reducible refine r_c ?_)
  | (with_reducible refine r_op ?_)
  | (with_reducible refine r_un ?_)
  | (with_reducible refine r_I0 ?_)
  | ((with_reducible refine' r_I ?_ ?_); (· first | (show (0 : Int) < _; omega) | exact Or.inr ⟨by omega, by omega⟩ | exact Or.inl ⟨by omega, by omega⟩ | exact ⟨by omega, by omega, by decide⟩))
  | (with_reducible refine r_U ?_)
  | (with_reducible refine r_test ?_)
  | (with_reducible refine r_B ?_)
  | (with_reducible refine r_bl ?_)
  | (with_reducible refine r_eqI ?_)
  | (with_reducible refine r_neI ?_)
  | ((with_reducible refine' r_eq ?_ ?_); (· exact rfl))
  | ((with_reducible refine' r_ne ?_ ?_); (· exact rfl))
  | (with_reducible refine r_nil ?_)
  | (with_reducible refine r_cons ?_)
  | (with_reducible refine s_tup ?_)
  | (with_reducible refine s_lst ?_)
  | (with_reducible refine r_call ?_)
  | (with_reducible refine r_cb ?_)
  | (with_reducible refine r_and ?_)
  | (with_reducible refine r_or ?_)
  | (with_reducible refine r_not ?_)
  | (with_reducible refine r_andV ?_)
  | (with_reducible refine r_orV ?_)
  | (with_reducible refine r_notV ?_)
  | (with_reducible refine r_ifE ?_)
  | (with_reducible refine r_gSub ?_)
  | (with_reducible refine r_sadd ?_)
  | (with_reducible refine s_lstRg ?_)
  | (with_reducible refine r_rg1 ?_)
  | (with_reducible refine r_min2 ?_)
  | (with_reducible refine r_par2 ?_)
  | (with_reducible refine r_partI ?_)
  | (with_reducible refine s_lc ?_)
  | (with_reducible refine s_dc ?_)
  | (with_reducible refine r_yes ?_)
  | (with_reducible refine r_iZipA ?_)
  | (with_reducible refine r_isN ?_)
  | (with_reducible refine r_for ?_)
  | (with_reducible refine r_iList ?_)
  | (with_reducible refine r_iTup ?_)
  | (with_reducible refine r_iRng1 ?_)
  | (with_reducible refine r_iRng2 ?_)
  | (with_reducible refine r_iEnum ?_)
  | (with_reducible refine r_iZip ?_)
  | (with_reducible refine r_gName ?_)
  | (with_reducible refine r_isNV ?_)
  | (with_reducible refine r_notNV ?_)
  | (with_reducible refine r_bm ?_)
  | (with_reducible refine r_bm0 ?_)
  | (with_reducible refine r_sl ?_)
  | (with_reducible refine r_noPart ?_)
  | (with_reducible refine r_part ?_)
  | (with_reducible refine r_chain ?_)
  | (with_reducible refine r_iKeys ?_)
  | (with_reducible refine r_iItems ?_)
  | (with_reducible refine r_frz ?_)
  | (with_reducible refine r_dput ?_)
  | (with_reducible refine r_dget ?_)
  | (with_reducible refine r_din ?_)
  | (with_reducible refine r_dnotin ?_)
  | (with_reducible refine r_break ?_)
  | ((with_reducible refine' r_sIn ?h ?_); (case h => walk_at "hs"))
  | ((with_reducible refine' r_sNotIn ?h ?_); (case h => walk_at "hs"))
  | ((with_reducible refine' r_inI ?h ?_); (case h => walk_at "hl"))
  | ((with_reducible refine' r_notInI ?h ?_); (case h => walk_at "hl"))
  | ((with_reducible refine' r_eqNil ?h ?g ?_); (case h => walk_at "hl"); (case g => walk_at "hl"))
  | ((with_reducible refine' r_neNil ?h ?g ?_); (case h => walk_at "hl"); (case g => walk_at "hl"))
  | ((with_reducible refine' iteRT ?hh ?_); (case hh => exact rfl))
  | ((with_reducible refine' iteRF ?hh ?_); (case hh => exact rfl))
  | ((with_reducible refine' r_isiT ?ty ?hk ?_); (case ty => (first | assumption | exact tyx_L (by assumption) | exact tyx_T (by assumption) | exact .base (.non) | exact .base (.bl _) | exact .base (.int _) | exact .base (.str _) | exact tyx_L (by walk_at "hl") | exact tyx_T (by walk_at "hl"))); (case hk => decide +kernel))
  | ((with_reducible refine' r_isiF ?ty ?hk ?_); (case ty => (first | assumption | exact tyx_L (by assumption) | exact tyx_T (by assumption) | exact .base (.non) | exact .base (.bl _) | exact .base (.int _) | exact .base (.str _) | exact tyx_L (by walk_at "hl") | exact tyx_T (by walk_at "hl"))); (case hk => decide +kernel))
  | ((with_reducible refine' r_gTup2 ?hn ?hs ?_); (case hn => exact rfl); (case hs => walk_at "hl"))
  | ((with_reducible refine' s_list ?hl ?_); (case hl => first | exact Or.inl (by walk_at "hl") | exact Or.inr (by walk_at "hl")))
  | ((with_reducible refine' s_tupN ?hl ?_); (case hl => walk_at "hl"))
  | ((with_reducible refine' s_sortN ?hl ?_); (case hl => walk_at "hl"))
  | ((refine' ⟨_, _, rfl, ?hl, ?_⟩); (case hl => first | exact Or.inl (by walk_at "hl") | exact Or.inr (by walk_at "hl")))
  | ((with_reducible refine' r_ixL ?hl ?ha ?_); (case hl => walk_at "hl"); (case ha => first | exact rfl | assumption))
  | ((with_reducible refine' r_ixT ?hl ?ha ?_); (case hl => walk_at "hl"); (case ha => first | exact rfl | assumption))))
local macro_rules | `(tactic| walk_at "rd") => `(tactic| repeat (walk_at "rd1"))

section
variable {P : Program} {w : World} {K : PySem.W.Frag} {mg : Str → Option Value} {base : Heap}

def A_lround (K : PySem.W.Frag) : (List (List Int) × List Int × List Int) → List V → Hp → Prop := fun | (L, here, row), vs, F => ∃ n h r, vs = [n, .ref h, .ref r] ∧ Dp K F n (drawsD L) ∧ SqL K F h (here.map V.int) ∧ SqL K F r (row.map V.int) ∧ here.length ≤ 60 ∧ (∀ x ∈ here, 0 ≤ x ∧ x < (L.length : Int) ∧ x < (row.length : Int)) ∧ ∀ l ∈ L, l.length ≤ 4000
def nearF (L : List (List Int)) (h : Int) : List Int := L.getD h.toNat []
def RoundAt (F : Hp) (v : V) (C O : List Int) : Prop := ∃ t c o, v = .ref t ∧ F t = some (.tup [.ref c, .ref o]) ∧ F c = some (.lst (C.map V.int)) ∧ F o = some (.lst (O.map V.int))
theorem RoundAt.dp {K : PySem.W.Frag} {F : Hp} {v : V} {C O : List Int} (h : RoundAt F v C O) : Dp K F v (roundD (C, O)) := by
  obtain ⟨t, c, o, rfl, h1, h2, h3⟩ := h
  exact .tup (SqT.of h1) (.cons (dp_intsD (SqL.of h2)) (.cons (dp_intsD (SqL.of h3)) .nil))
theorem RoundAt.ex {F F' : Hp} {v : V} {C O : List Int} (h : RoundAt F v C O) (e : Evl.Ex F F') : RoundAt F' v C O := by
  obtain ⟨t, c, o, rfl, h1, h2, h3⟩ := h
  exact ⟨t, c, o, rfl, e _ _ h1, e _ _ h2, e _ _ h3⟩
def B_lround (K : PySem.W.Frag) : (List (List Int) × List Int × List Int) → V → List (Addr × Cel) → Hp → Prop := fun | (L, here, row), v, N, F => N = [] ∧ RoundAt F v (lawSome (nearF L) here (rowF row)) (lawOut (nearF L) here (lawSome (nearF L) here (rowF row)))
theorem nearF_at {F : Hp} {K : PySem.W.Frag} {xs : List V} {L : List (List Int)} (hd : DpAll K F xs (L.map intsD)) {h : Int} (h0 : 0 ≤ h) (h1 : h < (L.length : Int)) : ∃ a, atI xs h = some (.ref a) ∧ SqL K F a ((nearF L h).map V.int) := by
  have lt : h.toNat < L.length := by omega
  obtain ⟨x, e, d⟩ := dpAll_at hd (i := h.toNat) (d := intsD (nearF L h)) (by rw [List.getElem?_map, List.getElem?_eq_getElem lt]; unfold nearF; rw [List.getD_eq_getElem?_getD, List.getElem?_eq_getElem lt]; rfl)
  obtain ⟨a, rfl, s⟩ := intsD_at d
  exact ⟨a, atI_of h0 e, s⟩
theorem nearF_le {L : List (List Int)} (h : ∀ l ∈ L, l.length ≤ 4000) (x : Int) : (nearF L x).length ≤ 4000 := by
  unfold nearF
  rw [List.getD_eq_getElem?_getD]
  cases e : L[x.toNat]? with
  | none => exact Nat.zero_le _
  | some l => exact h l (List.mem_of_getElem? e)
theorem ok_l_round (T : Env K mg) : FnOk P w K mg base CX0 1 T.a__law_round T.fd__law_round ["near", "here", "row"] (SpF (A_lround K) (B_lround K)) := by
  have nd := sc__law_round.nd
  refine T.F__law_round.ok sc__law_round (fun vs H Q E h => ?_) (fun cdv A outer s H vs Q E hr h => ?_)
  · obtain ⟨⟨_, _, _⟩, F, _, ⟨n, h, r, rfl, _⟩, _⟩ := h
    rfl
  · obtain ⟨⟨L, here, row⟩, F, fr, ⟨n, ha, ra, rfl, hn, sh, sr, hl, hb, hf⟩, k⟩ := h
    obtain ⟨na, nx, rfl, n1, n2⟩ := listD_at hn
    have S := Sep.start0 fr
    refine ⟨_, (pss_cons (ps_set (i := 3) nd rfl (.inr rfl) (pe_lst pa_nil))
      (pss_cons (ps_for PassesOwn.never rfl (pi_list (pv 1)) (pg_name (i := 4) nd rfl (.inl rfl)) (pss_cons (ps_setLc (i := 5) (own := [("other", 7)]) (g := gName 7) (tt := (tTest (tOp (rIn K false) (tVar 7) (tVar 1)))) (te := (tOp (rIxL K) (tVar 2) (tVar 7))) rfl nd rfl rfl (sw_true rfl rfl rfl (by decide +kernel)) (pi_list (pe_ix ix_list (pv 0) (pv 4) (fun _ _ => rfl))) (blkOk_by (N := ["near", "here", "row", "some", "house", "beside", "out", "other"]) (sc := defScope s__law_round) (by decide +kernel)) (fun _ _ _ _ _ => (pg_name (i := 7) nd rfl (.inl rfl))) (fun _ _ _ _ _ => pts_one (pt_cmpR op_in_seq (pv 7) (pv 1) rfl)) (fun _ _ _ _ _ => (pe_ix ix_list (pv 2) (pv 7) (fun _ _ => rfl))))
      (pss_one (ps_if (PW.pt (pw_or (pt_cmpR (op_eqD hr.units) (pv 5) (pe_lst pa_nil) (nomark _)) (pw_or1 (pt_cmpR op_lt (pe_ix ix_list (pv 2) (pv 4) (fun _ _ => rfl)) (pe_callB (cr_min rfl) (by rfl) T.n_min (by decide +kernel) (pa_cons (pv 5) pa_nil)) (nomark _))))) (pss_one (ps_expr (pe_bm PySem.F.plainAttrs_list PySem.F.slot_list_append PySem.F.type_list_append mt_append (pv 3) (pa_cons (pv 4) pa_nil)))) pss_nil))))
      (pss_cons (ps_set (i := 6) nd rfl (.inl rfl) (pe_lst pa_nil))
      (pss_cons (ps_for PassesOwn.never rfl (pi_list (pv 1)) (pg_name (i := 4) nd rfl (.inl rfl)) (pss_one (ps_if (PW.pt (pw_and (pt_cmpR op_notIn_seq (pv 4) (pv 3) rfl) (pw_and1 (pt_cmpR (op_neD hr.units) (pe_lc (own := [("other", 7)]) (g := gName 7) (tt := (tTest (tOp (rIn K false) (tVar 7) (tVar 3)))) (te := (tVar 7)) rfl nd (pi_list (pe_ix ix_list (pv 0) (pv 4) (fun _ _ => rfl))) (blkOk_by (N := ["near", "here", "row", "some", "house", "beside", "out", "other"]) (sc := defScope s__law_round) (by decide +kernel)) (fun _ _ _ _ _ => (pg_name (i := 7) nd rfl (.inl rfl))) (fun _ _ _ _ _ => pts_one (pt_cmpR op_in_seq (pv 7) (pv 3) rfl)) (fun _ _ _ _ _ => (pv 7))) (pe_lst pa_nil) (nomark _))))) (pss_one (ps_expr (pe_bm PySem.F.plainAttrs_list PySem.F.slot_list_append PySem.F.type_list_append mt_append (pv 6) (pa_cons (pv 4) pa_nil)))) pss_nil)))
      (pss_one (ps_ret (pe_tup (pa_cons (pv 3) (pa_cons (pv 6) pa_nil))))))))), ?_⟩
    walk_at "rd"
    refine ⟨Nat.zero_le _, s_own S fun s1 H1 S => ?_⟩
    walk_at "rd"
    refine ⟨ha, rfl, ⟨_, by walk_at "hl"⟩, ?_⟩
    refine s_for (fun i σ' F' M' => ∃ (x5 x6 : Option V), σ' = [some (.ref na), some (.ref ha), some (.ref ra), some (.ref s1), x5, x6, none, none] ∧ M' = [(s1, .is (.lst (((here.take i).filter fun h => ((nearF L h).filter fun o => decide (o ∈ here)).all fun o => decide (rowF row h < rowF row o)).map V.int)))]) (srcI (K := K) (ns := here) sh) S ⟨none, none, rfl, rfl⟩ (fun _ _ _ _ _ m hm => by cases hm) ?_ ?_
    · rintro i h x σ' F1 F2 H2 M' hi S e1 e2 ex ⟨x5, x6, rfl, rfl⟩
      subst ex
      have hm := List.mem_of_getElem? hi
      have bh := hb h hm
      have li := (List.getElem?_eq_some_iff.mp hi).1
      have fl := List.length_filter_le (fun h => ((nearF L h).filter fun o => decide (o ∈ here)).all fun o => decide (rowF row h < rowF row o)) (here.take i)
      rw [List.length_take] at fl
      obtain ⟨a, ai, sa⟩ := nearF_at n2 bh.1 bh.2.1
      have nl := nearF_le hf h
      have rh : atI (row.map V.int) h = some (.int (rowF row h)) := atI_int bh.1 bh.2.2
      have sa := Evl.ex_l (e1.trans e2) sa
      walk_at "rd"
      refine ⟨a, rfl, ⟨_, by walk_at "hl"⟩, ?_⟩
      refine s_lcV (srcI (K := K) (ns := nearF L h) sa) (fun o => decide (o ∈ here)) (fun o => .int (rowF row o)) S (by omega) (fun m hm => by cases hm) ?_ ?_
      · rintro j o x acc D F3 H3 vt S e3 rfl
        walk_at "rd"
        refine ⟨rfl, ?_⟩
        walk_at "rd"
        refine iteB (fun c => ?_) (fun c => ?_)
        · have bo := hb o (of_decide_eq_true c)
          have ro : atI (row.map V.int) o = some (.int (rowF row o)) := atI_int bo.1 bo.2.2
          walk_at "rd"
          exact vt.put S (by walk_at "ex") c rfl
        · exact vt.skip S (by walk_at "ex") c
      · intro D F3 H3 S e3
        have eb : (((nearF L h).filter fun o => decide (o ∈ here)).map fun o => V.int (rowF row o)) = (((nearF L h).filter fun o => decide (o ∈ here)).map (rowF row)).map V.int := by rw [List.map_map]; rfl
        rw [eb] at S
        obtain ⟨F4, S, e4, c4⟩ := S.frz 0 rfl
        obtain ⟨B, eB⟩ : ∃ B, (nearF L h).filter (fun o => decide (o ∈ here)) = B := ⟨_, rfl⟩
        have yes : (B.all fun o => decide (rowF row h < rowF row o)) = true → (((here.take (i + 1)).filter fun h => ((nearF L h).filter fun o => decide (o ∈ here)).all fun o => decide (rowF row h < rowF row o)).map V.int) = (((here.take i).filter fun h => ((nearF L h).filter fun o => decide (o ∈ here)).all fun o => decide (rowF row h < rowF row o)).map V.int) ++ [.int h] := fun c => by
          rw [take_filter _ _ hi, eB, if_pos c, List.map_append]
          rfl
        have no : (B.all fun o => decide (rowF row h < rowF row o)) = false → (((here.take (i + 1)).filter fun h => ((nearF L h).filter fun o => decide (o ∈ here)).all fun o => decide (rowF row h < rowF row o)).map V.int) = (((here.take i).filter fun h => ((nearF L h).filter fun o => decide (o ∈ here)).all fun o => decide (rowF row h < rowF row o)).map V.int) := fun c => by
          rw [take_filter _ _ hi, eB, if_neg (by rw [c]; decide), List.append_nil]
        rw [eB] at c4
        walk_at "rd"
        refine ⟨Nat.zero_le _, s_new S fun z F5 H5 S e5 cz => ?_⟩
        refine r_eqNil (ns := B.map (rowF row)) (by walk_at "hl") (by walk_at "hl") ?_
        walk_at "rd"
        refine iteB (fun c1 => ?_) (fun c1 => ?_)
        · have z : B = [] := by cases B with | nil => rfl | cons _ _ => cases c1
          walk_at "rd"
          refine ⟨tyL (by walk_at "hl"), ?_⟩
          walk_at "rd"
          refine s_app S 0 rfl (by rw [List.length_map]; omega) fun H6 S => ?_
          exact ⟨_, _, S, by walk_at "ex", _, _, rfl, by rw [yes (by rw [z]; rfl)]; rfl⟩
        · have z : B ≠ [] := fun z => by rw [z] at c1; cases c1
          walk_at "rd"
          refine r_min (ns := B.map (rowF row)) (by walk_at "hl") (by rw [List.length_map]; exact List.length_pos_iff.mpr z) fun m hm1 hm2 => ?_
          walk_at "rd"
          refine iteB (fun c2 => ?_) (fun c2 => ?_)
          · walk_at "rd"
            refine ⟨tyL (by walk_at "hl"), ?_⟩
            walk_at "rd"
            refine s_app S 0 rfl (by rw [List.length_map]; omega) fun H6 S => ?_
            have q : (B.all fun o => decide (rowF row h < rowF row o)) = true := List.all_eq_true.mpr fun o ho => decide_eq_true (by
              have := hm2 _ (List.mem_map_of_mem ho)
              have := of_decide_eq_true c2
              omega)
            exact ⟨_, _, S, by walk_at "ex", _, _, rfl, by rw [yes q]; rfl⟩
          · walk_at "rd"
            obtain ⟨o, ho, eo⟩ := List.mem_map.mp hm1
            have q : (B.all fun o => decide (rowF row h < rowF row o)) = false := by
              cases q : B.all fun o => decide (rowF row h < rowF row o) with
              | false => rfl
              | true =>
                have := of_decide_eq_true (List.all_eq_true.mp q o ho)
                have := of_decide_eq_false c2
                omega
            exact ⟨_, _, S, by walk_at "ex", _, _, rfl, by rw [no q]; rfl⟩
    · rintro σ' F1 H2 M' S e1 ⟨x5, x6, rfl, rfl⟩
      rw [List.take_length] at S
      obtain ⟨c, ec⟩ : ∃ c, lawSome (nearF L) here (rowF row) = c := ⟨_, rfl⟩
      have cl : c.length ≤ 60 := by rw [← ec]; exact Nat.le_trans (List.length_filter_le _ _) hl
      have S : Sep [] H F F1 H2 [(s1, .is (.lst (c.map V.int)))] := by rw [← ec]; exact S
      obtain ⟨F2, S, e2, c2⟩ := S.frz 0 rfl
      walk_at "rd"
      refine ⟨Nat.zero_le _, s_own S fun s2 H3 S => ?_⟩
      walk_at "rd"
      refine ⟨ha, rfl, ⟨_, by walk_at "hl"⟩, ?_⟩
      refine s_for (fun i σ' F' M' => ∃ (x5 x8 : Option V), σ' = [some (.ref na), some (.ref ha), some (.ref ra), some (.ref s1), x5, x6, some (.ref s2), x8] ∧ M' = [(s2, .is (.lst (((here.take i).filter fun h => !decide (h ∈ c) && !((nearF L h).filter fun o => decide (o ∈ c)).isEmpty).map V.int)))]) (srcI (K := K) (ns := here) (Evl.ex_l (e1.trans e2) sh)) S ⟨_, _, rfl, rfl⟩ (fun _ _ _ _ _ m hm => by cases hm) ?_ ?_
      · rintro i h x σ' F3 F4 H4 M' hi S e3 e4 ex ⟨x5, x8, rfl, rfl⟩
        subst ex
        have hm := List.mem_of_getElem? hi
        have bh := hb h hm
        have li := (List.getElem?_eq_some_iff.mp hi).1
        have fl := List.length_filter_le (fun h => !decide (h ∈ c) && !((nearF L h).filter fun o => decide (o ∈ c)).isEmpty) (here.take i)
        rw [List.length_take] at fl
        obtain ⟨a, ai, sa⟩ := nearF_at n2 bh.1 bh.2.1
        have nl := nearF_le hf h
        have sa := Evl.ex_l ((e1.trans e2).trans (e3.trans e4)) sa
        walk_at "rd"
        refine iteB (fun c1 => ?_) (fun c1 => ?_)
        · walk_at "rd"
          refine ⟨a, rfl, ⟨_, by walk_at "hl"⟩, ?_⟩
          refine s_lcV (srcI (K := K) (ns := nearF L h) sa) (fun o => decide (o ∈ c)) (fun o => .int o) S (by omega) (fun m hm => by cases hm) ?_ ?_
          · rintro j o x acc D F5 H5 vt S e5 rfl
            walk_at "rd"
            refine ⟨rfl, ?_⟩
            walk_at "rd"
            refine iteB (fun c => ?_) (fun c => ?_)
            · walk_at "rd"
              exact vt.put S (by walk_at "ex") c rfl
            · exact vt.skip S (by walk_at "ex") c
          · intro D F5 H5 S e5
            obtain ⟨F6, S, e6, c6⟩ := S.frz 0 rfl
            walk_at "rd"
            refine ⟨Nat.zero_le _, s_new S fun z F7 H7 S e7 cz => ?_⟩
            refine r_neNil (ns := (nearF L h).filter fun o => decide (o ∈ c)) (by walk_at "hl") (by walk_at "hl") ?_
            walk_at "rd"
            refine iteB (fun c3 => ?_) (fun c3 => ?_)
            · walk_at "rd"
              refine ⟨tyL (by walk_at "hl"), ?_⟩
              walk_at "rd"
              refine s_app S 0 rfl (by rw [List.length_map]; omega) fun H8 S => ?_
              refine ⟨_, _, S, by walk_at "ex", _, _, rfl, ?_⟩
              rw [take_filter _ _ hi, if_pos (by rw [c1, c3]; rfl), List.map_append]
              rfl
            · walk_at "rd"
              refine ⟨_, _, S, by walk_at "ex", _, _, rfl, ?_⟩
              rw [take_filter _ _ hi, if_neg (by rw [c1, c3]; decide), List.append_nil]
              rfl
        · walk_at "rd"
          refine ⟨_, _, S, by walk_at "ex", _, _, rfl, ?_⟩
          rw [take_filter _ _ hi, if_neg (by rw [c1, Bool.false_and]; decide), List.append_nil]
      · rintro σ' F3 H3 M' S e3 ⟨x5, x8, rfl, rfl⟩
        rw [List.take_length] at S
        obtain ⟨F4, S, e4, c4⟩ := S.frz 0 rfl
        walk_at "rd"
        refine ⟨(by show 2 ≤ sizeLine; decide), s_new S fun t F5 H5 S e5 ct => ?_⟩
        refine k _ _ _ _ S ⟨rfl, ?_⟩
        rw [ec]
        exact ⟨t, s1, s2, rfl, ct, (e3.trans (e4.trans e5)) _ _ c2, e5 _ _ c4⟩
theorem atI_end {xs : List V} {v : V} : atI (xs ++ [v]) (-1) = some v := by
  unfold atI ixN
  rw [List.length_append, List.length_singleton, if_neg (by omega), if_pos (by omega)]
  show (xs ++ [v])[((-1 : Int) + ((xs.length + 1 : Nat) : Int)).toNat]? = _
  rw [show ((-1 : Int) + ((xs.length + 1 : Nat) : Int)).toNat = xs.length by omega, List.getElem?_append_right (Nat.le_refl _), Nat.sub_self]
  rfl
def B_lrun : (Int × List (Int × Int) × List (List Int)) → V → List (Addr × Cel) → Hp → Prop := fun | (many, ties, ds), v, N, F => N = [] ∧ RunRaw F v (runL ties (rgI many) ds).1 (runL ties (rgI many) ds).2
theorem ok_l_run (T : Env K mg) : FnOk P w K mg base CX0 2 T.a__law_run T.fd__law_run ["web", "draws"] (SpF (A_runby K) B_lrun) := by
  have nd := sc__law_run.nd
  have G__law_near : FnOk P w K mg base CX0 1 T.a__law_near T.fd__law_near ["web"] (SpF (A_lnear K) (B_lnear K)) := ok_l_near T
  have G__law_round : FnOk P w K mg base CX0 1 T.a__law_round T.fd__law_round ["near", "here", "row"] (SpF (A_lround K) (B_lround K)) := ok_l_round T
  refine T.F__law_run.ok sc__law_run (fun vs H Q E h => ?_) (fun cdv A outer s H vs Q E hr h => ?_)
  · obtain ⟨⟨_, _, _⟩, F, _, ⟨v, u, rfl, _⟩, _⟩ := h
    rfl
  · obtain ⟨⟨many, ties, ds⟩, F, fr, ⟨v, u, rfl, hv, W, ht, hu, hd, hl⟩, k⟩ := h
    have ut : UpT ties := fun t ht => (W.ok t ht).2.1
    obtain ⟨wa, wb, ws, rfl, s1, s2, s3⟩ := webD_at hv
    obtain ⟨da, dl, rfl, d1, d2⟩ := listD_at hu
    have w1 := W.lo
    have w2 := W.hi
    have S := Sep.start0 fr
    refine ⟨_, (pss_cons (ps_set (i := 2) nd rfl (.inl rfl) (pe_call G__law_near (hr.mono (by decide)) (by rfl) T.g__law_near T.F__law_near.kp T.b__law_near .nil pass0 (pa_cons (pv 0) pa_nil)))
      (pss_cons (ps_set (i := 3) nd rfl (.inl rfl) (pe_listRg rfl (by rfl) T.n_list (prg_1 (by rfl) T.n_range (pe_ix ix_tup (pv 0) pe_int (fun _ _ => rfl)))))
      (pss_cons (ps_set (i := 4) nd rfl (.inr rfl) (pe_lst pa_nil))
      (pss_cons (ps_for PassesOwn.never rfl (pi_list (pv 1)) (pg_name (i := 5) nd rfl (.inl rfl)) (pss_one (ps_if (pt_cmpR (op_neD hr.units) (pv 3) (pe_lst pa_nil) (nomark _)) (pss_cons (ps_expr (pe_bm PySem.F.plainAttrs_list PySem.F.slot_list_append PySem.F.type_list_append mt_append (pv 4) (pa_cons (pe_call G__law_round (hr.mono (by decide)) (by rfl) T.g__law_round T.F__law_round.kp T.b__law_round .nil pass0 (pa_cons (pv 2) (pa_cons (pv 3) (pa_cons (pv 5) pa_nil)))) pa_nil)))
      (pss_one (ps_setLc (i := 3) (own := [("house", 6)]) (g := gName 6) (tt := (tTest (tOp (rIn K true) (tVar 6) (tOp rCat (tOp (rIxT K) (tOp (rIxL K) (tVar 4) (tUn (rU fun i => .int (-i)) (tC (.int 1)))) (tC (.int 0))) (tOp (rIxT K) (tOp (rIxL K) (tVar 4) (tUn (rU fun i => .int (-i)) (tC (.int 1)))) (tC (.int 1))))))) (te := (tVar 6)) rfl nd rfl rfl (sw_true rfl rfl rfl (by decide +kernel)) (pi_list (pv 3)) (blkOk_by (N := ["web", "draws", "near", "here", "rounds", "row", "house"]) (sc := defScope s__law_run) (by decide +kernel)) (fun _ _ _ _ _ => (pg_name (i := 6) nd rfl (.inl rfl))) (fun _ _ _ _ _ => pts_one (pt_cmpR op_notIn_seq (pv 6) (pe_op op_cat (pe_ix ix_tup (pe_ix ix_list (pv 4) (pe_un un_neg pe_int) (fun _ _ => rfl)) pe_int (fun _ _ => rfl)) (pe_ix ix_tup (pe_ix ix_list (pv 4) (pe_un un_neg pe_int) (fun _ _ => rfl)) pe_int (fun _ _ => rfl))) rfl)) (fun _ _ _ _ _ => (pv 6))))) pss_nil)))
      (pss_one (ps_ret (pe_tup (pa_cons (pv 4) (pa_cons (pv 3) pa_nil))))))))), ?_⟩
    walk_at "rd"
    refine r_callF S (many, ties) ⟨_, rfl, hv, W, ht⟩ ?_
    rintro v N F1 H1 S e1 ⟨rfl, L, hL, NL⟩
    have le := NL.len
    have lm : ∀ h, 0 ≤ h → h < many → ∀ o, o ∈ nearF L h ↔ TiedW ties h o := NL.mem
    walk_at "rd"
    refine ⟨⟨by omega, by omega, by omega, by omega, by omega⟩, ?_⟩
    rw [rgV_eq]
    refine s_new S fun l F2 H2 S e2 cl => ?_
    walk_at "rd"
    refine ⟨Nat.zero_le _, s_own S fun R H3 S => ?_⟩
    walk_at "rd"
    refine ⟨da, rfl, ⟨dl, by walk_at "hl"⟩, ?_⟩
    refine s_for (fun i σ' F' M' => ∃ (x5 : Option V) (l : Addr) (left : List Int) (ts cs os : List Addr) (rs : List (List Int × List Int)), σ' = [some (.ref wa), some (.ref da), some v, some (.ref l), some (.ref R), x5, none] ∧ M' = [(R, .is (.lst (ts.map V.ref)))] ∧ RawRows F' ts cs os rs ∧ rs.length ≤ i ∧ F' l = some (.lst (left.map V.int)) ∧
        left.Pairwise (· < ·) ∧ (∀ h ∈ left, 0 ≤ h ∧ h < many) ∧ left.length ≤ 60 ∧ runL ties (rgI many) ds = (rs ++ (runL ties left (ds.drop i)).1, (runL ties left (ds.drop i)).2)) (srcD (K := K) (as := ds) (da := intsD) (Evl.ex_l (e1.trans e2) d1) (DpAll.ex (e1.trans e2) _ _ d2)) S ⟨none, l, rgI many, [], [], [], [], rfl, rfl, RawRows.nil, Nat.le_refl _, cl, rgI_up many, fun h hh => rgI_mem.mp hh, by rw [rgI_len]; omega, rfl⟩ (fun _ _ _ _ _ m hm => by cases hm) ?_ ?_
    · rintro i row x σ' F3 F4 H4 M' hi S e3 e4 hx ⟨x5, l, left, ts, cs, os, rs, rfl, rfl, g1, rl, g2, up, hh, h60, he⟩
      obtain ⟨ra, rfl, sr⟩ := intsD_at hx
      have g1 := g1.ex e4
      have g2 := e4 _ _ g2
      have gl := g1.lt
      have hrow := hd row (List.mem_of_getElem? hi)
      have li := (List.getElem?_eq_some_iff.mp hi).1
      have dd : ds.drop i = row :: ds.drop (i + 1) := by
        rw [List.drop_eq_getElem_cons li]
        congr 1
        rw [List.getElem?_eq_getElem li] at hi
        exact Option.some.inj hi
      walk_at "rd"
      refine ⟨Nat.zero_le _, s_new S fun z F5 H5 S e5 cz => ?_⟩
      refine r_neNil (ns := left) (by walk_at "hl") (by walk_at "hl") ?_
      walk_at "rd"
      refine iteB (fun ce => ?_) (fun ce => ?_)
      · have nl : left ≠ [] := fun e => by rw [e] at ce; cases ce
        walk_at "rd"
        refine ⟨tyL (by walk_at "hl"), ?_⟩
        walk_at "rd"
        refine r_callF S (L, left, row) ⟨v, l, ra, rfl, Dp.ex (show Evl.Ex F1 F5 by walk_at "ex") _ _ hL, SqL.of (e5 _ _ g2), Evl.ex_l e5 sr, h60, fun x hx => by have := hh x hx; omega, NL.few⟩ ?_
        rintro v2 N F6 H6 S e6 ⟨rfl, rat⟩
        have E1 : lawSome (nearF L) left (rowF row) = leastOf ties left (rowF row) := lawSome_eq ut fun h hm o => lm h (hh h hm).1 (hh h hm).2 o
        have E2 : lawOut (nearF L) left (leastOf ties left (rowF row)) = outBy ties left (leastOf ties left (rowF row)) := lawOut_eq ut (fun h hm o => lm h (hh h hm).1 (hh h hm).2 o) leastOf_sub fun h h1 o h2 => leastOf_apart ut h1 h2
        rw [E1, E2] at rat
        obtain ⟨C, eC⟩ : ∃ C, leastOf ties left (rowF row) = C := ⟨_, rfl⟩
        obtain ⟨O, eO⟩ : ∃ O, outBy ties left C = O := ⟨_, rfl⟩
        rw [eC, eO] at rat
        have cle : C.length ≤ 60 := by rw [← eC]; exact Nat.le_trans leastOf_len h60
        have ole : O.length ≤ 60 := by rw [← eO]; exact Nat.le_trans outBy_len h60
        obtain ⟨t, c, o, rfl, ct, cc, co⟩ := id rat
        walk_at "rd"
        refine s_app S 0 rfl (by rw [List.length_map]; omega) fun H7 S => ?_
        walk_at "rd"
        have g2 := e6 _ _ (e5 _ _ g2)
        refine ⟨l, rfl, ⟨_, by walk_at "hl"⟩, ?_⟩
        refine s_lcV (srcI (K := K) (ns := left) (SqL.of g2)) (fun h => !decide (h ∈ C ++ O)) (fun h => .int h) S (by omega) (fun m hm => by cases hm) ?_ ?_
        · rintro j h x acc D F8 H8 vt S e8 rfl
          walk_at "rd"
          refine ⟨rfl, ?_⟩
          walk_at "rd"
          refine r_ixL (K := K) (v := .ref t) (SqL.of (S.rdM 1 rfl)) atI_end ?_
          walk_at "rd"
          refine r_ixL (K := K) (v := .ref t) (SqL.of (S.rdM 1 rfl)) atI_end ?_
          walk_at "rd"
          refine s_cat (S.fr _ _ (e8 _ _ cc)) (S.fr _ _ (e8 _ _ co)) (by rw [List.length_map, List.length_map]; omega) ?_
          refine s_new S fun z F9 H9 S e9 cz => ?_
          rw [← List.map_append] at cz
          walk_at "rd"
          refine iteB (fun cc => ?_) (fun cc => ?_)
          · walk_at "rd"
            exact vt.put S (by walk_at "ex") cc rfl
          · exact vt.skip S (by walk_at "ex") cc
        · intro D F8 H8 S e8
          obtain ⟨F9, S, e9, c9⟩ := S.frz 0 rfl
          refine ⟨_, _, S, by walk_at "ex", _, D, behind left C O, ts ++ [t], cs ++ [c], os ++ [o], rs ++ [(C, O)], rfl, by rw [List.map_append]; rfl, ?_, by rw [List.length_append]; simp; omega, c9, behind_up up, fun h hm => hh h (behind_sub h hm), Nat.le_trans behind_len h60, ?_⟩
          · exact (g1.ex (by walk_at "ex")).snoc ((e8.trans e9) _ _ ct) ((e8.trans e9) _ _ cc) ((e8.trans e9) _ _ co)
          · rw [he, dd, runL_step nl, eC, eO, List.append_assoc]
            rfl
      · have el : left = [] := by cases left with | nil => rfl | cons _ _ => cases ce
        walk_at "rd"
        refine ⟨_, _, S, by walk_at "ex", _, l, left, ts, cs, os, rs, rfl, rfl, g1.ex e5, by omega, e5 _ _ g2, up, hh, h60, ?_⟩
        rw [he, el, runL_nil, runL_nil]
    · rintro σ' F3 H4 M' S e3 ⟨x5, l, left, ts, cs, os, rs, rfl, rfl, g1, rl, g2, up, hh, h60, he⟩
      obtain ⟨F4, S, e4, c4⟩ := S.frz 0 rfl
      walk_at "rd"
      refine ⟨(by show 2 ≤ sizeLine; decide), s_new S fun T' F5 H5 S e5 ct => ?_⟩
      refine k _ _ _ _ S ⟨rfl, ?_⟩
      rw [List.drop_length] at he
      rw [he, runL, List.append_nil]
      exact ⟨T', R, l, ts, cs, os, rfl, ct, e5 _ _ c4, (e4.trans e5) _ _ g2, g1.ex (e4.trans e5)⟩

end

end
section
local macro_rules | `(tactic| walk_at "ex") => `(tactic| first | exact Evl.Ex.refl _ | assumption | ((refine' Evl.Ex.trans ?x ?y); (case y => assumption); (case x => walk_at "ex")))
local macro_rules | `(tactic| walk_at "hc") => `(tactic| first
  | assumption
  | ((refine' Sep.rdM ?S 0 ?k); (case S => assumption); (case k => exact rfl)) | ((refine' Sep.rdM ?S 1 ?k); (case S => assumption); (case k => exact rfl)) | ((refine' Sep.rdM ?S 2 ?k); (case S => assumption); (case k => exact rfl)) | ((refine' Sep.rdM ?S 3 ?k); (case S => assumption); (case k => exact rfl)) | ((refine' Sep.rdM ?S 4 ?k); (case S => assumption); (case k => exact rfl))
  | ((refine' Sep.rdC ?S ?e ?h); (case S => assumption); (case h => assumption); (case e => walk_at "ex")))
local macro_rules | `(tactic| walk_at "hl") => `(tactic| first
  | assumption
  | ((refine' SqL.of (Sep.rdM ?S 0 ?k)); (case S => assumption); (case k => exact rfl)) | ((refine' SqL.of (Sep.rdM ?S 1 ?k)); (case S => assumption); (case k => exact rfl)) | ((refine' SqL.of (Sep.rdM ?S 2 ?k)); (case S => assumption); (case k => exact rfl)) | ((refine' SqL.of (Sep.rdM ?S 3 ?k)); (case S => assumption); (case k => exact rfl)) | ((refine' SqL.of (Sep.rdM ?S 4 ?k)); (case S => assumption); (case k => exact rfl))
  | ((refine' Sep.rdL ?S ?e ?h); (case S => assumption); (case h => assumption); (case e => walk_at "ex"))
  | ((refine' Sep.rdT ?S ?e ?h); (case S => assumption); (case h => assumption); (case e => walk_at "ex"))
  | ((refine' SqL.of (Sep.rdC ?S ?e ?h)); (case S => assumption); (case h => assumption); (case e => walk_at "ex"))
  | ((refine' SqT.of (Sep.rdC ?S ?e ?h)); (case S => assumption); (case h => assumption); (case e => walk_at "ex"))
  | ((refine' SqL.of ?h); (case h => assumption)) | ((refine' SqT.of ?h); (case h => assumption))
  | ((refine' Evl.ex_l ?e ?h); (case h => assumption); (case e => walk_at "ex")) | ((refine' Evl.ex_t ?e ?h); (case h => assumption); (case e => walk_at "ex"))
  | ((refine' SqL.of (?e _ _ ?h)); (case h => assumption); (case e => walk_at "ex")) | ((refine' SqT.of (?e _ _ ?h)); (case h => assumption); (case e => walk_at "ex")))
local macro_rules | `(tactic| walk_at "hs") => `(tactic| walk_at "hc")
local macro_rules | `(tactic| walk_at "dp") => `(tactic| first
  | assumption
  | ((refine' Sep.rdD ?S ?e ?h); (case S => assumption); (case h => assumption); (case e => walk_at "ex"))
  | ((refine' Dp.ex ?e _ _ ?h); (case h => assumption); (case e => walk_at "ex"))
  | ((refine' DpAll.ex ?e _ _ ?h); (case h => assumption); (case e => walk_at "ex"))
  | (refine' dp_intsD ?h; (case h => walk_at "hl")))
local macro_rules | `(tactic| walk_at "rd1") => `(tactic| (first
  | (with_reducible refine r_seq ?_)
  | (with_reducible refine r_asg ?_)
  | (with_reducible refine r_asgG ?_)
  | (with_reducible refine r_par ?_)
  | (with_reducible refine r_if ?_)
  | (with_reducible refine r_ret ?_)
  | (with_reducible refine r_drop ?_)
  | (with_reducible refine r_next ?_)
  | ((with_reducible refine' r_var ?hx ?_); (case hx => exact rfl))
  | (with_reducible refine r_c ?_)
  | (with_reducible refine r_op ?_)
  | (with_reducible refine r_un ?_)
  | (with_reducible refine r_I0 ?_)
  | ((with_reducible refine' r_I ?_ ?_); (· first | (show (0 : Int) < _; omega) | exact Or.inr ⟨by omega, by omega⟩ | exact Or.inl ⟨by omega, by omega⟩ | exact ⟨by omega, by omega, by decide⟩))
  | (with_reducible refine r_U ?_)
  | (with_reducible refine r_test ?_)
  | (with_reducible refine r_B ?_)
  | (with_reducible refine r_bl ?_)
  | (with_reducible refine r_eqI ?_)
  | (with_reducible refine r_neI ?_)
  | ((with_reducible refine' r_eq ?_ ?_); (· exact rfl))
  | ((with_reducible refine' r_ne ?_ ?_); (· exact rfl))
  | (with_reducible refine r_nil ?_)
  | (with_reducible refine r_cons ?_)
  | (with_reducible refine s_tup ?_)
  | (with_reducible refine s_lst ?_)
  | (with_reducible refine r_call ?_)
  | (with_reducible refine r_cb ?_)
  | (with_reducible refine r_and ?_)
  | (with_reducible refine r_or ?_)
  | (with_reducible refine r_not ?_)
  | (with_reducible refine r_andV ?_)
  | (with_reducible refine r_orV ?_)
  | (with_reducible refine r_notV ?_)
  | (with_reducible refine r_ifE ?_)
  | (with_reducible refine r_gSub ?_)
  | (with_reducible refine r_sadd ?_)
  | (with_reducible refine s_lstRg ?_)
  | (with_reducible refine r_rg1 ?_)
  | (with_reducible refine r_min2 ?_)
  | (with_reducible refine r_par2 ?_)
  | (with_reducible refine r_partI ?_)
  | (with_reducible refine s_lc ?_)
  | (with_reducible refine s_dc ?_)
  | (with_reducible refine r_yes ?_)
  | (with_reducible refine r_iZipA ?_)
  | (with_reducible refine r_isN ?_)
  | (with_reducible refine r_for ?_)
  | (with_reducible refine r_iList ?_)
  | (with_reducible refine r_iTup ?_)
  | (with_reducible refine r_iRng1 ?_)
  | (with_reducible refine r_iRng2 ?_)
  | (with_reducible refine r_iEnum ?_)
  | (with_reducible refine r_iZip ?_)
  | (with_reducible refine r_gName ?_)
  | (with_reducible refine r_isNV ?_)
  | (with_reducible refine r_notNV ?_)
  | (with_reducible refine r_bm ?_)
  | (with_reducible refine r_bm0 ?_)
  | (with_reducible refine r_sl ?_)
  | (with_reducible refine r_noPart ?_)
  | (with_reducible refine r_part ?_)
  | (with_reducible refine r_chain ?_)
  | (with_reducible refine r_iKeys ?_)
  | (with_reducible refine r_iItems ?_)
  | (with_reducible refine r_frz ?_)
  | (with_reducible refine r_dput ?_)
  | (with_reducible refine r_dget ?_)
  | (with_reducible refine r_din ?_)
  | (with_reducible refine r_dnotin ?_)
  | (with_reducible refine r_break ?_)
  | ((with_reducible refine' r_sIn ?h ?_); (case h => walk_at "hs"))
  | ((with_reducible refine' r_sNotIn ?h ?_); (case h => walk_at "hs"))
  | ((with_reducible refine' r_inI ?h ?_); (case h => walk_at "hl"))
  | ((with_reducible refine' r_notInI ?h ?_); (case h => walk_at "hl"))
  | ((with_reducible refine' r_eqNil ?h ?g ?_); (case h => walk_at "hl"); (case g => walk_at "hl"))
  | ((with_reducible refine' r_neNil ?h ?g ?_); (case h => walk_at "hl"); (case g => walk_at "hl"))
  | ((with_reducible refine' iteRT ?hh ?_); (case hh => exact rfl))
  | ((with_reducible refine' iteRF ?hh ?_); (case hh => exact rfl))
  | ((with_reducible refine' r_isiT ?ty ?hk ?_); (case ty => (first | assumption | exact tyx_L (by assumption) | exact tyx_T (by assumption) | exact .base (.non) | exact .base (.bl _) | exact .base (.int _) | exact .base (.str _) | exact tyx_L (by walk_at "hl") | exact tyx_T (by walk_at "hl"))); (case hk => decide +kernel))
  | ((with_reducible refine' r_isiF ?ty ?hk ?_); (case ty => (first | assumption | exact tyx_L (by assumption) | exact tyx_T (by assumption) | exact .base (.non) | exact .base (.bl _) | exact .base (.int _) | exact .base (.str _) | exact tyx_L (by walk_at "hl") | exact tyx_T (by walk_at "hl"))); (case hk => decide +kernel))
  | ((with_reducible refine' r_gTup2 ?hn ?hs ?_); (case hn => exact rfl); (case hs => walk_at "hl"))
  | ((with_reducible refine' s_list ?hl ?_); (case hl => first | exact Or.inl (by walk_at "hl") | exact Or.inr (by walk_at "hl")))
  | ((with_reducible refine' s_tupN ?hl ?_); (case hl => walk_at "hl"))
  | ((with_reducible refine' s_sortN ?hl ?_); (case hl => walk_at "hl"))
  | ((refine' ⟨_, _, rfl, ?hl, ?_⟩); (case hl => first | exact Or.inl (by walk_at "hl") | exact Or.inr (by walk_at "hl")))
  | ((with_reducible refine' r_ixL ?hl ?ha ?_); (case hl => walk_at "hl"); (case ha => first | exact rfl | assumption))
  | ((with_reducible refine' r_ixT ?hl ?ha ?_); (case hl => walk_at "hl"); (case ha => first | exact rfl | assumption))))
local macro_rules | `(tactic| walk_at "rd") => `(tactic| repeat (walk_at "rd1"))

section
variable {P : Program} {w : World} {K : PySem.W.Frag} {mg : Str → Option Value} {base : Heap}

abbrev RiseRows (rs : List (List Int × List Int)) : Prop := ∀ r ∈ rs, r.1.Pairwise (· < ·) ∧ r.2.Pairwise (· < ·)
def A_lisrun (K : PySem.W.Frag) : (Int × List (Int × Int) × List (List Int × List Int) × List Int) → List V → Hp → Prop := fun x vs F => A_isrun K x vs F ∧ RiseRows x.2.2.1
theorem ok_l_is_run (T : Env K mg) : FnOk P w K mg base CX0 2 T.a__law_is_run T.fd__law_is_run ["web", "rounds", "left"] (SpF (A_lisrun K) B_isrun) := by
  have nd := sc__law_is_run.nd
  have G__law_near : FnOk P w K mg base CX0 1 T.a__law_near T.fd__law_near ["web"] (SpF (A_lnear K) (B_lnear K)) := ok_l_near T
  refine T.F__law_is_run.ok sc__law_is_run (fun vs H Q E h => ?_) (fun cdv A outer s H vs Q E hr h => ?_)
  · obtain ⟨⟨_, _, _, _⟩, F, _, ⟨⟨v, R, L, xs, rfl, _⟩, _⟩, _⟩ := h
    rfl
  · obtain ⟨⟨many, ties, rs, e⟩, F, fr, ⟨⟨v, R, L, xs, rfl, hv, W, hR, hx, hL, hl, hs⟩, rise⟩, k⟩ := h
    have rise : RiseRows rs := rise
    have ut : UpT ties := fun t ht => (W.ok t ht).2.1
    have tl := W.few
    obtain ⟨wa, wb, ws, rfl, s1, s2, s3⟩ := webD_at hv
    have w1 := W.lo
    have w2 := W.hi
    have S := Sep.start0 fr
    refine ⟨_, (pss_cons (ps_set (i := 3) nd rfl (.inl rfl) (pe_call G__law_near (hr.mono (by decide)) (by rfl) T.g__law_near T.F__law_near.kp T.b__law_near .nil pass0 (pa_cons (pv 0) pa_nil)))
      (pss_cons (ps_set (i := 4) nd rfl (.inr rfl) (pe_listRg rfl (by rfl) T.n_list (prg_1 (by rfl) T.n_range (pe_ix ix_tup (pv 0) pe_int (fun _ _ => rfl)))))
      (pss_cons (ps_for PassesOwn.never rfl (pi_list (pv 1)) (pg_tup rfl (pgs_cons (pg_name (i := 5) nd rfl (.inr rfl)) (pgs_cons (pg_name (i := 6) nd rfl (.inr rfl)) pgs_nil))) (pss_cons (ps_if (PW.pt (pw_or (pt_cmpR (op_eqD hr.units) (pv 4) (pe_lst pa_nil) (nomark _)) (pw_or1 (pt_cmpR (op_neD hr.units) (pe_lc (own := [("house", 7)]) (g := gName 7) (tt := (tTest (tOp (rIn K true) (tVar 7) (tVar 4)))) (te := (tVar 7)) rfl nd (pi_list (pv 5)) (blkOk_by (N := ["web", "rounds", "left", "near", "here", "some", "out", "house", "beside", "met", "other"]) (sc := defScope s__law_is_run) (by decide +kernel)) (fun _ _ _ _ _ => (pg_name (i := 7) nd rfl (.inl rfl))) (fun _ _ _ _ _ => pts_one (pt_cmpR op_notIn_seq (pv 7) (pv 4) rfl)) (fun _ _ _ _ _ => (pv 7))) (pe_lst pa_nil) (nomark _))))) (pss_one (ps_ret pe_bl)) pss_nil)
      (pss_cons (ps_for PassesOwn.never rfl (pi_list (pv 4)) (pg_name (i := 7) nd rfl (.inl rfl)) (pss_cons (ps_setLc (i := 8) (own := [("other", 10)]) (g := gName 10) (tt := (tTest (tOp (rIn K false) (tVar 10) (tVar 4)))) (te := (tVar 10)) rfl nd rfl rfl (sw_true rfl rfl rfl (by decide +kernel)) (pi_list (pe_ix ix_list (pv 3) (pv 7) (fun _ _ => rfl))) (blkOk_by (N := ["web", "rounds", "left", "near", "here", "some", "out", "house", "beside", "met", "other"]) (sc := defScope s__law_is_run) (by decide +kernel)) (fun _ _ _ _ _ => (pg_name (i := 10) nd rfl (.inl rfl))) (fun _ _ _ _ _ => pts_one (pt_cmpR op_in_seq (pv 10) (pv 4) rfl)) (fun _ _ _ _ _ => (pv 10)))
      (pss_cons (ps_setLc (i := 9) (own := [("other", 10)]) (g := gName 10) (tt := (tTest (tOp (rIn K false) (tVar 10) (tVar 5)))) (te := (tVar 10)) rfl nd rfl rfl (sw_true rfl rfl rfl (by decide +kernel)) (pi_list (pv 8)) (blkOk_by (N := ["web", "rounds", "left", "near", "here", "some", "out", "house", "beside", "met", "other"]) (sc := defScope s__law_is_run) (by decide +kernel)) (fun _ _ _ _ _ => (pg_name (i := 10) nd rfl (.inl rfl))) (fun _ _ _ _ _ => pts_one (pt_cmpR op_in_seq (pv 10) (pv 5) rfl)) (fun _ _ _ _ _ => (pv 10)))
      (Evl.pss_cut (ps_if (PW.pt (pw_or (PW.pt (pw_and (pt_cmpR op_in_seq (pv 7) (pv 5) rfl) (pw_and1 (pt_cmpR (op_neD hr.units) (pv 9) (pe_lst pa_nil) (nomark _))))) (pw_or1 (PW.pt (pw_and (pt_cmpR op_notIn_seq (pv 7) (pv 5) rfl) (pw_and1 (pt_cmpR (op_eqD hr.units) (pv 8) (pe_lst pa_nil) (nomark _)))))))) (pss_one (ps_ret pe_bl)) pss_nil)
      (pss_one (ps_if (pt_cmpR op_ne (pe_cmpR op_in_seq (pv 7) (pv 6) rfl) (pe_and (pe_cmpR op_notIn_seq (pv 7) (pv 5) rfl) (pe_one (pe_cmpR (op_neD hr.units) (pv 9) (pe_lst pa_nil) (nomark _)))) (nomark _)) (pss_one (ps_ret pe_bl)) pss_nil))))))
      (pss_cons (ps_if (pt_cmpR (op_neD hr.units) (pe_lc (own := [("house", 7)]) (g := gName 7) (tt := (tTest (tOp (rIn K true) (tVar 7) (tVar 4)))) (te := (tVar 7)) rfl nd (pi_list (pv 6)) (blkOk_by (N := ["web", "rounds", "left", "near", "here", "some", "out", "house", "beside", "met", "other"]) (sc := defScope s__law_is_run) (by decide +kernel)) (fun _ _ _ _ _ => (pg_name (i := 7) nd rfl (.inl rfl))) (fun _ _ _ _ _ => pts_one (pt_cmpR op_notIn_seq (pv 7) (pv 4) rfl)) (fun _ _ _ _ _ => (pv 7))) (pe_lst pa_nil) (nomark _)) (pss_one (ps_ret pe_bl)) pss_nil)
      (pss_one (ps_set (i := 4) nd rfl (.inr rfl) (pe_lc (own := [("house", 7)]) (g := gName 7) (tt := (tTest (tOp (rIn K true) (tVar 7) (tOp rCat (tVar 5) (tVar 6))))) (te := (tVar 7)) rfl nd (pi_list (pv 4)) (blkOk_by (N := ["web", "rounds", "left", "near", "here", "some", "out", "house", "beside", "met", "other"]) (sc := defScope s__law_is_run) (by decide +kernel)) (fun _ _ _ _ _ => (pg_name (i := 7) nd rfl (.inl rfl))) (fun _ _ _ _ _ => pts_one (pt_cmpR op_notIn_seq (pv 7) (pe_op op_cat (pv 5) (pv 6)) rfl)) (fun _ _ _ _ _ => (pv 7)))))))))
      (pss_one (ps_ret (pe_cmpR (op_eqD hr.units) (pv 4) (pv 2) (nomark _))))))), ?_⟩
    walk_at "rd"
    refine r_callF S (many, ties) ⟨_, rfl, hv, W, tl⟩ ?_
    rintro v N F1 H1 S e1 ⟨rfl, NL, hNL, NO⟩
    have le := NO.len
    have lm : ∀ h, 0 ≤ h → h < many → ∀ o, o ∈ nearF NL h ↔ TiedW ties h o := NO.mem
    obtain ⟨na, nx, rfl, n1, n2⟩ := listD_at hNL
    have key := isRun_law (N := nearF NL) ut lm (e := e) (rs := rs) (here := rgI many) (rgI_up many) (fun h hh => rgI_mem.mp hh) rise
    have k : ∀ (N : List (Addr × Cel)) (F' H' : Hp) (b : Bool), Sep [] H F F' H' N → b = lawRunB (nearF NL) (rgI many) rs e → Q (.bl b) H' := fun N F' H' b S' eb => k _ [] _ _ S'.nil ⟨rfl, by rw [eb, key]⟩
    walk_at "rd"
    refine ⟨⟨by omega, by omega, by omega, by omega, by omega⟩, ?_⟩
    rw [rgV_eq]
    refine s_new S fun l F2 H2 S e2 cl => ?_
    walk_at "rd"
    have hR2 := Evl.ex_l (e1.trans e2) hR
    have hx2 := hx.ex (e1.trans e2)
    refine ⟨R, rfl, ⟨xs, by walk_at "hl"⟩, ?_⟩
    refine s_for (fun i σ' F' M' => ∃ (x5 x6 x7 x8 x9 : Option V) (l : Addr) (left : List Int), σ' = [some (.ref wa), some (.ref R), some (.ref L), some (.ref na), some (.ref l), x5, x6, x7, x8, x9, none] ∧ M' = [] ∧ F' l = some (.lst (left.map V.int)) ∧ (∀ h ∈ left, 0 ≤ h ∧ h < many) ∧ left.length ≤ 60 ∧ lawRunB (nearF NL) (rgI many) rs e = lawRunB (nearF NL) left (rs.drop i) e) (srcRows (K := K) hR2 hx2) S ⟨none, none, none, none, none, l, rgI many, rfl, rfl, cl, fun h hh => rgI_mem.mp hh, by rw [rgI_len]; omega, rfl⟩ (fun _ _ _ _ _ m hm => by cases hm) ?_ ?_
    · rintro i r x σ' F3 F4 H4 M' hi S e3 e4 ⟨t, c, o, rfl, ct, cc, co⟩ ⟨x5, x6, x7, x8, x9, l, left, rfl, rfl, g1, hh, h60, he⟩
      have rl := hs r (List.mem_of_getElem? hi)
      have li := (List.getElem?_eq_some_iff.mp hi).1
      have dd : rs.drop i = r :: rs.drop (i + 1) := by
        rw [List.drop_eq_getElem_cons li]
        congr 1
        rw [List.getElem?_eq_getElem li] at hi
        exact Option.some.inj hi
      rw [dd, lawRunB] at he
      have g1 := e4 _ _ g1
      have n2 := DpAll.ex (show Evl.Ex F1 F4 by walk_at "ex") _ _ n2
      obtain ⟨C, O⟩ := r
      simp only at cc co rl he
      walk_at "rd"
      refine ⟨Nat.zero_le _, s_new S fun z F5 H5 S e5 cz => ?_⟩
      refine r_eqNil (ns := left) (by walk_at "hl") (by walk_at "hl") ?_
      walk_at "rd"
      refine iteB (fun ce => ?_) (fun ce => ?_)
      · walk_at "rd"
        refine k _ _ _ _ S ?_
        rw [he]
        unfold lawRound
        rw [ce]
        rfl
      walk_at "rd"
      refine ⟨c, rfl, ⟨_, by walk_at "hl"⟩, ?_⟩
      refine s_lcV (srcI (K := K) (ns := C) (SqL.of (e5 _ _ cc))) (fun h => !decide (h ∈ left)) (fun h => .int h) S (by omega) (fun m hm => by cases hm) ?_ ?_
      · rintro j h x acc D F6 H6 vt S e6 rfl
        walk_at "rd"
        refine ⟨rfl, ?_⟩
        walk_at "rd"
        refine iteB (fun cc => ?_) (fun cc => ?_)
        · walk_at "rd"
          exact vt.put S (by walk_at "ex") cc rfl
        · exact vt.skip S (by walk_at "ex") cc
      intro D F6 H6 S e6
      obtain ⟨F7, S, e7, c7⟩ := S.frz 0 rfl
      walk_at "rd"
      refine ⟨Nat.zero_le _, s_new S fun z F8 H8 S e8 cz => ?_⟩
      refine r_neNil (ns := C.filter fun h => !decide (h ∈ left)) (by walk_at "hl") (by walk_at "hl") ?_
      walk_at "rd"
      refine iteB (fun c1 => ?_) (fun c1 => ?_)
      · walk_at "rd"
        refine k _ _ _ _ S ?_
        rw [he]
        unfold lawRound
        rw [show (C.filter fun h => !decide (h ∈ left)).isEmpty = false by simpa using c1]
        simp
      have c1 : (C.filter fun h => !decide (h ∈ left)).isEmpty = true := by simpa using c1
      have bad : ∀ h ∈ left, lawHouse (nearF NL) left C O h = false → lawRunB (nearF NL) (rgI many) rs e = false := fun h hm z => by
        rw [he]
        unfold lawRound
        rw [show left.all (lawHouse (nearF NL) left C O) = false from List.all_eq_false.mpr ⟨h, hm, by rw [z]; decide⟩]
        simp
      have E8 : Evl.Ex F4 F8 := by walk_at "ex"
      have g1 := E8 _ _ g1
      have cc := E8 _ _ cc
      have co := E8 _ _ co
      have n2 := DpAll.ex E8 _ _ n2
      clear E8
      walk_at "rd"
      refine ⟨l, rfl, ⟨_, by walk_at "hl"⟩, ?_⟩
      refine s_for (fun j σ' F' M' => ∃ (x7 x8 x9 : Option V), σ' = [some (.ref wa), some (.ref R), some (.ref L), some (.ref na), some (.ref l), some (.ref c), some (.ref o), x7, x8, x9, none] ∧ M' = [] ∧ ∀ h ∈ left.take j, lawHouse (nearF NL) left C O h = true) (srcI (K := K) (ns := left) (SqL.of g1)) S ⟨_, _, _, rfl, rfl, fun h hh => by simp at hh⟩ (fun _ _ _ _ _ m hm => by cases hm) ?_ ?_
      · rintro j h x σ' F9 F10 H9 M' hj S e9 e10 ex ⟨x7, x8, x9, rfl, rfl, q1⟩
        subst ex
        have hm := List.mem_of_getElem? hj
        have hb := hh h hm
        have E10 : Evl.Ex F8 F10 := by walk_at "ex"
        obtain ⟨a, ai, sa⟩ := nearF_at (DpAll.ex E10 _ _ n2) hb.1 (by omega)
        have g1 := E10 _ _ g1
        have cc := E10 _ _ cc
        have co := E10 _ _ co
        clear E10
        have nl := nearF_le NO.few h
        have n1' := Evl.ex_l (show Evl.Ex F1 F10 by walk_at "ex") n1
        walk_at "rd"
        refine ⟨a, rfl, ⟨_, by walk_at "hl"⟩, ?_⟩
        refine s_lcV (srcI (K := K) (ns := nearF NL h) sa) (fun o => decide (o ∈ left)) (fun o => .int o) S (by omega) (fun m hm => by cases hm) ?_ ?_
        · rintro j o x acc D F5 H5 vt S e5 rfl
          walk_at "rd"
          refine ⟨rfl, ?_⟩
          walk_at "rd"
          refine iteB (fun c => ?_) (fun c => ?_)
          · walk_at "rd"
            exact vt.put S (by walk_at "ex") c rfl
          · exact vt.skip S (by walk_at "ex") c
        intro D F11 H11 S e11
        obtain ⟨F12, S, e12, c12⟩ := S.frz 0 rfl
        have c12 : F12 D = some (.lst ((besideL (nearF NL) left h).map V.int)) := c12
        have bl : (besideL (nearF NL) left h).length ≤ 4000 := Nat.le_trans (List.length_filter_le _ _) nl
        walk_at "rd"
        refine ⟨D, rfl, ⟨_, by walk_at "hl"⟩, ?_⟩
        refine s_lcV (srcI (K := K) (ns := besideL (nearF NL) left h) (SqL.of c12)) (fun o => decide (o ∈ C)) (fun o => .int o) S (by omega) (fun m hm => by cases hm) ?_ ?_
        · rintro j o x acc D F5 H5 vt S e5 rfl
          have cc := (show Evl.Ex F10 F5 by walk_at "ex") _ _ cc
          walk_at "rd"
          refine ⟨rfl, ?_⟩
          walk_at "rd"
          refine iteB (fun c => ?_) (fun c => ?_)
          · walk_at "rd"
            exact vt.put S (by walk_at "ex") c rfl
          · exact vt.skip S (by walk_at "ex") c
        intro D2 F13 H13 S e13
        obtain ⟨F14, S, e14, c14⟩ := S.frz 0 rfl
        have c14 : F14 D2 = some (.lst ((metL (nearF NL) left C h).map V.int)) := c14
        have lo1 : lawHouse (nearF NL) left C O h = (!((decide (h ∈ C) && !(metL (nearF NL) left C h).isEmpty) || (!decide (h ∈ C) && (besideL (nearF NL) left h).isEmpty)) && (decide (h ∈ O) == (!decide (h ∈ C) && !(metL (nearF NL) left C h).isEmpty))) := rfl
        have bad := bad h hm
        generalize metL (nearF NL) left C h = me at c14 lo1
        generalize besideL (nearF NL) left h = be at c12 lo1
        walk_at "rd"
        refine ⟨LI [] H F F14 (fun _ σ' F' M' => σ' = [some (.ref wa), some (.ref R), some (.ref L), some (.ref na), some (.ref l), some (.ref c), some (.ref o), some (.int h), some (.ref D), some (.ref D2), none] ∧ M' = [] ∧ (decide (h ∈ C) && !me.isEmpty) = false ∧ (!decide (h ∈ C) && be.isEmpty) = false) 0, ?_, ?_⟩
        · walk_at "rd"
          refine iteB (fun ci => ?_) (fun ci => ?_)
          · walk_at "rd"
            refine ⟨Nat.zero_le _, s_new S fun z F15 H15 S e15 cz => ?_⟩
            refine r_neNil (ns := me) (by walk_at "hl") (by walk_at "hl") ?_
            walk_at "rd"
            refine iteB (fun cm => ?_) (fun cm => ?_)
            · walk_at "rd"
              refine k _ _ _ _ S ?_
              rw [bad (by rw [lo1, ci, cm]; simp)]
            · walk_at "rd"
              refine iteB (fun cn => ?_) (fun cn => ?_)
              · rw [ci] at cn; cases cn
              · walk_at "rd"
                exact ⟨_, _, S, e15, rfl, rfl, by rw [cm, Bool.and_false], by rw [cn, Bool.false_and]⟩
          · walk_at "rd"
            refine iteB (fun cn => ?_) (fun cn => ?_)
            · walk_at "rd"
              refine ⟨Nat.zero_le _, s_new S fun z F15 H15 S e15 cz => ?_⟩
              refine r_eqNil (ns := be) (by walk_at "hl") (by walk_at "hl") ?_
              walk_at "rd"
              refine iteB (fun cm => ?_) (fun cm => ?_)
              · walk_at "rd"
                refine k _ _ _ _ S ?_
                rw [bad (by rw [lo1, cn, cm]; simp)]
              · walk_at "rd"
                exact ⟨_, _, S, e15, rfl, rfl, by rw [ci, Bool.false_and], by rw [cm, Bool.and_false]⟩
            · rw [ci] at cn; cases cn
        · rintro σ' H15 ⟨F15, M', S, e15, rfl, rfl, f1, f2⟩
          rw [f1, f2] at lo1
          walk_at "rd"
          have fin : ∀ b : Bool, (!decide (h ∈ C) && !me.isEmpty) = b → (decide (V.bl (decide (h ∈ O)) = V.bl b) = true → lawHouse (nearF NL) left C O h = true) ∧ (decide (V.bl (decide (h ∈ O)) = V.bl b) = false → lawHouse (nearF NL) left C O h = false) := fun b eb => by
            rw [lo1, eb]
            constructor
            · intro z
              have z := of_decide_eq_true z
              injection z with z
              rw [z]
              cases b <;> rfl
            · intro z
              have z := of_decide_eq_false z
              have z : decide (h ∈ O) ≠ b := fun q => z (by rw [q])
              cases b <;> cases q : decide (h ∈ O) <;> simp_all
          have more : lawHouse (nearF NL) left C O h = true → ∀ x ∈ left.take (j + 1), lawHouse (nearF NL) left C O x = true := fun z x hx => by
            rw [take_snoc hj] at hx
            rcases List.mem_append.mp hx with hx | hx
            · exact q1 x hx
            · rw [List.mem_singleton.mp hx]; exact z
          refine iteB (fun cn => ?_) (fun cn => ?_)
          · walk_at "rd"
            refine ⟨Nat.zero_le _, s_new S fun z F16 H16 S e16 cz => ?_⟩
            refine r_neNil (ns := me) (by walk_at "hl") (by walk_at "hl") ?_
            have fin := fin (!me.isEmpty) (by rw [cn]; rfl)
            walk_at "rd"
            refine iteB (fun cz => ?_) (fun cz => ?_)
            · walk_at "rd"
              refine k _ _ _ _ S ?_
              rw [bad (fin.2 (by simpa using cz))]
            · walk_at "rd"
              exact ⟨_, _, S, by walk_at "ex", _, _, _, rfl, rfl, more (fin.1 (by simpa using cz))⟩
          · have fin := fin false (by rw [cn]; rfl)
            walk_at "rd"
            refine iteB (fun cz => ?_) (fun cz => ?_)
            · walk_at "rd"
              refine k _ _ _ _ S ?_
              rw [bad (fin.2 (by simpa using cz))]
            · walk_at "rd"
              exact ⟨_, _, S, by walk_at "ex", _, _, _, rfl, rfl, more (fin.1 (by simpa using cz))⟩
      · rintro σ' F9 H9 M' S e9 ⟨x7, x8, x9, rfl, rfl, q1⟩
        rw [List.take_length] at q1
        have all_ : left.all (lawHouse (nearF NL) left C O) = true := List.all_eq_true.mpr q1
        have g1 := e9 _ _ g1
        have cc := e9 _ _ cc
        have co := e9 _ _ co
        walk_at "rd"
        refine ⟨o, rfl, ⟨_, by walk_at "hl"⟩, ?_⟩
        refine s_lcV (srcI (K := K) (ns := O) (SqL.of co)) (fun h => !decide (h ∈ left)) (fun h => .int h) S (by omega) (fun m hm => by cases hm) ?_ ?_
        · rintro j h x acc D F6 H6 vt S e6 rfl
          walk_at "rd"
          refine ⟨rfl, ?_⟩
          walk_at "rd"
          refine iteB (fun cc => ?_) (fun cc => ?_)
          · walk_at "rd"
            exact vt.put S (by walk_at "ex") cc rfl
          · exact vt.skip S (by walk_at "ex") cc
        intro D F10 H10 S e10
        obtain ⟨F11, S, e11, c11⟩ := S.frz 0 rfl
        walk_at "rd"
        refine ⟨Nat.zero_le _, s_new S fun z F12 H12 S e12 cz => ?_⟩
        refine r_neNil (ns := O.filter fun h => !decide (h ∈ left)) (by walk_at "hl") (by walk_at "hl") ?_
        walk_at "rd"
        refine iteB (fun c2 => ?_) (fun c2 => ?_)
        · walk_at "rd"
          refine k _ _ _ _ S ?_
          rw [he]
          unfold lawRound
          rw [show (O.filter fun h => !decide (h ∈ left)).isEmpty = false by simpa using c2]
          simp
        have c2 : (O.filter fun h => !decide (h ∈ left)).isEmpty = true := by simpa using c2
        have E12 : Evl.Ex F9 F12 := by walk_at "ex"
        have g1 := E12 _ _ g1
        have cc := E12 _ _ cc
        have co := E12 _ _ co
        clear E12
        walk_at "rd"
        refine ⟨l, rfl, ⟨_, by walk_at "hl"⟩, ?_⟩
        refine s_lcV (srcI (K := K) (ns := left) (SqL.of g1)) (fun h => !decide (h ∈ C ++ O)) (fun h => .int h) S (by omega) (fun m hm => by cases hm) ?_ ?_
        · rintro j h x acc D F6 H6 vt S e6 rfl
          walk_at "rd"
          refine ⟨rfl, ?_⟩
          walk_at "rd"
          refine s_cat (S.fr _ _ (e6 _ _ cc)) (S.fr _ _ (e6 _ _ co)) (by rw [List.length_map, List.length_map]; omega) ?_
          refine s_new S fun z F7 H7 S e7 cz => ?_
          rw [← List.map_append] at cz
          walk_at "rd"
          refine iteB (fun cc => ?_) (fun cc => ?_)
          · walk_at "rd"
            exact vt.put S (by walk_at "ex") cc rfl
          · exact vt.skip S (by walk_at "ex") cc
        intro D3 F13 H13 S e13
        obtain ⟨F14, S, e14, c14⟩ := S.frz 0 rfl
        refine ⟨_, _, S, by walk_at "ex", _, _, _, _, _, D3, behind left C O, rfl, rfl, c14, fun h hm => hh h (behind_sub h hm), Nat.le_trans behind_len h60, ?_⟩
        rw [he]
        unfold lawRound
        rw [ce, c1, c2, all_]
        rfl
    · rintro σ' F3 H3 M' S e3 ⟨x5, x6, x7, x8, x9, l, left, rfl, rfl, g1, hh, h60, he⟩
      rw [List.drop_length, lawRunB] at he
      walk_at "rd"
      refine r_eqInts (a := left) (b := e) (by walk_at "hl") (by walk_at "hl") ?_
      exact k _ _ _ _ S he.symm

end

end
section
local macro_rules | `(tactic| walk_at "ex") => `(tactic| first | exact Evl.Ex.refl _ | assumption | ((refine' Evl.Ex.trans ?x ?y); (case y => assumption); (case x => walk_at "ex")))
local macro_rules | `(tactic| walk_at "hc") => `(tactic| first
  | assumption
  | ((refine' Sep.rdM ?S 0 ?k); (case S => assumption); (case k => exact rfl)) | ((refine' Sep.rdM ?S 1 ?k); (case S => assumption); (case k => exact rfl)) | ((refine' Sep.rdM ?S 2 ?k); (case S => assumption); (case k => exact rfl)) | ((refine' Sep.rdM ?S 3 ?k); (case S => assumption); (case k => exact rfl)) | ((refine' Sep.rdM ?S 4 ?k); (case S => assumption); (case k => exact rfl))
  | ((refine' Sep.rdC ?S ?e ?h); (case S => assumption); (case h => assumption); (case e => walk_at "ex")))
local macro_rules | `(tactic| walk_at "hl") => `(tactic| first
  | assumption
  | ((refine' SqL.of (Sep.rdM ?S 0 ?k)); (case S => assumption); (case k => exact rfl)) | ((refine' SqL.of (Sep.rdM ?S 1 ?k)); (case S => assumption); (case k => exact rfl)) | ((refine' SqL.of (Sep.rdM ?S 2 ?k)); (case S => assumption); (case k => exact rfl)) | ((refine' SqL.of (Sep.rdM ?S 3 ?k)); (case S => assumption); (case k => exact rfl)) | ((refine' SqL.of (Sep.rdM ?S 4 ?k)); (case S => assumption); (case k => exact rfl))
  | ((refine' Sep.rdL ?S ?e ?h); (case S => assumption); (case h => assumption); (case e => walk_at "ex"))
  | ((refine' Sep.rdT ?S ?e ?h); (case S => assumption); (case h => assumption); (case e => walk_at "ex"))
  | ((refine' SqL.of (Sep.rdC ?S ?e ?h)); (case S => assumption); (case h => assumption); (case e => walk_at "ex"))
  | ((refine' SqT.of (Sep.rdC ?S ?e ?h)); (case S => assumption); (case h => assumption); (case e => walk_at "ex"))
  | ((refine' SqL.of ?h); (case h => assumption)) | ((refine' SqT.of ?h); (case h => assumption))
  | ((refine' Evl.ex_l ?e ?h); (case h => assumption); (case e => walk_at "ex")) | ((refine' Evl.ex_t ?e ?h); (case h => assumption); (case e => walk_at "ex"))
  | ((refine' SqL.of (?e _ _ ?h)); (case h => assumption); (case e => walk_at "ex")) | ((refine' SqT.of (?e _ _ ?h)); (case h => assumption); (case e => walk_at "ex")))
local macro_rules | `(tactic| walk_at "hs") => `(tactic| walk_at "hc")
local macro_rules | `(tactic| walk_at "dp") => `(tactic| first
  | assumption
  | ((refine' Sep.rdD ?S ?e ?h); (case S => assumption); (case h => assumption); (case e => walk_at "ex"))
  | ((refine' Dp.ex ?e _ _ ?h); (case h => assumption); (case e => walk_at "ex"))
  | ((refine' DpAll.ex ?e _ _ ?h); (case h => assumption); (case e => walk_at "ex"))
  | (refine' dp_intsD ?h; (case h => walk_at "hl")))
local macro_rules | `(tactic| walk_at "rd1") => `(tactic| (first
  | (with_reducible refine r_seq ?_)
  | (with_reducible refine r_asg ?_)
  | (with_reducible refine r_asgG ?_)
  | (with_reducible refine r_par ?_)
  | (with_reducible refine r_if ?_)
  | (with_reducible refine r_ret ?_)
  | (with_reducible refine r_drop ?_)
  | (with_reducible refine r_next ?_)
  | ((with_reducible refine' r_var ?hx ?_); (case hx => exact rfl))
  | (with_reducible refine r_c ?_)
  | (with_reducible refine r_op ?_)
  | (with_reducible refine r_un ?_)
  | (with_reducible refine r_I0 ?_)
  | ((with_reducible refine' r_I ?_ ?_); (· first | (show (0 : Int) < _; omega) | exact Or.inr ⟨by omega, by omega⟩ | exact Or.inl ⟨by omega, by omega⟩ | exact ⟨by omega, by omega, by decide⟩))
  | (with_reducible refine r_U ?_)
  | (with_reducible refine r_test ?_)
  | (with_reducible refine r_B ?_)
  | (with_reducible refine r_bl ?_)
  | (with_reducible refine r_eqI ?_)
  | (with_reducible refine r_neI ?_)
  | ((with_reducible refine' r_eq ?_ ?_); (· exact rfl))
  | ((with_reducible refine' r_ne ?_ ?_); (· exact rfl))
  | (with_reducible refine r_nil ?_)
  | (with_reducible refine r_cons ?_)
  | (with_reducible refine s_tup ?_)
  | (with_reducible refine s_lst ?_)
  | (with_reducible refine r_call ?_)
  | (with_reducible refine r_cb ?_)
  | (with_reducible refine r_and ?_)
  | (with_reducible refine r_or ?_)
  | (with_reducible refine r_not ?_)
  | (with_reducible refine r_andV ?_)
  | (with_reducible refine r_orV ?_)
  | (with_reducible refine r_notV ?_)
  | (with_reducible refine r_ifE ?_)
  | (with_reducible refine r_gSub ?_)
  | (with_reducible refine r_sadd ?_)
  | (with_reducible refine s_lstRg ?_)
  | (with_reducible refine r_rg1 ?_)
  | (with_reducible refine r_min2 ?_)
  | (with_reducible refine r_par2 ?_)
  | (with_reducible refine r_partI ?_)
  | (with_reducible refine s_lc ?_)
  | (with_reducible refine s_dc ?_)
  | (with_reducible refine r_yes ?_)
  | (with_reducible refine r_iZipA ?_)
  | (with_reducible refine r_isN ?_)
  | (with_reducible refine r_for ?_)
  | (with_reducible refine r_iList ?_)
  | (with_reducible refine r_iTup ?_)
  | (with_reducible refine r_iRng1 ?_)
  | (with_reducible refine r_iRng2 ?_)
  | (with_reducible refine r_iEnum ?_)
  | (with_reducible refine r_iZip ?_)
  | (with_reducible refine r_gName ?_)
  | (with_reducible refine r_isNV ?_)
  | (with_reducible refine r_notNV ?_)
  | (with_reducible refine r_bm ?_)
  | (with_reducible refine r_bm0 ?_)
  | (with_reducible refine r_sl ?_)
  | (with_reducible refine r_noPart ?_)
  | (with_reducible refine r_part ?_)
  | (with_reducible refine r_chain ?_)
  | (with_reducible refine r_iKeys ?_)
  | (with_reducible refine r_iItems ?_)
  | (with_reducible refine r_frz ?_)
  | (with_reducible refine r_dput ?_)
  | (with_reducible refine r_dget ?_)
  | (with_reducible refine r_din ?_)
  | (with_reducible refine r_dnotin ?_)
  | (with_reducible refine r_break ?_)
  | ((with_reducible refine' r_sIn ?h ?_); (case h => walk_at "hs"))
  | ((with_reducible refine' r_sNotIn ?h ?_); (case h => walk_at "hs"))
  | ((with_reducible refine' r_inI ?h ?_); (case h => walk_at "hl"))
  | ((with_reducible refine' r_notInI ?h ?_); (case h => walk_at "hl"))
  | ((with_reducible refine' r_eqNil ?h ?g ?_); (case h => walk_at "hl"); (case g => walk_at "hl"))
  | ((with_reducible refine' r_neNil ?h ?g ?_); (case h => walk_at "hl"); (case g => walk_at "hl"))
  | ((with_reducible refine' iteRT ?hh ?_); (case hh => exact rfl))
  | ((with_reducible refine' iteRF ?hh ?_); (case hh => exact rfl))
  | ((with_reducible refine' r_isiT ?ty ?hk ?_); (case ty => (first | assumption | exact tyx_L (by assumption) | exact tyx_T (by assumption) | exact .base (.non) | exact .base (.bl _) | exact .base (.int _) | exact .base (.str _) | exact tyx_L (by walk_at "hl") | exact tyx_T (by walk_at "hl"))); (case hk => decide +kernel))
  | ((with_reducible refine' r_isiF ?ty ?hk ?_); (case ty => (first | assumption | exact tyx_L (by assumption) | exact tyx_T (by assumption) | exact .base (.non) | exact .base (.bl _) | exact .base (.int _) | exact .base (.str _) | exact tyx_L (by walk_at "hl") | exact tyx_T (by walk_at "hl"))); (case hk => decide +kernel))
  | ((with_reducible refine' r_gTup2 ?hn ?hs ?_); (case hn => exact rfl); (case hs => walk_at "hl"))
  | ((with_reducible refine' s_list ?hl ?_); (case hl => first | exact Or.inl (by walk_at "hl") | exact Or.inr (by walk_at "hl")))
  | ((with_reducible refine' s_tupN ?hl ?_); (case hl => walk_at "hl"))
  | ((with_reducible refine' s_sortN ?hl ?_); (case hl => walk_at "hl"))
  | ((refine' ⟨_, _, rfl, ?hl, ?_⟩); (case hl => first | exact Or.inl (by walk_at "hl") | exact Or.inr (by walk_at "hl")))
  | ((with_reducible refine' r_ixL ?hl ?ha ?_); (case hl => walk_at "hl"); (case ha => first | exact rfl | assumption))
  | ((with_reducible refine' r_ixT ?hl ?ha ?_); (case hl => walk_at "hl"); (case ha => first | exact rfl | assumption))))
local macro_rules | `(tactic| walk_at "rd") => `(tactic| repeat (walk_at "rd1"))

section
variable {P : Program} {w : World} {K : PySem.W.Frag} {mg : Str → Option Value} {base : Heap}

def A_copy (K : PySem.W.Frag) : List (List Int × List Int) → List V → Hp → Prop := fun rs vs F => ∃ R xs, vs = [.ref R] ∧ SqL K F R xs ∧ RowsV F xs rs ∧ rs.length ≤ 1000 ∧ ∀ r ∈ rs, r.1.length ≤ 400 ∧ r.2.length ≤ 400
def B_copy (K : PySem.W.Frag) : List (List Int × List Int) → V → List (Addr × Cel) → Hp → Prop := fun rs v N F => N = [] ∧ ∃ R xs, v = .ref R ∧ F R = some (.lst xs) ∧ RowsV F xs rs
theorem ok_l_copy (T : Env K mg) : FnOk P w K mg base CX0 1 T.a__law_copy T.fd__law_copy ["rounds"] (SpF (A_copy K) (B_copy K)) := by
  have nd := sc__law_copy.nd
  refine T.F__law_copy.ok sc__law_copy (fun vs H Q E h => ?_) (fun cdv A outer s H vs Q E hr h => ?_)
  · obtain ⟨_, F, _, ⟨R, xs, rfl, _⟩, _⟩ := h
    rfl
  · obtain ⟨rs, F, fr, ⟨R, xs, rfl, hR, hx, hl, hs⟩, k⟩ := h
    have S := Sep.start0 fr
    refine ⟨_, (pss_one (ps_ret (pe_lc (own := [("some", 1), ("out", 2)]) (g := (gTup K 2 (gCons (gName 1) (gCons (gName 2) gNil)))) (tt := tYes) (te := (tTup (tCons (tCB (rListN K) (tCons (tVar 1) tNil)) (tCons (tCB (rListN K) (tCons (tVar 2) tNil)) tNil)))) rfl nd (pi_list (pv 0)) (blkOk_by (N := ["rounds", "some", "out"]) (sc := defScope s__law_copy) (by decide +kernel)) (fun _ _ _ _ _ => (pg_tup rfl (pgs_cons (pg_name (i := 1) nd rfl (.inl rfl)) (pgs_cons (pg_name (i := 2) nd rfl (.inl rfl)) pgs_nil)))) (fun _ _ _ _ _ => pts_nil) (fun _ _ _ _ _ => (pe_tup (pa_cons (pe_callTy call_listN (by rfl) T.n_list (by decide +kernel) (pa_cons (pv 1) pa_nil)) (pa_cons (pe_callTy call_listN (by rfl) T.n_list (by decide +kernel) (pa_cons (pv 2) pa_nil)) pa_nil))))))), ?_⟩
    walk_at "rd"
    refine ⟨R, rfl, ⟨_, by walk_at "hl"⟩, ?_⟩
    refine s_lcI (srcRows (K := K) hR hx) (fun i acc F' M' => M' = [] ∧ RowsV F' acc (rs.take i)) S ⟨rfl, trivial⟩ (fun _ _ _ _ _ m hm => by cases hm) ?_ ?_
    · rintro i r x acc D F1 F2 H2 M' hi S e1 e2 ⟨tp, pc, po, rfl, ct, cpc, cpo⟩ ⟨rfl, g1⟩
      have al := g1.len
      rw [List.length_take] at al
      have li := (List.getElem?_eq_some_iff.mp hi).1
      walk_at "rd"
      refine ⟨rfl, ?_⟩
      walk_at "rd"
      refine s_new S fun y1 F3 H3 S e3 c3 => ?_
      walk_at "rd"
      refine s_new S fun y2 F4 H4 S e4 c4 => ?_
      walk_at "rd"
      refine ⟨(by show 2 ≤ sizeLine; decide), s_new S fun y3 F5 H5 S e5 c5 => ?_⟩
      refine CI.put S (by walk_at "ex") (by omega) ⟨rfl, ?_⟩
      rw [take_snoc hi]
      exact RowsV.app (g1.ex (by walk_at "ex")) ⟨⟨y3, y1, y2, rfl, c5, (e4.trans e5) _ _ c3, e5 _ _ c4⟩, trivial⟩
    · rintro D acc F1 H1 M' S e1 ⟨rfl, g1⟩
      rw [List.take_of_length_le (Nat.le_refl _)] at g1
      obtain ⟨F2, S, e2, c2⟩ := S.frz 0 rfl
      exact k _ [] _ _ S ⟨rfl, D, acc, rfl, c2, g1.ex e2⟩
def A_blist (K : PySem.W.Frag) : (Int × List Int) → List V → Hp → Prop := fun | (many, l), vs, F => ∃ L, vs = [.int many, .ref L] ∧ F L = some (.lst (l.map V.int)) ∧ SetOk many l ∧ 1 ≤ many ∧ many ≤ 60
def B_blist (K : PySem.W.Frag) : (Int × List Int) → V → List (Addr × Cel) → Hp → Prop := fun | (many, l), v, N, F => N = [] ∧ ∃ q l', v = .ref q ∧ F q = some (.lst (l'.map V.int)) ∧ SetOk many l'
theorem ok_l_bent_list (T : Env K mg) : FnOk P w K mg base CX0 3 T.a__law_bent_list T.fd__law_bent_list ["pot", "many", "some"] (SpP (A_blist K) (B_blist K)) := by
  have nd := sc__law_bent_list.nd
  have G__law_pick : FnOk P w K mg base CX0 2 T.a__law_pick T.fd__law_pick ["pot", "many"] (SpP A_pick B_pick) := ok_l_pick T
  refine T.F__law_bent_list.ok sc__law_bent_list (fun vs H Q E h => ?_) (fun cdv A outer s H vs Q E hr h => ?_)
  · obtain ⟨⟨_, _⟩, F, p, r, rfl, _, _, _, ⟨L, rfl, _⟩, _⟩ := h
    rfl
  · obtain ⟨⟨many, l⟩, F, p, r, rfl, fr, hF, hP, ⟨L, rfl, hL, ok, m1, m2⟩, k⟩ := h
    have S := Sep.startP fr hF hP
    have l60 := ok.len m2
    refine ⟨_, (pss_cons (ps_set (i := 3) nd rfl (.inr rfl) (pe_call G__law_pick (hr.mono (by decide)) (by rfl) T.g__law_pick T.F__law_pick.kp T.b__law_pick .nil pass0 (pa_cons (pv 0) (pa_cons (pv 1) pa_nil))))
      (pss_cons (ps_if (pt_cmpR op_in_seq (pv 3) (pv 2) rfl) (pss_one (ps_ret (pe_lc (own := [("other", 4)]) (g := gName 4) (tt := (tTest (tOp rNe (tVar 4) (tVar 3)))) (te := (tVar 4)) rfl nd (pi_list (pv 2)) (blkOk_by (N := ["pot", "many", "some", "house", "other"]) (sc := defScope s__law_bent_list) (by decide +kernel)) (fun _ _ _ _ _ => (pg_name (i := 4) nd rfl (.inl rfl))) (fun _ _ _ _ _ => pts_one (pt_cmpR op_ne (pv 4) (pv 3) (nomark _))) (fun _ _ _ _ _ => (pv 4))))) pss_nil)
      (pss_one (ps_ret (pe_callB cr_sortedN (by rfl) T.n_sorted (by decide +kernel) (pa_cons (pe_op op_cat (pv 2) (pe_lst (pa_cons (pv 3) pa_nil))) pa_nil)))))), ?_⟩
    walk_at "rd"
    refine r_callP S 0 rfl many ⟨rfl, by omega, small_up (by omega) (by omega)⟩ fun v N F1 H1 S e1 ⟨z, h, ev, h0, h1⟩ => ?_
    subst z ev
    have hL := e1 _ _ hL
    walk_at "rd"
    refine iteB (fun c => ?_) (fun c => ?_)
    · walk_at "rd"
      refine ⟨L, rfl, ⟨_, by walk_at "hl"⟩, ?_⟩
      refine s_lcV (srcI (K := K) (ns := l) (SqL.of hL)) (fun o => !decide (o = h)) (fun o => .int o) S (by omega) (fun m hm => by cases hm) ?_ ?_
      · rintro j o x acc D F2 H2 vt S e2 rfl
        walk_at "rd"
        refine ⟨rfl, ?_⟩
        walk_at "rd"
        refine iteB (fun cc => ?_) (fun cc => ?_)
        · walk_at "rd"
          exact vt.put S (by walk_at "ex") cc rfl
        · exact vt.skip S (by walk_at "ex") cc
      · intro D F2 H2 S e2
        obtain ⟨F3, S, e3, c3⟩ := S.frz 0 rfl
        exact k _ [] _ _ S ⟨rfl, D, _, rfl, c3, ok.up.sublist List.filter_sublist, fun x hx => ok.ok x (List.mem_filter.mp hx).1⟩
    · have c : h ∉ l := of_decide_eq_false c
      walk_at "rd"
      refine ⟨(by show 1 ≤ sizeLine; decide), s_new S fun y1 F2 H2 S e2 c2 => ?_⟩
      refine s_cat (ys := [V.int h]) (S.fr _ _ (e2 _ _ hL)) (S.fr _ _ c2) (by rw [List.length_map]; show l.length + 1 ≤ 100000; omega) (s_new S fun y2 F3 H3 S e3 c3 => ?_)
      have c3 : F3 y2 = some (.lst ((l ++ [h]).map V.int)) := by rw [c3, List.map_append]; rfl
      refine s_sortN (SqL.of (S.fr _ _ c3)) fun ns' p1 p2 => s_new S fun q F4 H4 S e4 c4 => ?_
      refine k _ [] _ _ S ⟨rfl, q, ns', rfl, c4, up_of_le p2 (p1.nodup_iff.mpr (List.nodup_append.mpr ⟨ok.nd, by simp, fun a ha b hb => by rw [List.mem_singleton.mp hb]; exact fun z => c (z ▸ ha)⟩)), fun x hx => ?_⟩
      rcases List.mem_append.mp (p1.mem_iff.mp hx) with m | m
      · exact ok.ok x m
      · rw [List.mem_singleton.mp m]; exact ⟨h0, h1⟩
theorem cutV_run {xs : List V} {a b : Int} (h0 : 0 ≤ a) (h1 : a ≤ b) : ∃ i j : Nat, i = min a.toNat xs.length ∧ j ≤ b.toNat - a.toNat ∧ cutV xs (some a) (some b) = (xs.drop i).take j := by
  refine ⟨HT.sIx xs.length 0 (some a), HT.sIx xs.length xs.length (some b) - HT.sIx xs.length 0 (some a), ?_, ?_, rfl⟩
  · unfold HT.sIx
    simp only
    split <;> omega
  · unfold HT.sIx
    simp only
    split <;> split <;> omega
theorem RowsV.mem_ok {P : List Int × List Int → Prop} {as bs : List (List Int × List Int)} (ha : ∀ r ∈ as, P r) (hb : ∀ r ∈ bs, P r) : ∀ r ∈ as ++ bs, P r := fun r hr => (List.mem_append.mp hr).elim (ha r) (hb r)
theorem SetOk.nil {many : Int} : SetOk many [] := ⟨.nil, fun x hx => by cases hx⟩
def A_brun (K : PySem.W.Frag) : (Int × List (Int × Int) × List (List Int × List Int) × List Int) → List V → Hp → Prop := fun | (many, ties, rs, e), vs, F => ∃ v R L xs, vs = [v, .ref R, .ref L] ∧ Dp K F v (webD many ties) ∧ WebOk many ties ∧ F R = some (.lst xs) ∧ RowsV F xs rs ∧ F L = some (.lst (e.map V.int)) ∧ RowsOk many rs e ∧ rs.length ≤ 100
def B_brun : (Int × List (Int × Int) × List (List Int × List Int) × List Int) → V → List (Addr × Cel) → Hp → Prop := fun | (many, _, rs, _), v, N, F => N = [] ∧ ∃ T R L xs rs' e', v = .ref T ∧ F T = some (.tup [.ref R, .ref L]) ∧ F R = some (.lst xs) ∧ RowsV F xs rs' ∧ F L = some (.lst (e'.map V.int)) ∧ RowsOk many rs' e' ∧ rs'.length ≤ rs.length + 1
theorem ok_l_bent_run (T : Env K mg) : FnOk P w K mg base CX0 4 T.a__law_bent_run T.fd__law_bent_run ["pot", "web", "rounds", "left"] (SpP (A_brun K) B_brun) := by
  have nd := sc__law_bent_run.nd
  have G__law_pick : FnOk P w K mg base CX0 2 T.a__law_pick T.fd__law_pick ["pot", "many"] (SpP A_pick B_pick) := ok_l_pick T
  have G__law_bent_list : FnOk P w K mg base CX0 3 T.a__law_bent_list T.fd__law_bent_list ["pot", "many", "some"] (SpP (A_blist K) (B_blist K)) := ok_l_bent_list T
  refine T.F__law_bent_run.ok sc__law_bent_run (fun vs H Q E h => ?_) (fun cdv A outer s H vs Q E hr h => ?_)
  · obtain ⟨⟨_, _, _, _⟩, F, p, r, rfl, _, _, _, ⟨v, R, L, xs, rfl, _⟩, _⟩ := h
    rfl
  · obtain ⟨⟨many, ties, rs, e⟩, F, p, r, rfl, fr, hF, hP, ⟨v, R, L, xs, rfl, hv, W, hR, hx, hL, ok, hl⟩, k⟩ := h
    have w1 := W.lo
    have w2 := W.hi
    have hv0 := hv
    obtain ⟨wa, wb, ws, rfl, s1, s2, s3⟩ := webD_at hv
    have S := Sep.startP fr hF hP
    have xl := hx.len
    refine ⟨_, (pss_cons (ps_set (i := 4) nd rfl (.inl rfl) (pe_call G__law_pick (hr.mono (by decide)) (by rfl) T.g__law_pick T.F__law_pick.kp T.b__law_pick .nil pass0 (pa_cons (pv 0) (pa_cons pe_int pa_nil))))
      (pss_cons (ps_set (i := 5) nd rfl (.inl rfl) (pe_call G__law_pick (hr.mono (by decide)) (by rfl) T.g__law_pick T.F__law_pick.kp T.b__law_pick .nil pass0 (pa_cons (pv 0) (pa_cons (pe_op op_add (pe_callB call_len_seq (by rfl) T.n_len PySem.boot_len (pa_cons (pv 2) pa_nil)) pe_int) pa_nil))))
      (Evl.pss_cut (ps_if (PW.pt (pw_and (pt_cmpR op_lt (pv 4) pe_int (nomark _)) (pw_and1 (pt_cmpR op_lt (pv 5) (pe_callB call_len_seq (by rfl) T.n_len PySem.boot_len (pa_cons (pv 2) pa_nil)) (nomark _))))) (pss_cons (ps_asg (pe_ix ix_list (pv 2) (pv 5) (fun _ _ => rfl)) (pg_tup rfl (pgs_cons (pg_name (i := 6) nd rfl (.inl rfl)) (pgs_cons (pg_name (i := 7) nd rfl (.inl rfl)) pgs_nil))))
      (pss_cons (ps_set (i := 8) nd rfl (.inl rfl) (pe_call G__law_bent_list (hr.mono (by decide)) (by rfl) T.g__law_bent_list T.F__law_bent_list.kp T.b__law_bent_list .nil pass0 (pa_cons (pv 0) (pa_cons (pe_ix ix_tup (pv 1) pe_int (fun _ _ => rfl)) (pa_cons (pe_ix ix_list (pe_lst (pa_cons (pv 6) (pa_cons (pv 7) (pa_cons (pv 6) pa_nil)))) (pv 4) (fun _ _ => rfl)) pa_nil)))))
      (pss_cons (ps_set (i := 9) nd rfl (.inl rfl) (pe_ix ix_list (pe_lst (pa_cons (pe_tup (pa_cons (pv 8) (pa_cons (pv 7) pa_nil))) (pa_cons (pe_tup (pa_cons (pv 6) (pa_cons (pv 8) pa_nil))) (pa_cons (pe_tup (pa_cons (pv 8) (pa_cons (pe_call G__law_bent_list (hr.mono (by decide)) (by rfl) T.g__law_bent_list T.F__law_bent_list.kp T.b__law_bent_list .nil pass0 (pa_cons (pv 0) (pa_cons (pe_ix ix_tup (pv 1) pe_int (fun _ _ => rfl)) (pa_cons (pv 7) pa_nil)))) pa_nil))) pa_nil)))) (pv 4) (fun _ _ => rfl)))
      (pss_one (ps_ret (pe_tup (pa_cons (pe_op op_cat (pe_op op_cat (pe_slice sl_list (pv 2) po_none (po_some (pv 5))) (pe_lst (pa_cons (pv 9) pa_nil))) (pe_slice sl_list (pv 2) (po_some (pe_op op_add (pv 5) pe_int)) po_none)) (pa_cons (pv 3) pa_nil)))))))) pss_nil)
      (pss_cons (ps_if (pt_cmpR op_eq (pv 4) pe_int (nomark _)) (pss_one (ps_ret (pe_tup (pa_cons (pv 2) (pa_cons (pe_call G__law_bent_list (hr.mono (by decide)) (by rfl) T.g__law_bent_list T.F__law_bent_list.kp T.b__law_bent_list .nil pass0 (pa_cons (pv 0) (pa_cons (pe_ix ix_tup (pv 1) pe_int (fun _ _ => rfl)) (pa_cons (pv 3) pa_nil)))) pa_nil))))) pss_nil)
      (pss_cons (ps_if (pt_cmpR op_eq (pv 4) pe_int (nomark _)) (pss_one (ps_ret (pe_tup (pa_cons (pe_op op_cat (pe_op op_cat (pe_slice sl_list (pv 2) po_none (po_some (pv 5))) (pe_lst (pa_cons (pe_tup (pa_cons (pe_lst pa_nil) (pa_cons (pe_lst pa_nil) pa_nil))) pa_nil))) (pe_slice sl_list (pv 2) (po_some (pv 5)) po_none)) (pa_cons (pv 3) pa_nil))))) pss_nil)
      (pss_cons (ps_if (pt_cmpR op_eq (pv 4) pe_int (nomark _)) (pss_one (ps_ret (pe_tup (pa_cons (pe_op op_cat (pe_slice sl_list (pv 2) po_none (po_some (pv 5))) (pe_slice sl_list (pv 2) (po_some (pe_op op_add (pv 5) pe_int)) po_none)) (pa_cons (pv 3) pa_nil))))) pss_nil)
      (pss_cons (ps_if (pt_cmpR op_eq (pv 4) pe_int (nomark _)) (pss_one (ps_ret (pe_tup (pa_cons (pe_op op_cat (pe_op op_cat (pe_slice sl_list (pv 2) po_none (po_some (pv 5))) (pe_revL (pe_slice sl_list (pv 2) (po_some (pv 5)) (po_some (pe_op op_add (pv 5) pe_int))))) (pe_slice sl_list (pv 2) (po_some (pe_op op_add (pv 5) pe_int)) po_none)) (pa_cons (pv 3) pa_nil))))) pss_nil)
      (pss_one (ps_ret (pe_tup (pa_cons (pe_op op_cat (pe_op op_cat (pe_slice sl_list (pv 2) po_none (po_some (pv 5))) (pe_slice sl_list (pv 2) (po_some (pv 5)) (po_some (pe_op op_add (pv 5) pe_int)))) (pe_slice sl_list (pv 2) (po_some (pv 5)) po_none)) (pa_cons (pv 3) pa_nil)))))))))))), ?_⟩
    walk_at "rd"
    refine r_callP S 0 rfl 8 ⟨rfl, by omega, small_up (by omega) (by omega)⟩ fun v N F1 H1 S e1 ⟨z, way, ev, hw0, hw1⟩ => ?_
    subst z ev
    have hR := e1 _ _ hR
    walk_at "rd"
    refine r_callP S 0 rfl ((xs.length : Int) + 1) ⟨rfl, by omega, small_up (by omega) (by omega)⟩ fun v N F2 H2 S e2 ⟨z, at', ev, ha0, ha1⟩ => ?_
    subst z ev
    have hR := e2 _ _ hR
    have hL := (e1.trans e2) _ _ hL
    have hx := hx.ex (e1.trans e2)
    have s1 := Evl.ex_t (e1.trans e2) s1
    have fin : ∀ (T R' L' : Addr) (xs' : List V) (rs' : List (List Int × List Int)) (e' : List Int) (F' H' : Hp), Sep [p] H F F' H' [(p, .pot)] → F' T = some (.tup [.ref R', .ref L']) → F' R' = some (.lst xs') → RowsV F' xs' rs' → F' L' = some (.lst (e'.map V.int)) → (∀ r ∈ rs', SetOk many r.1 ∧ SetOk many r.2) → SetOk many e' → rs'.length ≤ rs.length + 1 → Q (.ref T) H' := fun T R' L' xs' rs' e' F' H' S' h1 h2 h3 h4 h5 h6 h7 => k _ [] _ _ S' ⟨rfl, T, R', L', xs', rs', e', rfl, h1, h2, h3, h4, ⟨h5, h6⟩, h7⟩
    clear k
    have okT : ∀ n, ∀ r ∈ rs.take n, SetOk many r.1 ∧ SetOk many r.2 := fun n r hr => ok.rows r (List.mem_of_mem_take hr)
    have okD : ∀ n, ∀ r ∈ rs.drop n, SetOk many r.1 ∧ SetOk many r.2 := fun n r hr => ok.rows r (List.mem_of_mem_drop hr)
    have tail0 : SetOk many ([] : List Int) := SetOk.nil
    walk_at "rd"
    refine ⟨LI [p] H F F2 (fun _ σ' F' M' => σ' = [some (.ref p), some (.ref wa), some (.ref R), some (.ref L), some (.int way), some (.int at'), none, none, none, none] ∧ M' = [(p, .pot)]) 0, ?_, ?_⟩
    · walk_at "rd"
      refine iteB (fun c1 => ?_) (fun c1 => ?_)
      · walk_at "rd"
        refine iteB (fun c2 => ?_) (fun c2 => ?_)
        · have c1 : way < 3 := by simpa using c1
          have c2 : at' < (xs.length : Int) := by simpa using c2
          obtain ⟨rr, hr0⟩ : ∃ rr, rs[at'.toNat]? = some rr := ⟨_, List.getElem?_eq_getElem (by omega)⟩
          obtain ⟨px, ex, hpx⟩ := hx.get hr0
          have okr := ok.rows rr (List.mem_of_getElem? hr0)
          have hpx0 := hpx
          obtain ⟨tp, pc, po, rfl, ct, cpc, cpo⟩ := hpx
          have hat : atI xs at' = some (.ref tp) := atI_of ha0 ex
          obtain ⟨y, ly, hy, fy, oky⟩ : ∃ y ly, atI [V.ref pc, V.ref po, V.ref pc] way = some (.ref y) ∧ F2 y = some (.lst (ly.map V.int)) ∧ SetOk many ly := by
            rcases (show way = 0 ∨ way = 1 ∨ way = 2 by omega) with q | q | q <;> subst q
            · exact ⟨pc, rr.1, rfl, cpc, okr.1⟩
            · exact ⟨po, rr.2, rfl, cpo, okr.2⟩
            · exact ⟨pc, rr.1, rfl, cpc, okr.1⟩
          walk_at "rd"
          refine ⟨(by show 3 ≤ sizeLine; decide), s_new S fun y1 F3 H3 S e3 c3 => ?_⟩
          walk_at "rd"
          refine r_callP S 0 rfl (many, ly) ⟨y, rfl, e3 _ _ fy, oky, w1, w2⟩ ?_
          rintro v N F4 H4 S e4 ⟨rfl, q1, l1, rfl, cq1, ok1⟩
          walk_at "rd"
          refine ⟨(by show 2 ≤ sizeLine; decide), s_new S fun y2 F5 H5 S e5 c5 => ?_⟩
          walk_at "rd"
          refine ⟨(by show 2 ≤ sizeLine; decide), s_new S fun y3 F6 H6 S e6 c6 => ?_⟩
          walk_at "rd"
          have E6 : Evl.Ex F2 F6 := e3.trans (e4.trans (e5.trans e6))
          refine r_callP S 0 rfl (many, rr.2) ⟨po, rfl, E6 _ _ cpo, okr.2, w1, w2⟩ ?_
          rintro v N F7 H7 S e7 ⟨rfl, q2, l2, rfl, cq2, ok2⟩
          walk_at "rd"
          refine ⟨(by show 2 ≤ sizeLine; decide), s_new S fun y4 F8 H8 S e8 c8 => ?_⟩
          walk_at "rd"
          refine ⟨(by show 3 ≤ sizeLine; decide), s_new S fun y5 F9 H9 S e9 c9 => ?_⟩
          have E9 : Evl.Ex F2 F9 := E6.trans (e7.trans (e8.trans e9))
          have E49 : Evl.Ex F4 F9 := (e5.trans e6).trans (e7.trans (e8.trans e9))
          obtain ⟨z, rz, hz, vz, okz⟩ : ∃ z rz, atI [V.ref y2, V.ref y3, V.ref y4] way = some (.ref z) ∧ RowV F9 (.ref z) rz ∧ SetOk many rz.1 ∧ SetOk many rz.2 := by
            rcases (show way = 0 ∨ way = 1 ∨ way = 2 by omega) with q | q | q <;> subst q
            · exact ⟨y2, (l1, rr.2), rfl, ⟨y2, q1, po, rfl, (e6.trans (e7.trans (e8.trans e9))) _ _ c5, E49 _ _ cq1, E9 _ _ cpo⟩, ok1, okr.2⟩
            · exact ⟨y3, (rr.1, l1), rfl, ⟨y3, pc, q1, rfl, (e7.trans (e8.trans e9)) _ _ c6, E9 _ _ cpc, E49 _ _ cq1⟩, okr.1, ok1⟩
            · exact ⟨y4, (l1, l2), rfl, ⟨y4, q1, q2, rfl, e9 _ _ c8, E49 _ _ cq1, (e8.trans e9) _ _ cq2⟩, ok1, ok2⟩
          walk_at "rd"
          refine s_slL (SqL.of (S.fr _ _ (E9 _ _ hR))) ?_
          rw [cutV_to ha0]
          refine s_new S fun y6 F10 H10 S e10 c10 => ?_
          walk_at "rd"
          refine ⟨(by show 1 ≤ sizeLine; decide), s_new S fun y7 F11 H11 S e11 c11 => ?_⟩
          refine s_cat (S.fr _ _ (e11 _ _ c10)) (S.fr _ _ c11) (by rw [List.length_take]; show _ + 1 ≤ 100000; omega) (s_new S fun y8 F12 H12 S e12 c12 => ?_)
          walk_at "rd"
          have E12 : Evl.Ex F9 F12 := e10.trans (e11.trans e12)
          refine s_slL (SqL.of (S.fr _ _ ((E9.trans E12) _ _ hR))) ?_
          rw [cutV_from (by omega)]
          refine s_new S fun y9 F13 H13 S e13 c13 => ?_
          refine s_cat (S.fr _ _ (e13 _ _ c12)) (S.fr _ _ c13) (by rw [List.length_append, List.length_take, List.length_drop]; show _ + 1 + _ ≤ 100000; omega) (s_new S fun y10 F14 H14 S e14 c14 => ?_)
          walk_at "rd"
          refine ⟨(by show 2 ≤ sizeLine; decide), s_new S fun y11 F15 H15 S e15 c15 => ?_⟩
          have E15 : Evl.Ex F9 F15 := E12.trans (e13.trans (e14.trans e15))
          have hx15 := hx.ex (E9.trans E15)
          refine fin y11 y10 L _ ((rs.take at'.toNat ++ [rz]) ++ rs.drop (at' + 1).toNat) e _ _ S c15 (e15 _ _ c14) (RowsV.app (RowsV.app (RowsV.take _ hx15) ⟨vz.ex E15, trivial⟩) (RowsV.drop _ hx15)) ((E9.trans E15) _ _ hL) (RowsV.mem_ok (RowsV.mem_ok (okT _) fun r hr => by rw [List.mem_singleton.mp hr]; exact okz) (okD _)) ok.left' ?_
          rw [List.length_append, List.length_append, List.length_take, List.length_drop]
          show _ + 1 + _ ≤ _
          omega
        · walk_at "rd"
          exact ⟨_, _, S, Evl.Ex.refl _, rfl, rfl⟩
      · walk_at "rd"
        exact ⟨_, _, S, Evl.Ex.refl _, rfl, rfl⟩
    · rintro σ' H3 ⟨F3, M', S, e3, rfl, rfl⟩
      have hR := e3 _ _ hR
      have hL := e3 _ _ hL
      have hx := hx.ex e3
      have s1 := Evl.ex_t e3 s1
      walk_at "rd"
      refine iteB (fun c3 => ?_) (fun c3 => ?_)
      · walk_at "rd"
        refine r_callP S 0 rfl (many, e) ⟨L, rfl, hL, ok.left', w1, w2⟩ ?_
        rintro v N F4 H4 S e4 ⟨rfl, q1, l1, rfl, cq1, ok1⟩
        walk_at "rd"
        refine ⟨(by show 2 ≤ sizeLine; decide), s_new S fun y1 F5 H5 S e5 c5 => ?_⟩
        exact fin y1 R q1 _ rs l1 _ _ S c5 ((e4.trans e5) _ _ hR) (hx.ex (e4.trans e5)) (e5 _ _ cq1) ok.rows ok1 (by omega)
      walk_at "rd"
      refine iteB (fun c4 => ?_) (fun c4 => ?_)
      · walk_at "rd"
        refine s_slL (SqL.of (S.fr _ _ hR)) ?_
        rw [cutV_to ha0]
        refine s_new S fun y1 F4 H4 S e4 cy1 => ?_
        walk_at "rd"
        refine ⟨Nat.zero_le _, s_new S fun y2 F5 H5 S e5 cy2 => ?_⟩
        walk_at "rd"
        refine ⟨Nat.zero_le _, s_new S fun y3 F6 H6 S e6 cy3 => ?_⟩
        walk_at "rd"
        refine ⟨(by show 2 ≤ sizeLine; decide), s_new S fun y4 F7 H7 S e7 cy4 => ?_⟩
        walk_at "rd"
        refine ⟨(by show 1 ≤ sizeLine; decide), s_new S fun y5 F8 H8 S e8 cy5 => ?_⟩
        refine s_cat (S.fr _ _ ((e5.trans (e6.trans (e7.trans e8))) _ _ cy1)) (S.fr _ _ cy5) (by rw [List.length_take]; show _ + 1 ≤ 100000; omega) (s_new S fun y6 F9 H9 S e9 cy6 => ?_)
        walk_at "rd"
        have E9 : Evl.Ex F3 F9 := (e4.trans e5).trans (e6.trans (e7.trans (e8.trans e9)))
        refine s_slL (SqL.of (S.fr _ _ (E9 _ _ hR))) ?_
        rw [cutV_from ha0]
        refine s_new S fun y7 F10 H10 S e10 cy7 => ?_
        refine s_cat (S.fr _ _ (e10 _ _ cy6)) (S.fr _ _ cy7) (by rw [List.length_append, List.length_take, List.length_drop]; show _ + 1 + _ ≤ 100000; omega) (s_new S fun y8 F11 H11 S e11 cy8 => ?_)
        walk_at "rd"
        refine ⟨(by show 2 ≤ sizeLine; decide), s_new S fun y9 F12 H12 S e12 cy9 => ?_⟩
        have E12 : Evl.Ex F7 F12 := (e8.trans e9).trans (e10.trans (e11.trans e12))
        have E312 : Evl.Ex F3 F12 := E9.trans (e10.trans (e11.trans e12))
        have hx12 := hx.ex E312
        have vz : RowV F12 (.ref y4) ([], []) := ⟨y4, y2, y3, rfl, E12 _ _ cy4, (e6.trans (e7.trans E12)) _ _ cy2, (e7.trans E12) _ _ cy3⟩
        refine fin y9 y8 L _ ((rs.take at'.toNat ++ [([], [])]) ++ rs.drop at'.toNat) e _ _ S cy9 (e12 _ _ cy8) (RowsV.app (RowsV.app (RowsV.take _ hx12) ⟨vz, trivial⟩) (RowsV.drop _ hx12)) (E312 _ _ hL) (RowsV.mem_ok (RowsV.mem_ok (okT _) fun r hr => by rw [List.mem_singleton.mp hr]; exact ⟨tail0, tail0⟩) (okD _)) ok.left' ?_
        rw [List.length_append, List.length_append, List.length_take, List.length_drop]
        show _ + 1 + _ ≤ _
        omega
      walk_at "rd"
      refine iteB (fun c5 => ?_) (fun c5 => ?_)
      · walk_at "rd"
        refine s_slL (SqL.of (S.fr _ _ hR)) ?_
        rw [cutV_to ha0]
        refine s_new S fun y1 F4 H4 S e4 cy1 => ?_
        walk_at "rd"
        refine s_slL (SqL.of (S.fr _ _ (e4 _ _ hR))) ?_
        rw [cutV_from (by omega)]
        refine s_new S fun y2 F5 H5 S e5 cy2 => ?_
        refine s_cat (S.fr _ _ (e5 _ _ cy1)) (S.fr _ _ cy2) (by rw [List.length_take, List.length_drop]; omega) (s_new S fun y3 F6 H6 S e6 cy3 => ?_)
        walk_at "rd"
        refine ⟨(by show 2 ≤ sizeLine; decide), s_new S fun y4 F7 H7 S e7 cy4 => ?_⟩
        have E7 : Evl.Ex F3 F7 := e4.trans (e5.trans (e6.trans e7))
        have hx7 := hx.ex E7
        refine fin y4 y3 L _ (rs.take at'.toNat ++ rs.drop (at' + 1).toNat) e _ _ S cy4 (e7 _ _ cy3) (RowsV.app (RowsV.take _ hx7) (RowsV.drop _ hx7)) (E7 _ _ hL) (RowsV.mem_ok (okT _) (okD _)) ok.left' ?_
        rw [List.length_append, List.length_take, List.length_drop]
        omega
      walk_at "rd"
      refine iteB (fun c6 => ?_) (fun c6 => ?_)
      · walk_at "rd"
        refine s_slL (SqL.of (S.fr _ _ hR)) ?_
        rw [cutV_to ha0]
        refine s_new S fun y1 F4 H4 S e4 cy1 => ?_
        walk_at "rd"
        obtain ⟨ci, cj, hci, hcj, ecut⟩ := cutV_run (xs := xs) (a := at') (b := at' + 2) ha0 (by omega)
        have hR4 := e4 _ _ hR
        unfold tRevL
        walk_at "rd"
        refine s_slL (SqL.of (S.fr _ _ hR4)) ?_
        rw [ecut]
        refine s_new S fun y2 F5 H5 S e5 cy2 => ?_
        refine ⟨y2, _, rfl, SqL.of (S.fr _ _ cy2), ?_⟩
        intro y3 hy3
        obtain ⟨F6, H6, eH, S, e6, cy3⟩ : ∃ F6 H6, H6 = upd H5 y3 (.lst ((xs.drop ci).take cj).reverse) ∧ Sep [p] H F F6 H6 [(p, .pot)] ∧ Evl.Ex F5 F6 ∧ F6 y3 = some (.lst ((xs.drop ci).take cj).reverse) := ⟨_, _, rfl, S.newF hy3 _, Evl.Ex.new (S.fnone hy3), upd_same⟩
        rw [← eH]
        refine s_cat (S.fr _ _ ((e5.trans e6) _ _ cy1)) (S.fr _ _ cy3) (by rw [List.length_take, List.length_reverse, List.length_take]; omega) (s_new S fun y4 F7 H7 S e7 cy4 => ?_)
        walk_at "rd"
        have E7 : Evl.Ex F3 F7 := e4.trans (e5.trans (e6.trans e7))
        refine s_slL (SqL.of (S.fr _ _ (E7 _ _ hR))) ?_
        rw [cutV_from (by omega)]
        refine s_new S fun y5 F8 H8 S e8 cy5 => ?_
        refine s_cat (S.fr _ _ (e8 _ _ cy4)) (S.fr _ _ cy5) (by rw [List.length_append, List.length_take, List.length_reverse, List.length_take, List.length_drop, List.length_drop]; omega) (s_new S fun y6 F9 H9 S e9 cy6 => ?_)
        walk_at "rd"
        refine ⟨(by show 2 ≤ sizeLine; decide), s_new S fun y7 F10 H10 S e10 cy7 => ?_⟩
        have E10 : Evl.Ex F3 F10 := E7.trans (e8.trans (e9.trans e10))
        have hx10 := hx.ex E10
        refine fin y7 y6 L _ ((rs.take at'.toNat ++ ((rs.drop ci).take cj).reverse) ++ rs.drop (at' + 2).toNat) e _ _ S cy7 (e10 _ _ cy6) (RowsV.app (RowsV.app (RowsV.take _ hx10) (RowsV.rev (RowsV.take _ (RowsV.drop _ hx10)))) (RowsV.drop _ hx10)) (E10 _ _ hL) (RowsV.mem_ok (RowsV.mem_ok (okT _) fun r hr => okD ci r (List.mem_of_mem_take (List.mem_reverse.mp hr))) (okD _)) ok.left' ?_
        rw [List.length_append, List.length_append, List.length_take, List.length_reverse, List.length_take, List.length_drop, List.length_drop]
        omega
      · walk_at "rd"
        refine s_slL (SqL.of (S.fr _ _ hR)) ?_
        rw [cutV_to ha0]
        refine s_new S fun y1 F4 H4 S e4 cy1 => ?_
        walk_at "rd"
        obtain ⟨ci, cj, hci, hcj, ecut⟩ := cutV_run (xs := xs) (a := at') (b := at' + 1) ha0 (by omega)
        have hR4 := e4 _ _ hR
        refine s_slL (SqL.of (S.fr _ _ hR4)) ?_
        rw [ecut]
        refine s_new S fun y2 F5 H5 S e5 cy2 => ?_
        refine s_cat (S.fr _ _ (e5 _ _ cy1)) (S.fr _ _ cy2) (by rw [List.length_take, List.length_take]; omega) (s_new S fun y4 F7 H7 S e7 cy4 => ?_)
        walk_at "rd"
        have E7 : Evl.Ex F3 F7 := e4.trans (e5.trans e7)
        refine s_slL (SqL.of (S.fr _ _ (E7 _ _ hR))) ?_
        rw [cutV_from ha0]
        refine s_new S fun y5 F8 H8 S e8 cy5 => ?_
        refine s_cat (S.fr _ _ (e8 _ _ cy4)) (S.fr _ _ cy5) (by rw [List.length_append, List.length_take, List.length_take, List.length_drop, List.length_drop]; omega) (s_new S fun y6 F9 H9 S e9 cy6 => ?_)
        walk_at "rd"
        refine ⟨(by show 2 ≤ sizeLine; decide), s_new S fun y7 F10 H10 S e10 cy7 => ?_⟩
        have E10 : Evl.Ex F3 F10 := E7.trans (e8.trans (e9.trans e10))
        have hx10 := hx.ex E10
        refine fin y7 y6 L _ ((rs.take at'.toNat ++ (rs.drop ci).take cj) ++ rs.drop at'.toNat) e _ _ S cy7 (e10 _ _ cy6) (RowsV.app (RowsV.app (RowsV.take _ hx10) (RowsV.take _ (RowsV.drop _ hx10))) (RowsV.drop _ hx10)) (E10 _ _ hL) (RowsV.mem_ok (RowsV.mem_ok (okT _) fun r hr => okD ci r (List.mem_of_mem_take hr)) (okD _)) ok.left' ?_
        rw [List.length_append, List.length_append, List.length_take, List.length_take, List.length_drop, List.length_drop]
        omega

end

end
section
local macro_rules | `(tactic| walk_at "ex") => `(tactic| first | exact Evl.Ex.refl _ | assumption | ((refine' Evl.Ex.trans ?x ?y); (case y => assumption); (case x => walk_at "ex")))
local macro_rules | `(tactic| walk_at "hc") => `(tactic| first
  | assumption
  | ((refine' Sep.rdM ?S 0 ?k); (case S => assumption); (case k => exact rfl)) | ((refine' Sep.rdM ?S 1 ?k); (case S => assumption); (case k => exact rfl)) | ((refine' Sep.rdM ?S 2 ?k); (case S => assumption); (case k => exact rfl)) | ((refine' Sep.rdM ?S 3 ?k); (case S => assumption); (case k => exact rfl)) | ((refine' Sep.rdM ?S 4 ?k); (case S => assumption); (case k => exact rfl))
  | ((refine' Sep.rdC ?S ?e ?h); (case S => assumption); (case h => assumption); (case e => walk_at "ex")))
local macro_rules | `(tactic| walk_at "hl") => `(tactic| first
  | assumption
  | ((refine' SqL.of (Sep.rdM ?S 0 ?k)); (case S => assumption); (case k => exact rfl)) | ((refine' SqL.of (Sep.rdM ?S 1 ?k)); (case S => assumption); (case k => exact rfl)) | ((refine' SqL.of (Sep.rdM ?S 2 ?k)); (case S => assumption); (case k => exact rfl)) | ((refine' SqL.of (Sep.rdM ?S 3 ?k)); (case S => assumption); (case k => exact rfl)) | ((refine' SqL.of (Sep.rdM ?S 4 ?k)); (case S => assumption); (case k => exact rfl))
  | ((refine' Sep.rdL ?S ?e ?h); (case S => assumption); (case h => assumption); (case e => walk_at "ex"))
  | ((refine' Sep.rdT ?S ?e ?h); (case S => assumption); (case h => assumption); (case e => walk_at "ex"))
  | ((refine' SqL.of (Sep.rdC ?S ?e ?h)); (case S => assumption); (case h => assumption); (case e => walk_at "ex"))
  | ((refine' SqT.of (Sep.rdC ?S ?e ?h)); (case S => assumption); (case h => assumption); (case e => walk_at "ex"))
  | ((refine' SqL.of ?h); (case h => assumption)) | ((refine' SqT.of ?h); (case h => assumption))
  | ((refine' Evl.ex_l ?e ?h); (case h => assumption); (case e => walk_at "ex")) | ((refine' Evl.ex_t ?e ?h); (case h => assumption); (case e => walk_at "ex"))
  | ((refine' SqL.of (?e _ _ ?h)); (case h => assumption); (case e => walk_at "ex")) | ((refine' SqT.of (?e _ _ ?h)); (case h => assumption); (case e => walk_at "ex")))
local macro_rules | `(tactic| walk_at "hs") => `(tactic| walk_at "hc")
local macro_rules | `(tactic| walk_at "dp") => `(tactic| first
  | assumption
  | ((refine' Sep.rdD ?S ?e ?h); (case S => assumption); (case h => assumption); (case e => walk_at "ex"))
  | ((refine' Dp.ex ?e _ _ ?h); (case h => assumption); (case e => walk_at "ex"))
  | ((refine' DpAll.ex ?e _ _ ?h); (case h => assumption); (case e => walk_at "ex"))
  | (refine' dp_intsD ?h; (case h => walk_at "hl")))
local macro_rules | `(tactic| walk_at "rd1") => `(tactic| (first
  | (with_reducible refine r_seq ?_)
  | (with_reducible refine r_asg ?_)
  | (with_reducible refine r_asgG ?_)
  | (with_reducible refine r_par ?_)
  | (with_reducible refine r_if ?_)
  | (with_reducible refine r_ret ?_)
  | (with_reducible refine r_drop ?_)
  | (with_reducible refine r_next ?_)
  | ((with_reducible refine' r_var ?hx ?_); (case hx => exact rfl))
  | (with_reducible refine r_c ?_)
  | (with_reducible refine r_op ?_)
  | (with_reducible refine r_un ?_)
  | (with_reducible refine r_I0 ?_)
  | ((with_reducible refine' r_I ?_ ?_); (· first | (show (0 : Int) < _; omega) | exact Or.inr ⟨by omega, by omega⟩ | exact Or.inl ⟨by omega, by omega⟩ | exact ⟨by omega, by omega, by decide⟩))
  | (with_reducible refine r_U ?_)
  | (with_reducible refine r_test ?_)
  | (with_reducible refine r_B ?_)
  | (with_reducible refine r_bl ?_)
  | (with_reducible refine r_eqI ?_)
  | (with_reducible refine r_neI ?_)
  | ((with_reducible refine' r_eq ?_ ?_); (· exact rfl))
  | ((with_reducible refine' r_ne ?_ ?_); (· exact rfl))
  | (with_reducible refine r_nil ?_)
  | (with_reducible refine r_cons ?_)
  | (with_reducible refine s_tup ?_)
  | (with_reducible refine s_lst ?_)
  | (with_reducible refine r_call ?_)
  | (with_reducible refine r_cb ?_)
  | (with_reducible refine r_and ?_)
  | (with_reducible refine r_or ?_)
  | (with_reducible refine r_not ?_)
  | (with_reducible refine r_andV ?_)
  | (with_reducible refine r_orV ?_)
  | (with_reducible refine r_notV ?_)
  | (with_reducible refine r_ifE ?_)
  | (with_reducible refine r_gSub ?_)
  | (with_reducible refine r_sadd ?_)
  | (with_reducible refine s_lstRg ?_)
  | (with_reducible refine r_rg1 ?_)
  | (with_reducible refine r_min2 ?_)
  | (with_reducible refine r_par2 ?_)
  | (with_reducible refine r_partI ?_)
  | (with_reducible refine s_lc ?_)
  | (with_reducible refine s_dc ?_)
  | (with_reducible refine r_yes ?_)
  | (with_reducible refine r_iZipA ?_)
  | (with_reducible refine r_isN ?_)
  | (with_reducible refine r_for ?_)
  | (with_reducible refine r_iList ?_)
  | (with_reducible refine r_iTup ?_)
  | (with_reducible refine r_iRng1 ?_)
  | (with_reducible refine r_iRng2 ?_)
  | (with_reducible refine r_iEnum ?_)
  | (with_reducible refine r_iZip ?_)
  | (with_reducible refine r_gName ?_)
  | (with_reducible refine r_isNV ?_)
  | (with_reducible refine r_notNV ?_)
  | (with_reducible refine r_bm ?_)
  | (with_reducible refine r_bm0 ?_)
  | (with_reducible refine r_sl ?_)
  | (with_reducible refine r_noPart ?_)
  | (with_reducible refine r_part ?_)
  | (with_reducible refine r_chain ?_)
  | (with_reducible refine r_iKeys ?_)
  | (with_reducible refine r_iItems ?_)
  | (with_reducible refine r_frz ?_)
  | (with_reducible refine r_dput ?_)
  | (with_reducible refine r_dget ?_)
  | (with_reducible refine r_din ?_)
  | (with_reducible refine r_dnotin ?_)
  | (with_reducible refine r_break ?_)
  | ((with_reducible refine' r_sIn ?h ?_); (case h => walk_at "hs"))
  | ((with_reducible refine' r_sNotIn ?h ?_); (case h => walk_at "hs"))
  | ((with_reducible refine' r_inI ?h ?_); (case h => walk_at "hl"))
  | ((with_reducible refine' r_notInI ?h ?_); (case h => walk_at "hl"))
  | ((with_reducible refine' r_eqNil ?h ?g ?_); (case h => walk_at "hl"); (case g => walk_at "hl"))
  | ((with_reducible refine' r_neNil ?h ?g ?_); (case h => walk_at "hl"); (case g => walk_at "hl"))
  | ((with_reducible refine' iteRT ?hh ?_); (case hh => exact rfl))
  | ((with_reducible refine' iteRF ?hh ?_); (case hh => exact rfl))
  | ((with_reducible refine' r_isiT ?ty ?hk ?_); (case ty => (first | assumption | exact tyx_L (by assumption) | exact tyx_T (by assumption) | exact .base (.non) | exact .base (.bl _) | exact .base (.int _) | exact .base (.str _) | exact tyx_L (by walk_at "hl") | exact tyx_T (by walk_at "hl"))); (case hk => decide +kernel))
  | ((with_reducible refine' r_isiF ?ty ?hk ?_); (case ty => (first | assumption | exact tyx_L (by assumption) | exact tyx_T (by assumption) | exact .base (.non) | exact .base (.bl _) | exact .base (.int _) | exact .base (.str _) | exact tyx_L (by walk_at "hl") | exact tyx_T (by walk_at "hl"))); (case hk => decide +kernel))
  | ((with_reducible refine' r_gTup2 ?hn ?hs ?_); (case hn => exact rfl); (case hs => walk_at "hl"))
  | ((with_reducible refine' s_list ?hl ?_); (case hl => first | exact Or.inl (by walk_at "hl") | exact Or.inr (by walk_at "hl")))
  | ((with_reducible refine' s_tupN ?hl ?_); (case hl => walk_at "hl"))
  | ((with_reducible refine' s_sortN ?hl ?_); (case hl => walk_at "hl"))
  | ((refine' ⟨_, _, rfl, ?hl, ?_⟩); (case hl => first | exact Or.inl (by walk_at "hl") | exact Or.inr (by walk_at "hl")))
  | ((with_reducible refine' r_ixL ?hl ?ha ?_); (case hl => walk_at "hl"); (case ha => first | exact rfl | assumption))
  | ((with_reducible refine' r_ixT ?hl ?ha ?_); (case hl => walk_at "hl"); (case ha => first | exact rfl | assumption))))
local macro_rules | `(tactic| walk_at "rd") => `(tactic| repeat (walk_at "rd1"))

section
variable {P : Program} {w : World} {K : PySem.W.Frag} {mg : Str → Option Value} {base : Heap}

def A_mrun (K : PySem.W.Frag) : (Int × List (Int × Int) × Int) → List V → Hp → Prop := fun | (many, ties, most), vs, F => ∃ v, vs = [v, .int most] ∧ Dp K F v (webD many ties) ∧ WebOk many ties ∧ 0 ≤ most ∧ most ≤ 10
def B_mrun : (Int × List (Int × Int) × Int) → V → List (Addr × Cel) → Hp → Prop := fun | (many, ties, most), v, N, F => N = [] ∧ ∃ T R L xs rs e, v = .ref T ∧ F T = some (.tup [.ref R, .ref L]) ∧ F R = some (.lst xs) ∧ RowsV F xs rs ∧ F L = some (.lst (e.map V.int)) ∧ RowsOk many rs e ∧ (rs.length : Int) ≤ most ∧ isRunB ties (rgI many) rs e = true
/-- a greedy choice, houses gone through up to i -/
structure Greedy (ties : List (Int × Int)) (left : List Int) (i : Nat) (c : List Int) : Prop where
  sub : c.Sublist (left.take i)
  apart : ∀ a ∈ c, ∀ b ∈ c, ¬ TiedW ties a b
  near : ∀ h ∈ left.take i, h ∉ c → ∃ x ∈ left, TiedW ties h x
theorem Greedy.snoc {ties : List (Int × Int)} (u : UpT ties) {left : List Int} {i : Nat} {c : List Int} {h : Int} (g : Greedy ties left i c) (hi : left[i]? = some h) (no : ∀ x ∈ left, TiedW ties h x → x ∉ c) : Greedy ties left (i + 1) (c ++ [h]) := by
  have sub := fun x (hx : x ∈ c) => List.mem_of_mem_take (g.sub.subset hx)
  refine ⟨?_, fun a ha b hb t => ?_, fun x hx hn => ?_⟩
  · rw [take_snoc hi]
    exact g.sub.append (List.Sublist.refl _)
  · rcases List.mem_append.mp ha with ha | ha <;> rcases List.mem_append.mp hb with hb | hb
    · exact g.apart a ha b hb t
    · rw [List.mem_singleton.mp hb] at t
      exact no a (sub a ha) t.symm ha
    · rw [List.mem_singleton.mp ha] at t
      exact no b (sub b hb) t hb
    · rw [List.mem_singleton.mp ha, List.mem_singleton.mp hb] at t
      exact t.ne u rfl
  · rw [take_snoc hi] at hx
    rcases List.mem_append.mp hx with hx | hx
    · exact g.near x hx fun z => hn (List.mem_append_left _ z)
    · exact absurd (List.mem_append_right _ hx) hn
theorem Greedy.skip {ties : List (Int × Int)} {left : List Int} {i : Nat} {c : List Int} {h : Int} (g : Greedy ties left i c) (hi : left[i]? = some h) (no : ∃ x ∈ left, TiedW ties h x) : Greedy ties left (i + 1) c := by
  refine ⟨?_, g.apart, fun x hx hn => ?_⟩
  · rw [take_snoc hi]
    exact g.sub.trans (List.sublist_append_left _ _)
  · rw [take_snoc hi] at hx
    rcases List.mem_append.mp hx with hx | hx
    · exact g.near x hx hn
    · rw [List.mem_singleton.mp hx]; exact no
theorem ok_l_may_run (T : Env K mg) : FnOk P w K mg base CX0 3 T.a__law_may_run T.fd__law_may_run ["pot", "web", "most"] (SpP (A_mrun K) B_mrun) := by
  have nd := sc__law_may_run.nd
  have G__law_near : FnOk P w K mg base CX0 1 T.a__law_near T.fd__law_near ["web"] (SpF (A_lnear K) (B_lnear K)) := ok_l_near T
  have G__law_pick : FnOk P w K mg base CX0 2 T.a__law_pick T.fd__law_pick ["pot", "many"] (SpP A_pick B_pick) := ok_l_pick T
  refine T.F__law_may_run.ok sc__law_may_run (fun vs H Q E h => ?_) (fun cdv A outer s H vs Q E hr h => ?_)
  · obtain ⟨⟨_, _, _⟩, F, p, r, rfl, _, _, _, ⟨v, rfl, _⟩, _⟩ := h
    rfl
  · obtain ⟨⟨many, ties, most⟩, F, p, r, rfl, fr, hF, hP, ⟨v, rfl, hv, W, hm0, hm1⟩, k⟩ := h
    have ut : UpT ties := fun t ht => (W.ok t ht).2.1
    have tl := W.few
    have hv0 := hv
    obtain ⟨wa, wb, ws, rfl, s1, s2, s3⟩ := webD_at hv
    have w1 := W.lo
    have w2 := W.hi
    have S := Sep.startP fr hF hP
    refine ⟨_, (pss_cons (ps_set (i := 3) nd rfl (.inr rfl) (pe_call G__law_near (hr.mono (by decide)) (by rfl) T.g__law_near T.F__law_near.kp T.b__law_near .nil pass0 (pa_cons (pv 1) pa_nil)))
      (pss_cons (ps_set (i := 4) nd rfl (.inr rfl) (pe_listRg rfl (by rfl) T.n_list (prg_1 (by rfl) T.n_range (pe_ix ix_tup (pv 1) pe_int (fun _ _ => rfl)))))
      (pss_cons (ps_set (i := 5) nd rfl (.inl rfl) (pe_lst pa_nil))
      (pss_cons (ps_for PassesOwn.never rfl (pi_range1 (by rfl) T.n_range (pa_cons (pe_call G__law_pick (hr.mono (by decide)) (by rfl) T.g__law_pick T.F__law_pick.kp T.b__law_pick .nil pass0 (pa_cons (pv 0) (pa_cons (pe_op op_add (pv 2) pe_int) pa_nil))) pa_nil)) (pg_name (i := 6) nd rfl (.inl rfl)) (pss_one (ps_if (pt_cmpR (op_neD hr.units) (pv 4) (pe_lst pa_nil) (nomark _)) (pss_cons (ps_set (i := 7) nd rfl (.inr rfl) (pe_call G__law_pick (hr.mono (by decide)) (by rfl) T.g__law_pick T.F__law_pick.kp T.b__law_pick .nil pass0 (pa_cons (pv 0) (pa_cons pe_int pa_nil))))
      (pss_cons (ps_setLc (i := 8) (own := [("house", 10)]) (g := gName 10) (tt := tYes) (te := (tCB (_ /- call_int1 -/) (tCons (tOp (rI0 fun i j => .bl (decide (j ≤ i))) (tCall (SpP A_pick B_pick) [] E0 (tCons (tVar 0) (tCons (tC (.int 4)) tNil))) (tVar 7)) tNil))) rfl nd rfl rfl (sw_true rfl rfl rfl (by decide +kernel)) (pi_range1 (by rfl) T.n_range (pa_cons (pe_ix ix_tup (pv 1) pe_int (fun _ _ => rfl)) pa_nil)) (blkOk_by (N := ["pot", "web", "most", "near", "here", "rounds", "turn", "share", "row", "some", "house", "beside", "met", "out", "other", "k"]) (sc := defScope s__law_may_run) (by decide +kernel)) (fun _ _ _ _ _ => (pg_name (i := 10) nd rfl (.inl rfl))) (fun _ _ _ _ _ => pts_nil) (fun _ _ _ _ _ => (pe_callTy call_int1 (by rfl) T.n_int (by decide +kernel) (pa_cons (pe_cmpR op_ge (pe_call G__law_pick (hr.mono (by decide)) (by rfl) T.g__law_pick T.F__law_pick.kp T.b__law_pick .nil pass0 (pa_cons (pv 0) (pa_cons pe_int pa_nil))) (pv 7) (nomark _)) pa_nil))))
      (pss_cons (ps_set (i := 9) nd rfl (.inr rfl) (pe_lst pa_nil))
      (Evl.pss_cut (ps_for PassesOwn.never rfl (pi_list (pv 4)) (pg_name (i := 10) nd rfl (.inl rfl)) (pss_cons (ps_setLc (i := 11) (own := [("other", 14)]) (g := gName 14) (tt := (tTest (tOp (rIn K false) (tVar 14) (tVar 4)))) (te := (tVar 14)) rfl nd rfl rfl (sw_true rfl rfl rfl (by decide +kernel)) (pi_list (pe_ix ix_list (pv 3) (pv 10) (fun _ _ => rfl))) (blkOk_by (N := ["pot", "web", "most", "near", "here", "rounds", "turn", "share", "row", "some", "house", "beside", "met", "out", "other", "k"]) (sc := defScope s__law_may_run) (by decide +kernel)) (fun _ _ _ _ _ => (pg_name (i := 14) nd rfl (.inl rfl))) (fun _ _ _ _ _ => pts_one (pt_cmpR op_in_seq (pv 14) (pv 4) rfl)) (fun _ _ _ _ _ => (pv 14)))
      (pss_cons (ps_setLc (i := 12) (own := [("other", 14)]) (g := gName 14) (tt := (tTest (tOp (rIn K false) (tVar 14) (tVar 9)))) (te := (tVar 14)) rfl nd rfl rfl (sw_true rfl rfl rfl (by decide +kernel)) (pi_list (pv 11)) (blkOk_by (N := ["pot", "web", "most", "near", "here", "rounds", "turn", "share", "row", "some", "house", "beside", "met", "out", "other", "k"]) (sc := defScope s__law_may_run) (by decide +kernel)) (fun _ _ _ _ _ => (pg_name (i := 14) nd rfl (.inl rfl))) (fun _ _ _ _ _ => pts_one (pt_cmpR op_in_seq (pv 14) (pv 9) rfl)) (fun _ _ _ _ _ => (pv 14)))
      (pss_one (ps_if (PW.pt (pw_or (pt_cmpR (op_eqD hr.units) (pv 11) (pe_lst pa_nil) (nomark _)) (pw_or1 (PW.pt (pw_and (pt_cmpR (op_eqD hr.units) (pv 12) (pe_lst pa_nil) (nomark _)) (pw_and1 (pt_cmpR op_eq (pe_ix ix_list (pv 8) (pv 10) (fun _ _ => rfl)) pe_int (nomark _)))))))) (pss_one (ps_expr (pe_bm PySem.F.plainAttrs_list PySem.F.slot_list_append PySem.F.type_list_append mt_append (pv 9) (pa_cons (pv 10) pa_nil)))) pss_nil)))))
      (pss_cons (ps_set (i := 13) nd rfl (.inr rfl) (pe_lc (own := [("house", 10)]) (g := gName 10) (tt := (tAnd (tTest (tOp (rIn K true) (tVar 10) (tVar 9))) (tTest (tOp (rNeD K) (tLc (iList K (tOp (rIxL K) (tVar 3) (tVar 10))) (gName 15) (tTest (tOp (rIn K false) (tVar 15) (tVar 9))) (tVar 15) [15]) (tLst tNil))))) (te := (tVar 10)) rfl nd (pi_list (pv 4)) (blkOk_by (N := ["pot", "web", "most", "near", "here", "rounds", "turn", "share", "row", "some", "house", "beside", "met", "out", "other", "k"]) (sc := defScope s__law_may_run) (by decide +kernel)) (fun _ _ _ _ _ => (pg_name (i := 10) nd rfl (.inl rfl))) (fun _ _ _ _ _ => pts_one (PW.pt (pw_and (pt_cmpR op_notIn_seq (pv 10) (pv 9) rfl) (pw_and1 (pt_cmpR (op_neD hr.units) (pe_lc (own := [("k", 15)]) (g := gName 15) (tt := (tTest (tOp (rIn K false) (tVar 15) (tVar 9)))) (te := (tVar 15)) rfl nd (pi_list (pe_ix ix_list (pv 3) (pv 10) (fun _ _ => rfl))) (blkOk_by (N := ["pot", "web", "most", "near", "here", "rounds", "turn", "share", "row", "some", "house", "beside", "met", "out", "other", "k"]) (sc := { kind := .function, names := [(Str.ofString ".0", .local), (Str.ofString "house", .local), (Str.ofString "near", .cell), (Str.ofString "some", .cell)], isGenerator := false, isCoroutine := false, more := [] }) (by decide +kernel)) (fun _ _ _ _ _ => (pg_name (i := 15) nd rfl (.inl rfl))) (fun _ _ _ _ _ => pts_one (pt_cmpR op_in_seq (pv 15) (pv 9) rfl)) (fun _ _ _ _ _ => (pv 15))) (pe_lst pa_nil) (nomark _)))))) (fun _ _ _ _ _ => (pv 10))))
      (pss_cons (ps_expr (pe_bm PySem.F.plainAttrs_list PySem.F.slot_list_append PySem.F.type_list_append mt_append (pv 5) (pa_cons (pe_tup (pa_cons (pv 9) (pa_cons (pv 13) pa_nil))) pa_nil)))
      (pss_one (ps_set (i := 4) nd rfl (.inr rfl) (pe_lc (own := [("house", 10)]) (g := gName 10) (tt := (tTest (tOp (rIn K true) (tVar 10) (tOp rCat (tVar 9) (tVar 13))))) (te := (tVar 10)) rfl nd (pi_list (pv 4)) (blkOk_by (N := ["pot", "web", "most", "near", "here", "rounds", "turn", "share", "row", "some", "house", "beside", "met", "out", "other", "k"]) (sc := defScope s__law_may_run) (by decide +kernel)) (fun _ _ _ _ _ => (pg_name (i := 10) nd rfl (.inl rfl))) (fun _ _ _ _ _ => pts_one (pt_cmpR op_notIn_seq (pv 10) (pe_op op_cat (pv 9) (pv 13)) rfl)) (fun _ _ _ _ _ => (pv 10))))))))))) pss_nil)))
      (pss_one (ps_ret (pe_tup (pa_cons (pv 5) (pa_cons (pv 4) pa_nil))))))))), ?_⟩
    walk_at "rd"
    refine r_callF S (many, ties) ⟨_, rfl, hv0, W, tl⟩ ?_
    rintro v N F1 H1 S e1 ⟨rfl, NL, hNL, NO⟩
    have s1 := Evl.ex_t e1 s1
    have lm : ∀ h, 0 ≤ h → h < many → ∀ o, o ∈ nearF NL h ↔ TiedW ties h o := NO.mem
    have nol := NO.len
    have nof := NO.few
    obtain ⟨na, nx, rfl, n1, n2⟩ := listD_at hNL
    walk_at "rd"
    refine ⟨⟨by omega, by omega, by omega, by omega, by omega⟩, ?_⟩
    rw [rgV_eq]
    refine s_new S fun l F2 H2 S e2 cl => ?_
    walk_at "rd"
    refine ⟨Nat.zero_le _, s_own S fun R H3 S => ?_⟩
    walk_at "rd"
    refine r_callP S 1 rfl (most + 1) ⟨rfl, by omega, small_up (by omega) (by omega)⟩ fun v N F3 H4 S e3 ⟨z, n, ev, hn0, hn1⟩ => ?_
    subst z ev
    walk_at "rd"
    refine ⟨n, rfl, by omega, by omega, ?_⟩
    refine s_forR (fun i σ' F' M' => ∃ (x6 x7 x8 x9 x10 x11 x12 x13 : Option V) (l : Addr) (left : List Int) (xs : List V) (rs : List (List Int × List Int)), σ' = [some (.ref p), some (.ref wa), some (.int most), some (.ref na), some (.ref l), some (.ref R), x6, x7, x8, x9, x10, x11, x12, x13, none, none] ∧ M' = [(R, .is (.lst xs)), (p, .pot)] ∧ RowsV F' xs rs ∧ F' l = some (.lst (left.map V.int)) ∧ SetOk many left ∧ (∀ r ∈ rs, SetOk many r.1 ∧ SetOk many r.2) ∧ rs.length ≤ i ∧ ∀ X e, isRunB ties (rgI many) (rs ++ X) e = isRunB ties left X e) S ⟨_, _, _, _, _, _, _, _, l, rgI many, [], [], rfl, rfl, trivial, e3 _ _ cl, rgI_ok many, fun r hr => (by cases hr), Nat.le_refl _, fun X e => rfl⟩ ?_ ?_
    · rintro i σ' F4 H5 M' hi S e4 ⟨x6, x7, x8, x9, x10, x11, x12, x13, l, left, xs, rs, rfl, rfl, g1, g2, ok, g3, g4, g5⟩
      have l60 := ok.len w2
      have s14 := Evl.ex_t ((e2.trans e3).trans e4) s1
      have n14 := Evl.ex_l ((e2.trans e3).trans e4) n1
      have n24 := DpAll.ex ((e2.trans e3).trans e4) _ _ n2
      have xl := g1.len
      walk_at "rd"
      refine ⟨Nat.zero_le _, s_new S fun z1 F5 H6 S e5 cz1 => ?_⟩
      refine r_neInts (a := left) (b := []) (by walk_at "hl") (by walk_at "hl") ?_
      walk_at "rd"
      refine iteB (fun c1 => ?_) (fun c1 => ?_)
      · have ne : left ≠ [] := by simpa using c1
        walk_at "rd"
        refine r_callP S 1 rfl 5 ⟨rfl, by omega, small_up (by omega) (by omega)⟩ fun v N F6 H7 S e6 ⟨z, sh, ev, hs0, hs1⟩ => ?_
        subst z ev
        walk_at "rd"
        refine ⟨many, rfl, by omega, by omega, ?_⟩
        refine s_lcI srcRG (fun i acc F' M' => ∃ ns : List Int, acc = ns.map V.int ∧ M' = [(R, .is (.lst xs)), (p, .pot)] ∧ ns.length = i) S ⟨[], rfl, rfl, rfl⟩ (fun _ _ _ _ _ m hm => by cases hm) ?_ ?_
        · rintro j h x acc D F7 F8 H8 M' hj S e7 e8 ex ⟨ns, rfl, rfl, h1⟩
          subst ex
          have lj := (List.getElem?_eq_some_iff.mp hj).1
          rw [rgI_len] at lj
          walk_at "rd"
          refine ⟨rfl, ?_⟩
          walk_at "rd"
          refine r_callP S 2 rfl 4 ⟨rfl, by omega, small_up (by omega) (by omega)⟩ fun v N F9 H9 S e9 ⟨z, x, ev, hx0, hx1⟩ => ?_
          subst z ev
          walk_at "rd"
          refine .inr ⟨_, rfl, ?_⟩
          exact CI.put S (by walk_at "ex") (by rw [List.length_map]; omega) ⟨ns ++ [_], by rw [List.map_append]; rfl, rfl, by rw [List.length_append, h1]; rfl⟩
        · rintro D acc F7 H8 M' S e7 ⟨ns, rfl, rfl, h1⟩
          rw [rgI_len] at h1
          obtain ⟨F8, S, e8, c8⟩ := S.frz 0 rfl
          walk_at "rd"
          refine ⟨Nat.zero_le _, s_own S fun sm H9 S => ?_⟩
          walk_at "rd"
          have E8 : Evl.Ex F4 F8 := e5.trans (e6.trans (e7.trans e8))
          have g1 := g1.ex E8
          have g2 := E8 _ _ g2
          have n1 := Evl.ex_l E8 n14
          have n2 := DpAll.ex E8 _ _ n24
          have hN : ∀ h ∈ left, ∀ o, o ∈ nearF NL h ↔ TiedW ties h o := fun h hh => lm h (ok.ok h hh).1 (ok.ok h hh).2
          clear n14 n24
          refine ⟨LI [p] H F F8 (fun _ σ' F' M' => ∃ (x10 x11 x12 : Option V) (c : List Int), σ' = [some (.ref p), some (.ref wa), some (.int most), some (.ref na), some (.ref l), some (.ref R), some (.int (0 + (i : Int))), some (.int sh), some (.ref D), some (.ref sm), x10, x11, x12, x13, none, none] ∧ M' = [(sm, .is (.lst (c.map V.int))), (R, .is (.lst xs)), (p, .pot)] ∧ Greedy ties left left.length c) 0, ?_, ?_⟩
          · walk_at "rd"
            refine ⟨l, rfl, ⟨_, by walk_at "hl"⟩, ?_⟩
            refine s_for (fun j σ' F' M' => ∃ (x10 x11 x12 : Option V) (c : List Int), σ' = [some (.ref p), some (.ref wa), some (.int most), some (.ref na), some (.ref l), some (.ref R), some (.int (0 + (i : Int))), some (.int sh), some (.ref D), some (.ref sm), x10, x11, x12, x13, none, none] ∧ M' = [(sm, .is (.lst (c.map V.int))), (R, .is (.lst xs)), (p, .pot)] ∧ Greedy ties left j c) (srcI (K := K) (ns := left) (SqL.of g2)) S ⟨_, _, _, [], rfl, rfl, List.Sublist.refl _, fun a ha => (by cases ha), fun h hh => by simp at hh⟩ (fun _ _ _ _ _ m hm => by cases hm) ?_ ?_
            · rintro j h x σ' F9 F10 H9 M' hj S e9 e10 rfl ⟨x10, x11, x12, c, rfl, rfl, gr⟩
              have hm := List.mem_of_getElem? hj
              have hb := ok.ok h hm
              have e910 := e9.trans e10
              obtain ⟨a, ai, sa⟩ := nearF_at (DpAll.ex e910 _ _ n2) hb.1 (by omega)
              have nl := nearF_le nof h
              have g2 := e910 _ _ g2
              have n1 := Evl.ex_l e910 n1
              have c8 := e910 _ _ c8
              have rh : atI (ns.map V.int) h = some (.int (ns.getD h.toNat 0)) := atI_int hb.1 (by omega)
              have cl := gr.sub.length_le
              rw [List.length_take] at cl
              walk_at "rd"
              refine ⟨a, rfl, ⟨_, by walk_at "hl"⟩, ?_⟩
              refine s_lcV (srcI (K := K) (ns := nearF NL h) sa) (fun o => decide (o ∈ left)) (fun o => .int o) S (by omega) (fun m hm => by cases hm) ?_ ?_
              · rintro q o x acc D3 F11 H11 vt S e11 rfl
                walk_at "rd"
                refine ⟨rfl, ?_⟩
                walk_at "rd"
                refine iteB (fun cc => ?_) (fun cc => ?_)
                · walk_at "rd"
                  exact vt.put S (by walk_at "ex") cc rfl
                · exact vt.skip S (by walk_at "ex") cc
              · intro D3 F11 H11 S e11
                obtain ⟨F12, S, e12, c12⟩ := S.frz 0 rfl
                have bm := fun x => besideL_mem hN (h := h) (x := x) hm
                have mm := fun x => metL_mem hN (h := h) (x := x) (c := c) hm
                have bl : ((nearF NL h).filter fun o => decide (o ∈ left)).length ≤ 4000 := Nat.le_trans (List.length_filter_le _ _) nl
                unfold metL besideL at mm
                unfold besideL at bm
                generalize (nearF NL h).filter (fun o => decide (o ∈ left)) = be at *
                walk_at "rd"
                refine ⟨D3, rfl, ⟨_, by walk_at "hl"⟩, ?_⟩
                refine s_lcV (srcI (K := K) (ns := be) (SqL.of c12)) (fun o => decide (o ∈ c)) (fun o => .int o) S (by omega) (fun m hm => by cases hm) ?_ ?_
                · rintro q o x acc D4 F13 H13 vt S e13 rfl
                  walk_at "rd"
                  refine ⟨rfl, ?_⟩
                  walk_at "rd"
                  refine iteB (fun cc => ?_) (fun cc => ?_)
                  · walk_at "rd"
                    exact vt.put S (by walk_at "ex") cc rfl
                  · exact vt.skip S (by walk_at "ex") cc
                · intro D4 F13 H13 S e13
                  obtain ⟨F14, S, e14, c14⟩ := S.frz 0 rfl
                  generalize be.filter (fun o => decide (o ∈ c)) = me at *
                  have c12 := (e13.trans e14) _ _ c12
                  have E14 : Evl.Ex F8 F14 := e910.trans ((e11.trans e12).trans (e13.trans e14))
                  have c8 := ((e11.trans e12).trans (e13.trans e14)) _ _ c8
                  have put : be = [] ∨ me = [] → ∀ x ∈ left, TiedW ties h x → x ∉ c := fun z x hx t hc => by
                    rcases z with z | z
                    · have := (bm x).2 ⟨hx, t⟩
                      rw [z] at this
                      cases this
                    · have := (mm x).2 ⟨⟨hx, t⟩, hc⟩
                      rw [z] at this
                      cases this
                  have skip : be ≠ [] → ∃ x ∈ left, TiedW ties h x := fun z => by
                    obtain ⟨x, hx⟩ := List.exists_mem_of_ne_nil _ z
                    exact ⟨x, (bm x).1 hx⟩
                  walk_at "rd"
                  refine ⟨Nat.zero_le _, s_new S fun z1 F15 H15 S e15 cz1 => ?_⟩
                  refine r_eqInts (a := be) (b := []) (by walk_at "hl") (by walk_at "hl") ?_
                  walk_at "rd"
                  refine iteB (fun k1 => ?_) (fun k1 => ?_)
                  · walk_at "rd"
                    refine ⟨tyL (SqL.of (S.rdM 0 rfl)), ?_⟩
                    walk_at "rd"
                    refine s_app S 0 rfl (by rw [List.length_map]; omega) fun H16 S => ?_
                    exact ⟨_, _, S, E14.trans e15, _, _, _, c ++ [h], rfl, by rw [List.map_append]; rfl, gr.snoc ut hj (put (.inl (of_decide_eq_true k1)))⟩
                  · have k1 : be ≠ [] := of_decide_eq_false k1
                    walk_at "rd"
                    refine ⟨Nat.zero_le _, s_new S fun z2 F16 H16 S e16 cz2 => ?_⟩
                    refine r_eqInts (a := me) (b := []) (by walk_at "hl") (by walk_at "hl") ?_
                    walk_at "rd"
                    refine iteB (fun k2 => ?_) (fun k2 => ?_)
                    · walk_at "rd"
                      refine iteB (fun k3 => ?_) (fun k3 => ?_)
                      · walk_at "rd"
                        refine ⟨tyL (SqL.of (S.rdM 0 rfl)), ?_⟩
                        walk_at "rd"
                        refine s_app S 0 rfl (by rw [List.length_map]; omega) fun H17 S => ?_
                        exact ⟨_, _, S, E14.trans (e15.trans e16), _, _, _, c ++ [h], rfl, by rw [List.map_append]; rfl, gr.snoc ut hj (put (.inr (of_decide_eq_true k2)))⟩
                      · walk_at "rd"
                        exact ⟨_, _, S, E14.trans (e15.trans e16), _, _, _, c, rfl, rfl, gr.skip hj (skip k1)⟩
                    · walk_at "rd"
                      exact ⟨_, _, S, E14.trans (e15.trans e16), _, _, _, c, rfl, rfl, gr.skip hj (skip k1)⟩
            · rintro σ' F9 H9 M' S e9 ⟨x10, x11, x12, c, rfl, rfl, gr⟩
              exact ⟨_, _, S, e9, _, _, _, c, rfl, rfl, gr⟩
          · rintro σ' H9 ⟨F9, M', S, e9, x10, x11, x12, c, rfl, rfl, gr⟩
            obtain ⟨F10, S, e10, c10⟩ := S.frz 0 rfl
            have e910 := e9.trans e10
            have g1 := g1.ex e910
            have g2 := e910 _ _ g2
            have n1 := Evl.ex_l e910 n1
            have n2 := DpAll.ex e910 _ _ n2
            have csub : ∀ h ∈ c, h ∈ left := fun h hh => List.mem_of_mem_take (gr.sub.subset hh)
            have cup : c.Pairwise (· < ·) := ok.up.sublist (gr.sub.trans (List.take_sublist _ _))
            have okc : SetOk many c := ⟨cup, fun h hh => ok.ok h (csub h hh)⟩
            have c60 := okc.len w2
            have gnear := gr.near
            rw [List.take_length] at gnear
            have may : mayB ties left c = true := (mayB_iff ut ok.up cup).mpr ⟨csub, gnear, fun h _ hc x _ t => fun z => gr.apart h hc x z t⟩
            have outE : lawOut (nearF NL) left c = outBy ties left c := lawOut_eq ut hN csub gr.apart
            walk_at "rd"
            refine ⟨l, rfl, ⟨_, by walk_at "hl"⟩, ?_⟩
            refine s_lcV (srcI (K := K) (ns := left) (SqL.of g2)) (fun h => !decide (h ∈ c) && !((nearF NL h).filter fun o => decide (o ∈ c)).isEmpty) (fun h => .int h) S (by omega) (fun m hm => by cases hm) ?_ ?_
            · rintro j h x acc D3 F11 H11 vt S e11 rfl
              have hm := List.mem_of_getElem? vt.at'
              have hb := ok.ok h hm
              obtain ⟨a, ai, sa⟩ := nearF_at (DpAll.ex e11 _ _ n2) hb.1 (by omega)
              have nl := nearF_le nof h
              have n1 := Evl.ex_l e11 n1
              have c10 := e11 _ _ c10
              walk_at "rd"
              refine ⟨rfl, ?_⟩
              walk_at "rd"
              refine iteB (fun k1 => ?_) (fun k1 => ?_)
              · walk_at "rd"
                refine ⟨a, rfl, ⟨_, by walk_at "hl"⟩, ?_⟩
                refine s_lcV (srcI (K := K) (ns := nearF NL h) sa) (fun o => decide (o ∈ c)) (fun o => .int o) S (by omega) (fun m hm => by cases hm) ?_ ?_
                · rintro q o x acc D4 F12 H12 vt S e12 rfl
                  walk_at "rd"
                  refine ⟨rfl, ?_⟩
                  walk_at "rd"
                  refine iteB (fun cc => ?_) (fun cc => ?_)
                  · walk_at "rd"
                    exact vt.put S (by walk_at "ex") cc rfl
                  · exact vt.skip S (by walk_at "ex") cc
                · intro D4 F12 H12 S e12
                  obtain ⟨F13, S, e13, c13⟩ := S.frz 0 rfl
                  walk_at "rd"
                  refine ⟨Nat.zero_le _, s_new S fun z1 F14 H14 S e14 cz1 => ?_⟩
                  refine r_neNil (ns := (nearF NL h).filter fun o => decide (o ∈ c)) (by walk_at "hl") (by walk_at "hl") ?_
                  walk_at "rd"
                  refine iteB (fun k2 => ?_) (fun k2 => ?_)
                  · walk_at "rd"
                    exact vt.put S (by walk_at "ex") (by rw [k1, k2]; rfl) rfl
                  · exact vt.skip S (by walk_at "ex") (by rw [k2, Bool.and_false])
              · exact vt.skip S (by walk_at "ex") (by rw [k1, Bool.false_and])
            · intro D3 F11 H11 S e11
              obtain ⟨F12, S, e12, c12⟩ := S.frz 0 rfl
              rw [show (left.filter fun h => !decide (h ∈ c) && !((nearF NL h).filter fun o => decide (o ∈ c)).isEmpty) = outBy ties left c from outE] at c12
              have oko : SetOk many (outBy ties left c) := ⟨outBy_up ok.up, fun h hh => ok.ok h (outBy_sub h hh)⟩
              have o60 := oko.len w2
              generalize eo : outBy ties left c = o at *
              walk_at "rd"
              refine ⟨tyL (SqL.of (S.rdM 0 rfl)), ?_⟩
              walk_at "rd"
              refine ⟨(by show 2 ≤ sizeLine; decide), s_new S fun t F13 H13 S e13 ct => ?_⟩
              walk_at "rd"
              refine s_app S 0 rfl (by omega) fun H14 S => ?_
              have E13 : Evl.Ex F10 F13 := e11.trans (e12.trans e13)
              have g1 := g1.ex E13
              have g2 := E13 _ _ g2
              have c10 := E13 _ _ c10
              have c12 := e13 _ _ c12
              walk_at "rd"
              refine ⟨l, rfl, ⟨_, by walk_at "hl"⟩, ?_⟩
              refine s_lcV (srcI (K := K) (ns := left) (SqL.of g2)) (fun h => !decide (h ∈ c ++ o)) (fun h => .int h) S (by omega) (fun m hm => by cases hm) ?_ ?_
              · rintro j h x acc D4 F14 H15 vt S e14 rfl
                walk_at "rd"
                refine ⟨rfl, ?_⟩
                walk_at "rd"
                refine s_cat (S.fr _ _ (e14 _ _ c10)) (S.fr _ _ (e14 _ _ c12)) (by rw [List.length_map, List.length_map]; omega) (s_new S fun q F15 H16 S e15 cq => ?_)
                rw [← List.map_append] at cq
                walk_at "rd"
                refine iteB (fun ch => ?_) (fun ch => ?_)
                · walk_at "rd"
                  exact vt.put S (by walk_at "ex") ch rfl
                · exact vt.skip S (by walk_at "ex") ch
              · intro D4 F14 H15 S e14
                obtain ⟨F15, S, e15, c15⟩ := S.frz 0 rfl
                walk_at "rd"
                have e145 := e14.trans e15
                refine ⟨_, _, S, e4.trans (E8.trans (e910.trans (E13.trans e145))), _, _, _, _, _, _, _, _, D4, behind left c o, xs ++ [.ref t], rs ++ [(c, o)], rfl, rfl, RowsV.app (g1.ex e145) ⟨⟨t, sm, D3, rfl, e145 _ _ ct, e145 _ _ c10, e145 _ _ c12⟩, trivial⟩, c15, ⟨behind_up ok.up, fun h hh => ok.ok h (behind_sub h hh)⟩, RowsV.mem_ok g3 (fun r hr => by rw [List.mem_singleton.mp hr]; exact ⟨okc, oko⟩), by rw [List.length_append]; show _ + 1 ≤ _; omega, fun X e => ?_⟩
                rw [List.append_assoc, g5]
                show isRunB ties left ((c, o) :: X) e = _
                rw [isRunB]
                simp only
                rw [may, eo, decide_eq_true rfl]
                cases left with
                | nil => exact absurd rfl ne
                | cons _ _ => simp
      · walk_at "rd"
        exact ⟨_, _, S, by walk_at "ex", _, _, _, _, _, _, _, _, l, left, xs, rs, rfl, rfl, g1.ex e5, e5 _ _ g2, ok, g3, by omega, g5⟩
    · rintro σ' F4 H5 M' S e4 ⟨x6, x7, x8, x9, x10, x11, x12, x13, l, left, xs, rs, rfl, rfl, g1, g2, ok, g3, g4, g5⟩
      obtain ⟨F5, S, e5, cR⟩ := S.frz 0 rfl
      walk_at "rd"
      refine ⟨(by show 2 ≤ sizeLine; decide), s_new S fun T F6 H6 S e6 cT => ?_⟩
      refine k _ [] _ _ S ⟨rfl, T, R, l, xs, rs, left, rfl, cT, e6 _ _ cR, g1.ex (e5.trans e6), (e5.trans e6) _ _ g2, ⟨g3, ok⟩, by omega, ?_⟩
      have := g5 [] left
      rw [List.append_nil] at this
      rw [this, isRunB]
      exact decide_eq_true rfl

end

end
section
local macro_rules | `(tactic| walk_at "ex") => `(tactic| first | exact Evl.Ex.refl _ | assumption | ((refine' Evl.Ex.trans ?x ?y); (case y => assumption); (case x => walk_at "ex")))
local macro_rules | `(tactic| walk_at "hc") => `(tactic| first
  | assumption
  | ((refine' Sep.rdM ?S 0 ?k); (case S => assumption); (case k => exact rfl)) | ((refine' Sep.rdM ?S 1 ?k); (case S => assumption); (case k => exact rfl)) | ((refine' Sep.rdM ?S 2 ?k); (case S => assumption); (case k => exact rfl)) | ((refine' Sep.rdM ?S 3 ?k); (case S => assumption); (case k => exact rfl)) | ((refine' Sep.rdM ?S 4 ?k); (case S => assumption); (case k => exact rfl))
  | ((refine' Sep.rdC ?S ?e ?h); (case S => assumption); (case h => assumption); (case e => walk_at "ex")))
local macro_rules | `(tactic| walk_at "hl") => `(tactic| first
  | assumption
  | ((refine' SqL.of (Sep.rdM ?S 0 ?k)); (case S => assumption); (case k => exact rfl)) | ((refine' SqL.of (Sep.rdM ?S 1 ?k)); (case S => assumption); (case k => exact rfl)) | ((refine' SqL.of (Sep.rdM ?S 2 ?k)); (case S => assumption); (case k => exact rfl)) | ((refine' SqL.of (Sep.rdM ?S 3 ?k)); (case S => assumption); (case k => exact rfl)) | ((refine' SqL.of (Sep.rdM ?S 4 ?k)); (case S => assumption); (case k => exact rfl))
  | ((refine' Sep.rdL ?S ?e ?h); (case S => assumption); (case h => assumption); (case e => walk_at "ex"))
  | ((refine' Sep.rdT ?S ?e ?h); (case S => assumption); (case h => assumption); (case e => walk_at "ex"))
  | ((refine' SqL.of (Sep.rdC ?S ?e ?h)); (case S => assumption); (case h => assumption); (case e => walk_at "ex"))
  | ((refine' SqT.of (Sep.rdC ?S ?e ?h)); (case S => assumption); (case h => assumption); (case e => walk_at "ex"))
  | ((refine' SqL.of ?h); (case h => assumption)) | ((refine' SqT.of ?h); (case h => assumption))
  | ((refine' Evl.ex_l ?e ?h); (case h => assumption); (case e => walk_at "ex")) | ((refine' Evl.ex_t ?e ?h); (case h => assumption); (case e => walk_at "ex"))
  | ((refine' SqL.of (?e _ _ ?h)); (case h => assumption); (case e => walk_at "ex")) | ((refine' SqT.of (?e _ _ ?h)); (case h => assumption); (case e => walk_at "ex")))
local macro_rules | `(tactic| walk_at "hs") => `(tactic| walk_at "hc")
local macro_rules | `(tactic| walk_at "dp") => `(tactic| first
  | assumption
  | ((refine' Sep.rdD ?S ?e ?h); (case S => assumption); (case h => assumption); (case e => walk_at "ex"))
  | ((refine' Dp.ex ?e _ _ ?h); (case h => assumption); (case e => walk_at "ex"))
  | ((refine' DpAll.ex ?e _ _ ?h); (case h => assumption); (case e => walk_at "ex"))
  | (refine' dp_intsD ?h; (case h => walk_at "hl")))
local macro_rules | `(tactic| walk_at "rd1") => `(tactic| (first
  | (with_reducible refine r_seq ?_)
  | (with_reducible refine r_asg ?_)
  | (with_reducible refine r_asgG ?_)
  | (with_reducible refine r_par ?_)
  | (with_reducible refine r_if ?_)
  | (with_reducible refine r_ret ?_)
  | (with_reducible refine r_drop ?_)
  | (with_reducible refine r_next ?_)
  | ((with_reducible refine' r_var ?hx ?_); (case hx => exact rfl))
  | (with_reducible refine r_c ?_)
  | (with_reducible refine r_op ?_)
  | (with_reducible refine r_un ?_)
  | (with_reducible refine r_I0 ?_)
  | ((with_reducible refine' r_I ?_ ?_); (· first | (show (0 : Int) < _; omega) | exact Or.inr ⟨by omega, by omega⟩ | exact Or.inl ⟨by omega, by omega⟩ | exact ⟨by omega, by omega, by decide⟩))
  | (with_reducible refine r_U ?_)
  | (with_reducible refine r_test ?_)
  | (with_reducible refine r_B ?_)
  | (with_reducible refine r_bl ?_)
  | (with_reducible refine r_eqI ?_)
  | (with_reducible refine r_neI ?_)
  | ((with_reducible refine' r_eq ?_ ?_); (· exact rfl))
  | ((with_reducible refine' r_ne ?_ ?_); (· exact rfl))
  | (with_reducible refine r_nil ?_)
  | (with_reducible refine r_cons ?_)
  | (with_reducible refine s_tup ?_)
  | (with_reducible refine s_lst ?_)
  | (with_reducible refine r_call ?_)
  | (with_reducible refine r_cb ?_)
  | (with_reducible refine r_and ?_)
  | (with_reducible refine r_or ?_)
  | (with_reducible refine r_not ?_)
  | (with_reducible refine r_andV ?_)
  | (with_reducible refine r_orV ?_)
  | (with_reducible refine r_notV ?_)
  | (with_reducible refine r_ifE ?_)
  | (with_reducible refine r_gSub ?_)
  | (with_reducible refine r_sadd ?_)
  | (with_reducible refine s_lstRg ?_)
  | (with_reducible refine r_rg1 ?_)
  | (with_reducible refine r_min2 ?_)
  | (with_reducible refine r_par2 ?_)
  | (with_reducible refine r_partI ?_)
  | (with_reducible refine s_lc ?_)
  | (with_reducible refine s_dc ?_)
  | (with_reducible refine r_yes ?_)
  | (with_reducible refine r_iZipA ?_)
  | (with_reducible refine r_isN ?_)
  | (with_reducible refine r_for ?_)
  | (with_reducible refine r_iList ?_)
  | (with_reducible refine r_iTup ?_)
  | (with_reducible refine r_iRng1 ?_)
  | (with_reducible refine r_iRng2 ?_)
  | (with_reducible refine r_iEnum ?_)
  | (with_reducible refine r_iZip ?_)
  | (with_reducible refine r_gName ?_)
  | (with_reducible refine r_isNV ?_)
  | (with_reducible refine r_notNV ?_)
  | (with_reducible refine r_bm ?_)
  | (with_reducible refine r_bm0 ?_)
  | (with_reducible refine r_sl ?_)
  | (with_reducible refine r_noPart ?_)
  | (with_reducible refine r_part ?_)
  | (with_reducible refine r_chain ?_)
  | (with_reducible refine r_iKeys ?_)
  | (with_reducible refine r_iItems ?_)
  | (with_reducible refine r_frz ?_)
  | (with_reducible refine r_dput ?_)
  | (with_reducible refine r_dget ?_)
  | (with_reducible refine r_din ?_)
  | (with_reducible refine r_dnotin ?_)
  | (with_reducible refine r_break ?_)
  | ((with_reducible refine' r_sIn ?h ?_); (case h => walk_at "hs"))
  | ((with_reducible refine' r_sNotIn ?h ?_); (case h => walk_at "hs"))
  | ((with_reducible refine' r_inI ?h ?_); (case h => walk_at "hl"))
  | ((with_reducible refine' r_notInI ?h ?_); (case h => walk_at "hl"))
  | ((with_reducible refine' r_eqNil ?h ?g ?_); (case h => walk_at "hl"); (case g => walk_at "hl"))
  | ((with_reducible refine' r_neNil ?h ?g ?_); (case h => walk_at "hl"); (case g => walk_at "hl"))
  | ((with_reducible refine' iteRT ?hh ?_); (case hh => exact rfl))
  | ((with_reducible refine' iteRF ?hh ?_); (case hh => exact rfl))
  | ((with_reducible refine' r_isiT ?ty ?hk ?_); (case ty => (first | assumption | exact tyx_L (by assumption) | exact tyx_T (by assumption) | exact .base (.non) | exact .base (.bl _) | exact .base (.int _) | exact .base (.str _) | exact tyx_L (by walk_at "hl") | exact tyx_T (by walk_at "hl"))); (case hk => decide +kernel))
  | ((with_reducible refine' r_isiF ?ty ?hk ?_); (case ty => (first | assumption | exact tyx_L (by assumption) | exact tyx_T (by assumption) | exact .base (.non) | exact .base (.bl _) | exact .base (.int _) | exact .base (.str _) | exact tyx_L (by walk_at "hl") | exact tyx_T (by walk_at "hl"))); (case hk => decide +kernel))
  | ((with_reducible refine' r_gTup2 ?hn ?hs ?_); (case hn => exact rfl); (case hs => walk_at "hl"))
  | ((with_reducible refine' s_list ?hl ?_); (case hl => first | exact Or.inl (by walk_at "hl") | exact Or.inr (by walk_at "hl")))
  | ((with_reducible refine' s_tupN ?hl ?_); (case hl => walk_at "hl"))
  | ((with_reducible refine' s_sortN ?hl ?_); (case hl => walk_at "hl"))
  | ((refine' ⟨_, _, rfl, ?hl, ?_⟩); (case hl => first | exact Or.inl (by walk_at "hl") | exact Or.inr (by walk_at "hl")))
  | ((with_reducible refine' r_ixL ?hl ?ha ?_); (case hl => walk_at "hl"); (case ha => first | exact rfl | assumption))
  | ((with_reducible refine' r_ixT ?hl ?ha ?_); (case hl => walk_at "hl"); (case ha => first | exact rfl | assumption))))
local macro_rules | `(tactic| walk_at "rd") => `(tactic| repeat (walk_at "rd1"))

section
variable {P : Program} {w : World} {K : PySem.W.Frag} {mg : Str → Option Value} {base : Heap}

theorem shaped_handed (rs : List (List Int × List Int)) (left : List Int) : SeqAt.shaped (.list [.list (rs.map roundD), intsD left]) = true := by
  have h0 : ∀ l : List Int, PyData.canLayAll0 (l.map PyData.int) = true := fun l => by
    induction l with
    | nil => rfl
    | cons x r ih => simp [PyData.canLayAll0, PyData.canLay0, ih]
  have h1 : PyData.canLayAll0 (rs.map roundD) = true := by
    induction rs with
    | nil => rfl
    | cons x r ih =>
      have a := h0 x.1
      have b := h0 x.2
      simp [PyData.canLayAll0, PyData.canLay0, intsD, roundD, ih, a, b] at *
  have h2 : (PyData.list [.list (rs.map roundD), intsD left]).depth ≤ 4 := by
    have a := rounds_depth rs
    have b := ints_depth left
    rw [PyData.depth]
    have : PyData.depthAll [.list (rs.map roundD), intsD left] ≤ 3 := depthAll_le fun d hd => by
      rcases List.mem_cons.mp hd with rfl | hd
      · exact a
      · rw [List.mem_singleton.mp hd]; omega
    omega
  have h3 := h0 left
  have h4 : PyData.canLay0 (.list [.list (rs.map roundD), intsD left]) = true := by
    simp [PyData.canLay0, PyData.canLayAll0, h1, intsD, h3]
  unfold SeqAt.shaped
  rw [h4]
  simp
  omega
def RunV (F : Hp) (v : V) (rs : List (List Int × List Int)) (e : List Int) : Prop := ∃ T R L xs, v = .ref T ∧ F T = some (.tup [.ref R, .ref L]) ∧ F R = some (.lst xs) ∧ RowsV F xs rs ∧ F L = some (.lst (e.map V.int))
theorem RunRaw.runV {F : Hp} {v : V} {rs : List (List Int × List Int)} {e : List Int} (h : RunRaw F v rs e) : RunV F v rs e := by
  obtain ⟨T, R, L, ts, cs, os, h1, h2, h3, h4, h5⟩ := h
  exact ⟨T, R, L, _, h1, h2, h3, h5.vals, h4⟩
theorem RunV.ex {F F' : Hp} {v : V} {rs : List (List Int × List Int)} {e : List Int} (h : RunV F v rs e) (x : Evl.Ex F F') : RunV F' v rs e := by
  obtain ⟨T, R, L, xs, h1, h2, h3, h4, h5⟩ := h
  exact ⟨T, R, L, xs, h1, x _ _ h2, x _ _ h3, h4.ex x, x _ _ h5⟩
theorem RowsOk.le {many : Int} {rs : List (List Int × List Int)} {e : List Int} (h : RowsOk many rs e) (h60 : many ≤ 60) : ∀ r ∈ rs, r.1.length ≤ 400 ∧ r.2.length ≤ 400 := fun r hr => by
  have a := (h.rows r hr).1.len h60
  have b := (h.rows r hr).2.len h60
  omega
def sp_law (K : PySem.W.Frag) : Sp := fun vs H Q _ => ∃ (a : Addr) (ns : List Int), vs = [.ref a] ∧ SqL K H a (ns.map V.int) ∧ ns.length ≤ 63 ∧ ∀ H', Q (.bl true) H'
theorem ok_law {f : Addr} {fd : FuncData} (T : Env K mg) (F : Fun K "law" "law" s_law f fd) : FnOk P w K mg base CX0 10 f fd ["script"] (sp_law K) := by
  have nd := sc_law.nd
  have G__law_pot : FnOk P w K mg base CX0 1 T.a__law_pot T.fd__law_pot ["script"] (SpF (A_pot K) B_pot) := ok_l_pot T
  have G__law_drawn_web : FnOk P w K mg base CX0 5 T.a__law_drawn_web T.fd__law_drawn_web ["pot", "most"] (SpP A_web (B_web K)) := ok_l_drawn_web T
  have G__law_pick : FnOk P w K mg base CX0 2 T.a__law_pick T.fd__law_pick ["pot", "many"] (SpP A_pick B_pick) := ok_l_pick T
  have G__law_run : FnOk P w K mg base CX0 2 T.a__law_run T.fd__law_run ["web", "draws"] (SpF (A_runby K) B_lrun) := ok_l_run T
  have G__law_may_run : FnOk P w K mg base CX0 3 T.a__law_may_run T.fd__law_may_run ["pot", "web", "most"] (SpP (A_mrun K) B_mrun) := ok_l_may_run T
  have G__law_bent_run : FnOk P w K mg base CX0 4 T.a__law_bent_run T.fd__law_bent_run ["pot", "web", "rounds", "left"] (SpP (A_brun K) B_brun) := ok_l_bent_run T
  have G__law_draws : FnOk P w K mg base CX0 3 T.a__law_draws T.fd__law_draws ["pot", "many", "most"] (SpP A_draws (B_draws K)) := ok_l_draws T
  have G_is_run : FnOk P w K mg base CX0 2 T.a_is_run T.fd_is_run ["web", "rounds", "left"] (SpF (A_isrun K) B_isrun) := ok_is_run T
  have G__law_copy : FnOk P w K mg base CX0 1 T.a__law_copy T.fd__law_copy ["rounds"] (SpF (A_copy K) (B_copy K)) := ok_l_copy T
  have G__law_same : FnOk P w K mg base CX0 8 T.a__law_same T.fd__law_same ["found", "due"] (SpF (A_same K 7) B_same) := ok_l_same T
  have G__law_is_run : FnOk P w K mg base CX0 2 T.a__law_is_run T.fd__law_is_run ["web", "rounds", "left"] (SpF (A_lisrun K) B_isrun) := ok_l_is_run T
  refine F.ok sc_law (fun vs H Q E h => ?_) (fun cdv A outer s H vs Q E hr h => ?_)
  · obtain ⟨a, ns, rfl, _⟩ := h
    rfl
  · obtain ⟨a, ns, rfl, hS, hn, k⟩ := h
    have S := Sep.start0 (Evl.Ex.refl H)
    refine ⟨_, (pss_cons (ps_set (i := 1) nd rfl (.inl rfl) (pe_call G__law_pot (hr.mono (by decide)) (by rfl) T.g__law_pot T.F__law_pot.kp T.b__law_pot .nil pass0 (pa_cons (pv 0) pa_nil)))
      (pss_cons (ps_for PassesOwn.never rfl (pi_range1 (by rfl) T.n_range (pa_cons pe_int pa_nil)) (pg_name (i := 2) nd rfl (.inl rfl)) (pss_cons (ps_set (i := 3) nd rfl (.inl rfl) (pe_call G__law_drawn_web (hr.mono (by decide)) (by rfl) T.g__law_drawn_web T.F__law_drawn_web.kp T.b__law_drawn_web .nil pass0 (pa_cons (pv 1) (pa_cons (pe_ix ix_list (pe_lst (pa_cons pe_int (pa_cons pe_int (pa_cons pe_int pa_nil)))) (pv 2) (fun _ _ => rfl)) pa_nil))))
      (pss_cons (ps_set (i := 4) nd rfl (.inl rfl) (pe_call G__law_pick (hr.mono (by decide)) (by rfl) T.g__law_pick T.F__law_pick.kp T.b__law_pick .nil pass0 (pa_cons (pv 1) (pa_cons pe_int pa_nil))))
      (pss_cons (ps_set (i := 5) nd rfl (.inl rfl) (pe_lst (pa_cons (pe_call G__law_run (hr.mono (by decide)) (by rfl) T.g__law_run T.F__law_run.kp T.b__law_run .nil pass0 (pa_cons (pv 3) (pa_cons (pe_call G__law_draws (hr.mono (by decide)) (by rfl) T.g__law_draws T.F__law_draws.kp T.b__law_draws .nil pass0 (pa_cons (pv 1) (pa_cons (pe_ix ix_tup (pv 3) pe_int (fun _ _ => rfl)) (pa_cons pe_int pa_nil)))) pa_nil))) (pa_cons (pe_call G__law_may_run (hr.mono (by decide)) (by rfl) T.g__law_may_run T.F__law_may_run.kp T.b__law_may_run .nil pass0 (pa_cons (pv 1) (pa_cons (pv 3) (pa_cons pe_int pa_nil)))) pa_nil))))
      (Evl.pss_cut (ps_if (PW.pt (pw_or (pt_cmpR op_notBl (pe_call G_is_run (hr.mono (by decide)) (by rfl) T.g_is_run T.F_is_run.kp T.b_is_run .nil pass0 (pa_cons (pv 3) (pa_cons (pe_ix ix_tup (pe_ix ix_list (pv 5) pe_int (fun _ _ => rfl)) pe_int (fun _ _ => rfl)) (pa_cons (pe_ix ix_tup (pe_ix ix_list (pv 5) pe_int (fun _ _ => rfl)) pe_int (fun _ _ => rfl)) pa_nil)))) pe_bl (nomark _)) (pw_or1 (pt_cmpR op_notBl (pe_call G_is_run (hr.mono (by decide)) (by rfl) T.g_is_run T.F_is_run.kp T.b_is_run .nil pass0 (pa_cons (pv 3) (pa_cons (pe_ix ix_tup (pe_ix ix_list (pv 5) pe_int (fun _ _ => rfl)) pe_int (fun _ _ => rfl)) (pa_cons (pe_ix ix_tup (pe_ix ix_list (pv 5) pe_int (fun _ _ => rfl)) pe_int (fun _ _ => rfl)) pa_nil)))) pe_bl (nomark _))))) (pss_one (ps_ret pe_bl)) pss_nil)
      (pss_one (ps_for PassesOwn.never rfl (pi_range1 (by rfl) T.n_range (pa_cons (pe_ix ix_list (pe_lst (pa_cons pe_int (pa_cons pe_int (pa_cons pe_int pa_nil)))) (pv 2) (fun _ _ => rfl)) pa_nil)) (pg_name (i := 6) nd rfl (.inl rfl)) (pss_cons (ps_asg (pe_ix ix_list (pv 5) (pe_op op_mod (pv 6) pe_int) (fun _ _ => rfl)) (pg_tup rfl (pgs_cons (pg_name (i := 7) nd rfl (.inl rfl)) (pgs_cons (pg_name (i := 8) nd rfl (.inl rfl)) pgs_nil))))
      (pss_cons (ps_asg (pe_call G__law_bent_run (hr.mono (by decide)) (by rfl) T.g__law_bent_run T.F__law_bent_run.kp T.b__law_bent_run .nil pass0 (pa_cons (pv 1) (pa_cons (pv 3) (pa_cons (pe_call G__law_copy (hr.mono (by decide)) (by rfl) T.g__law_copy T.F__law_copy.kp T.b__law_copy .nil pass0 (pa_cons (pv 7) pa_nil)) (pa_cons (pe_callTy call_listN (by rfl) T.n_list (by decide +kernel) (pa_cons (pv 8) pa_nil)) pa_nil))))) (pg_tup rfl (pgs_cons (pg_name (i := 7) nd rfl (.inl rfl)) (pgs_cons (pg_name (i := 8) nd rfl (.inl rfl)) pgs_nil))))
      (Evl.pss_cut (ps_if (pt_cmpR op_eq (pe_call G__law_pick (hr.mono (by decide)) (by rfl) T.g__law_pick T.F__law_pick.kp T.b__law_pick .nil pass0 (pa_cons (pv 1) (pa_cons pe_int pa_nil))) pe_int (nomark _)) (pss_one (ps_asg (pe_call G__law_bent_run (hr.mono (by decide)) (by rfl) T.g__law_bent_run T.F__law_bent_run.kp T.b__law_bent_run .nil pass0 (pa_cons (pv 1) (pa_cons (pv 3) (pa_cons (pv 7) (pa_cons (pv 8) pa_nil))))) (pg_tup rfl (pgs_cons (pg_name (i := 7) nd rfl (.inl rfl)) (pgs_cons (pg_name (i := 8) nd rfl (.inl rfl)) pgs_nil))))) pss_nil)
      (pss_cons (ps_set (i := 7) nd rfl (.inl rfl) (pe_op op_cat (pe_op op_repN (pe_lst (pa_cons (pe_tup (pa_cons (pe_lst pa_nil) (pa_cons (pe_lst pa_nil) pa_nil))) pa_nil)) (pe_op op_mul (pv 4) (pe_callTy call_int1 (by rfl) T.n_int (by decide +kernel) (pa_cons (pe_cmpR op_eq (pe_op op_mod (pv 6) pe_int) pe_int (nomark _)) pa_nil)))) (pv 7)))
      (pss_cons (ps_set (i := 9) nd rfl (.inl rfl) (pe_lst (pa_cons (pe_call G__law_copy (hr.mono (by decide)) (by rfl) T.g__law_copy T.F__law_copy.kp T.b__law_copy .nil pass0 (pa_cons (pv 7) pa_nil)) (pa_cons (pe_callTy call_listN (by rfl) T.n_list (by decide +kernel) (pa_cons (pv 8) pa_nil)) pa_nil))))
      (pss_cons (ps_if (pt_not (pt_val (pe_call G__law_same (hr.mono (by decide)) (by rfl) T.g__law_same T.F__law_same.kp T.b__law_same .nil pass0 (pa_cons (pe_call G_is_run (hr.mono (by decide)) (by rfl) T.g_is_run T.F_is_run.kp T.b_is_run .nil pass0 (pa_cons (pv 3) (pa_cons (pe_ix ix_list (pv 9) pe_int (fun _ _ => rfl)) (pa_cons (pe_ix ix_list (pv 9) pe_int (fun _ _ => rfl)) pa_nil)))) (pa_cons (pe_call G__law_is_run (hr.mono (by decide)) (by rfl) T.g__law_is_run T.F__law_is_run.kp T.b__law_is_run .nil pass0 (pa_cons (pv 3) (pa_cons (pv 7) (pa_cons (pv 8) pa_nil)))) pa_nil))))) (pss_one (ps_ret pe_bl)) pss_nil)
      (pss_one (ps_if (pt_cmpR (op_neD hr.units) (pv 9) (pe_lst (pa_cons (pv 7) (pa_cons (pv 8) pa_nil))) (nomark _)) (pss_one (ps_ret pe_bl)) pss_nil)))))))))))))))
      (pss_one (ps_ret pe_bl)))), ?_⟩
    walk_at "rd"
    refine r_callF S ns ⟨a, rfl, hS, hn⟩ ?_
    rintro v N F1 H1 S e1 ⟨p, rfl, rfl⟩
    walk_at "rd"
    refine ⟨3, rfl, by omega, by omega, ?_⟩
    refine s_forR (fun i σ' F' M' => ∃ x2 x3 x4 x5 x6 x7 x8 x9 : Option V, σ' = [some (.ref a), some (.ref p), x2, x3, x4, x5, x6, x7, x8, x9] ∧ M' = [(p, .pot)]) S ⟨none, none, none, none, none, none, none, none, rfl, rfl⟩ ?_ ?_
    · rintro i σ' F2 H2 M' hi S e2 ⟨x2, x3, x4, x5, x6, x7, x8, x9, rfl, rfl⟩
      obtain ⟨u, hu, hu1, hu2, u2, hv, hv1, hv2⟩ : ∃ u : Int, atI [V.int 60, V.int 12, V.int 12] (0 + (i : Int)) = some (.int u) ∧ 1 ≤ u ∧ u ≤ 60 ∧ ∃ u2 : Int, atI [V.int 4, V.int 10, V.int 10] (0 + (i : Int)) = some (.int u2) ∧ 1 ≤ u2 ∧ u2 ≤ 60 := by
        have hi : i < 3 := hi
        rcases (show i = 0 ∨ i = 1 ∨ i = 2 by omega) with e | e | e <;> subst e
        · exact ⟨60, rfl, by omega, by omega, 4, rfl, by omega, by omega⟩
        · exact ⟨12, rfl, by omega, by omega, 10, rfl, by omega, by omega⟩
        · exact ⟨12, rfl, by omega, by omega, 10, rfl, by omega, by omega⟩
      walk_at "rd"
      refine ⟨(by show 3 ≤ sizeLine; decide), s_new S fun l1 F3 H3 S e3 c1 => ?_⟩
      walk_at "rd"
      refine r_callP S 0 rfl u ⟨rfl, hu1, hu2⟩ fun v N F4 H4 S e4 ⟨z, many, ties, hm, W, hw⟩ => ?_
      subst z
      have w1 := W.lo
      have w2 := W.hi
      have tl := W.few
      have ut : UpT ties := fun t ht => (W.ok t ht).2.1
      have hw0 := hw
      obtain ⟨wa, wb, ws, rfl, q1, q2, q3⟩ := webD_at hw
      walk_at "rd"
      refine r_callP S 0 rfl 50 ⟨rfl, by omega, small_up (by omega) (by omega)⟩ fun v N F5 H5 S e5 ⟨z, qu, ev, hq0, hq1⟩ => ?_
      subst z ev
      have q1 := Evl.ex_t e5 q1
      walk_at "rd"
      refine r_callP S 0 rfl (many, 5) ⟨rfl, by omega, by omega, by omega, by omega⟩ ?_
      rintro v N F6 H6 S e6 ⟨dq, dx, ds, rfl, rfl, dd, dok, dl⟩
      obtain ⟨F7, S, e7, c7⟩ := S.frz 0 rfl
      have w7 := Dp.ex (e5.trans (e6.trans e7)) _ _ hw0
      walk_at "rd"
      refine r_callF S (many, ties, ds) ⟨_, _, rfl, w7, W, tl, .lst (SqL.of c7) (DpAll.ex e7 _ _ dd), dok.len, by omega⟩ ?_
      rintro v0 N F8 H8 S e8 ⟨rfl, raw⟩
      have w8 := Dp.ex e8 _ _ w7
      walk_at "rd"
      refine r_callP S 0 rfl (many, ties, 5) ⟨_, rfl, w8, W, by omega, by omega⟩ ?_
      rintro v1 N F9 H9 S e9 ⟨rfl, T1, R1, L1, xs1, rs1, le1, rfl, cT1, cR1, cx1, cL1, ok1, len1, run1⟩
      have sets := runL_sets ut (ds := ds) (rgI_ok many)
      have small := runL_small (ties := ties) (ds := ds) (left := rgI many) (n := 60) (by rw [rgI_len]; omega)
      have run0 := isRun_run ut (ds := ds) (rgI_up many)
      generalize (runL ties (rgI many) ds).1 = rs0 at *
      generalize (runL ties (rgI many) ds).2 = le0 at *
      obtain ⟨T0, R0, L0, xs0, rfl, cT0, cR0, cx0, cL0⟩ := (raw.runV).ex e9
      have ok0 : RowsOk many rs0 le0 := ⟨sets.1, sets.2⟩
      have len0 : (rs0.length : Int) ≤ 5 := by omega
      walk_at "rd"
      refine ⟨(by show 2 ≤ sizeLine; decide), s_new S fun l2 F10 H10 S e10 c10 => ?_⟩
      have w10 := Dp.ex (e9.trans e10) _ _ w8
      have cT0 := e10 _ _ cT0
      have cR0 := e10 _ _ cR0
      have cL0 := e10 _ _ cL0
      have cx0 := cx0.ex e10
      have cT1 := e10 _ _ cT1
      have cR1 := e10 _ _ cR1
      have cL1 := e10 _ _ cL1
      have cx1 := cx1.ex e10
      have E10 : Evl.Ex F4 F10 := (e5.trans (e6.trans e7)).trans (e8.trans (e9.trans e10))
      walk_at "rd"
      refine ⟨LI [] H H F10 (fun _ σ' F' M' => σ' = [some (.ref a), some (.ref p), some (.int (0 + (i : Int))), some (.ref wa), some (.int qu), some (.ref l2), x6, x7, x8, x9] ∧ M' = [(p, .pot)]) 0, ?_, ?_⟩
      · walk_at "rd"
        refine r_callF S (many, ties, rs0, le0) ⟨_, R0, L0, xs0, rfl, w10, W, SqL.of cR0, cx0, SqL.of cL0, by omega, ok0.le w2⟩ ?_
        rintro v N F11 H11 S e11 ⟨rfl, rfl⟩
        rw [run0]
        have cT1 := e11 _ _ cT1
        have c10 := e11 _ _ c10
        walk_at "rd"
        refine r_notBl ?_
        walk_at "rd"
        refine r_callF S (many, ties, rs1, le1) ⟨_, R1, L1, xs1, rfl, Dp.ex e11 _ _ w10, W, SqL.of (e11 _ _ cR1), cx1.ex e11, SqL.of (e11 _ _ cL1), by omega, ok1.le w2⟩ ?_
        rintro v N F12 H12 S e12 ⟨rfl, rfl⟩
        rw [run1]
        walk_at "rd"
        refine r_notBl ?_
        walk_at "rd"
        exact ⟨_, _, S, e11.trans e12, rfl, rfl⟩
      · rintro σ' H11 ⟨F11, M', S, e11, rfl, rfl⟩
        walk_at "rd"
        refine ⟨(by show 3 ≤ sizeLine; decide), s_new S fun l3 F12 H12 S e12 c12 => ?_⟩
        walk_at "rd"
        refine ⟨u2, rfl, by omega, by omega, ?_⟩
        refine s_forR (fun i' σ' F' M' => ∃ x6 x7 x8 x9 : Option V, σ' = [some (.ref a), some (.ref p), some (.int (0 + (i : Int))), some (.ref wa), some (.int qu), some (.ref l2), x6, x7, x8, x9] ∧ M' = [(p, .pot)]) S ⟨_, _, _, _, rfl, rfl⟩ ?_ ?_
        · rintro j σ' F13 H13 M' hj S e13 ⟨x6, x7, x8, x9, rfl, rfl⟩
          have E13 : Evl.Ex F10 F13 := e11.trans (e12.trans e13)
          have w13 := Dp.ex E13 _ _ w10
          have c13 := E13 _ _ c10
          obtain ⟨T, R, L, xs, rs, le, hat, cT, cR, cx, cL, okr, len⟩ : ∃ T R L xs rs le, atI [V.ref T0, V.ref T1] ((0 + (j : Int)) % 2) = some (.ref T) ∧ F13 T = some (.tup [.ref R, .ref L]) ∧ F13 R = some (.lst xs) ∧ RowsV F13 xs rs ∧ F13 L = some (.lst (le.map V.int)) ∧ RowsOk many rs le ∧ (rs.length : Int) ≤ 5 := by
            rcases (show (0 + (j : Int)) % 2 = 0 ∨ (0 + (j : Int)) % 2 = 1 by omega) with q | q <;> rw [q]
            · exact ⟨T0, R0, L0, xs0, rs0, le0, rfl, E13 _ _ cT0, E13 _ _ cR0, cx0.ex E13, E13 _ _ cL0, ok0, len0⟩
            · exact ⟨T1, R1, L1, xs1, rs1, le1, rfl, E13 _ _ cT1, E13 _ _ cR1, cx1.ex E13, E13 _ _ cL1, ok1, len1⟩
          walk_at "rd"
          refine r_callF S rs ⟨R, xs, rfl, SqL.of cR, cx, by omega, okr.le w2⟩ ?_
          rintro v N F14 H14 S e14 ⟨rfl, R2, xs2, rfl, cR2, cx2⟩
          have cL := e14 _ _ cL
          walk_at "rd"
          refine s_new S fun L2 F15 H15 S e15 cL2 => ?_
          walk_at "rd"
          refine r_callP S 0 rfl (many, ties, rs, le) ⟨_, R2, L2, xs2, rfl, Dp.ex (e14.trans e15) _ _ w13, W, e15 _ _ cR2, cx2.ex e15, cL2, okr, by omega⟩ ?_
          rintro v N F16 H16 S e16 ⟨rfl, T3, R3, L3, xs3, rs3, le3, rfl, cT3, cR3, cx3, cL3, ok3, len3⟩
          have E16 : Evl.Ex F13 F16 := e14.trans (e15.trans e16)
          have w16 := Dp.ex E16 _ _ w13
          walk_at "rd"
          refine ⟨LI [] H H F16 (fun _ σ' F' M' => ∃ R L xs rs le, σ' = [some (.ref a), some (.ref p), some (.int (0 + (i : Int))), some (.ref wa), some (.int qu), some (.ref l2), some (.int (0 + (j : Int))), some (.ref R), some (.ref L), x9] ∧ M' = [(p, .pot)] ∧ F' R = some (.lst xs) ∧ RowsV F' xs rs ∧ F' L = some (.lst (le.map V.int)) ∧ RowsOk many rs le ∧ (rs.length : Int) ≤ 7) 0, ?_, ?_⟩
          · walk_at "rd"
            refine r_callP S 0 rfl 3 ⟨rfl, by omega, small_up (by omega) (by omega)⟩ fun v N F17 H17 S e17 ⟨z, ch, ev, hc0, hc1⟩ => ?_
            subst z ev
            walk_at "rd"
            refine iteB (fun k1 => ?_) (fun k1 => ?_)
            · walk_at "rd"
              refine r_callP S 0 rfl (many, ties, rs3, le3) ⟨_, R3, L3, xs3, rfl, Dp.ex e17 _ _ w16, W, e17 _ _ cR3, cx3.ex e17, e17 _ _ cL3, ok3, by omega⟩ ?_
              rintro v N F18 H18 S e18 ⟨rfl, T4, R4, L4, xs4, rs4, le4, rfl, cT4, cR4, cx4, cL4, ok4, len4⟩
              walk_at "rd"
              exact ⟨_, _, S, e17.trans e18, R4, L4, xs4, rs4, le4, rfl, rfl, cR4, cx4, cL4, ok4, by omega⟩
            · walk_at "rd"
              exact ⟨_, _, S, e17, R3, L3, xs3, rs3, le3, rfl, rfl, e17 _ _ cR3, cx3.ex e17, e17 _ _ cL3, ok3, by omega⟩
          · rintro σ' H17 ⟨F17, M', S, e17, R4, L4, xs4, rs4, le4, rfl, rfl, cR4, cx4, cL4, ok4, len4⟩
            clear cT3 cR3 cx3 cL3 ok3 len3 cR2 cx2 cL2 cT cR cx cL okr len
            have w17 := Dp.ex e17 _ _ w16
            walk_at "rd"
            refine ⟨Nat.zero_le _, s_new S fun y1 F18 H18 S e18 cy1 => ?_⟩
            walk_at "rd"
            refine ⟨Nat.zero_le _, s_new S fun y2 F19 H19 S e19 cy2 => ?_⟩
            walk_at "rd"
            refine ⟨(by show 2 ≤ sizeLine; decide), s_new S fun y3 F20 H20 S e20 cy3 => ?_⟩
            walk_at "rd"
            refine ⟨(by show 1 ≤ sizeLine; decide), s_new S fun y4 F21 H21 S e21 cy4 => ?_⟩
            walk_at "rd"
            refine .inr ⟨_, rfl, ?_⟩
            obtain ⟨b01, eb, hb0, hb1⟩ : ∃ b01 : Int, (if decide ((0 + (j : Int)) % 4 = 3) = true then (1 : Int) else 0) = b01 ∧ 0 ≤ b01 ∧ b01 ≤ 1 := ⟨_, rfl, by split <;> omega, by split <;> omega⟩
            rw [eb]
            obtain ⟨m, em, hm0, hm1⟩ : ∃ m : Int, qu * b01 = m ∧ 0 ≤ m ∧ m ≤ 49 := by
              refine ⟨_, rfl, ?_, ?_⟩ <;> rcases (show b01 = 0 ∨ b01 = 1 by omega) with q | q <;> subst q <;> omega
            walk_at "rd"
            rw [em]
            refine s_rep (S.fr _ _ cy4) (by omega) (by omega) (by simp; omega) ?_
            rw [rep_one]
            refine s_new S fun y5 F22 H22 S e22 cy5 => ?_
            walk_at "rd"
            have E22 : Evl.Ex F17 F22 := (e18.trans e19).trans (e20.trans (e21.trans e22))
            have xl4 := cx4.len
            refine s_cat (S.fr _ _ cy5) (S.fr _ _ (E22 _ _ cR4)) (by rw [List.length_replicate]; omega) (s_new S fun R5 F23 H23 S e23 cR5 => ?_)
            have E23 : Evl.Ex F17 F23 := E22.trans e23
            have e223 := e22.trans e23
            have rz : RowV F23 (.ref y3) ([], []) := ⟨y3, y1, y2, rfl, (e21.trans e223) _ _ cy3, (e19.trans (e20.trans (e21.trans e223))) _ _ cy1, (e20.trans (e21.trans e223)) _ _ cy2⟩
            have cx5 : RowsV F23 (List.replicate m.toNat (.ref y3) ++ xs4) (List.replicate m.toNat ([], []) ++ rs4) := RowsV.app (RowsV.rep rz _) (cx4.ex E23)
            have ok5 : RowsOk many (List.replicate m.toNat ([], []) ++ rs4) le4 := ⟨RowsV.mem_ok (fun r hr => by rw [(List.mem_replicate.mp hr).2]; exact ⟨SetOk.nil, SetOk.nil⟩) ok4.rows, ok4.left'⟩
            have len5 : ((List.replicate m.toNat (([] : List Int), ([] : List Int)) ++ rs4).length : Int) ≤ 60 := by rw [List.length_append, List.length_replicate]; omega
            have cL5 := E23 _ _ cL4
            have w23 := Dp.ex E23 _ _ w17
            have E17 : Evl.Ex F13 F17 := E16.trans e17
            clear rz cy1 cy2 cy3 cy4 cy5 cx4 cR4 cL4
            generalize List.replicate m.toNat (V.ref y3) ++ xs4 = xs5 at *
            generalize List.replicate m.toNat (([] : List Int), ([] : List Int)) ++ rs4 = rs5 at *
            walk_at "rd"
            refine r_callF S rs5 ⟨R5, xs5, rfl, SqL.of cR5, cx5, by omega, ok5.le w2⟩ ?_
            rintro v N F24 H24 S e24 ⟨rfl, R6, xs6, rfl, cR6, cx6⟩
            have cL5' := e24 _ _ cL5
            walk_at "rd"
            refine s_new S fun L6 F25 H25 S e25 cL6 => ?_
            walk_at "rd"
            refine ⟨(by show 2 ≤ sizeLine; decide), s_new S fun hd F26 H26 S e26 chd => ?_⟩
            have E26 : Evl.Ex F23 F26 := e24.trans (e25.trans e26)
            have cR6 := (e25.trans e26) _ _ cR6
            have cx6 := cx6.ex (e25.trans e26)
            have cL6 := e26 _ _ cL6
            walk_at "rd"
            refine r_callF S (many, ties, rs5, le4) ⟨_, R6, L6, xs6, rfl, Dp.ex E26 _ _ w23, W, SqL.of cR6, cx6, SqL.of cL6, by omega, ok5.le w2⟩ ?_
            rintro v N F27 H27 S e27 ⟨rfl, rfl⟩
            have E27 : Evl.Ex F23 F27 := E26.trans e27
            walk_at "rd"
            refine r_callF S (many, ties, rs5, le4) ⟨⟨_, R5, L4, xs5, rfl, Dp.ex E27 _ _ w23, W, SqL.of (E27 _ _ cR5), cx5.ex E27, SqL.of (E27 _ _ cL5), by omega, ok5.le w2⟩, fun r hr => ⟨(ok5.rows r hr).1.up, (ok5.rows r hr).2.up⟩⟩ ?_
            rintro v N F28 H28 S e28 ⟨rfl, rfl⟩
            walk_at "rd"
            refine r_callV S (.bool (isRunB ties (rgI many) rs5 le4)) ⟨_, _, rfl, .bl _, .bl _, by simp [PyData.depth], by rfl⟩ ?_
            rintro v4 N4 F29 H29 S e29 ⟨rfl, rfl⟩
            walk_at "rd"
            refine ⟨(by show 2 ≤ sizeLine; decide), s_new S fun due F30 H30 S e30 cdue => ?_⟩
            have E30 : Evl.Ex F23 F30 := E27.trans (e28.trans e30)
            have E2630 : Evl.Ex F26 F30 := e27.trans (e28.trans e30)
            have d1 : Dp K F30 (.ref hd) (.list [.list (rs5.map roundD), intsD le4]) := .lst (SqL.of (E2630 _ _ chd)) (.cons (.lst (SqL.of (E2630 _ _ cR6)) (cx6.ex E2630).dp) (.cons (dp_intsD (SqL.of (E2630 _ _ cL6))) .nil))
            have d2 : Dp K F30 (.ref due) (.list [.list (rs5.map roundD), intsD le4]) := .lst (SqL.of cdue) (.cons (.lst (SqL.of (E30 _ _ cR5)) (cx5.ex E30).dp) (.cons (dp_intsD (SqL.of (E30 _ _ cL5))) .nil))
            refine r_neSameD (d := .list [.list (rs5.map roundD), intsD le4]) (Dp.ex S.fr _ _ d1) (Dp.ex S.fr _ _ d2) (shaped_handed _ _) ?_
            walk_at "rd"
            exact ⟨_, _, S, e13.trans (E17.trans (E23.trans E30)), _, _, _, _, rfl, rfl⟩
        · rintro σ' F13 H13 M' S e13 ⟨x6, x7, x8, x9, rfl, rfl⟩
          exact ⟨_, _, S, e2.trans (e3.trans (e4.trans (E10.trans (e11.trans (e12.trans e13))))), _, _, _, _, _, _, _, _, rfl, rfl⟩
    · rintro σ' F2 H2 M' S e2 ⟨x2, x3, x4, x5, x6, x7, x8, x9, rfl, rfl⟩
      walk_at "rd"
      exact k _

end

end
theorem all_mk {l : PySem.W.OpenLaw} {w : World} {K : PySem.W.Frag} {h : Heap} {mg : Str → Option Value} {fa : Addr} (X : K.In h) (G : h.Ns mainGlobals mg) (hfa : mg "law" = some (.ref fa))
    {f0 : Addr} {od0 an0 : Option Addr} {sl0 : Array (Option Value)} {oc0 kV0 dc0 pm0 cd0 ct0 : Value}
    (a0 : PySem.W.nsIn K mainGlobals "near_left" = some (some (.ref f0))) (l0 : K.lookup f0 = some ⟨oc0, od0, .func (PySem.W.fnOf "near_left" "near_left" (defArgs s_near_left) (defBody s_near_left) (defScope s_near_left) .none kV0 dc0 pm0 an0 cd0 ct0), sl0⟩) (c0 : PySem.W.codeIn K cd0 "near_left" = true) (k0 : PySem.W.keepIn K (.ref f0) = true)
    {f1 : Addr} {od1 an1 : Option Addr} {sl1 : Array (Option Value)} {oc1 kV1 dc1 pm1 cd1 ct1 : Value}
    (a1 : PySem.W.nsIn K mainGlobals "out_by" = some (some (.ref f1))) (l1 : K.lookup f1 = some ⟨oc1, od1, .func (PySem.W.fnOf "out_by" "out_by" (defArgs s_out_by) (defBody s_out_by) (defScope s_out_by) .none kV1 dc1 pm1 an1 cd1 ct1), sl1⟩) (c1 : PySem.W.codeIn K cd1 "out_by" = true) (k1 : PySem.W.keepIn K (.ref f1) = true)
    {f2 : Addr} {od2 an2 : Option Addr} {sl2 : Array (Option Value)} {oc2 kV2 dc2 pm2 cd2 ct2 : Value}
    (a2 : PySem.W.nsIn K mainGlobals "left_behind" = some (some (.ref f2))) (l2 : K.lookup f2 = some ⟨oc2, od2, .func (PySem.W.fnOf "left_behind" "left_behind" (defArgs s_left_behind) (defBody s_left_behind) (defScope s_left_behind) .none kV2 dc2 pm2 an2 cd2 ct2), sl2⟩) (c2 : PySem.W.codeIn K cd2 "left_behind" = true) (k2 : PySem.W.keepIn K (.ref f2) = true)
    {f3 : Addr} {od3 an3 : Option Addr} {sl3 : Array (Option Value)} {oc3 kV3 dc3 pm3 cd3 ct3 : Value}
    (a3 : PySem.W.nsIn K mainGlobals "may_choose" = some (some (.ref f3))) (l3 : K.lookup f3 = some ⟨oc3, od3, .func (PySem.W.fnOf "may_choose" "may_choose" (defArgs s_may_choose) (defBody s_may_choose) (defScope s_may_choose) .none kV3 dc3 pm3 an3 cd3 ct3), sl3⟩) (c3 : PySem.W.codeIn K cd3 "may_choose" = true) (k3 : PySem.W.keepIn K (.ref f3) = true)
    {f4 : Addr} {od4 an4 : Option Addr} {sl4 : Array (Option Value)} {oc4 kV4 dc4 pm4 cd4 ct4 : Value}
    (a4 : PySem.W.nsIn K mainGlobals "is_run" = some (some (.ref f4))) (l4 : K.lookup f4 = some ⟨oc4, od4, .func (PySem.W.fnOf "is_run" "is_run" (defArgs s_is_run) (defBody s_is_run) (defScope s_is_run) .none kV4 dc4 pm4 an4 cd4 ct4), sl4⟩) (c4 : PySem.W.codeIn K cd4 "is_run" = true) (k4 : PySem.W.keepIn K (.ref f4) = true)
    {f5 : Addr} {od5 an5 : Option Addr} {sl5 : Array (Option Value)} {oc5 kV5 dc5 pm5 cd5 ct5 : Value}
    (a5 : PySem.W.nsIn K mainGlobals "_law_blend" = some (some (.ref f5))) (l5 : K.lookup f5 = some ⟨oc5, od5, .func (PySem.W.fnOf "_law_blend" "_law_blend" (defArgs s__law_blend) (defBody s__law_blend) (defScope s__law_blend) .none kV5 dc5 pm5 an5 cd5 ct5), sl5⟩) (c5 : PySem.W.codeIn K cd5 "_law_blend" = true) (k5 : PySem.W.keepIn K (.ref f5) = true)
    {f6 : Addr} {od6 an6 : Option Addr} {sl6 : Array (Option Value)} {oc6 kV6 dc6 pm6 cd6 ct6 : Value}
    (a6 : PySem.W.nsIn K mainGlobals "_law_pot" = some (some (.ref f6))) (l6 : K.lookup f6 = some ⟨oc6, od6, .func (PySem.W.fnOf "_law_pot" "_law_pot" (defArgs s__law_pot) (defBody s__law_pot) (defScope s__law_pot) .none kV6 dc6 pm6 an6 cd6 ct6), sl6⟩) (c6 : PySem.W.codeIn K cd6 "_law_pot" = true) (k6 : PySem.W.keepIn K (.ref f6) = true)
    {f7 : Addr} {od7 an7 : Option Addr} {sl7 : Array (Option Value)} {oc7 kV7 dc7 pm7 cd7 ct7 : Value}
    (a7 : PySem.W.nsIn K mainGlobals "_law_pick" = some (some (.ref f7))) (l7 : K.lookup f7 = some ⟨oc7, od7, .func (PySem.W.fnOf "_law_pick" "_law_pick" (defArgs s__law_pick) (defBody s__law_pick) (defScope s__law_pick) .none kV7 dc7 pm7 an7 cd7 ct7), sl7⟩) (c7 : PySem.W.codeIn K cd7 "_law_pick" = true) (k7 : PySem.W.keepIn K (.ref f7) = true)
    {f8 : Addr} {od8 an8 : Option Addr} {sl8 : Array (Option Value)} {oc8 kV8 dc8 pm8 cd8 ct8 : Value}
    (a8 : PySem.W.nsIn K mainGlobals "_law_same" = some (some (.ref f8))) (l8 : K.lookup f8 = some ⟨oc8, od8, .func (PySem.W.fnOf "_law_same" "_law_same" (defArgs s__law_same) (defBody s__law_same) (defScope s__law_same) .none kV8 dc8 pm8 an8 cd8 ct8), sl8⟩) (c8 : PySem.W.codeIn K cd8 "_law_same" = true) (k8 : PySem.W.keepIn K (.ref f8) = true)
    {f9 : Addr} {od9 an9 : Option Addr} {sl9 : Array (Option Value)} {oc9 kV9 dc9 pm9 cd9 ct9 : Value}
    (a9 : PySem.W.nsIn K mainGlobals "_law_order" = some (some (.ref f9))) (l9 : K.lookup f9 = some ⟨oc9, od9, .func (PySem.W.fnOf "_law_order" "_law_order" (defArgs s__law_order) (defBody s__law_order) (defScope s__law_order) .none kV9 dc9 pm9 an9 cd9 ct9), sl9⟩) (c9 : PySem.W.codeIn K cd9 "_law_order" = true) (k9 : PySem.W.keepIn K (.ref f9) = true)
    {f10 : Addr} {od10 an10 : Option Addr} {sl10 : Array (Option Value)} {oc10 kV10 dc10 pm10 cd10 ct10 : Value}
    (a10 : PySem.W.nsIn K mainGlobals "_law_web" = some (some (.ref f10))) (l10 : K.lookup f10 = some ⟨oc10, od10, .func (PySem.W.fnOf "_law_web" "_law_web" (defArgs s__law_web) (defBody s__law_web) (defScope s__law_web) .none kV10 dc10 pm10 an10 cd10 ct10), sl10⟩) (c10 : PySem.W.codeIn K cd10 "_law_web" = true) (k10 : PySem.W.keepIn K (.ref f10) = true)
    {f11 : Addr} {od11 an11 : Option Addr} {sl11 : Array (Option Value)} {oc11 kV11 dc11 pm11 cd11 ct11 : Value}
    (a11 : PySem.W.nsIn K mainGlobals "_law_any_ties" = some (some (.ref f11))) (l11 : K.lookup f11 = some ⟨oc11, od11, .func (PySem.W.fnOf "_law_any_ties" "_law_any_ties" (defArgs s__law_any_ties) (defBody s__law_any_ties) (defScope s__law_any_ties) .none kV11 dc11 pm11 an11 cd11 ct11), sl11⟩) (c11 : PySem.W.codeIn K cd11 "_law_any_ties" = true) (k11 : PySem.W.keepIn K (.ref f11) = true)
    {f12 : Addr} {od12 an12 : Option Addr} {sl12 : Array (Option Value)} {oc12 kV12 dc12 pm12 cd12 ct12 : Value}
    (a12 : PySem.W.nsIn K mainGlobals "_law_drawn_web" = some (some (.ref f12))) (l12 : K.lookup f12 = some ⟨oc12, od12, .func (PySem.W.fnOf "_law_drawn_web" "_law_drawn_web" (defArgs s__law_drawn_web) (defBody s__law_drawn_web) (defScope s__law_drawn_web) .none kV12 dc12 pm12 an12 cd12 ct12), sl12⟩) (c12 : PySem.W.codeIn K cd12 "_law_drawn_web" = true) (k12 : PySem.W.keepIn K (.ref f12) = true)
    {f13 : Addr} {od13 an13 : Option Addr} {sl13 : Array (Option Value)} {oc13 kV13 dc13 pm13 cd13 ct13 : Value}
    (a13 : PySem.W.nsIn K mainGlobals "_law_near" = some (some (.ref f13))) (l13 : K.lookup f13 = some ⟨oc13, od13, .func (PySem.W.fnOf "_law_near" "_law_near" (defArgs s__law_near) (defBody s__law_near) (defScope s__law_near) .none kV13 dc13 pm13 an13 cd13 ct13), sl13⟩) (c13 : PySem.W.codeIn K cd13 "_law_near" = true) (k13 : PySem.W.keepIn K (.ref f13) = true)
    {f14 : Addr} {od14 an14 : Option Addr} {sl14 : Array (Option Value)} {oc14 kV14 dc14 pm14 cd14 ct14 : Value}
    (a14 : PySem.W.nsIn K mainGlobals "_law_draws" = some (some (.ref f14))) (l14 : K.lookup f14 = some ⟨oc14, od14, .func (PySem.W.fnOf "_law_draws" "_law_draws" (defArgs s__law_draws) (defBody s__law_draws) (defScope s__law_draws) .none kV14 dc14 pm14 an14 cd14 ct14), sl14⟩) (c14 : PySem.W.codeIn K cd14 "_law_draws" = true) (k14 : PySem.W.keepIn K (.ref f14) = true)
    {f15 : Addr} {od15 an15 : Option Addr} {sl15 : Array (Option Value)} {oc15 kV15 dc15 pm15 cd15 ct15 : Value}
    (a15 : PySem.W.nsIn K mainGlobals "_law_round" = some (some (.ref f15))) (l15 : K.lookup f15 = some ⟨oc15, od15, .func (PySem.W.fnOf "_law_round" "_law_round" (defArgs s__law_round) (defBody s__law_round) (defScope s__law_round) .none kV15 dc15 pm15 an15 cd15 ct15), sl15⟩) (c15 : PySem.W.codeIn K cd15 "_law_round" = true) (k15 : PySem.W.keepIn K (.ref f15) = true)
    {f16 : Addr} {od16 an16 : Option Addr} {sl16 : Array (Option Value)} {oc16 kV16 dc16 pm16 cd16 ct16 : Value}
    (a16 : PySem.W.nsIn K mainGlobals "_law_run" = some (some (.ref f16))) (l16 : K.lookup f16 = some ⟨oc16, od16, .func (PySem.W.fnOf "_law_run" "_law_run" (defArgs s__law_run) (defBody s__law_run) (defScope s__law_run) .none kV16 dc16 pm16 an16 cd16 ct16), sl16⟩) (c16 : PySem.W.codeIn K cd16 "_law_run" = true) (k16 : PySem.W.keepIn K (.ref f16) = true)
    {f17 : Addr} {od17 an17 : Option Addr} {sl17 : Array (Option Value)} {oc17 kV17 dc17 pm17 cd17 ct17 : Value}
    (a17 : PySem.W.nsIn K mainGlobals "_law_is_run" = some (some (.ref f17))) (l17 : K.lookup f17 = some ⟨oc17, od17, .func (PySem.W.fnOf "_law_is_run" "_law_is_run" (defArgs s__law_is_run) (defBody s__law_is_run) (defScope s__law_is_run) .none kV17 dc17 pm17 an17 cd17 ct17), sl17⟩) (c17 : PySem.W.codeIn K cd17 "_law_is_run" = true) (k17 : PySem.W.keepIn K (.ref f17) = true)
    {f18 : Addr} {od18 an18 : Option Addr} {sl18 : Array (Option Value)} {oc18 kV18 dc18 pm18 cd18 ct18 : Value}
    (a18 : PySem.W.nsIn K mainGlobals "_law_copy" = some (some (.ref f18))) (l18 : K.lookup f18 = some ⟨oc18, od18, .func (PySem.W.fnOf "_law_copy" "_law_copy" (defArgs s__law_copy) (defBody s__law_copy) (defScope s__law_copy) .none kV18 dc18 pm18 an18 cd18 ct18), sl18⟩) (c18 : PySem.W.codeIn K cd18 "_law_copy" = true) (k18 : PySem.W.keepIn K (.ref f18) = true)
    {f19 : Addr} {od19 an19 : Option Addr} {sl19 : Array (Option Value)} {oc19 kV19 dc19 pm19 cd19 ct19 : Value}
    (a19 : PySem.W.nsIn K mainGlobals "_law_may_run" = some (some (.ref f19))) (l19 : K.lookup f19 = some ⟨oc19, od19, .func (PySem.W.fnOf "_law_may_run" "_law_may_run" (defArgs s__law_may_run) (defBody s__law_may_run) (defScope s__law_may_run) .none kV19 dc19 pm19 an19 cd19 ct19), sl19⟩) (c19 : PySem.W.codeIn K cd19 "_law_may_run" = true) (k19 : PySem.W.keepIn K (.ref f19) = true)
    {f20 : Addr} {od20 an20 : Option Addr} {sl20 : Array (Option Value)} {oc20 kV20 dc20 pm20 cd20 ct20 : Value}
    (a20 : PySem.W.nsIn K mainGlobals "_law_bent_list" = some (some (.ref f20))) (l20 : K.lookup f20 = some ⟨oc20, od20, .func (PySem.W.fnOf "_law_bent_list" "_law_bent_list" (defArgs s__law_bent_list) (defBody s__law_bent_list) (defScope s__law_bent_list) .none kV20 dc20 pm20 an20 cd20 ct20), sl20⟩) (c20 : PySem.W.codeIn K cd20 "_law_bent_list" = true) (k20 : PySem.W.keepIn K (.ref f20) = true)
    {f21 : Addr} {od21 an21 : Option Addr} {sl21 : Array (Option Value)} {oc21 kV21 dc21 pm21 cd21 ct21 : Value}
    (a21 : PySem.W.nsIn K mainGlobals "_law_bent_run" = some (some (.ref f21))) (l21 : K.lookup f21 = some ⟨oc21, od21, .func (PySem.W.fnOf "_law_bent_run" "_law_bent_run" (defArgs s__law_bent_run) (defBody s__law_bent_run) (defScope s__law_bent_run) .none kV21 dc21 pm21 an21 cd21 ct21), sl21⟩) (c21 : PySem.W.codeIn K cd21 "_law_bent_run" = true) (k21 : PySem.W.keepIn K (.ref f21) = true)
    {f22 : Addr} {od22 an22 : Option Addr} {sl22 : Array (Option Value)} {oc22 kV22 dc22 pm22 cd22 ct22 : Value}
    (a22 : PySem.W.nsIn K mainGlobals "law" = some (some (.ref f22))) (l22 : K.lookup f22 = some ⟨oc22, od22, .func (PySem.W.fnOf "law" "law" (defArgs s_law) (defBody s_law) (defScope s_law) .none kV22 dc22 pm22 an22 cd22 ct22), sl22⟩) (c22 : PySem.W.codeIn K cd22 "law" = true) (k22 : PySem.W.keepIn K (.ref f22) = true)
    (z_set : PySem.W.nsIn K mainGlobals "set" = some none)
    (z_list : PySem.W.nsIn K mainGlobals "list" = some none)
    (z_enumerate : PySem.W.nsIn K mainGlobals "enumerate" = some none)
    (z_isinstance : PySem.W.nsIn K mainGlobals "isinstance" = some none)
    (z_str : PySem.W.nsIn K mainGlobals "str" = some none)
    (z_int : PySem.W.nsIn K mainGlobals "int" = some none)
    (z_range : PySem.W.nsIn K mainGlobals "range" = some none)
    (z_sorted : PySem.W.nsIn K mainGlobals "sorted" = some none)
    (z_any : PySem.W.nsIn K mainGlobals "any" = some none)
    (z_bool : PySem.W.nsIn K mainGlobals "bool" = some none)
    (z_all : PySem.W.nsIn K mainGlobals "all" = some none)
    (z_tuple : PySem.W.nsIn K mainGlobals "tuple" = some none)
    (z_len : PySem.W.nsIn K mainGlobals "len" = some none)
    (z_min : PySem.W.nsIn K mainGlobals "min" = some none)
    (z_max : PySem.W.nsIn K mainGlobals "max" = some none)
    (z_zip : PySem.W.nsIn K mainGlobals "zip" = some none)
    : ∃ fd : FuncData, (∀ (s : Shared) (v : Value), BindsTo s fd ⟨[v], []⟩ [("script", v)]) ∧ ∀ base : Heap, K.In base → base.Ns mainGlobals mg → FnOk l.prog w K mg base CX0 10 fa fd ["script"] (sp_law K) := by
  have e := hfa.symm.trans (PySem.W.mg_of X G a22)
  cases e
  have F0 := fun_mk (st := s_near_left) l0 c0 k0
  have F1 := fun_mk (st := s_out_by) l1 c1 k1
  have F2 := fun_mk (st := s_left_behind) l2 c2 k2
  have F3 := fun_mk (st := s_may_choose) l3 c3 k3
  have F4 := fun_mk (st := s_is_run) l4 c4 k4
  have F5 := fun_mk (st := s__law_blend) l5 c5 k5
  have F6 := fun_mk (st := s__law_pot) l6 c6 k6
  have F7 := fun_mk (st := s__law_pick) l7 c7 k7
  have F8 := fun_mk (st := s__law_same) l8 c8 k8
  have F9 := fun_mk (st := s__law_order) l9 c9 k9
  have F10 := fun_mk (st := s__law_web) l10 c10 k10
  have F11 := fun_mk (st := s__law_any_ties) l11 c11 k11
  have F12 := fun_mk (st := s__law_drawn_web) l12 c12 k12
  have F13 := fun_mk (st := s__law_near) l13 c13 k13
  have F14 := fun_mk (st := s__law_draws) l14 c14 k14
  have F15 := fun_mk (st := s__law_round) l15 c15 k15
  have F16 := fun_mk (st := s__law_run) l16 c16 k16
  have F17 := fun_mk (st := s__law_is_run) l17 c17 k17
  have F18 := fun_mk (st := s__law_copy) l18 c18 k18
  have F19 := fun_mk (st := s__law_may_run) l19 c19 k19
  have F20 := fun_mk (st := s__law_bent_list) l20 c20 k20
  have F21 := fun_mk (st := s__law_bent_run) l21 c21 k21
  have F22 := fun_mk (st := s_law) l22 c22 k22
  have b0 := F0.binds (ps := ["web", "left"]) fun _ _ _ _ _ _ us hl => match us, hl with | [_, _], _ => rfl
  have b1 := F1.binds (ps := ["near", "chosen"]) fun _ _ _ _ _ _ us hl => match us, hl with | [_, _], _ => rfl
  have b2 := F2.binds (ps := ["near", "chosen", "out"]) fun _ _ _ _ _ _ us hl => match us, hl with | [_, _, _], _ => rfl
  have b3 := F3.binds (ps := ["near", "chosen"]) fun _ _ _ _ _ _ us hl => match us, hl with | [_, _], _ => rfl
  have b4 := F4.binds (ps := ["web", "rounds", "left"]) fun _ _ _ _ _ _ us hl => match us, hl with | [_, _, _], _ => rfl
  have b5 := F5.binds (ps := ["cell", "at"]) fun _ _ _ _ _ _ us hl => match us, hl with | [_, _], _ => rfl
  have b6 := F6.binds (ps := ["script"]) fun _ _ _ _ _ _ us hl => match us, hl with | [_], _ => rfl
  have b7 := F7.binds (ps := ["pot", "many"]) fun _ _ _ _ _ _ us hl => match us, hl with | [_, _], _ => rfl
  have b8 := F8.binds (ps := ["found", "due"]) fun _ _ _ _ _ _ us hl => match us, hl with | [_, _], _ => rfl
  have b9 := F9.binds (ps := ["pot", "many"]) fun _ _ _ _ _ _ us hl => match us, hl with | [_, _], _ => rfl
  have b10 := F10.binds (ps := ["pot", "most"]) fun _ _ _ _ _ _ us hl => match us, hl with | [_, _], _ => rfl
  have b11 := F11.binds (ps := ["pot", "most"]) fun _ _ _ _ _ _ us hl => match us, hl with | [_, _], _ => rfl
  have b12 := F12.binds (ps := ["pot", "most"]) fun _ _ _ _ _ _ us hl => match us, hl with | [_, _], _ => rfl
  have b13 := F13.binds (ps := ["web"]) fun _ _ _ _ _ _ us hl => match us, hl with | [_], _ => rfl
  have b14 := F14.binds (ps := ["pot", "many", "most"]) fun _ _ _ _ _ _ us hl => match us, hl with | [_, _, _], _ => rfl
  have b15 := F15.binds (ps := ["near", "here", "row"]) fun _ _ _ _ _ _ us hl => match us, hl with | [_, _, _], _ => rfl
  have b16 := F16.binds (ps := ["web", "draws"]) fun _ _ _ _ _ _ us hl => match us, hl with | [_, _], _ => rfl
  have b17 := F17.binds (ps := ["web", "rounds", "left"]) fun _ _ _ _ _ _ us hl => match us, hl with | [_, _, _], _ => rfl
  have b18 := F18.binds (ps := ["rounds"]) fun _ _ _ _ _ _ us hl => match us, hl with | [_], _ => rfl
  have b19 := F19.binds (ps := ["pot", "web", "most"]) fun _ _ _ _ _ _ us hl => match us, hl with | [_, _, _], _ => rfl
  have b20 := F20.binds (ps := ["pot", "many", "some"]) fun _ _ _ _ _ _ us hl => match us, hl with | [_, _, _], _ => rfl
  have b21 := F21.binds (ps := ["pot", "web", "rounds", "left"]) fun _ _ _ _ _ _ us hl => match us, hl with | [_, _, _, _], _ => rfl
  have T : Env K mg := { a_near_left := _, fd_near_left := _, F_near_left := F0, b_near_left := b0, g_near_left := PySem.W.mg_of X G a0, a_out_by := _, fd_out_by := _, F_out_by := F1, b_out_by := b1, g_out_by := PySem.W.mg_of X G a1, a_left_behind := _, fd_left_behind := _, F_left_behind := F2, b_left_behind := b2, g_left_behind := PySem.W.mg_of X G a2, a_may_choose := _, fd_may_choose := _, F_may_choose := F3, b_may_choose := b3, g_may_choose := PySem.W.mg_of X G a3, a_is_run := _, fd_is_run := _, F_is_run := F4, b_is_run := b4, g_is_run := PySem.W.mg_of X G a4, a__law_blend := _, fd__law_blend := _, F__law_blend := F5, b__law_blend := b5, g__law_blend := PySem.W.mg_of X G a5, a__law_pot := _, fd__law_pot := _, F__law_pot := F6, b__law_pot := b6, g__law_pot := PySem.W.mg_of X G a6, a__law_pick := _, fd__law_pick := _, F__law_pick := F7, b__law_pick := b7, g__law_pick := PySem.W.mg_of X G a7, a__law_same := _, fd__law_same := _, F__law_same := F8, b__law_same := b8, g__law_same := PySem.W.mg_of X G a8, a__law_order := _, fd__law_order := _, F__law_order := F9, b__law_order := b9, g__law_order := PySem.W.mg_of X G a9, a__law_web := _, fd__law_web := _, F__law_web := F10, b__law_web := b10, g__law_web := PySem.W.mg_of X G a10, a__law_any_ties := _, fd__law_any_ties := _, F__law_any_ties := F11, b__law_any_ties := b11, g__law_any_ties := PySem.W.mg_of X G a11, a__law_drawn_web := _, fd__law_drawn_web := _, F__law_drawn_web := F12, b__law_drawn_web := b12, g__law_drawn_web := PySem.W.mg_of X G a12, a__law_near := _, fd__law_near := _, F__law_near := F13, b__law_near := b13, g__law_near := PySem.W.mg_of X G a13, a__law_draws := _, fd__law_draws := _, F__law_draws := F14, b__law_draws := b14, g__law_draws := PySem.W.mg_of X G a14, a__law_round := _, fd__law_round := _, F__law_round := F15, b__law_round := b15, g__law_round := PySem.W.mg_of X G a15, a__law_run := _, fd__law_run := _, F__law_run := F16, b__law_run := b16, g__law_run := PySem.W.mg_of X G a16, a__law_is_run := _, fd__law_is_run := _, F__law_is_run := F17, b__law_is_run := b17, g__law_is_run := PySem.W.mg_of X G a17, a__law_copy := _, fd__law_copy := _, F__law_copy := F18, b__law_copy := b18, g__law_copy := PySem.W.mg_of X G a18, a__law_may_run := _, fd__law_may_run := _, F__law_may_run := F19, b__law_may_run := b19, g__law_may_run := PySem.W.mg_of X G a19, a__law_bent_list := _, fd__law_bent_list := _, F__law_bent_list := F20, b__law_bent_list := b20, g__law_bent_list := PySem.W.mg_of X G a20, a__law_bent_run := _, fd__law_bent_run := _, F__law_bent_run := F21, b__law_bent_run := b21, g__law_bent_run := PySem.W.mg_of X G a21, n_set := PySem.W.mg_none_of X G z_set, n_list := PySem.W.mg_none_of X G z_list, n_enumerate := PySem.W.mg_none_of X G z_enumerate, n_isinstance := PySem.W.mg_none_of X G z_isinstance, n_str := PySem.W.mg_none_of X G z_str, n_int := PySem.W.mg_none_of X G z_int, n_range := PySem.W.mg_none_of X G z_range, n_sorted := PySem.W.mg_none_of X G z_sorted, n_any := PySem.W.mg_none_of X G z_any, n_bool := PySem.W.mg_none_of X G z_bool, n_all := PySem.W.mg_none_of X G z_all, n_tuple := PySem.W.mg_none_of X G z_tuple, n_len := PySem.W.mg_none_of X G z_len, n_min := PySem.W.mg_none_of X G z_min, n_max := PySem.W.mg_none_of X G z_max, n_zip := PySem.W.mg_none_of X G z_zip }
  exact ⟨PySem.W.fnOf "law" "law" (defArgs s_law) (defBody s_law) (defScope s_law) .none kV22 dc22 pm22 an22 cd22 ct22, fun s v => .of_eq rfl, fun base _ _ => ok_law T F22⟩
end Fa
open PySem PySem.W PyProof.Rows
set_option maxHeartbeats 0 in
theorem PySem.Challenge.cw_fullapart_k21_runs_looked_at_holds : PySem.Challenge.rw_fullapart_k21_runs_looked_at.Holds := by
  w_on; o_law; k_head; (case hw => w_witness2)
  k_fill
  refine L2.walk_of (l := PySem.Challenge.rw_fullapart_k21_runs_looked_at) (n := 63) (k := 10) (x := "script") (CX := fun _ => L2.CX0) (sp := fun w => Fa.sp_law _) rfl (by decide) rfl ⟨rfl, by decide, by decide⟩ (fun w h Y => PySem.W.kIn_of Y) ?F (fun _ _ a ns hl _ hS => ⟨a, ns, rfl, hS, hl, fun _ => rfl⟩) (fun _ _ _ _ _ h => h)
  case F =>
    intro w mg fa h KX G hmg
    refine' Fa.all_mk KX G hmg ?a0 ?l0 ?c0 ?k0 ?a1 ?l1 ?c1 ?k1 ?a2 ?l2 ?c2 ?k2 ?a3 ?l3 ?c3 ?k3 ?a4 ?l4 ?c4 ?k4 ?a5 ?l5 ?c5 ?k5 ?a6 ?l6 ?c6 ?k6 ?a7 ?l7 ?c7 ?k7 ?a8 ?l8 ?c8 ?k8 ?a9 ?l9 ?c9 ?k9 ?a10 ?l10 ?c10 ?k10 ?a11 ?l11 ?c11 ?k11 ?a12 ?l12 ?c12 ?k12 ?a13 ?l13 ?c13 ?k13 ?a14 ?l14 ?c14 ?k14 ?a15 ?l15 ?c15 ?k15 ?a16 ?l16 ?c16 ?k16 ?a17 ?l17 ?c17 ?k17 ?a18 ?l18 ?c18 ?k18 ?a19 ?l19 ?c19 ?k19 ?a20 ?l20 ?c20 ?k20 ?a21 ?l21 ?c21 ?k21 ?a22 ?l22 ?c22 ?k22 ?z_set ?z_list ?z_enumerate ?z_isinstance ?z_str ?z_int ?z_range ?z_sorted ?z_any ?z_bool ?z_all ?z_tuple ?z_len ?z_min ?z_max ?z_zip
    (case a0 => k_is); (case l0 => k_is); (case c0 => k_is); (case k0 => k_is); (case a1 => k_is); (case l1 => k_is); (case c1 => k_is); (case k1 => k_is); (case a2 => k_is); (case l2 => k_is); (case c2 => k_is); (case k2 => k_is); (case a3 => k_is); (case l3 => k_is); (case c3 => k_is); (case k3 => k_is); (case a4 => k_is); (case l4 => k_is); (case c4 => k_is); (case k4 => k_is); (case a5 => k_is); (case l5 => k_is); (case c5 => k_is); (case k5 => k_is); (case a6 => k_is); (case l6 => k_is); (case c6 => k_is); (case k6 => k_is); (case a7 => k_is); (case l7 => k_is); (case c7 => k_is); (case k7 => k_is); (case a8 => k_is); (case l8 => k_is); (case c8 => k_is); (case k8 => k_is); (case a9 => k_is); (case l9 => k_is); (case c9 => k_is); (case k9 => k_is); (case a10 => k_is); (case l10 => k_is); (case c10 => k_is); (case k10 => k_is); (case a11 => k_is); (case l11 => k_is); (case c11 => k_is); (case k11 => k_is); (case a12 => k_is); (case l12 => k_is); (case c12 => k_is); (case k12 => k_is); (case a13 => k_is); (case l13 => k_is); (case c13 => k_is); (case k13 => k_is); (case a14 => k_is); (case l14 => k_is); (case c14 => k_is); (case k14 => k_is); (case a15 => k_is); (case l15 => k_is); (case c15 => k_is); (case k15 => k_is); (case a16 => k_is); (case l16 => k_is); (case c16 => k_is); (case k16 => k_is); (case a17 => k_is); (case l17 => k_is); (case c17 => k_is); (case k17 => k_is); (case a18 => k_is); (case l18 => k_is); (case c18 => k_is); (case k18 => k_is); (case a19 => k_is); (case l19 => k_is); (case c19 => k_is); (case k19 => k_is); (case a20 => k_is); (case l20 => k_is); (case c20 => k_is); (case k20 => k_is); (case a21 => k_is); (case l21 => k_is); (case c21 => k_is); (case k21 => k_is); (case a22 => k_is); (case l22 => k_is); (case c22 => k_is); (case k22 => k_is); (case z_set => k_is); (case z_list => k_is); (case z_enumerate => k_is); (case z_isinstance => k_is); (case z_str => k_is); (case z_int => k_is); (case z_range => k_is); (case z_sorted => k_is); (case z_any => k_is); (case z_bool => k_is); (case z_all => k_is); (case z_tuple => k_is); (case z_len => k_is); (case z_min => k_is); (case z_max => k_is); (case z_zip => k_is)
