import PyProof.Rows.All
import Wide.All
import OpenK.AllK
import Wide.FinOn
import HandS.ForMost
import HandS.Evl
import HandS.Wide
import HandS.Walk
import HandS.Conv
import HandS.IsInst
import HandS.Zip
import HandS.Deep
import HandS.SetFor
import HandS.Strs
import HandS.TupSets
import HandS.TupAny
import HandS.TupLe
import HandS.SortOrd
import HandS.SortRule
import HandS.SortInts
import HandS.SortKw
import HandS.Keys
import HandS.Flow
import HandS.SetKeys
import HandS.EndBits
import KE.DataMinMax
import KE.SortData
import PyProof.CallFns
import HandS.Exc
import HandS.ExcIs
import HandS.TryOnly
import PyProof.ZipIter
import PyProof.FactsBase
import PyProof.TableTree
import PyProof.FactsTree
import PyProof.PlainAttrs
import HandS.DictSubView0
import HandS.DictComp
import HandS.Style
import HandS.Comp
import HandS.DictTup
import KE.KDictSum
import KE.KDictCopyH
import HandS.Gcd
import KE.GoesMore
import PyProof.Draws
import KE.KDictDisplayH
import PySem.Challenge.RW_fullapart_k33_none_left_behind_rounds
set_option Elab.async false
set_option linter.all false
set_option maxRecDepth 100000
set_option maxHeartbeats 5000000
section
namespace PySem.F
/-! ### facts of itertools.combinations -/
theorem slot_comb_init : Slot "itertools.combinations" "__init__" "object.__init__" :=
  .of (owner := "object") (n := "__init__") (by rw [typeLookup_type, builtinLookup_eq_fast]; kernel_rfl) (by decide +kernel) (by decide +kernel) (by decide +kernel)
    (by first | exact .inl (by decide +kernel) | exact .inr (by decide +kernel)) (by rw [isSubtype_type]; kernel_rfl)
theorem slot_comb_next : Slot "itertools.combinations" "__next__" "itertools.combinations.__next__" :=
  .of (owner := "itertools.combinations") (n := "__next__") (by rw [typeLookup_type, builtinLookup_eq_fast]; kernel_rfl) (by decide +kernel) (by decide +kernel) (by decide +kernel)
    (by first | exact .inl (by decide +kernel) | exact .inr (by decide +kernel)) (by rw [isSubtype_type]; kernel_rfl)
theorem slot_comb_iter : Slot "itertools.combinations" "__iter__" "itertools.combinations.__iter__" :=
  .of (owner := "itertools.combinations") (n := "__iter__") (by rw [typeLookup_type, builtinLookup_eq_fast]; kernel_rfl) (by decide +kernel) (by decide +kernel) (by decide +kernel)
    (by first | exact .inl (by decide +kernel) | exact .inr (by decide +kernel)) (by rw [isSubtype_type]; kernel_rfl)
theorem entry_comb_next : entryFor table "itertools.combinations.__next__" = some Builtin.«itertools.combinations.__next__» := entryFor_of_tree (by kernel_rfl)
theorem entry_comb_new : entryFor table "itertools.combinations.__new__" = some Builtin.«itertools.combinations.__new__» := entryFor_of_tree (by kernel_rfl)
theorem entry_comb_iter : entryFor table "itertools.combinations.__iter__" = some Builtin.«dict_keyiterator.__iter__» :=
  entryFor_alias (id' := "dict_keyiterator.__iter__") (by kernel_rfl) (by first | rfl | decide +kernel | (unfold String.splitOn; simp +decide [String.splitOnAux])) (by decide +kernel) (by kernel_rfl)
theorem mro_comb : mroOf (.type "itertools.combinations") = pure [.type "itertools.combinations", .type "object"] := by rw [mroOf_type]; kernel_rfl
theorem lookup_comb_new : typeLookup (.type "itertools.combinations") "__new__" = pure (some (.builtin "itertools.combinations.__new__")) := by rw [typeLookup_type, builtinLookup_eq_fast]; kernel_rfl
theorem called_comb : TypeCalled "itertools.combinations" "itertools.combinations.__new__" "object.__init__" :=
  ⟨by decide +kernel, by decide +kernel, ⟨_, _, mro_comb⟩, madeBy_type mro_comb lookup_comb_new (by decide +kernel), by decide +kernel, by rw [isSubtype_type]; kernel_rfl, slot_comb_init⟩
theorem typeCall_comb_2 (a b : Value) : checkTypeCall "itertools.combinations" ⟨[a, b], []⟩ = pure () := by kernel_rfl
theorem newCall_comb_2 (a b : Value) : checkBuiltinCall "itertools.combinations.__new__" ⟨[.type "itertools.combinations", a, b], []⟩ = pure () := by kernel_rfl
end PySem.F

end
section
namespace PySem
open Sem (wp)
namespace F
theorem owner_comb : Manifest.owners.lookup (String.ofList ['s', 'n', 'o', 'i', 't', 'a', 'n', 'i', 'b', 'm', 'o', 'c', '.', 's', 'l', 'o', 'o', 't', 'r', 'e', 't', 'i'].reverse) = some Manifest.sig_itertools_combinations := by kernel_rfl
theorem args_comb_next_1 (a : Value) : argsOk "itertools.combinations.__next__" ⟨[a], []⟩ := by
  unfold argsOk; rw [signature?_of (id := "itertools.combinations.__next__") (n := ['_', '_', 't', 'x', 'e', 'n', '_', '_']) (o := ['s', 'n', 'o', 'i', 't', 'a', 'n', 'i', 'b', 'm', 'o', 'c', '.', 's', 'l', 'o', 'o', 't', 'r', 'e', 't', 'i']) (by kernel_rfl) owner_comb]; kernel_rfl
theorem args_comb_iter_1 (a : Value) : argsOk "itertools.combinations.__iter__" ⟨[a], []⟩ := by
  unfold argsOk; rw [signature?_of (id := "itertools.combinations.__iter__") (n := ['_', '_', 'r', 'e', 't', 'i', '_', '_']) (o := ['s', 'n', 'o', 'i', 't', 'a', 'n', 'i', 'b', 'm', 'o', 'c', '.', 's', 'l', 'o', 'o', 't', 'r', 'e', 't', 'i']) (by kernel_rfl) owner_comb]; kernel_rfl
end F
abbrev IsComb (h : Heap) (z pl : Addr) (st : Int) (res : Value) (i j : Nat) : Prop :=
  h.get? z = some { cls := .type "itertools.combinations", dict := none, data := .fields #[.ref pl, rawInt st, res, rawInt i, rawInt j], slots := #[] }
section
variable {prog : Program} {w : World} {A : Around} {E : Value → Shared → Prop} {s : Shared}
theorem wpAny_pyIter_comb {z pl : Addr} {st : Int} {res : Value} {i j : Nat} {Q : Value → Shared → Prop} (hz : IsComb s.heap z pl st res i j) (h : Q (.ref z) s) : wpAny (model prog w) A (pyIter (.ref z)) Q E s := by
  have hT : s.TypeIs (.ref z) "itertools.combinations" := ⟨_, hz, rfl⟩
  refine wpAny_pyIter_slot hT F.slot_comb_iter (wpAny_call_entry F.slot_comb_iter hT F.entry_comb_iter ?_ (F.args_comb_iter_1 _))
  show wpAny _ _ (ret (.ref z)) _ _ s
  exact wpAny_pure ⟨_, rfl, "itertools.combinations", _, hT, F.slot_comb_next.lookup, h⟩
theorem comb_hand {z pl : Addr} {items : Array Value} {o : Obj} {n0 : Nat} {res : Value} {i j : Nat} {Q : Value → Shared → Prop} (hz : IsComb s.heap z pl 1 res i j) (hp : s.heap.get? pl = some o) (hd : o.data = .seq items n0) (hne : z ≠ pl)
    (hQ : ∀ h', IsComb h' z pl 1 (.ref s.heap.objs.size) i j → h'.get? s.heap.objs.size = some { cls := .type "tuple", data := .seq #[items.getD i .none, items.getD j .none] } → h'.objs.size = s.heap.objs.size + 1 →
      (∀ c x, c ≠ z → s.heap.get? c = some x → h'.get? c = some x) → Q (.ref s.heap.objs.size) { s with heap := h' }) :
    wpAny (model prog w) A (do
        let result ← (do let items ← Builtin.Itertools.itPoolItems (.ref pl); newTuple ([i, j].map fun i => items.getD i .none))
        let before ← field (.ref z) 2
        setField (.ref z) 2 result
        letGo [before] [result]
        ret result) (fun r s' => ∃ v, r = .done (.ret v) ∧ Q v s') E s := by
  refine wpAny_bind ?_
  refine wpAny_bind ?_
  unfold Builtin.Itertools.itPoolItems
  refine wpAny_bind (wpAny_seqItems hp hd ?_)
  refine wpAny_pure ?_
  refine wpAny_newTuple ?_ (by show 2 ≤ sizeLine; decide)
  have hz1 : IsComb (s.heap.push { cls := .type "tuple", data := .seq ([i, j].map fun i => items.getD i .none).toArray }) z pl 1 res i j := Heap.get?_push_of_some _ hz
  refine wpAny_bind (wpAny_field hz1 rfl (x := res) rfl ?_)
  refine wpAny_bind (wpAny_setField_rec hz1 (by simp) fun h2 hz2 hs2 => ?_)
  refine wpAny_bind (wpAny_letGo ?_)
  have hzl : z < s.heap.objs.size := Heap.lt_size hz
  refine wpAny_pure ⟨_, rfl, hQ h2 hz2 ?_ ?_ fun c x hc e => ?_⟩
  · exact hs2.extBut _ _ (Nat.ne_of_gt hzl) (Heap.get?_push_size _ rfl)
  · rw [hs2.1, Heap.size_push]
  · exact hs2.extBut _ _ hc (Heap.get?_push_of_some _ e)
theorem comb_next0 {z pl : Addr} {items : Array Value} {o : Obj} {n0 : Nat} {res : Value} {i j : Nat} {Q : Value → Shared → Prop} (hz : IsComb s.heap z pl 0 res i j) (hp : s.heap.get? pl = some o) (hd : o.data = .seq items n0) (hne : z ≠ pl)
    (hQ : ∀ h', IsComb h' z pl 1 (.ref s.heap.objs.size) i j → h'.get? s.heap.objs.size = some { cls := .type "tuple", data := .seq #[items.getD i .none, items.getD j .none] } → h'.objs.size = s.heap.objs.size + 1 →
      (∀ c x, c ≠ z → s.heap.get? c = some x → h'.get? c = some x) → Q (.ref s.heap.objs.size) { s with heap := h' }) :
    wpAny (model prog w) A (Builtin.«itertools.combinations.__next__» ⟨[.ref z], []⟩) (fun r s' => ∃ v, r = .done (.ret v) ∧ Q v s') E s := by
  show wpAny _ _ (field (.ref z) 0 >>= _) _ _ _
  refine wpAny_bind (wpAny_field hz rfl (x := .ref pl) rfl ?_)
  refine wpAny_bind ?_
  unfold Builtin.Itertools.itNumbersFrom
  refine wpAny_bind (wpAny_load hz ?_)
  refine wpAny_pure ?_
  show wpAny _ _ (Builtin.Itertools.itIntField (.ref z) 1 >>= _) _ _ _
  refine wpAny_bind ?_
  unfold Builtin.Itertools.itIntField
  refine wpAny_bind (wpAny_field hz rfl (x := rawInt 0) rfl ?_)
  refine wpAny_pure ?_
  show wpAny _ _ (setField (.ref z) 1 (rawInt 1) >>= _) _ _ _
  refine wpAny_bind (wpAny_setField_rec hz (by simp) fun h1 hz1 hs1 => ?_)
  replace hz1 : IsComb h1 z pl 1 res i j := hz1
  refine comb_hand (s := { s with heap := h1 }) hz1 (hs1.extBut _ _ hne.symm hp) hd hne fun h' a1 a2 a3 a4 => ?_
  have sz : h1.objs.size = s.heap.objs.size := hs1.1
  show Q (.ref h1.objs.size) _
  rw [sz] at a1 a2 a3 ⊢
  exact hQ h' a1 a2 a3 fun c x hc e => a4 c x hc (hs1.extBut _ _ hc e)
def ncomb (n : Nat) (indices : List Nat) : Option (List Nat) :=
  let r := indices.length
  match (List.range r).reverse.find? fun i => indices.getD i 0 != i + n - r with
  | none => none
  | some i => some (indices.take i ++ (List.range (r - i)).map (indices.getD i 0 + 1 + ·))
theorem ncomb_inc {n i j : Nat} (h : j + 1 < n) : ncomb n [i, j] = some [i, j + 1] := by
  have e : ((j != 1 + n - 2) : Bool) = true := by simp; omega
  show (match ([1, 0] : List Nat).find? fun k => [i, j].getD k 0 != k + n - 2 with | none => none | some k => some ([i, j].take k ++ (List.range (2 - k)).map ([i, j].getD k 0 + 1 + ·))) = _
  rw [List.find?_cons_of_pos (by simpa using e)]
  rfl
theorem ncomb_row {n i j : Nat} (h : j + 1 = n) (g : i + 2 < n) : ncomb n [i, j] = some [i + 1, i + 2] := by
  have e : ((j != 1 + n - 2) : Bool) = false := by simp; omega
  have e2 : ((i != 0 + n - 2) : Bool) = true := by simp; omega
  show (match ([1, 0] : List Nat).find? fun k => [i, j].getD k 0 != k + n - 2 with | none => none | some k => some ([i, j].take k ++ (List.range (2 - k)).map ([i, j].getD k 0 + 1 + ·))) = _
  rw [List.find?_cons_of_neg (by simpa using e), List.find?_cons_of_pos (by simpa using e2)]
  rfl
theorem ncomb_end {n i j : Nat} (h : j + 1 = n) (g : i + 2 = n) : ncomb n [i, j] = none := by
  have e : ((j != 1 + n - 2) : Bool) = false := by simp; omega
  have e2 : ((i != 0 + n - 2) : Bool) = false := by simp; omega
  show (match ([1, 0] : List Nat).find? fun k => [i, j].getD k 0 != k + n - 2 with | none => none | some k => some ([i, j].take k ++ (List.range (2 - k)).map ([i, j].getD k 0 + 1 + ·))) = _
  rw [List.find?_cons_of_neg (by simpa using e), List.find?_cons_of_neg (by simpa using e2)]
  rfl
theorem comb_next1 {z pl : Addr} {items : Array Value} {o : Obj} {n0 : Nat} {res : Value} {i j i' j' : Nat} {Q : Value → Shared → Prop} (hz : IsComb s.heap z pl 1 res i j) (hp : s.heap.get? pl = some o) (hd : o.data = .seq items n0) (hne : z ≠ pl) (hst : ncomb items.size [i, j] = some [i', j'])
    (hQ : ∀ h', IsComb h' z pl 1 (.ref s.heap.objs.size) i' j' → h'.get? s.heap.objs.size = some { cls := .type "tuple", data := .seq #[items.getD i' .none, items.getD j' .none] } → h'.objs.size = s.heap.objs.size + 1 →
      (∀ c x, c ≠ z → s.heap.get? c = some x → h'.get? c = some x) → Q (.ref s.heap.objs.size) { s with heap := h' }) :
    wpAny (model prog w) A (Builtin.«itertools.combinations.__next__» ⟨[.ref z], []⟩) (fun r s' => ∃ v, r = .done (.ret v) ∧ Q v s') E s := by
  show wpAny _ _ (field (.ref z) 0 >>= _) _ _ _
  refine wpAny_bind (wpAny_field hz rfl (x := .ref pl) rfl ?_)
  refine wpAny_bind ?_
  unfold Builtin.Itertools.itNumbersFrom
  refine wpAny_bind (wpAny_load hz ?_)
  refine wpAny_pure ?_
  show wpAny _ _ (Builtin.Itertools.itIntField (.ref z) 1 >>= _) _ _ _
  refine wpAny_bind ?_
  unfold Builtin.Itertools.itIntField
  refine wpAny_bind (wpAny_field hz rfl (x := rawInt 1) rfl ?_)
  refine wpAny_pure ?_
  show wpAny _ _ (Builtin.Itertools.itPoolItems (.ref pl) >>= _) _ _ _
  refine wpAny_bind ?_
  unfold Builtin.Itertools.itPoolItems
  refine wpAny_bind (wpAny_seqItems hp hd ?_)
  refine wpAny_pure ?_
  show wpAny _ _ (match ncomb items.size [(i : Int).toNat, (j : Int).toNat] with
    | some next => (Builtin.Itertools.itSetNumbersFrom (.ref z) 3 next >>= fun _ => (do
        let result ← (do let items ← Builtin.Itertools.itPoolItems (.ref pl); newTuple (next.map fun i => items.getD i .none))
        let before ← field (.ref z) 2
        setField (.ref z) 2 result
        letGo [before] [result]
        ret result))
    | none => (setField (.ref z) 1 (rawInt 2) >>= fun _ => Builtin.Itertools.itStop)) _ _ s
  rw [Int.toNat_natCast, Int.toNat_natCast, hst]
  refine wpAny_bind ?_
  unfold Builtin.Itertools.itSetNumbersFrom
  refine wpAny_updateFields hz rfl ?_ (by show 5 ≤ sizeLine + 3; decide)
  have hz1 : IsComb (s.heap.update z (Obj.mapFields fun fs => fs.extract 0 3 ++ ([i', j'].map fun (n : Nat) => rawInt n).toArray)) z pl 1 res i' j' := Heap.get?_update_self _ hz rfl
  have sb : Heap.SameBut z s.heap (s.heap.update z (Obj.mapFields fun fs => fs.extract 0 3 ++ ([i', j'].map fun (n : Nat) => rawInt n).toArray)) := Heap.SameBut.update ..
  refine comb_hand hz1 (sb.extBut _ _ hne.symm hp) hd hne fun h' a1 a2 a3 a4 => ?_
  have sz := sb.1
  show Q (.ref (s.heap.update z (Obj.mapFields fun fs => fs.extract 0 3 ++ ([i', j'].map fun (n : Nat) => rawInt n).toArray)).objs.size) _
  rw [sz] at a1 a2 a3 ⊢
  exact hQ h' a1 a2 a3 fun c x hc e => a4 c x hc (sb.extBut _ _ hc e)
theorem comb_next_end {z pl : Addr} {items : Array Value} {o : Obj} {n0 : Nat} {res : Value} {i j : Nat} {Q : Fin → Shared → Prop} (hh : A.handled = none) (hz : IsComb s.heap z pl 1 res i j) (hp : s.heap.get? pl = some o) (hd : o.data = .seq items n0) (hst : ncomb items.size [i, j] = none)
    (hE : ∀ h' e, (∀ c x, c ≠ z → s.heap.get? c = some x → h'.get? c = some x) → (∃ o, h'.get? e = some o ∧ o.cls = .type "StopIteration") → E (.ref e) { s with heap := h' }) :
    wpAny (model prog w) A (Builtin.«itertools.combinations.__next__» ⟨[.ref z], []⟩) Q E s := by
  show wpAny _ _ (field (.ref z) 0 >>= _) _ _ _
  refine wpAny_bind (wpAny_field hz rfl (x := .ref pl) rfl ?_)
  refine wpAny_bind ?_
  unfold Builtin.Itertools.itNumbersFrom
  refine wpAny_bind (wpAny_load hz ?_)
  refine wpAny_pure ?_
  show wpAny _ _ (Builtin.Itertools.itIntField (.ref z) 1 >>= _) _ _ _
  refine wpAny_bind ?_
  unfold Builtin.Itertools.itIntField
  refine wpAny_bind (wpAny_field hz rfl (x := rawInt 1) rfl ?_)
  refine wpAny_pure ?_
  show wpAny _ _ (Builtin.Itertools.itPoolItems (.ref pl) >>= _) _ _ _
  refine wpAny_bind ?_
  unfold Builtin.Itertools.itPoolItems
  refine wpAny_bind (wpAny_seqItems hp hd ?_)
  refine wpAny_pure ?_
  show wpAny _ _ (match ncomb items.size [(i : Int).toNat, (j : Int).toNat] with
    | some next => (Builtin.Itertools.itSetNumbersFrom (.ref z) 3 next >>= fun _ => (do
        let result ← (do let items ← Builtin.Itertools.itPoolItems (.ref pl); newTuple (next.map fun i => items.getD i .none))
        let before ← field (.ref z) 2
        setField (.ref z) 2 result
        letGo [before] [result]
        ret result))
    | none => (setField (.ref z) 1 (rawInt 2) >>= fun _ => Builtin.Itertools.itStop)) _ _ s
  rw [Int.toNat_natCast, Int.toNat_natCast, hst]
  refine wpAny_bind (wpAny_setField_rec hz (by simp) fun h1 hz1 hs1 => ?_)
  refine DVw.raise_stop hh fun h' e oe k1 k2 k3 => hE h' e (fun c x hc g => k1 c x (hs1.extBut _ _ hc g)) ⟨oe, k2, k3⟩
theorem pyNext_comb_item {z pl : Addr} {items : Array Value} {o : Obj} {n0 : Nat} {st : Int} {res : Value} {i j i' j' : Nat} {Q : Option Value → Shared → Prop} (hz : IsComb s.heap z pl st res i j) (hp : s.heap.get? pl = some o) (hd : o.data = .seq items n0) (hne : z ≠ pl)
    (hst : (st = 0 ∧ i' = i ∧ j' = j) ∨ (st = 1 ∧ ncomb items.size [i, j] = some [i', j']))
    (hQ : ∀ h', IsComb h' z pl 1 (.ref s.heap.objs.size) i' j' → h'.get? s.heap.objs.size = some { cls := .type "tuple", data := .seq #[items.getD i' .none, items.getD j' .none] } → h'.objs.size = s.heap.objs.size + 1 →
      (∀ c x, c ≠ z → s.heap.get? c = some x → h'.get? c = some x) → Q (some (.ref s.heap.objs.size)) { s with heap := h' }) :
    wpAny (model prog w) A (pyNext (.ref z)) Q E s := by
  have hT : s.TypeIs (.ref z) "itertools.combinations" := ⟨_, hz, rfl⟩
  unfold pyNext
  refine wpAny_bind (wpAny_attempt (wpAny_callSpecial?_slot (name := Str.ofString "__next__") hT F.slot_comb_next
    (wpAny_call_entry F.slot_comb_next hT F.entry_comb_next ?_ (F.args_comb_next_1 _))))
  rcases hst with ⟨rfl, rfl, rfl⟩ | ⟨rfl, hst⟩
  · exact comb_next0 hz hp hd hne fun h' a1 a2 a3 a4 => wpAny_pure (hQ h' a1 a2 a3 a4)
  · exact comb_next1 hz hp hd hne hst fun h' a1 a2 a3 a4 => wpAny_pure (hQ h' a1 a2 a3 a4)
theorem pyNext_comb_end {z pl : Addr} {items : Array Value} {o : Obj} {n0 : Nat} {res : Value} {i j : Nat} {Q : Option Value → Shared → Prop} (hh : A.handled = none) (hz : IsComb s.heap z pl 1 res i j) (hp : s.heap.get? pl = some o) (hd : o.data = .seq items n0) (hst : ncomb items.size [i, j] = none)
    (hQ : ∀ h', (∀ c x, c ≠ z → s.heap.get? c = some x → h'.get? c = some x) → Q none { s with heap := h' }) : wpAny (model prog w) A (pyNext (.ref z)) Q E s := by
  have hT : s.TypeIs (.ref z) "itertools.combinations" := ⟨_, hz, rfl⟩
  unfold pyNext
  refine wpAny_bind (wpAny_attempt (wpAny_callSpecial?_slot (name := Str.ofString "__next__") hT F.slot_comb_next
    (wpAny_call_entry F.slot_comb_next hT F.entry_comb_next (comb_next_end hh hz hp hd hst fun h' e hk he => ?_) (F.args_comb_next_1 _))))
  obtain ⟨o, ho, hc⟩ := he
  refine wpAny_bind (wpAny_isInstance (T := "StopIteration") (b := true) ⟨o, ho, hc⟩ isSubtype_stop ?_)
  exact wpAny_pure (hQ _ hk)
end
end PySem

end
section
namespace L2
open PySem PySem.Spec PyProof.Rows
section
variable {prog : Program} {w : World} {A : Around} {E : Value → Shared → Prop} {s : Shared} {r : Addr} {a b c : Int} {t u v : Tok} {n : Nat}
def poolR (short : String) (args : Args) : Sem (Value × Value × Nat × Nat) := do
  let (cls, rest) ← Builtin.Itertools.itClassAndRest short args
  let [some iterable, some rV] ← Builtin.Itertools.itBindNamed short ["iterable", "r"] 2 2 rest args.kw | unsupported "internal:itertools.combinations.__new__"
  let r ← Builtin.Itertools.itSsizeArg rV
  let items ← collect iterable
  if r < 0 then rule "itertools.combinations.negative-r"; raiseError "ValueError" "r must be non-negative"
  if Builtin.Itertools.itTooMany r then unsupported s!"itertools.{short}.__new__:memory"
  return (cls, ← newTuple items, items.length, r.toNat)
theorem comb_new {k : Tok} {Q : Value → Shared → Prop} (hh : A.handled = none) (hr : IsRange s.heap r a b c t u v) (hsmall : Builtin.Range.small a b c = true) (hn : Builtin.Range.rangeSize a b c = n) (hlen : n ≤ 2 ^ 24)
    (hQ : ∀ (h' : Heap) (tk : Nat) (acc : Array Value), (∀ b o, s.heap.get? b = some o → h'.get? b = some o) → ItemsOf (fun i v => ∃ t, v = .int (a + i * c) t) acc n →
      Q (.ref (h'.objs.size + 1)) { s with heap := (h'.push { cls := .type "tuple", data := .seq acc }).push { cls := .type "itertools.combinations", data := .fields #[.ref h'.objs.size, rawInt (if 2 > n then 2 else 0), .none, rawInt 0, rawInt 1] }, toks := tk }) :
    wpAny (model prog w) A (Builtin.«itertools.combinations.__new__» ⟨[.type "itertools.combinations", .ref r, .int 2 k], []⟩) (fun f s' => ∃ v, f = .done (.ret v) ∧ Q v s') E s := by
  have hsub : isSubtype (.type "itertools.combinations") (.type "itertools.combinations") = pure true := by rw [isSubtype_type]; kernel_rfl
  unfold Builtin.«itertools.combinations.__new__»
  refine wpAny_bind ?_
  show wpAny _ _ (poolR "combinations" ⟨[.type "itertools.combinations", .ref r, .int 2 k], []⟩) _ _ s
  unfold poolR
  refine wpAny_bind ?_
  unfold Builtin.Itertools.itClassAndRest
  have eT : ("itertools." ++ "combinations" : String) = "itertools.combinations" := by decide +kernel
  rw [eT]
  wp_walk using collect_range hh hr hsmall hn hlen
  intro h' tk acc hk hacc
  have e2 : ¬ ((2 : Int) < 0) := by decide
  rw [if_neg e2, if_neg (by decide)]
  refine wpAny_bind (wpAny_newTuple ?_ (by rw [Array.length_toList, hacc.1, sizeLine_eq]; omega))
  refine wpAny_pure ?_
  have el : acc.toList.length = n := by rw [Array.length_toList, hacc.1]
  show wpAny _ _ (Builtin.Itertools.itNewRecord (.type "itertools.combinations") ([.ref h'.objs.size, rawInt (if 2 > acc.toList.length then 2 else 0), .none] ++ [rawInt 0, rawInt 1]) >>= fun v => ret v) _ _ _
  rw [el]
  refine wpAny_bind ?_
  unfold Builtin.Itertools.itNewRecord
  rw [if_pos (by decide +kernel)]
  have ea : acc.toList.toArray = acc := by simp
  rw [ea]
  refine wpAny_newObj_type ?_ (by show 5 ≤ sizeLine + 2; decide)
  refine wpAny_pure ⟨_, rfl, ?_⟩
  have q := hQ h' tk acc hk hacc
  have sz : (h'.push { cls := .type "tuple", data := .seq acc }).objs.size = h'.objs.size + 1 := Heap.size_push ..
  show Q (.ref (h'.push { cls := .type "tuple", data := .seq acc }).objs.size) _
  rw [sz]
  exact q
theorem call_comb {k : Tok} {Q : Value → Shared → Prop} (hh : A.handled = none) (hr : IsRange s.heap r a b c t u v) (hsmall : Builtin.Range.small a b c = true) (hn : Builtin.Range.rangeSize a b c = n) (hlen : n ≤ 2 ^ 24)
    (hQ : ∀ (h' : Heap) (tk : Nat) (acc : Array Value), (∀ b o, s.heap.get? b = some o → h'.get? b = some o) → ItemsOf (fun i v => ∃ t, v = .int (a + i * c) t) acc n →
      Q (.ref (h'.objs.size + 1)) { s with heap := (h'.push { cls := .type "tuple", data := .seq acc }).push { cls := .type "itertools.combinations", data := .fields #[.ref h'.objs.size, rawInt (if 2 > n then 2 else 0), .none, rawInt 0, rawInt 1] }, toks := tk }) :
    wpAny (model prog w) A (call (.type "itertools.combinations") [.ref r, .int 2 k]) Q E s := by
  refine callType_newIn F.called_comb (by decide) (F.typeCall_comb_2 _ _) (F.newCall_comb_2 _ _) (fun obj => F.args_object_init_3 obj _ _) F.entry_comb_new
    (S := fun A R s' => A.handled = none ∧ s' = s ∧ ∀ (h' : Heap) (tk : Nat) (acc : Array Value), (∀ b o, s.heap.get? b = some o → h'.get? b = some o) → ItemsOf (fun i v => ∃ t, v = .int (a + i * c) t) acc n →
      R (.ok (.ret (.ref (h'.objs.size + 1)))) { s with heap := (h'.push { cls := .type "tuple", data := .seq acc }).push { cls := .type "itertools.combinations", data := .fields #[.ref h'.objs.size, rawInt (if 2 > n then 2 else 0), .none, rawInt 0, rawInt 1] }, toks := tk }) ?_ ?_
  · refine .of_wp fun A R s' h => ?_
    obtain ⟨h1, rfl, h2⟩ := h
    refine wpAny_mono (comb_new (A := A.in1) h1 hr hsmall hn hlen (Q := fun v s' => R (.ok (.ret v)) s') fun h' tk acc hk hacc => h2 h' tk acc hk hacc) (fun f s' q => ?_) fun _ _ z => z
    obtain ⟨v, rfl, q⟩ := q
    exact ⟨_, rfl, q⟩
  · refine ⟨hh, rfl, fun h' tk acc hk hacc => ?_⟩
    have g : ((h'.push { cls := .type "tuple", data := .seq acc }).push { cls := .type "itertools.combinations", data := .fields #[.ref h'.objs.size, rawInt (if 2 > n then 2 else 0), .none, rawInt 0, rawInt 1] }).get? (h'.push { cls := .type "tuple", data := .seq acc }).objs.size = some { cls := .type "itertools.combinations", data := .fields #[.ref h'.objs.size, rawInt (if 2 > n then 2 else 0), .none, rawInt 0, rawInt 1] } := Heap.get?_push_size _ rfl
    rw [show (h'.push { cls := .type "tuple", data := .seq acc }).objs.size = h'.objs.size + 1 from Heap.size_push ..] at g
    exact ⟨⟨_, g, rfl⟩, hQ h' tk acc hk hacc⟩
end
end L2

end
section
namespace L2
open PySem PySem.Spec PyProof.Rows
section
variable {prog : Program} {w : World} {A : Around} {E : Value → Shared → Prop} {s : Shared}
theorem comb_next_over {z pl : Addr} {res : Value} {i j : Nat} {Q : Fin → Shared → Prop} (hh : A.handled = none) (hz : IsComb s.heap z pl 2 res i j)
    (hE : ∀ h' e, (∀ c x, s.heap.get? c = some x → h'.get? c = some x) → (∃ o, h'.get? e = some o ∧ o.cls = .type "StopIteration") → E (.ref e) { s with heap := h' }) :
    wpAny (model prog w) A (Builtin.«itertools.combinations.__next__» ⟨[.ref z], []⟩) Q E s := by
  show wpAny _ _ (field (.ref z) 0 >>= _) _ _ _
  refine wpAny_bind (wpAny_field hz rfl (x := .ref pl) rfl ?_)
  refine wpAny_bind ?_
  unfold Builtin.Itertools.itNumbersFrom
  refine wpAny_bind (wpAny_load hz ?_)
  refine wpAny_pure ?_
  show wpAny _ _ (Builtin.Itertools.itIntField (.ref z) 1 >>= _) _ _ _
  refine wpAny_bind ?_
  unfold Builtin.Itertools.itIntField
  refine wpAny_bind (wpAny_field hz rfl (x := rawInt 2) rfl ?_)
  refine wpAny_pure ?_
  show wpAny _ _ (rule "itertools.combinations.ended" >>= fun _ => Builtin.Itertools.itStop) _ _ s
  refine wpAny_bind (wpAny_rule ?_)
  refine DVw.raise_stop hh fun h' e oe k1 k2 k3 => hE h' e k1 ⟨oe, k2, k3⟩
theorem pyNext_comb_over {z pl : Addr} {res : Value} {i j : Nat} {Q : Option Value → Shared → Prop} (hh : A.handled = none) (hz : IsComb s.heap z pl 2 res i j)
    (hQ : ∀ h', (∀ c x, s.heap.get? c = some x → h'.get? c = some x) → Q none { s with heap := h' }) : wpAny (model prog w) A (pyNext (.ref z)) Q E s := by
  have hT : s.TypeIs (.ref z) "itertools.combinations" := ⟨_, hz, rfl⟩
  unfold pyNext
  refine wpAny_bind (wpAny_attempt (wpAny_callSpecial?_slot (name := Str.ofString "__next__") hT PySem.F.slot_comb_next
    (wpAny_call_entry PySem.F.slot_comb_next hT PySem.F.entry_comb_next (comb_next_over hh hz fun h' e hk he => ?_) (PySem.F.args_comb_next_1 _))))
  obtain ⟨o, ho, hc⟩ := he
  refine wpAny_bind (wpAny_isInstance (T := "StopIteration") (b := true) ⟨o, ho, hc⟩ isSubtype_stop ?_)
  exact wpAny_pure (hQ _ hk)
end
end L2

end
section
namespace L2
open PySem PySem.Spec PyProof.Rows
/-! ### the pairs as they come -/
def nextC (n : Nat) (p : Nat × Nat) : Option (Nat × Nat) := if p.2 + 1 < n then some (p.1, p.2 + 1) else if p.1 + 2 < n then some (p.1 + 1, p.1 + 2) else none
def atC (n : Nat) : Nat → Option (Nat × Nat)
  | 0 => if 2 ≤ n then some (0, 1) else none
  | k + 1 => (atC n k).bind (nextC n)
theorem atC_ok {n : Nat} : ∀ {k : Nat} {p : Nat × Nat}, atC n k = some p → p.1 < p.2 ∧ p.2 < n
  | 0, p, h => by
    unfold atC at h
    split at h
    · cases h; exact ⟨by decide, by show 1 < n; omega⟩
    · cases h
  | k + 1, p, h => by
    unfold atC at h
    cases q : atC n k with
    | none => rw [q] at h; cases h
    | some r =>
      rw [q] at h
      have h : nextC n r = some p := h
      have := atC_ok q
      unfold nextC at h
      split at h
      · cases h; simp only; omega
      · split at h
        · cases h; simp only; omega
        · cases h
theorem ncomb_next {n : Nat} {p : Nat × Nat} (h1 : p.1 < p.2) (h2 : p.2 < n) : ncomb n [p.1, p.2] = (nextC n p).map fun q => [q.1, q.2] := by
  unfold nextC
  by_cases a : p.2 + 1 < n
  · rw [if_pos a, ncomb_inc a]; rfl
  · rw [if_neg a]
    by_cases b : p.1 + 2 < n
    · rw [if_pos b, ncomb_row (by omega) b]; rfl
    · rw [if_neg b, ncomb_end (by omega) (by omega)]; rfl
/-- the pairs of the numbers below n, each a new tuple -/
def ItCm (n : Nat) : It :=
  ⟨fun k _ => (atC n k).isSome = true, fun k H v H' => ∃ T p, v = .ref T ∧ H T = none ∧ atC n k = some p ∧ H' = upd H T (.tup [.int (p.1 : Int), .int (p.2 : Int)]), fun k _ => atC n k = none⟩
def CombTn (n : Nat) (z pl : Addr) (k : Nat) (h : Heap) : Prop :=
  z ≠ pl ∧ (∃ acc, h.get? pl = some { cls := .type "tuple", data := .seq acc } ∧ ItemsOf (fun i v => ∃ t, v = .int (0 + i * 1) t) acc n) ∧
  ((n < 2 ∧ k = 0 ∧ IsComb h z pl 2 .none 0 1) ∨ (2 ≤ n ∧ k = 0 ∧ IsComb h z pl 0 .none 0 1) ∨ ∃ k' p res, k = k' + 1 ∧ atC n k' = some p ∧ IsComb h z pl 1 res p.1 p.2)
theorem CombTn.rec {n : Nat} {z pl : Addr} {k : Nat} {h : Heap} (t : CombTn n z pl k h) : ∃ st res i j, IsComb h z pl st res i j := by
  obtain ⟨_, _, a | a | ⟨k', p, res, _, _, a⟩⟩ := t
  · exact ⟨_, _, _, _, a.2.2⟩
  · exact ⟨_, _, _, _, a.2.2⟩
  · exact ⟨_, _, _, _, a⟩
theorem turn_comb {P : Program} {w : World} {K : PySem.W.Frag} {elts : List Expr} {kk : Nat} {tpos : Pos} {n : Nat} {z pl : Addr} :
    Turn P w K (.Tuple elts kk tpos) (ItCm n) [z, pl] z (CombTn n z pl) where
  mem := by simp
  obj := fun i h st c hc => by
    obtain ⟨s1, r1, i1, j1, hz⟩ := st.rec
    obtain ⟨acc, hp, _⟩ := st.2.1
    have e' : c = z ∨ c = pl := by simpa using hc
    rcases e' with q | q
    · rw [q]; exact ⟨_, hz, fun v q => nomatch q⟩
    · rw [q]; exact ⟨_, hp, fun v q => nomatch q⟩
  keep := fun i h h' st k => by
    obtain ⟨ne, ⟨acc, hp, ho⟩, a | a | ⟨k', p, res, b1, b2, a⟩⟩ := st
    · exact ⟨ne, ⟨acc, k pl (by simp) _ hp, ho⟩, .inl ⟨a.1, a.2.1, k z (by simp) _ a.2.2⟩⟩
    · exact ⟨ne, ⟨acc, k pl (by simp) _ hp, ho⟩, .inr (.inl ⟨a.1, a.2.1, k z (by simp) _ a.2.2⟩)⟩
    · exact ⟨ne, ⟨acc, k pl (by simp) _ hp, ho⟩, .inr (.inr ⟨k', p, res, b1, b2, k z (by simp) _ a⟩)⟩
  item := by
    intro X hP hw hK hc i pins s σ H E I hf st hg
    subst hP hw hK
    obtain ⟨p, hat⟩ : ∃ p, atC n i = some p := Option.isSome_iff_exists.mp hg
    have okp := atC_ok hat
    have st0 := st
    obtain ⟨ne, ⟨acc, hp, ho⟩, hc3⟩ := st
    have sz : acc.size = n := ho.1
    obtain ⟨s1, r1, i1, j1, hz, hst⟩ : ∃ st res i1 j1, IsComb s.heap z pl st res i1 j1 ∧ ((st = 0 ∧ p.1 = i1 ∧ p.2 = j1) ∨ (st = 1 ∧ ncomb acc.size [i1, j1] = some [p.1, p.2])) := by
      rcases hc3 with a | a | ⟨k', p0, res, b1, b2, a⟩
      · rw [a.2.1] at hat
        unfold atC at hat
        rw [if_neg (by omega)] at hat
        cases hat
      · rw [a.2.1] at hat
        unfold atC at hat
        rw [if_pos a.1] at hat
        cases hat
        exact ⟨_, _, _, _, a.2.2, .inl ⟨rfl, rfl, rfl⟩⟩
      · subst b1
        have hat : (atC n k').bind (nextC n) = some p := hat
        rw [b2] at hat
        have hat : nextC n p0 = some p := hat
        have ok0 := atC_ok b2
        exact ⟨_, _, _, _, a, .inr ⟨rfl, by rw [sz, ncomb_next ok0.1 ok0.2, hat]; rfl⟩⟩
    refine pyNext_comb_item hz hp rfl ne hst fun h' g1 g2 g3 g4 => ?_
    refine ⟨_, rfl, ?_⟩
    unfold letOwnedTupleGo
    refine wpAny_bind (wpAny_load g1 ?_)
    show wpAny _ _ (if (["enumerate", "zip", "dict_itemiterator", "dict_reverseitemiterator", "odict_iterator", "itertools.zip_longest", "itertools.pairwise"].contains "itertools.combinations" && _) = true then _ else _) _ _ _
    rw [if_neg (by simp)]
    refine wpAny_pure ?_
    have val : ∀ m, m < n → ∃ t, acc.getD m .none = .int (m : Int) t := fun m hm => by
      have hlt : m < acc.size := by omega
      obtain ⟨t, e⟩ := ho.2 m acc[m] (by simp [hlt])
      refine ⟨t, ?_⟩
      rw [Array.getD_eq_getD_getElem?, Array.getElem?_eq_getElem hlt]
      show acc[m] = _
      rw [e]
      congr 1
      omega
    obtain ⟨t1, e1⟩ := val p.1 (by omega)
    obtain ⟨t2, e2⟩ := val p.2 okp.2
    rw [e1, e2] at g2
    have hzl : z < s.heap.objs.size := Heap.lt_size hz
    have hpl : pl < s.heap.objs.size := Heap.lt_size hp
    have new : ObjOk X.prog X.w (upd H s.heap.objs.size (.tup [.int (p.1 : Int), .int (p.2 : Int)])) h' s.heap.objs.size (.tup [.int (p.1 : Int), .int (p.2 : Int)]) :=
      ⟨by show 2 ≤ sizeLine; decide, [.int p.1 t1, .int p.2 t2], .cons ⟨_, rfl⟩ (.cons ⟨_, rfl⟩ .nil), ⟨_, g2, rfl, _, rfl⟩⟩
    have I1 : Inv X pins σ (upd H s.heap.objs.size (.tup [.int (p.1 : Int), .int (p.2 : Int)])) { s with heap := h' } :=
      I.turnedNew (t' := s.toks) (ch := [z, pl]) (fun c o hb q => g4 c o (fun q' => hb (by simp [q'])) q) hf (Nat.le_refl _) new
    refine ⟨.ref s.heap.objs.size, _, I1, rfl, ⟨_, p, rfl, I.hok.fresh (Nat.le_refl _), hat, rfl⟩, ⟨ne, ⟨acc, g4 _ _ ne.symm hp, ho⟩, .inr (.inr ⟨i, p, _, rfl, hat, g1⟩)⟩, fun c hcm => ?_⟩
    have hlt : c < s.heap.objs.size := by
      have e' : c = z ∨ c = pl := by simpa using hcm
      rcases e' with q | q
      · rw [q]; exact hzl
      · rw [q]; exact hpl
    rw [upd_ne (Nat.ne_of_lt hlt)]
    exact (hf c hcm).1
  done := by
    intro X hP hw hK hc i pins s σ H E I hf st hg
    subst hP hw hK
    have hg : atC n i = none := hg
    obtain ⟨ne, ⟨acc, hp, ho⟩, a | a | ⟨k', p, res, b1, b2, a⟩⟩ := st
    · exact pyNext_comb_over (I.ok.hd hc) a.2.2 fun h' hk => ⟨rfl, I.turnedL (t' := s.toks) (ch := [z, pl]) (fun c o hb q => hk c o q) hf⟩
    · rw [a.2.1] at hg
      unfold atC at hg
      rw [if_pos a.1] at hg
      cases hg
    · subst b1
      have hn : nextC n p = none := by
        have hg : (atC n k').bind (nextC n) = none := hg
        rw [b2] at hg
        exact hg
      have okp := atC_ok b2
      have sz : acc.size = n := ho.1
      exact pyNext_comb_end (I.ok.hd hc) a hp rfl (by rw [sz, ncomb_next okp.1 okp.2, hn]; rfl) fun h' hk => ⟨rfl, I.turnedL (t' := s.toks) (ch := [z, pl]) (fun c o hb q => hk c o (fun q' => hb (by simp [q'])) q) hf⟩
  self := fun A i s Q E st h => by
    obtain ⟨s1, r1, i1, j1, hz⟩ := st.rec
    exact wpAny_pyIter_comb hz h
end L2

end
section
namespace L2
open PySem PySem.Spec PyProof.Rows
section
variable {X : Cx}
/-- combinations(range(b), 2) -/
def iComb (f : L2.St → Hp → (Int → Int → Hp → Prop) → Prop) : TI := fun σ H R => f σ H fun a b H1 => RgOk a b ∧ a = 0 ∧ R (ItCm b.toNat) H1
theorem pi_comb {e : Expr} {te : L2.St → Hp → (Int → Int → Hp → Prop) → Prop} {elts : List Expr} {kk k2 : Nat} {p pos tpos q2 : Pos} (hc : X.calm = true) (hg : Gl X "combinations") (hm : X.mg "combinations" = some (.type "itertools.combinations")) (he : PRg X e te)
    (na : starEach [e, .Constant (.int 2) k2 q2] X.env = (false, eval e X.env) :: starEach [.Constant (.int 2) k2 q2] X.env := by rfl)
    (nb : starEach [.Constant (.int 2) k2 q2] X.env = (false, eval (.Constant (.int 2) k2 q2) X.env) :: starEach [] X.env := by rfl) (hp : (backTo pos (starEach [.Constant (.int 2) k2 q2] X.env)).any (·.1) = false := by rfl) :
    PI X (.Tuple elts kk tpos) (.Call (.Name "combinations" p) [e, .Constant (.int 2) k2 q2] [] pos) (iComb te) := by
  refine ⟨fun pins s σ H R I h => ?_⟩
  refine Call_ (ld_glob I hg hm ?_ (by decide))
  refine PyProof.Rows.callWith_type1 (args_cons (thn (he pins s σ H _ I h) fun x s1 ⟨r, a, b, t, u, v, H1, ex, hr, I1, ok, ea, q⟩ => ?_) na) na hp
  subst ex
  refine args_cons ?_ nb
  refine wpAny_Constant_int ?_
  refine args_nil ?_
  obtain ⟨b1, b2, b3, b4, b5⟩ := ok
  subst ea
  refine call_comb (s := { s1 with toks := s1.toks + 1 }) (n := (b - 0).toNat) (I1.ok.hd hc) hr (small_one b1 b2 b3 b4) (rangeSize_nat 0 b) b5 fun h' tk acc hk hacc => ?_
  have en : (b - 0).toNat = b.toNat := by congr 1; omega
  rw [en] at hacc ⊢
  have I2 : Inv X pins σ H1 { s1 with heap := h', toks := tk } := I1.kept hk
  have I3 : Inv X pins σ H1 { s1 with heap := (h'.push { cls := .type "tuple", data := .seq acc }).push { cls := .type "itertools.combinations", data := .fields #[.ref h'.objs.size, rawInt (if 2 > b.toNat then 2 else 0), .none, rawInt 0, rawInt 1] }, toks := tk } := I2.kept (t' := tk) fun c o e => Heap.get?_push_of_some _ (Heap.get?_push_of_some _ e)
  have gz : ((h'.push { cls := .type "tuple", data := .seq acc }).push { cls := .type "itertools.combinations", data := .fields #[.ref h'.objs.size, rawInt (if 2 > b.toNat then 2 else 0), .none, rawInt 0, rawInt 1] }).get? (h'.objs.size + 1) = some { cls := .type "itertools.combinations", data := .fields #[.ref h'.objs.size, rawInt (if 2 > b.toNat then 2 else 0), .none, rawInt 0, rawInt 1] } := by
    have g : ((h'.push { cls := .type "tuple", data := .seq acc }).push { cls := .type "itertools.combinations", data := .fields #[.ref h'.objs.size, rawInt (if 2 > b.toNat then 2 else 0), .none, rawInt 0, rawInt 1] }).get? (h'.push { cls := .type "tuple", data := .seq acc }).objs.size = some { cls := .type "itertools.combinations", data := .fields #[.ref h'.objs.size, rawInt (if 2 > b.toNat then 2 else 0), .none, rawInt 0, rawInt 1] } := Heap.get?_push_size _ rfl
    rw [show (h'.push { cls := .type "tuple", data := .seq acc }).objs.size = h'.objs.size + 1 from Heap.size_push ..] at g
    exact g
  have gp : ((h'.push { cls := .type "tuple", data := .seq acc }).push { cls := .type "itertools.combinations", data := .fields #[.ref h'.objs.size, rawInt (if 2 > b.toNat then 2 else 0), .none, rawInt 0, rawInt 1] }).get? h'.objs.size = some { cls := .type "tuple", data := .seq acc } := Heap.get?_push_of_some _ (Heap.get?_push_size _ rfl)
  have tn : CombTn b.toNat (h'.objs.size + 1) h'.objs.size 0 ((h'.push { cls := .type "tuple", data := .seq acc }).push { cls := .type "itertools.combinations", data := .fields #[.ref h'.objs.size, rawInt (if 2 > b.toNat then 2 else 0), .none, rawInt 0, rawInt 1] }) := by
    refine ⟨Nat.succ_ne_self _, ⟨acc, gp, hacc⟩, ?_⟩
    by_cases hb : 2 > b.toNat
    · rw [if_pos hb] at gz ⊢
      exact .inl ⟨by omega, rfl, gz⟩
    · rw [if_neg hb] at gz ⊢
      exact .inr (.inl ⟨by omega, rfl, gz⟩)
  obtain ⟨st, re, i1, j1, hz⟩ := tn.rec
  refine wpAny_pyIter_comb hz ?_
  refine ⟨h'.objs.size + 1, [h'.objs.size + 1, h'.objs.size], _, _, H1, rfl, I3, turn_comb, tn, fun c hcm => ?_, q⟩
  have hle : h'.objs.size ≤ c := by
    have e' : c = h'.objs.size + 1 ∨ c = h'.objs.size := by simpa using hcm
    rcases e' with z | z <;> rw [z]
    · exact Nat.le_succ _
    · exact Nat.le_refl _
  have hnone : H1 c = none := I2.hok.fresh hle
  exact I2.fpOk hle hnone
end
end L2

end
section
namespace L2
open PySem PySem.Spec PyProof.Rows
section
variable {X : Cx} {tg : Expr}
/-- over a list or a tuple -/
def iSeq (K : PySem.W.Frag) (tl : TE) : TI := fun σ H R => tl σ H fun x H1 => ∃ a, x = .ref a ∧ (((∃ xs, SqL K H1 a xs) ∧ R (Itl K a) H1) ∨ ((∃ xs, SqT K H1 a xs) ∧ R (Itt K a) H1))
theorem pi_seq {l : Expr} {tl : TE} (hl : PE X l tl) : PI X tg l (iSeq X.K tl) := by
  refine ⟨fun pins s σ H R I h => ?_⟩
  refine thn (hl.run pins s σ H _ I h) fun v s1 ⟨x, H1, I1, r1, q1⟩ => ?_
  obtain ⟨a, e, ⟨⟨xs, hq⟩, q⟩ | ⟨⟨xs, hq⟩, q⟩⟩ := q1
  · subst e
    cases r1
    obtain ⟨its, rv, p, hz⟩ := I1.list hq
    refine wpAny_pyIter_list p.isList ?_
    refine ⟨s1.heap.objs.size, [s1.heap.objs.size], _, _, H1, rfl, I1.kept (t' := s1.toks) fun b o e => Heap.get?_push_of_some _ e, turn_list a _, ⟨_, Heap.get?_push_size _ rfl, rfl, rfl⟩, fun b hb => ?_, q⟩
    have e : b = s1.heap.objs.size := by simpa using hb
    subst e
    exact I1.fpOk (Nat.le_refl _) (I1.hok.fresh (Nat.le_refl _))
  · subst e
    cases r1
    obtain ⟨its, rv, p, hz⟩ := I1.tuple hq
    refine wpAny_pyIter_tuple (show s1.heap.IsTuple a its.toArray from p) ?_
    refine ⟨s1.heap.objs.size, [s1.heap.objs.size], _, _, H1, rfl, I1.kept (t' := s1.toks) fun b o e => Heap.get?_push_of_some _ e, turn_tuple a _, ⟨_, Heap.get?_push_size _ rfl, rfl, rfl⟩, fun b hb => ?_, q⟩
    have e : b = s1.heap.objs.size := by simpa using hb
    subst e
    exact I1.fpOk (Nat.le_refl _) (I1.hok.fresh (Nat.le_refl _))
end
end L2

end
section
namespace L2
open PySem PySem.Spec PyProof.Rows
section
variable {X : Cx} {pins : List (Addr × Obj)} {σ : L2.St} {H : Hp} {s : Shared} {d : Addr} {kvs : List (List Key × V)}
/-- a dict whose keys are tuples, entry by entry -/
theorem dt_raw (I : Inv X pins σ H s) (h : Rd H d (.dT kvs)) : (d == sysModules) = false ∧ kvs.length ≤ sizeLine ∧ ∃ (es : Array DictEntry) (ep : Nat), s.heap.DictRaw d es ep ∧ es.size = kvs.length ∧
    ∀ (i : Nat) (ks : List Key) (x : V), kvs[i]? = some (ks, x) → ∃ (hi : i < es.size) (q : Addr), es[i].key = .ref q ∧ H q = some (.tup (ks.map kV)) ∧ RelV x es[i].val := by
  obtain ⟨z, nm, ys, pr, ob, es, ep, ho, hx, hdt, he, _⟩ := (show ObjOk X.prog X.w H s.heap d (.dT kvs) from rd_of I.hok h)
  have l1 : es.size = ys.length := size_of_entries he
  have l2 : kvs.length = ys.length := Paired.length pr
  refine ⟨nm, z, es, ep, ⟨ob, ho, hx, hdt⟩, by omega, fun i ks x e => ?_⟩
  obtain ⟨b, hb, e1, e2, e3⟩ := paired_get pr e
  have q := entry_at he i
  rw [hb] at q
  obtain ⟨hi, q2⟩ := Array.getElem?_eq_some_iff.mp q
  refine ⟨hi, b.2.1, ?_, e2, ?_⟩
  · rw [q2]; rfl
  · rw [q2]; exact e3
theorem frz_dt (I : Inv X pins σ H s) {o : Obj} (h : H d = some (.frz o (.dT kvs))) : s.heap.get? d = some o := by
  have := I.hok d _ h
  exact this.1
end
/-! ### for k, v in d.items() -/
/-- the pairs, each a new tuple, its key's own tuple in it -/
def Itp (d : Addr) (o : Obj) (kvs : List (List Key × V)) : It :=
  ⟨fun i H => H d = some (.frz o (.dT kvs)) ∧ i < kvs.length,
   fun i H y H' => ∃ t ks x q, kvs[i]? = some (ks, x) ∧ H q = some (.tup (ks.map kV)) ∧ y = .ref t ∧ H t = none ∧ H' = upd H t (.tup [.ref q, x]),
   fun i H => H d = some (.frz o (.dT kvs)) ∧ kvs.length ≤ i⟩
section
variable {P : Program} {w : World} {K : PySem.W.Frag} {d : Addr} {o : Obj} {kvs : List (List Key × V)} {es : Array DictEntry} {ep : Nat}
theorem turn_pairs {elts : List Expr} {kk : Nat} {tpos : Pos} (z : Addr) (hod : o.data = .dict es ep) (hn : es.size = kvs.length) :
    Turn P w K (.Tuple elts kk tpos) (Itp d o kvs) [z] z (fun i h => ∃ c1 c2, IsItemIter h z d i es.size ep c1 c2) where
  mem := List.mem_singleton.mpr rfl
  obj := fun i h st b hb => by
    rw [List.mem_singleton.mp hb]
    obtain ⟨c1, c2, e⟩ := st
    exact ⟨_, e, fun v y => nomatch y⟩
  keep := fun i h h' st k => by
    obtain ⟨c1, c2, e⟩ := st
    exact ⟨c1, c2, k z (List.mem_singleton.mpr rfl) _ e⟩
  item := by
    intro X hP hw hK hc i pins s σ H E I fpo st hg
    subst hP hw hK
    obtain ⟨hd, hi⟩ := hg
    obtain ⟨nm, zl, es', ep', raw, l', ent⟩ := dt_raw I (.inr ⟨o, hd⟩)
    have ho := frz_dt I hd
    obtain ⟨ob, hob, hex, hdat⟩ := id raw
    rw [ho] at hob
    cases hob
    rw [hod] at hdat
    cases hdat
    obtain ⟨⟨ks, x⟩, hkv⟩ : ∃ p, kvs[i]? = some p := ⟨_, List.getElem?_eq_getElem hi⟩
    obtain ⟨hi2, q, e1, e2, e3⟩ := ent i ks x hkv
    obtain ⟨c1, c2, he⟩ := st
    have zlt : z < s.heap.objs.size := Heap.lt_size he
    refine wpAny_pyNext_items_item_raw he raw hi2 fun h1 out tup sz kp => ⟨_, rfl, wpAny_letOwnedTupleGo_items (s := { s with heap := h1 }) out fun h2 it2 same => ?_⟩
    have tup2 : h2.get? s.heap.objs.size = some { cls := .type "tuple", data := .seq #[es[i].key, es[i].val] } := (same.2 _ (Nat.ne_of_gt zlt)).trans tup
    have rk : RelV (.ref q) es[i].key := by rw [e1]; exact rfl
    have fresh : ObjOk X.prog X.w (upd H s.heap.objs.size (.tup [.ref q, x])) h2 s.heap.objs.size (.tup [.ref q, x]) :=
      ⟨by show 2 ≤ sizeLine; decide, [es[i].key, es[i].val], .cons rk (.cons e3 .nil), _, tup2, rfl, _, rfl⟩
    have J : Inv X pins σ (upd H s.heap.objs.size (.tup [.ref q, x])) { s with heap := h2 } :=
      I.turnedNew (t' := s.toks) (ch := [z]) (fun b ob nb e => by
        have nb' : b ≠ z := fun y => nb (List.mem_singleton.mpr y)
        exact (same.2 b nb').trans (kp b ob nb' e)) fpo (Nat.le_refl _) fresh
    refine ⟨.ref s.heap.objs.size, _, J, rfl, ⟨_, ks, x, q, hkv, e2, rfl, I.hok.fresh (Nat.le_refl _), rfl⟩, ⟨_, _, it2⟩, fun b hb => ?_⟩
    rw [List.mem_singleton.mp hb, upd_ne (Nat.ne_of_lt zlt)]
    exact (fpo z (List.mem_singleton.mpr rfl)).1
  done := by
    intro X hP hw hK hc i pins s σ H E I fpo st hg
    subst hP hw hK
    obtain ⟨hd, hi⟩ := hg
    obtain ⟨g0, g1, g2, g3, g4, g5⟩ := fpo z (List.mem_singleton.mpr rfl)
    obtain ⟨nm, zl, es', ep', raw, l', ent⟩ := dt_raw I (.inr ⟨o, hd⟩)
    have ho := frz_dt I hd
    obtain ⟨ob, hob, hex, hdat⟩ := id raw
    rw [ho] at hob
    cases hob
    rw [hod] at hdat
    cases hdat
    obtain ⟨c1, c2, he⟩ := st
    exact wpAny_pyNext_items_end_raw (I.ok.hd hc) he raw (by omega) fun h1 eb => ⟨rfl, I.turned (t' := s.toks) (fun b ob nb e => eb b ob nb e) g0 g1 g3 g4 g5⟩
  self := fun A i s Q E st h => by
    obtain ⟨c1, c2, e⟩ := st
    exact wpAny_pyIter_itemiter e h
end
def iPairs (td : TE) : TI := fun σ H R => td σ H fun x H1 => ∃ d o kvs, x = .ref d ∧ H1 d = some (.frz o (.dT kvs)) ∧ R (Itp d o kvs) H1
section
variable {X : Cx} {e : Expr} {td : TE} {apos cpos : Pos}
theorem pi_pairs {elts : List Expr} {kk : Nat} {tpos : Pos} (he : PE X e td) (hbase : attributeBase e "items" X.env (eval e X.env) = eval e X.env := by rfl) (hline : (apos.endLine == cpos.line) = true := by rfl) :
    PI X (.Tuple elts kk tpos) (.Call (.Attribute e "items" apos) [] [] cpos) (iPairs td) := by
  refine ⟨fun pins s σ H R I h => ?_⟩
  refine wpAny_Call_method (T := "dict") (id := "dict.items") hbase rfl hline F.plainAttrs_dict F.slot_dict_items F.type_dict_items (thn (he.run pins s σ H _ I h) fun u s1 y => ?_)
  obtain ⟨x, H1, J, rx, d, o, kvs, ex, hd, q⟩ := y
  subst ex
  obtain rfl : u = Value.ref d := rx
  obtain ⟨nm, zl, es, ep, raw, l', ent⟩ := dt_raw J (.inr ⟨o, hd⟩)
  have ho := frz_dt J hd
  obtain ⟨ob, hob, hex, hdat⟩ := id raw
  rw [ho] at hob
  cases hob
  refine ⟨raw.typeIs, fun b hb => ?_, ?_⟩
  · cases hb
    exact ⟨o, ho, hex.2.1⟩
  have J2 : Inv X pins σ H1 { s1 with heap := s1.heap.push { cls := .type "dict_items", data := .fields #[.ref d] } } := J.kept (t' := s1.toks) fun b ob y => Heap.get?_push_of_some _ y
  have raw2 : ({ s1 with heap := s1.heap.push { cls := .type "dict_items", data := .fields #[.ref d] } } : Shared).heap.DictRaw d es ep := raw.at fun o' y => Heap.get?_push_of_some _ y
  have fin : wpAny (model X.prog X.w) X.A (pyIter (.ref s1.heap.objs.size)) (PIE X pins σ (.Tuple elts kk tpos) R) X.xe { s1 with heap := s1.heap.push { cls := .type "dict_items", data := .fields #[.ref d] } } := by
    refine wpAny_pyIter_items_raw (d := d) ⟨_, Heap.get?_push_size _ rfl, rfl, rfl⟩ raw2 (pi_one (tk := s1.toks) J2 _ (turn_pairs _ hdat l') ⟨.none, .none, Heap.get?_push_size _ rfl⟩ q)
  show wpAny _ _ (callWith cpos (.builtin "dict.items") [.ref d] [] []) _ X.xe s1
  exact method_meetsIn F.slot_dict_items F.entry_dict_items rfl (PySem.evalArgs_none ⟨rfl, raw.typeIs, F.args_dict_items_1 _, _, meets_dict_items_raw d nm, ⟨es, ep, raw⟩, fin⟩)
end
/-! ### d.values(), d.keys(): views; their sum, their list -/
def valsO (p d : Addr) : HO := .ext fun h => h.IsValuesView p d
def keysO (p d : Addr) : HO := .ext fun h => PySem.W.KdlKeysView h p d
section
variable {X : Cx} {e : Expr} {td : TE} {apos cpos : Pos}
def tView (f : Addr → Addr → HO) (td : TE) : TE := fun σ H Q => td σ H fun x H1 => ∃ d kvs, x = .ref d ∧ Rd H1 d (.dT kvs) ∧ ∀ p, H1 p = none → Q (.ref p) (upd H1 p (f p d))
theorem pe_dvals (he : PE X e td) (hbase : attributeBase e "values" X.env (eval e X.env) = eval e X.env := by rfl) (hline : (apos.endLine == cpos.line) = true := by rfl) : PE X (.Call (.Attribute e "values" apos) [] [] cpos) (tView valsO td) := by
  refine ⟨fun pins s σ H Q I h => ?_⟩
  refine wpAny_Call_method (T := "dict") (id := "dict.values") hbase rfl hline F.plainAttrs_dict F.slot_dict_values F.type_dict_values (thn (he.run pins s σ H _ I h) fun u s1 y => ?_)
  obtain ⟨x, H1, J, rx, d, kvs, ex, hd, q⟩ := y
  subst ex
  obtain rfl : u = Value.ref d := rx
  obtain ⟨nm, zl, es, ep, raw, l', ent⟩ := dt_raw J hd
  obtain ⟨ob, hob, hex, hdat⟩ := id raw
  refine ⟨raw.typeIs, fun b hb => ?_, ?_⟩
  · cases hb
    exact ⟨ob, hob, hex.2.1⟩
  show wpAny _ _ (callWith cpos (.builtin "dict.values") [.ref d] [] []) _ X.xe s1
  refine method_meetsIn F.slot_dict_values F.entry_dict_values rfl (PySem.evalArgs_none ⟨rfl, raw.typeIs, F.args_dict_values_1 _, _, meets_dict_values_raw d nm, ⟨es, ep, raw⟩, ?_⟩)
  have gp : (s1.heap.push { cls := .type "dict_values", data := .fields #[.ref d] }).get? s1.heap.objs.size = some { cls := .type "dict_values", data := .fields #[.ref d] } := Heap.get?_push_size _ rfl
  exact ⟨.ref s1.heap.objs.size, upd H1 s1.heap.objs.size (valsO s1.heap.objs.size d), J.laid (t' := s1.toks) (fun b u e => Heap.get?_push_of_some _ e) (Nat.le_refl _) ⟨⟨_, gp, rfl, rfl⟩, ⟨_, gp⟩, fun h1 h2 ⟨o, a, b⟩ k => ⟨o, k o a, b⟩⟩, rfl, q _ (J.hok.fresh (Nat.le_refl _))⟩
theorem pe_dkeys (he : PE X e td) (hbase : attributeBase e "keys" X.env (eval e X.env) = eval e X.env := by rfl) (hline : (apos.endLine == cpos.line) = true := by rfl) : PE X (.Call (.Attribute e "keys" apos) [] [] cpos) (tView keysO td) := by
  refine ⟨fun pins s σ H Q I h => ?_⟩
  refine wpAny_Call_method (T := "dict") (id := "dict.keys") hbase rfl hline F.plainAttrs_dict F.slot_dict_keys F.type_dict_keys (thn (he.run pins s σ H _ I h) fun u s1 y => ?_)
  obtain ⟨x, H1, J, rx, d, kvs, ex, hd, q⟩ := y
  subst ex
  obtain rfl : u = Value.ref d := rx
  obtain ⟨nm, zl, es, ep, raw, l', ent⟩ := dt_raw J hd
  obtain ⟨ob, hob, hex, hdat⟩ := id raw
  refine ⟨raw.typeIs, fun b hb => ?_, ?_⟩
  · cases hb
    exact ⟨ob, hob, hex.2.1⟩
  show wpAny _ _ (callWith cpos (.builtin "dict.keys") [.ref d] [] []) _ X.xe s1
  refine method_meetsIn F.slot_dict_keys F.entry_dict_keys rfl (PySem.evalArgs_none ⟨rfl, raw.typeIs, F.args_dict_keys_1 _, _, meets_dict_keys_raw d nm, ⟨es, ep, raw⟩, ?_⟩)
  have gp : (s1.heap.push { cls := .type "dict_keys", data := .fields #[.ref d] }).get? s1.heap.objs.size = some { cls := .type "dict_keys", data := .fields #[.ref d] } := Heap.get?_push_size _ rfl
  exact ⟨.ref s1.heap.objs.size, upd H1 s1.heap.objs.size (keysO s1.heap.objs.size d), J.laid (t' := s1.toks) (fun b u e => Heap.get?_push_of_some _ e) (Nat.le_refl _) ⟨⟨_, gp, rfl, rfl⟩, ⟨_, gp⟩, fun h1 h2 ⟨o, a, b⟩ k => ⟨o, k o a, b⟩⟩, rfl, q _ (J.hok.fresh (Nat.le_refl _))⟩
def rSumV : List V → Hp → VK → Prop := fun xs H Q => ∃ (p d : Addr) (kvs : List (List Key × V)) (ns : List Int), xs = [.ref p] ∧ H p = some (valsO p d) ∧ Rd H d (.dT kvs) ∧ kvs.map Prod.snd = ns.map V.int ∧ Q (.int ns.sum) H
theorem sum_shift (f : Nat → Int) : ∀ n : Nat, preSum f (n + 1) = f 0 + preSum (fun i => f (i + 1)) n := PySem.W.kdu_shift f
theorem sum_pre : ∀ ns : List Int, preSum (fun i => ns.getD i 0) ns.length = ns.sum
  | [] => rfl
  | x :: r => by
    rw [List.length_cons, sum_shift, List.sum_cons]
    have := sum_pre r
    simpa using this
theorem cr_sumV (hc : X.calm = true) : CallR X (.builtin "sum") rSumV := by
  intro pins s σ H xs us Q I r h
  obtain ⟨p, d, kvs, ns, rfl, hp, hd, hv, q⟩ := h
  rw [Vals.ref1 r]
  obtain ⟨nm, zl, es, ep, raw, l', ent⟩ := dt_raw I hd
  obtain ⟨view, _, _⟩ := (show ObjOk X.prog X.w H s.heap p (valsO p d) from I.hok p _ hp)
  have ln : ns.length = kvs.length := by rw [← List.length_map (f := V.int), ← hv, List.length_map]
  refine call_sum_walkAnyS ?_
  obtain ⟨oI, St, hit, W, st⟩ := (PySem.KdlSrc.rawValues (prog := X.prog) (w := X.w) (r := p) (d := d) (es := es) (ep := ep)).iter X.A.in1 s (I.ok.hd hc) ⟨view, raw⟩
  refine hit _ _ ⟨s.heap.objs.size, _, _, _, es.size, _, _, fun i => ns.getD i 0, rfl, W.toS, st, fun b hb => ?_, fun i v hi => ?_, fun s' t' hm => ?_⟩
  · show b < (s.heap.push oI).objs.size
    rw [Heap.size_push]
    rcases List.mem_cons.mp hb with e | hb
    · rw [e]; exact Nat.lt_succ_self _
    · rw [List.mem_singleton.mp hb]; exact Nat.lt_succ_of_lt raw.lt_size
  · obtain ⟨hi, rfl⟩ := hi
    obtain ⟨⟨ks, x⟩, hkv⟩ : ∃ y, kvs[i]? = some y := ⟨_, List.getElem?_eq_getElem (by omega)⟩
    obtain ⟨_, _, _, _, e3⟩ := ent i ks x hkv
    have hx : (kvs.map Prod.snd)[i]? = some x := by rw [List.getElem?_map, hkv]; rfl
    rw [hv, List.getElem?_map, List.getElem?_eq_getElem (show i < ns.length by omega)] at hx
    cases hx
    obtain ⟨t, e⟩ := e3
    refine ⟨t, ?_⟩
    show es[i].val = Value.int (ns.getD i 0) t
    rw [List.getD_eq_getElem?_getD, List.getElem?_eq_getElem (show i < ns.length by omega)]
    exact e
  · have hk : ∀ b o, s.heap.get? b = some o → s'.heap.get? b = some o := fun b o e =>
      hm.heap b o (fun hI => absurd (Heap.lt_size e) (by rw [List.mem_singleton.mp hI]; exact Nat.lt_irrefl _)) (Heap.get?_push_of_some _ e)
    rw [Moved.eq_with hm]
    refine ⟨.int ns.sum, H, I.kept (t' := s'.toks) hk, ⟨t', ?_⟩, q⟩
    show Value.int _ _ = Value.int _ _
    rw [show es.size = ns.length by omega, sum_pre]
def rListK : List V → Hp → VK → Prop := fun xs H Q => ∃ (p d : Addr) (kvs : List (List Key × V)), xs = [.ref p] ∧ H p = some (keysO p d) ∧ Rd H d (.dT kvs) ∧ ∀ q bs, H q = none → IsKeys H kvs bs → Q (.ref q) (upd H q (.lst (bs.map V.ref)))
theorem keys_ix : ∀ {kvs : List (List Key × V)} {bs : List Addr} {H : Hp}, kvs.length = bs.length → (∀ (i : Nat) (ks : List Key) (x : V) (b : Addr), kvs[i]? = some (ks, x) → bs[i]? = some b → H b = some (.tup (ks.map kV))) → IsKeys H kvs bs
  | [], [], _, _, _ => Paired.nil
  | [], _ :: _, _, l, _ => by cases l
  | _ :: _, [], _, l, _ => by cases l
  | (ks, x) :: kvs, b :: bs, H, l, h => Paired.cons (h 0 ks x b rfl rfl) (keys_ix (by simpa using l) fun i ks' x' b' e1 e2 => h (i + 1) ks' x' b' e1 e2)
theorem cr_listK (hc : X.calm = true) : CallR X (.type "list") rListK := by
  intro pins s σ H xs us Q I r h
  obtain ⟨p, d, kvs, rfl, hp, hd, q⟩ := h
  rw [Vals.ref1 r]
  obtain ⟨nm, zl, es, ep, raw, l', ent⟩ := dt_raw I hd
  obtain ⟨view, _, _⟩ := (show ObjOk X.prog X.w H s.heap p (keysO p d) from I.hok p _ hp)
  refine PySem.W.kdl_call (PySem.KdlSrc.rawKeys (prog := X.prog) (w := X.w) (r := p) (d := d) (es := es) (ep := ep)) (I.ok.hd hc) ⟨view, raw⟩ (by omega) fun h' tk acc c kp e it => ?_
  have al : acc.size = es.size := it.1
  obtain ⟨bs, hbl, hbs⟩ : ∃ bs : List Addr, bs.length = kvs.length ∧ ∀ (i : Nat) (hi : i < es.size) b, bs[i]? = some b → es[i].key = .ref b ∧ ∀ ks x, kvs[i]? = some (ks, x) → H b = some (.tup (ks.map kV)) := by
    have pick : ∀ i : Fin kvs.length, ∃ b : Addr, ∃ hi : i.val < es.size, es[i.val].key = .ref b ∧ H b = some (.tup ((kvs[i.val]).1.map kV)) := fun i => by
      obtain ⟨hi, b, e1, e2, _⟩ := ent i.val (kvs[i.val]).1 (kvs[i.val]).2 (by rw [List.getElem?_eq_getElem i.isLt])
      exact ⟨b, hi, e1, e2⟩
    refine ⟨List.ofFn fun i => Classical.choose (pick i), List.length_ofFn, fun i hi b hb => ?_⟩
    have hi2 : i < kvs.length := by omega
    rw [List.getElem?_ofFn] at hb
    simp only [hi2, dite_true, Option.some.injEq] at hb
    obtain ⟨_, e1, e2⟩ := Classical.choose_spec (pick ⟨i, hi2⟩)
    rw [hb] at e1 e2
    refine ⟨e1, fun ks x hk => ?_⟩
    rw [List.getElem?_eq_getElem hi2] at hk
    cases hk' : kvs[i] with
    | mk a c =>
      rw [hk'] at hk
      cases hk
      simp only [hk'] at e2
      exact e2
  have ea : acc.toList = bs.map Value.ref := by
    refine List.ext_getElem? fun j => ?_
    by_cases hj : j < es.size
    · obtain ⟨b, hb⟩ : ∃ b, bs[j]? = some b := ⟨_, List.getElem?_eq_getElem (by omega)⟩
      have ej : acc[j]? = some acc[j] := by rw [Array.getElem?_eq_getElem]
      obtain ⟨hi, hv⟩ := it.2 j acc[j] ej
      rw [List.getElem?_map, hb, Array.getElem?_toList, ej, hv, (hbs j hj b hb).1]
      rfl
    · rw [List.getElem?_eq_none (by rw [Array.length_toList]; omega), List.getElem?_eq_none (by rw [List.length_map]; omega)]
  have rv : Vals (bs.map V.ref) acc.toList := by rw [ea]; exact vals_refs bs
  refine ⟨.ref s.heap.objs.size, _, I.laid (t' := tk) (o := .lst (bs.map V.ref)) kp (Nat.le_refl _) ⟨by rw [List.length_map]; omega, acc.toList, c, rv, by rw [Array.toArray_toList]; exact e⟩, rfl, q _ bs (I.hok.fresh (Nat.le_refl _)) (keys_ix hbl.symm fun i ks x b e1 e2 => ?_)⟩
  exact (hbs i (by have := (List.getElem?_eq_some_iff.mp e1).1; omega) b e2).2 ks x e1
end
end L2

end
section
namespace L2
open PySem PySem.Spec PyProof.Rows
/-! ### a dict's text with one tuple as its key -/
/-- the key and the number stored -/
def put1K (p : Addr) (x y : V) (H : Hp) (Q : VK) : Prop := ∃ b k, x = .ref b ∧ H b = some (.tup (k.map kV)) ∧ H p = some (.dT []) ∧ Q (.ref p) (upd H p (.dT [(k, y)]))
def tDisp1 (tk tv : TE) : TE := fun σ H Q => ∀ p, H p = none → tk σ (upd H p (.dT [])) fun x H1 => tv σ H1 fun y H2 => put1K p x y H2 Q
theorem pe_disp1 {X : Cx} {ke ve : Expr} {pos : Pos} {tk tv : TE} (hu : X.A.units + 1 < cLine) (hk : PE X ke tk) (hv : PE X ve tv) : PE X (.Dict [some ke] [ve] pos) (tDisp1 tk tv) := by
  refine ⟨fun pins s σ H Q I h => ?_⟩
  have fresh := I.hok.fresh (Nat.le_refl s.heap.objs.size)
  have I1 := I.laid (a := s.heap.objs.size) (o := .dT []) (h' := s.heap.push { cls := .type "dict", data := .dict #[] }) (t' := s.toks) (fun _ _ q => Heap.get?_push_of_some _ q) (Nat.le_refl _) (dt_empty s.heap I.big)
  rw [arm_eval_Dict, zip_pairTrees [some ke] [ve] X.env pos rfl rfl, dictDisplay_pairs (pairTrees [some ke] [ve] X.env pos) (by simp [pairTrees]) (by simp [pairTrees])]
  refine wpAny_bind (wpAny_standAt (wpAny_bind (wpAny_subDictH (knd := tupleKind (mixKind X.prog X.w)) (Q := fun d s' => wpAny (model X.prog X.w) X.A (pure (Value.ref d)) _ _ s') (show X.A.units < cLine by omega) (by simp [pairTrees]) ?_)))
  refine pairTrees_cons_walk (thn (hk.run pins _ σ _ _ I1 (h _ fresh)) fun u s1 ⟨x, H1, I2, rx, q1⟩ => thn (hv.run pins s1 σ H1 _ I2 q1) fun w2 s2 ⟨y, H2, I3, ry, b, k, ex, eb, ep, q⟩ => pairTrees_nil_walk ?_)
  subst ex
  cases (show u = Value.ref b from rx)
  obtain ⟨z, hd, xs, rel, dd⟩ := dt_of I3.hok ep
  cases rel
  refine ⟨[(k, b, w2)], ⟨rfl, rfl, key_of I3.hok eb, trivial⟩, dd, fun h' tk2 dd' hs => wpAny_pure ?_⟩
  obtain ⟨o2, es, epp, hq, h2, h3, h4, _, h5⟩ := dd'
  refine ⟨.ref s.heap.objs.size, upd H2 s.heap.objs.size (.dT [(k, y)]), d_write (t' := tk2) I3 (by rw [ep]; exact True.intro) hs ⟨o2, hq⟩ (show ObjOk X.prog X.w (upd H2 s.heap.objs.size (.dT [(k, y)])) h' s.heap.objs.size (.dT [(k, y)]) from ⟨by rw [sizeLine_eq]; show 1 ≤ _; decide, hd, [(k, b, w2)], .cons ⟨rfl, ?_, ry⟩ .nil, o2, es, epp, hq, h2, h3, h4, h5⟩), rfl, q⟩
  show upd H2 s.heap.objs.size (.dT [(k, y)]) b = _
  rw [upd_ne (ne_of eb ep (fun z => nomatch z))]
  exact eb
end L2

end
namespace Fa
open PySem PySem.Spec PyProof.Rows L2
def rIsNone : R2 := fun x y H Q => y = .non ∧ Q (.bl (decide (x = .non))) H
def rNotNone : R2 := fun x y H Q => y = .non ∧ Q (.bl (!decide (x = .non))) H
def rMin2 : List V → Hp → VK → Prop := fun xs H Q => ∃ i j, xs = [.int i, .int j] ∧ Q (.int (if j < i then j else i)) H
section
variable {K : PySem.W.Frag} {D : Ends} {σ : L2.St} {H : Hp} {Q : VK} {ta tb tc te : TE} {t u : TS} {b c : TT} {x y v : V} {r : R2} {i : Nat} {QB : Bool → Hp → Prop} {QA : List V → Hp → Prop}
theorem r_seq (h : t { D with nx := u D } σ H) : tSeq t u D σ H := h
theorem r_asg (h : te σ H fun x H1 => D.nx (σ.set i (some x)) H1) : tAsg te (gName i) D σ H := h
theorem r_asgG {g : TG} (h : te σ H fun x H1 => g x σ H1 D.nx) : tAsg te g D σ H := h
theorem r_par {i j : Nat} {ta : TA} (h : ta σ H fun vs H1 => ∃ v w, vs = [v, w] ∧ D.nx ((σ.set i (some v)).set j (some w)) H1) : tPar i j ta D σ H := h
theorem r_if (h : c σ H fun b H1 => if b = true then t D σ H1 else u D σ H1) : tIfS c t u D σ H := h
theorem r_ret (h : te σ H D.rt) : tRet te D σ H := h
theorem r_drop (h : te σ H fun _ H1 => D.nx σ H1) : tDrop te D σ H := h
theorem r_next (h : D.nx σ H) : tNext D σ H := h
theorem r_var (h : σ[i]? = some (some v)) (q : Q v H) : tVar i σ H Q := ⟨v, h, q⟩
theorem r_c (q : Q v H) : tC v σ H Q := q
theorem r_op (h : ta σ H fun x H1 => tb σ H1 fun y H2 => r x y H2 Q) : tOp r ta tb σ H Q := h
theorem r_un {f : V → Hp → VK → Prop} (h : ta σ H fun x H1 => f x H1 Q) : tUn f ta σ H Q := h
theorem r_I0 {g : Int → Int → V} {i j : Int} (q : Q (g i j) H) : rI0 g (.int i) (.int j) H Q := ⟨i, j, rfl, rfl, q⟩
theorem r_I {C : Int → Int → Prop} {g : Int → Int → V} {i j : Int} (hc : C i j) (q : Q (g i j) H) : rI C g (.int i) (.int j) H Q := ⟨i, j, rfl, rfl, hc, q⟩
theorem r_U {g : Int → V} {i : Int} (q : Q (g i) H) : rU g (.int i) H Q := ⟨i, rfl, q⟩
theorem r_test (h : te σ H fun x H' => ∃ k, x = .bl k ∧ QB k H') : tTest te σ H QB := h
theorem r_B (h : te σ H fun x H' => ∃ k, x = .bl k ∧ QB k H') : tB te σ H QB := h
theorem r_bl {k : Bool} {B : Bool → Prop} (q : B k) : ∃ k', V.bl k = V.bl k' ∧ B k' := ⟨k, rfl, q⟩
theorem r_eq (hs : scal x y = true) (q : Q (.bl (decide (x = y))) H) : rEq x y H Q := ⟨hs, q⟩
theorem r_ne (hs : scal x y = true) (q : Q (.bl (!decide (x = y))) H) : rNe x y H Q := ⟨hs, q⟩
theorem r_eqI {i j : Int} (q : Q (.bl (decide (i = j))) H) : rEq (.int i) (.int j) H Q := ⟨rfl, by
  have e : decide (V.int i = V.int j) = decide (i = j) := by by_cases h : i = j <;> simp [h]
  rw [e]; exact q⟩
theorem r_neI {i j : Int} (q : Q (.bl (!decide (i = j))) H) : rNe (.int i) (.int j) H Q := ⟨rfl, by
  have e : decide (V.int i = V.int j) = decide (i = j) := by by_cases h : i = j <;> simp [h]
  rw [e]; exact q⟩
theorem r_nil (q : QA [] H) : tNil σ H QA := q
theorem r_cons {tr : TA} (h : ta σ H fun x H1 => tr σ H1 fun xs H2 => QA (x :: xs) H2) : tCons ta tr σ H QA := h
theorem r_tup {ta : TA} (h : ta σ H fun xs H1 => xs.length ≤ sizeLine ∧ ∀ p, H1 p = none → Q (.ref p) (upd H1 p (.tup xs))) : tTup ta σ H Q := h
theorem r_lst {ta : TA} (h : ta σ H fun xs H1 => xs.length ≤ sizeLine ∧ ∀ p, H1 p = none → Q (.ref p) (upd H1 p (.lst xs))) : tLst ta σ H Q := h
theorem r_call {sp : Sp} {dvs : List V} {E : XK} {ta : TA} (h : ta σ H fun vs H1 => sp (vs ++ dvs) H1 Q E) : tCall sp dvs E ta σ H Q := h
theorem r_cb {f : List V → Hp → VK → Prop} {ta : TA} (h : ta σ H fun vs H1 => f vs H1 Q) : tCB f ta σ H Q := h
theorem r_and {b c : TT} (h : b σ H fun k H1 => if k = true then c σ H1 QB else QB false H1) : tAnd b c σ H QB := h
theorem r_or {b c : TT} (h : b σ H fun k H1 => if k = true then QB true H1 else c σ H1 QB) : tOr b c σ H QB := h
theorem r_not {b : TT} (h : b σ H fun k H1 => QB (!k) H1) : tNot b σ H QB := h
theorem r_andV (h : ta σ H fun x H1 => ∃ c, x = .bl c ∧ if c = true then tb σ H1 Q else Q (.bl false) H1) : tAndV ta tb σ H Q := h
theorem r_orV (h : ta σ H fun x H1 => ∃ c, x = .bl c ∧ if c = true then Q (.bl true) H1 else tb σ H1 Q) : tOrV ta tb σ H Q := h
theorem r_notV (h : ta σ H fun x H1 => ∃ c, x = .bl c ∧ Q (.bl (!c)) H1) : tNotV ta σ H Q := h
theorem r_ifE (h : b σ H fun c H1 => if c = true then ta σ H1 Q else tb σ H1 Q) : tIf b ta tb σ H Q := h
theorem r_ixL {p : Addr} {xs : List V} {i : Int} (hl : SqL K H p xs) (ha : atI xs i = some v) (q : Q v H) : rIxL K (.ref p) (.int i) H Q := ⟨p, xs, i, v, rfl, rfl, hl, ha, q⟩
theorem r_ixT {p : Addr} {xs : List V} {i : Int} (hl : SqT K H p xs) (ha : atI xs i = some v) (q : Q v H) : rIxT K (.ref p) (.int i) H Q := ⟨p, xs, i, v, rfl, rfl, hl, ha, q⟩
theorem r_gSub {to ti : TE} {ts : TSet} {QS : L2.St → Hp → Prop} (h : to σ H fun o H1 => ti σ H1 fun i H2 => ts o i v H2 fun H3 => QS σ H3) : gSub to ti ts v σ H QS := h
theorem r_setL {p : Addr} {xs : List V} {k : Int} {j : Nat} {QH : Hp → Prop} (hl : H p = some (.lst xs)) (hj : ixN xs.length k = some j) (q : QH (upd H p (.lst (xs.set j v)))) : rSetL (.ref p) (.int k) v H QH := ⟨p, xs, k, j, rfl, rfl, hl, hj, q⟩
theorem r_sl {f : V → Option Int → Option Int → Hp → VK → Prop} {tl th : TO} (h : te σ H fun x H1 => tl σ H1 fun l H2 => th σ H2 fun u H3 => f x l u H3 Q) : tSl f te tl th σ H Q := h
theorem r_noPart {QO : Option Int → Hp → Prop} (h : QO none H) : tNoPart σ H QO := h
theorem r_part {QO : Option Int → Hp → Prop} (h : te σ H fun x H1 => ∃ i, x = .int i ∧ QO (some i) H1) : tPart te σ H QO := h
theorem r_partI {i : Int} {B : Int → Prop} (q : B i) : ∃ i', V.int i = V.int i' ∧ B i' := ⟨i, rfl, q⟩
theorem r_slL {a : Addr} {xs : List V} {lo hi : Option Int} (h : SqL K H a xs) (k : ∀ p, H p = none → Q (.ref p) (upd H p (.lst (cutV xs lo hi)))) : rSlL K (.ref a) lo hi H Q := ⟨a, xs, rfl, h, k⟩
theorem r_for {wi : TI} {g : TG} (h : wi σ H fun J H1 => ∃ W : Nat → Nat → L2.St → Hp → Prop, (∃ m, W 0 m σ H1) ∧ ∀ i m σ H, W i m σ H →
  (J.stop i H ∧ D.nx σ H) ∨ (J.go i H ∧ ∃ N : L2.St → Hp → Prop, (∀ σ' H', N σ' H' → ∃ m', m' < m ∧ W (i + 1) m' σ' H') ∧ ∀ x H', J.yld i H x H' → g x σ H' fun σ2 H2 => t { D with nx := N, ct := N, bk := D.nx } σ2 H2)) : tFor wi g t D σ H := h
theorem r_iList {R : It → Hp → Prop} (h : te σ H fun x H1 => ∃ a, x = .ref a ∧ (∃ xs, SqL K H1 a xs) ∧ R (Itl K a) H1) : iList K te σ H R := h
theorem r_iTup {R : It → Hp → Prop} (h : te σ H fun x H1 => ∃ a, x = .ref a ∧ (∃ xs, SqT K H1 a xs) ∧ R (Itt K a) H1) : iTup K te σ H R := h
theorem r_iRng1 {ta : TA} {R : It → Hp → Prop} (h : ta σ H fun vs H1 => ∃ j : Int, vs = [.int j] ∧ -(2 ^ 62) ≤ j ∧ j < 2 ^ 62 ∧ R (Itr 0 j.toNat) H1) : iRng1 ta σ H R := h
theorem r_iRng2 {ta : TA} {R : It → Hp → Prop} (h : ta σ H fun vs H1 => ∃ i j : Int, vs = [.int i, .int j] ∧ (-(2 ^ 62) ≤ i ∧ i < 2 ^ 62 ∧ -(2 ^ 62) ≤ j ∧ j < 2 ^ 62) ∧ R (Itr i (j - i).toNat) H1) : iRng2 ta σ H R := h
theorem r_iEnum {ta : TA} {R : It → Hp → Prop} (h : ta σ H fun vs H1 => ∃ a xs, vs = [.ref a] ∧ SqL K H1 a xs ∧ R (Ite K a) H1) : iEnum K ta σ H R := h
theorem r_iZip {ta : TA} {R : It → Hp → Prop} (h : ta σ H fun vs H1 => ∃ a b xs ys, vs = [.ref a, .ref b] ∧ SqL K H1 a xs ∧ SqL K H1 b ys ∧ R (Itz K a b) H1) : iZip K ta σ H R := h
theorem r_gName {i : Nat} {QS : L2.St → Hp → Prop} (q : QS (σ.set i (some v)) H) : gName i v σ H QS := q
theorem r_gTup2 {i j n : Nat} {a : Addr} {QS : L2.St → Hp → Prop} (hn : 2 = n) (hs : SqT K H a [x, y]) (q : QS ((σ.set i (some x)).set j (some y)) H) : gTup K n (gCons (gName i) (gCons (gName j) gNil)) (.ref a) σ H QS :=
  ⟨a, [x, y], rfl, hs, hn, x, [y], rfl, y, [], rfl, rfl, q⟩
theorem r_bm {T : String} {f : V → List V → Hp → VK → Prop} {ta : TA} (h : te σ H fun x H1 => tyV K T x H1 ∧ ta σ H1 fun xs H2 => f x xs H2 Q) : tBM K T f te ta σ H Q := h
theorem r_bm0 {T : String} {f : V → List V → Hp → VK → Prop} (h : te σ H fun x H1 => tyV K T x H1 ∧ f x [] H1 Q) : tBM0 K T f te σ H Q := h
theorem r_app {l : Addr} {xs : List V} (h : H l = some (.lst xs)) (hz : xs.length < 100000) (q : Q .non (upd H l (.lst (xs ++ [y])))) : rAppend (.ref l) [y] H Q := ⟨l, xs, y, rfl, rfl, h, Evl.sz_lt hz, q⟩
theorem tyL {a : Addr} {xs : List V} (h : SqL K H a xs) : tyV K "list" (.ref a) H := .inl ⟨rfl, xs, h⟩
theorem r_isN {A : Prop} (q : A) : V.non = V.non ∧ A := ⟨rfl, q⟩
theorem iteRT {c : Bool} {A B : Prop} (h : c = true) (q : A) : if c = true then A else B := by rw [if_pos h]; exact q
theorem iteRF {c : Bool} {A B : Prop} (h : c = false) (q : B) : if c = true then A else B := by rw [if_neg (by rw [h]; decide)]; exact q
theorem iteB {c : Bool} {A B : Prop} (h1 : c = true → A) (h2 : c = false → B) : if c = true then A else B := by
  cases c
  · exact iteF (h2 rfl)
  · exact iteT (h1 rfl)
theorem r_isi {t' : String} {T : String} {b : Bool} (ty : TyX K H x (.type t')) (h : kitB t' T = some b) (q : Q (.bl b) H) : rIsi K [x, .ty T] H Q := ⟨x, .ty T, .type t', .type T, b, rfl, .ty T, ty, kit_ty h, q⟩
theorem r_isiT {t' : String} {T : String} (ty : TyX K H x (.type t')) (h : kitB t' T = some true) (q : Q (.bl true) H) : rIsi K [x, .ty T] H Q := r_isi ty h q
theorem r_isiF {t' : String} {T : String} (ty : TyX K H x (.type t')) (h : kitB t' T = some false) (q : Q (.bl false) H) : rIsi K [x, .ty T] H Q := r_isi ty h q
theorem tyx_L {a : Addr} {xs : List V} (h : SqL K H a xs) : TyX K H (.ref a) (.type "list") := by
  rcases h with (h | ⟨o, h⟩) | ⟨o, its, n, h, c, _⟩
  · exact .base (.lst h)
  · exact .base (.frz h)
  · exact .kList h c
theorem tyx_T {a : Addr} {xs : List V} (h : SqT K H a xs) : TyX K H (.ref a) (.type "tuple") := by
  rcases h with (h | ⟨o, h⟩) | ⟨o, its, n, h, c, _⟩
  · exact .base (.tup h)
  · exact .fTuple h
  · exact .kTuple h c
theorem walk_zipT {a b : Addr} {xs ys : List V} {n : Nat} (hn : n = min xs.length ys.length) : Walk (RZ.ItzT K a b) n (fun H => SqT K H a xs ∧ SqT K H b ys) (YPair (fun i => xs[i]?) (fun i => ys[i]?)) := by
  subst hn
  refine ⟨fun i _ hi q => ?_, fun _ q => ⟨xs, ys, q.1, q.2, by omega⟩, fun i H v H' _ q y => ?_⟩
  · have h1 : i < xs.length := by omega
    have h2 : i < ys.length := by omega
    exact ⟨xs, ys, xs[i], ys[i], q.1, q.2, by simp [h1], by simp [h2]⟩
  · obtain ⟨T', x', z, h1, h2, h3, h4, h5⟩ := y
    exact ⟨T', x', z, h1, h2, h3, h4 xs q.1, h5 ys q.2⟩
theorem r_lc {wi : TI} {g : TG} {tt : TT} {vs : List Nat} (h : wi σ H fun J H1 => ∀ D, H1 D = none → ∃ W : Nat → Nat → Hp → Prop, (∃ m, W 0 m (upd H1 D (.lst []))) ∧ ∀ i m H, W i m H →
  (J.stop i H ∧ Q (.ref D) H) ∨ (J.go i H ∧ ∃ Nx : Hp → Prop, (∀ H', Nx H' → ∃ m', m' < m ∧ W (i + 1) m' H') ∧ ∀ x H', J.yld i H x H' → g x (wipe σ vs) H' fun σ2 H2 => wipe σ2 vs = wipe σ vs ∧ tt σ2 H2 fun b H3 =>
    if b = true then te σ2 H3 fun y H4 => ∃ acc, H4 D = some (.lst acc) ∧ acc.length < sizeLine ∧ Nx (upd H4 D (.lst (acc ++ [y]))) else Nx H3)) : tLc wi g tt te vs σ H Q := h
theorem r_yes (q : QB true H) : tYes σ H QB := q
theorem r_iZipA {ta : TA} {R : It → Hp → Prop} (h : ta σ H fun vs H1 => ∃ a b xs ys, vs = [.ref a, .ref b] ∧ ((SqL K H1 a xs ∧ SqL K H1 b ys ∧ R (Itz K a b) H1) ∨ (SqT K H1 a xs ∧ SqT K H1 b ys ∧ R (RZ.ItzT K a b) H1))) : RZ.iZipA K ta σ H R := h
theorem r_lstRg {f : L2.St → Hp → (Int → Int → Hp → Prop) → Prop} (h : f σ H fun a b H1 => RgOk a b ∧ ∀ q, H1 q = none → Q (.ref q) (upd H1 q (.lst (rgV a b)))) : tLstRg f σ H Q := h
theorem r_rg1 {QR : Int → Int → Hp → Prop} (h : ta σ H fun x H1 => ∃ n, x = .int n ∧ QR 0 n H1) : tRg1 ta σ H QR := h
theorem r_min2 {i j : Int} {B : Int → Int → Prop} (q : B i j) : ∃ i' j', [V.int i, V.int j] = [V.int i', V.int j'] ∧ B i' j' := ⟨i, j, rfl, q⟩
theorem r_par2 {x y : V} {B : V → V → Prop} (q : B x y) : ∃ v w, [x, y] = [v, w] ∧ B v w := ⟨x, y, rfl, q⟩
theorem r_popAt {l : Addr} {xs : List V} {i : Int} {y : V} (h : H l = some (.lst xs)) (h0 : 0 ≤ i) (h1 : i < (xs.length : Int)) (hs : xs.length ≤ 1000000) (hy : xs[i.toNat]? = some y) (q : Q y (upd H l (.lst (xs.eraseIdx i.toNat)))) : rPopAt (.ref l) [.int i] H Q :=
  ⟨l, xs, i, i.toNat, y, rfl, rfl, h, by omega, by omega, seqIndex_of h0 h1, hy, q⟩
theorem r_len {p : Addr} {xs : List V} (hl : SqL K H p xs ∨ SqT K H p xs) (q : Q (.int (xs.length : Int)) H) : (fun xs H Q => ∃ p ys, xs = [.ref p] ∧ (SqL K H p ys ∨ SqT K H p ys) ∧ Q (.int (List.length ys : Int)) H : List V → Hp → VK → Prop) [.ref p] H Q := ⟨p, xs, rfl, hl, q⟩
end
/-- all but what stands at p is as it was -/
def ExB (p : Addr) (H H' : Hp) : Prop := ∀ a o, a ≠ p → H a = some o → H' a = some o
theorem ExB.refl (p : Addr) (H : Hp) : ExB p H H := fun _ _ _ h => h
theorem ExB.trans {p : Addr} {H H1 H2 : Hp} (a : ExB p H H1) (b : ExB p H1 H2) : ExB p H H2 := fun c o n h => b c o n (a c o n h)
theorem ExB.of {p : Addr} {H H' : Hp} (e : Evl.Ex H H') : ExB p H H' := fun a o _ h => e a o h
theorem ExB.upd {p : Addr} {H : Hp} {o : HO} : ExB p H (upd H p o) := fun a u n h => by rw [upd_ne n]; exact h
theorem ExB.new {p q : Addr} {H : Hp} {o : HO} (h : H q = none) : ExB p H (L2.upd H q o) := ExB.of (Evl.Ex.new h)
theorem ExB.mut {p q : Addr} {H H' : Hp} {o : HO} (e : ExB p H H') (h : H q = none) : ExB p H (L2.upd H' q o) := fun a u n ha => by
  rw [upd_ne (ne_of_none ha h)]
  exact e a u n ha
/-- tuples stay -/
def ExT (H H' : Hp) : Prop := ∀ a xs, H a = some (.tup xs) → H' a = some (.tup xs)
/-- the law's pot: its cells at c, a place, a rest -/
def PotC (H : Hp) (p c : Addr) : Prop := ∃ (cs : List Int) (at' r : Int), H p = some (.lst [.ref c, .int at', .int r]) ∧ H c = some (.lst (cs.map V.int)) ∧ c ≠ p ∧ 0 ≤ at' ∧ 0 ≤ r ∧ cs.length ≤ 100
theorem PotC.np {H : Hp} {p c q : Addr} (h : PotC H p c) (n : H q = none) : q ≠ p := by
  obtain ⟨cs, a, r, h1, _⟩ := h
  exact (ne_of_none h1 n).symm
theorem PotC.nc {H : Hp} {p c q : Addr} (h : PotC H p c) (n : H q = none) : q ≠ c := by
  obtain ⟨cs, a, r, h1, h2, _⟩ := h
  exact (ne_of_none h2 n).symm
theorem PotC.upd {H : Hp} {p c q : Addr} {o : HO} (h : PotC H p c) (n1 : q ≠ p) (n2 : q ≠ c) : PotC (L2.upd H q o) p c := by
  obtain ⟨cs, a, r, h1, h2, h3⟩ := h
  exact ⟨cs, a, r, by rw [upd_ne n1.symm]; exact h1, by rw [upd_ne n2.symm]; exact h2, h3⟩
theorem PotC.new {H : Hp} {p c q : Addr} {o : HO} (h : PotC H p c) (n : H q = none) : PotC (L2.upd H q o) p c := h.upd (h.np n) (h.nc n)
theorem PotC.ex {H H' : Hp} {p c : Addr} (h : PotC H p c) (e : Evl.Ex H H') : PotC H' p c := by
  obtain ⟨cs, a, r, h1, h2, h3⟩ := h
  exact ⟨cs, a, r, e _ _ h1, e _ _ h2, h3⟩
theorem PotC.t {H H' : Hp} {p c : Addr} (h : PotC H p c) (e : ExB p H H') : ExT H H' := fun a xs ha => by
  obtain ⟨cs, at', r, h1, _⟩ := h
  exact e a _ (ne_of ha h1 (by intro z; cases z)) ha
theorem ExT.trans {H H1 H2 : Hp} (a : ExT H H1) (b : ExT H1 H2) : ExT H H2 := fun x o h => b x o (a x o h)
theorem ExT.of {H H' : Hp} (e : Evl.Ex H H') : ExT H H' := fun a xs h => e a _ h
theorem ExT.lst {H : Hp} {q : Addr} {xs : List V} {o : HO} (h : H q = some (.lst xs)) : ExT H (L2.upd H q o) := fun a ys ha => by
  rw [upd_ne (ne_of ha h (by intro z; cases z))]
  exact ha
theorem small_up {u : Int} (h0 : 0 < u) (h : u ≤ 100000) : u.natAbs < 2 ^ 1000 := Nat.lt_of_lt_of_le (show u.natAbs < 100001 by omega) (by decide)
theorem atI_of {α : Type} {xs : List α} {i : Int} {v : α} (h0 : 0 ≤ i) (h : xs[i.toNat]? = some v) : atI xs i = some v := by
  have e : ((i.toNat : Nat) : Int) = i := by omega
  rw [← e]
  exact atI_nat h
theorem atI_int {cs : List Int} {i : Int} (h0 : 0 ≤ i) (h1 : i < (cs.length : Int)) : atI (cs.map V.int) i = some (.int (cs.getD i.toNat 0)) := by
  refine atI_of h0 ?_
  have hi : i.toNat < cs.length := by omega
  rw [List.getElem?_map, List.getElem?_eq_getElem hi, List.getD_eq_getElem?_getD, List.getElem?_eq_getElem hi]
  rfl
def cutG {α : Type} (xs : List α) (lo hi : Option Int) : List α := (xs.drop (HT.sIx xs.length 0 lo)).take (HT.sIx xs.length xs.length hi - HT.sIx xs.length 0 lo)
theorem cutV_map {α : Type} (f : α → V) (xs : List α) (lo hi : Option Int) : cutV (xs.map f) lo hi = (cutG xs lo hi).map f := by
  unfold cutV cutG
  rw [List.length_map, List.map_take, List.map_drop]
theorem cutG_take {α : Type} (xs : List α) (k : Nat) : cutG xs none (some (k : Int)) = xs.take k := by
  unfold cutG
  rw [HT.sIx_none, HT.sIx_nat, List.drop_zero, Nat.sub_zero]
  by_cases h : k ≤ xs.length
  · rw [Nat.min_eq_left h]
  · rw [Nat.min_eq_right (by omega), List.take_length, List.take_of_length_le (by omega)]
theorem cutG_drop {α : Type} (xs : List α) (k : Nat) : cutG xs (some (k : Int)) none = xs.drop k := by
  unfold cutG
  rw [HT.sIx_none, HT.sIx_nat]
  by_cases h : k ≤ xs.length
  · rw [Nat.min_eq_left h, List.take_of_length_le (by rw [List.length_drop]; exact Nat.le_refl _)]
  · rw [Nat.min_eq_right (by omega), List.drop_length, List.drop_of_length_le (by omega), List.take_nil]
theorem cutG_len {α : Type} (xs : List α) (i j : Nat) : (cutG xs (some (i : Int)) (some (j : Int))).length ≤ j - i ∧ (xs.length ≤ i → (cutG xs (some (i : Int)) (some (j : Int))).length = 0) := by
  unfold cutG
  rw [HT.sIx_nat, HT.sIx_nat, List.length_take, List.length_drop]
  omega
theorem dpAll_get {K : PySem.W.Frag} {H : Hp} : ∀ {xs : List V} {ds : List PyData}, DpAll K H xs ds → xs.length = ds.length ∧ ∀ (i : Nat) (x : V), xs[i]? = some x → ∃ d, ds[i]? = some d ∧ Dp K H x d
  | _, _, .nil => ⟨rfl, fun i x h => by simp at h⟩
  | _, _, .cons h t => by
    obtain ⟨e, f⟩ := dpAll_get t
    refine ⟨by simp [e], fun i x hx => ?_⟩
    cases i with
    | zero => exact ⟨_, rfl, (Option.some.inj hx) ▸ h⟩
    | succ i => exact f i x hx
mutual
theorem Dp.ex {K : PySem.W.Frag} {H H' : Hp} (e : Evl.Ex H H') : ∀ (d : PyData) (v : V), Dp K H v d → Dp K H' v d
  | .none, _, h => by cases h; exact .non
  | .bool _, _, h => by cases h; exact .bl _
  | .int _, _, h => by cases h; exact .int _
  | .str _, _, h => by cases h; exact .str _
  | .list ds, _, h => by
    cases h with
    | lst h1 h2 => exact .lst (Evl.ex_l e h1) (DpAll.ex e ds _ h2)
  | .tuple ds, _, h => by
    cases h with
    | tup h1 h2 => exact .tup (Evl.ex_t e h1) (DpAll.ex e ds _ h2)
  | .dict _, _, h => by cases h
theorem DpAll.ex {K : PySem.W.Frag} {H H' : Hp} (e : Evl.Ex H H') : ∀ (ds : List PyData) (vs : List V), DpAll K H vs ds → DpAll K H' vs ds
  | [], _, h => by cases h; exact .nil
  | d :: ds, _, h => by
    cases h with
    | cons h1 h2 => exact .cons (Dp.ex e d _ h1) (DpAll.ex e ds _ h2)
end
theorem depthAll_mem : ∀ {ds : List PyData} {d : PyData}, d ∈ ds → d.depth ≤ PyData.depthAll ds
  | x :: r, d, h => by
    rw [PyData.depthAll]
    rcases List.mem_cons.mp h with rfl | h
    · omega
    · have := depthAll_mem h
      omega
theorem inV_rep (n : Nat) : inV (.bl false) (List.replicate n (V.bl true)) = false := by
  induction n with
  | zero => rfl
  | succ n ih => rw [List.replicate_succ]; simp [inV, eqV] at ih ⊢
theorem flat_rep (n : Nat) : (List.replicate n (V.bl true)).all flatV = true := by
  induction n with
  | zero => rfl
  | succ n ih => rw [List.replicate_succ, List.all_cons, ih]; rfl
mutual
def wd : PyData → Bool
  | .list ds => decide (ds.length ≤ 100000) && wdAll ds
  | .tuple ds => decide (ds.length ≤ 100000) && wdAll ds
  | .dict _ => false
  | _ => true
def wdAll : List PyData → Bool
  | [] => true
  | d :: r => wd d && wdAll r
end
theorem wdAll_mem : ∀ {ds : List PyData} {d : PyData}, wdAll ds = true → d ∈ ds → wd d = true
  | x :: r, d, h, hd => by
    rw [wdAll, Bool.and_eq_true] at h
    rcases List.mem_cons.mp hd with rfl | hd
    · exact h.1
    · exact wdAll_mem h.2 hd
/-! ### data -/
theorem shaped_ints (cs : List Int) : SeqAt.shaped (.list (cs.map PyData.int)) = true := by
  have h1 : PyData.canLayAll0 (cs.map PyData.int) = true := by
    induction cs with
    | nil => rfl
    | cons x r ih => simp [PyData.canLayAll0, PyData.canLay0, ih]
  have h2 : PyData.depthAll (cs.map PyData.int) ≤ 1 := by
    induction cs with
    | nil => simp [PyData.depthAll]
    | cons x r ih =>
      have := ih (by rw [List.map_cons, PyData.canLayAll0, Bool.and_eq_true] at h1; exact h1.2)
      simp [PyData.depthAll, PyData.depth]
      omega
  unfold SeqAt.shaped
  rw [Bool.and_eq_true]
  refine ⟨by rw [PyData.canLay0]; exact h1, decide_eq_true ?_⟩
  rw [PyData.depth]
  omega
theorem dpAll_ints {K : PySem.W.Frag} {H : Hp} : ∀ cs : List Int, DpAll K H (cs.map V.int) (cs.map PyData.int)
  | [] => .nil
  | x :: r => .cons (.int x) (dpAll_ints r)
theorem dp_ints {K : PySem.W.Frag} {H : Hp} {c : Addr} {cs : List Int} (h : SqL K H c (cs.map V.int)) : Dp K H (.ref c) (.list (cs.map PyData.int)) := .lst h (dpAll_ints cs)
/-! ### numbers from 0 on -/
def rgI (n : Int) : List Int := (List.range n.toNat).map fun i => ((i : Nat) : Int)
theorem rgI_len (n : Int) : (rgI n).length = n.toNat := by unfold rgI; rw [List.length_map, List.length_range]
theorem rgI_mem {n x : Int} : x ∈ rgI n ↔ 0 ≤ x ∧ x < n := by
  unfold rgI
  rw [List.mem_map]
  constructor
  · rintro ⟨i, hi, rfl⟩
    rw [List.mem_range] at hi
    omega
  · rintro ⟨h0, h1⟩
    exact ⟨x.toNat, List.mem_range.mpr (by omega), by omega⟩
theorem rgI_nd (n : Int) : (rgI n).Nodup := by
  unfold rgI
  refine List.Pairwise.map _ ?_ List.nodup_range
  intro a b h e
  exact h (by omega)
theorem rgV_eq (n : Int) : rgV 0 n = (rgI n).map V.int := by
  unfold rgV rgI
  rw [List.map_map, show n - 0 = n by omega]
  congr 1
  funext i
  show V.int (0 + (i : Nat)) = V.int ((i : Nat) : Int)
  rw [Int.zero_add]
/-! ### webs -/
def Lx (a b : Int × Int) : Prop := a.1 < b.1 ∨ (a.1 = b.1 ∧ a.2 < b.2)
structure WebOk (many : Int) (ties : List (Int × Int)) : Prop where
  lo : 1 ≤ many
  hi : many ≤ 60
  ok : ∀ t ∈ ties, 0 ≤ t.1 ∧ t.1 < t.2 ∧ t.2 < many
  up : ties.Pairwise Lx
def tieD (t : Int × Int) : PyData := .tuple [.int t.1, .int t.2]
def webD (many : Int) (ties : List (Int × Int)) : PyData := .tuple [.int many, .tuple (ties.map tieD)]
/-- the pair of two houses' places, the lesser ahead, as the law's min and max tell it -/
def fP (pl : List Int) (i j : Nat) : Int × Int :=
  (if pl.getD j 0 < pl.getD i 0 then pl.getD j 0 else pl.getD i 0, if pl.getD j 0 > pl.getD i 0 then pl.getD j 0 else pl.getD i 0)
theorem nd_ix {pl : List Int} (h : pl.Nodup) {i j : Nat} (hi : i < pl.length) (hj : j < pl.length) (e : pl.getD i 0 = pl.getD j 0) : i = j := by
  rw [List.getD_eq_getElem?_getD, List.getD_eq_getElem?_getD, List.getElem?_eq_getElem hi, List.getElem?_eq_getElem hj] at e
  have e : pl[i] = pl[j] := e
  have hp := List.pairwise_iff_getElem.mp h
  rcases Nat.lt_trichotomy i j with q | q | q
  · exact absurd e (hp i j hi hj q)
  · exact q
  · exact absurd e.symm (hp j i hj hi q)
theorem fP_inj {pl : List Int} (h : pl.Nodup) {i j i' j' : Nat} (h1 : i < j) (h2 : j < pl.length) (h3 : i' < j') (h4 : j' < pl.length) (e : fP pl i j = fP pl i' j') : i = i' ∧ j = j' := by
  have e1 := congrArg Prod.fst e
  have e2 := congrArg Prod.snd e
  unfold fP at e1 e2
  simp only at e1 e2
  have ne1 : pl.getD i 0 ≠ pl.getD j 0 := fun q => by have := nd_ix h (by omega) h2 q; omega
  have ne2 : pl.getD i' 0 ≠ pl.getD j' 0 := fun q => by have := nd_ix h (by omega) h4 q; omega
  have alt : (pl.getD i 0 = pl.getD i' 0 ∧ pl.getD j 0 = pl.getD j' 0) ∨ (pl.getD i 0 = pl.getD j' 0 ∧ pl.getD j 0 = pl.getD i' 0) := by
    generalize pl.getD i 0 = a at *
    generalize pl.getD j 0 = b at *
    generalize pl.getD i' 0 = c at *
    generalize pl.getD j' 0 = d at *
    split at e1 <;> split at e2 <;> split at e1 <;> split at e2 <;> omega
  rcases alt with ⟨q1, q2⟩ | ⟨q1, q2⟩
  · exact ⟨nd_ix h (by omega) (by omega) q1, nd_ix h (by omega) (by omega) q2⟩
  · have a := nd_ix h (by omega) (by omega) q1
    have b := nd_ix h (by omega) (by omega) q2
    omega
/-- the pairs so far: unlike, each of two indexes ahead of (one, other) -/
structure PsOk (pl : List Int) (ps : List (Int × Int)) (one other : Nat) : Prop where
  nd : ps.Nodup
  of : ∀ t ∈ ps, ∃ i j : Nat, i < j ∧ j < pl.length ∧ (i < one ∨ (i = one ∧ j < other)) ∧ t = fP pl i j
theorem PsOk.mono {pl : List Int} {ps : List (Int × Int)} {a b c d : Nat} (h : PsOk pl ps a b) (hle : ∀ i j : Nat, i < j → j < pl.length → (i < a ∨ (i = a ∧ j < b)) → (i < c ∨ (i = c ∧ j < d))) : PsOk pl ps c d :=
  ⟨h.nd, fun t ht => by
    obtain ⟨i, j, h1, h2, h3, h4⟩ := h.of t ht
    exact ⟨i, j, h1, h2, hle i j h1 h2 h3, h4⟩⟩
theorem PsOk.snoc {pl : List Int} {ps : List (Int × Int)} {a b : Nat} (hn : pl.Nodup) (h : PsOk pl ps a b) (hab : a < b) (hb : b < pl.length) : PsOk pl (ps ++ [fP pl a b]) a (b + 1) := by
  refine ⟨?_, fun t ht => ?_⟩
  · refine List.nodup_append.mpr ⟨h.nd, by simp, fun x hx y hy e => ?_⟩
    rw [List.mem_singleton] at hy
    subst hy
    obtain ⟨i, j, h1, h2, h3, h4⟩ := h.of x hx
    rw [e] at h4
    have := fP_inj hn hab hb h1 h2 h4
    omega
  · rcases List.mem_append.mp ht with ht | ht
    · obtain ⟨i, j, h1, h2, h3, h4⟩ := h.of t ht
      exact ⟨i, j, h1, h2, by omega, h4⟩
    · rw [List.mem_singleton] at ht
      exact ⟨a, b, hab, hb, by omega, ht⟩
theorem PsOk.valid {pl : List Int} {ps : List (Int × Int)} {a b : Nat} {many : Int} (hp : pl.Perm (rgI many)) (h : PsOk pl ps a b) : ∀ t ∈ ps, 0 ≤ t.1 ∧ t.1 < t.2 ∧ t.2 < many := fun t ht => by
  obtain ⟨i, j, h1, h2, h3, rfl⟩ := h.of t ht
  have hn : pl.Nodup := hp.nodup_iff.mpr (rgI_nd many)
  have mem : ∀ k, k < pl.length → 0 ≤ pl.getD k 0 ∧ pl.getD k 0 < many := fun k hk => by
    rw [List.getD_eq_getElem?_getD, List.getElem?_eq_getElem hk]
    exact rgI_mem.mp (hp.mem_iff.mp (List.getElem_mem hk))
  have m1 := mem i (by omega)
  have m2 := mem j h2
  have ne : pl.getD i 0 ≠ pl.getD j 0 := fun q => by have := nd_ix hn (by omega) h2 q; omega
  unfold fP
  simp only
  generalize pl.getD i 0 = x at *
  generalize pl.getD j 0 = y at *
  split <;> split <;> omega
theorem sorted_up {ps ps' : List (Int × Int)} (hn : ps.Nodup) (hp : ps'.Perm ps) (hs : ps'.Pairwise fun a b => SrtO.lexB b a = false) : ps'.Pairwise Lx := by
  have hn' : ps'.Nodup := hp.nodup_iff.mpr hn
  refine List.Pairwise.imp₂ ?_ hs hn'
  intro a b h ne
  have := SrtO.lexB_no.mp h
  obtain ⟨a1, a2⟩ := a
  obtain ⟨b1, b2⟩ := b
  have : ¬ (a1 = b1 ∧ a2 = b2) := fun q => ne (by rw [q.1, q.2])
  unfold Lx
  simp only at *
  omega
/-! ### tuples of two on the heap -/
def TupsAt (H : Hp) (rs : List V) (ps : List (Int × Int)) : Prop := Paired (fun r (p : Int × Int) => ∃ t, r = V.ref t ∧ H t = some (.tup [.int p.1, .int p.2])) rs ps
theorem TupsAt.mono {H H' : Hp} (e : ExT H H') : ∀ {rs : List V} {ps : List (Int × Int)}, TupsAt H rs ps → TupsAt H' rs ps
  | _, _, .nil => .nil
  | _, _, .cons ⟨t, h1, h2⟩ r => .cons ⟨t, h1, e t _ h2⟩ (TupsAt.mono e r)
theorem TupsAt.snoc {H : Hp} {t : Addr} {p : Int × Int} (ht : H t = some (.tup [.int p.1, .int p.2])) : ∀ {rs : List V} {ps : List (Int × Int)}, TupsAt H rs ps → TupsAt H (rs ++ [.ref t]) (ps ++ [p])
  | _, _, .nil => .cons ⟨t, rfl, ht⟩ .nil
  | _, _, .cons h r => .cons h (TupsAt.snoc ht r)
def pairOf (H : Hp) : V → Int × Int
  | .ref t => match H t with
    | some (.tup [.int a, .int b]) => (a, b)
    | _ => (0, 0)
  | _ => (0, 0)
theorem pairOf_at {H : Hp} {t : Addr} {p : Int × Int} (h : H t = some (.tup [.int p.1, .int p.2])) : pairOf H (.ref t) = p := by
  unfold pairOf
  simp only [h]
theorem TupsAt.map : ∀ {H : Hp} {rs : List V} {ps : List (Int × Int)}, TupsAt H rs ps → rs.map (pairOf H) = ps
  | _, _, _, .nil => rfl
  | H, _, _, .cons ⟨t, h1, h2⟩ r => by
    rw [List.map_cons, TupsAt.map r, h1, pairOf_at h2]
theorem TupsAt.all : ∀ {H : Hp} {rs : List V} {ps : List (Int × Int)}, TupsAt H rs ps → ∀ x ∈ rs, ∃ t, x = V.ref t ∧ H t = some (.tup [.int (pairOf H x).1, .int (pairOf H x).2])
  | _, _, _, .cons ⟨t, h1, h2⟩ r, x, hx => by
    rcases List.mem_cons.mp hx with e | hx
    · rw [e, h1]
      exact ⟨t, rfl, by rw [pairOf_at h2]; exact h2⟩
    · exact TupsAt.all r x hx
theorem tupsAt_of {H : Hp} : ∀ rs : List V, (∀ x ∈ rs, ∃ t, x = V.ref t ∧ H t = some (.tup [.int (pairOf H x).1, .int (pairOf H x).2])) → TupsAt H rs (rs.map (pairOf H))
  | [], _ => .nil
  | x :: r, h => .cons (h x List.mem_cons_self) (tupsAt_of r fun y hy => h y (List.mem_cons_of_mem _ hy))
theorem TupsAt.dp {K : PySem.W.Frag} {H : Hp} : ∀ {rs : List V} {ps : List (Int × Int)}, TupsAt H rs ps → DpAll K H rs (ps.map tieD)
  | _, _, .nil => .nil
  | _, _, .cons ⟨t, h1, h2⟩ r => by
    rw [h1]
    exact .cons (.tup (SqT.of h2) (.cons (.int _) (.cons (.int _) .nil))) (TupsAt.dp r)
/-- what is handed back: a web at a new tuple -/
theorem web_dp {K : PySem.W.Frag} {H : Hp} {q t : Addr} {many : Int} {rs : List V} {ps : List (Int × Int)} (h1 : SqT K H q [.int many, .ref t]) (h2 : SqT K H t rs) (h3 : DpAll K H rs (ps.map tieD)) : Dp K H (.ref q) (webD many ps) :=
  .tup h1 (.cons (.int _) (.cons (.tup h2 h3) .nil))
theorem eraseIdx_perm {α : Type} : ∀ (l : List α) (k : Nat) (y : α), l[k]? = some y → (y :: l.eraseIdx k).Perm l
  | [], _, _, h => by simp at h
  | x :: r, 0, y, h => by
    have e : x = y := Option.some.inj h
    rw [e]
    exact List.Perm.refl _
  | x :: r, k + 1, y, h => by
    have ih := eraseIdx_perm r k y (by simpa using h)
    rw [List.eraseIdx_cons_succ]
    exact (List.Perm.swap x y _).trans (ih.cons x)
theorem map_eraseIdx {α β : Type} (f : α → β) : ∀ (l : List α) (k : Nat), (l.map f).eraseIdx k = (l.eraseIdx k).map f
  | [], _ => rfl
  | _ :: _, 0 => rfl
  | x :: r, k + 1 => by rw [List.map_cons, List.eraseIdx_cons_succ, List.eraseIdx_cons_succ, List.map_cons, map_eraseIdx f r k]
theorem sort_same {a b : List Int} (hp : a.Perm b) (ha : a.Pairwise (· ≤ ·)) (hb : b.Pairwise (· ≤ ·)) : a = b :=
  hp.eq_of_pairwise (fun x y _ _ h1 h2 => Int.le_antisymm h1 h2) ha hb
theorem sort_of_lt {a : List Int} (h : a.Pairwise (· < ·)) : a.Pairwise (· ≤ ·) := h.imp fun q => Int.le_of_lt q
theorem len_le_of_sub {α : Type} [DecidableEq α] : ∀ {l m : List α}, l.Nodup → (∀ x ∈ l, x ∈ m) → l.length ≤ m.length
  | [], m, _, _ => Nat.zero_le _
  | x :: r, m, hn, hs => by
    have hx : x ∈ m := hs x List.mem_cons_self
    have h1 : r.length ≤ (m.erase x).length := len_le_of_sub (List.pairwise_cons.mp hn).2 fun y hy => (List.mem_erase_of_ne fun e => (List.pairwise_cons.mp hn).1 y hy e.symm).mpr (hs y (List.mem_cons_of_mem _ hy))
    rw [List.length_erase_of_mem hx] at h1
    have := List.length_pos_of_mem hx
    rw [List.length_cons]
    omega
/-- the other house of a tie that has h -/
def oth (h : Int) (t : Int × Int) : Option Int := if t.1 = h then some t.2 else if t.2 = h then some t.1 else none
/-- the houses that h is tied to -/
def nbr (ties : List (Int × Int)) (h : Int) : List Int := ties.filterMap (oth h)
theorem nbr_snoc (ties : List (Int × Int)) (t : Int × Int) (h : Int) : nbr (ties ++ [t]) h = nbr ties h ++ (oth h t).toList := by
  unfold nbr
  rw [List.filterMap_append]
  cases e : oth h t <;> simp [e]
theorem nbr_up {many : Int} {ties : List (Int × Int)} (W : WebOk many ties) (h : Int) : (nbr ties h).Pairwise (· < ·) := by
  unfold nbr
  rw [List.pairwise_filterMap]
  have hok := W.ok
  refine List.Pairwise.imp_of_mem ?_ W.up
  intro a b ma mb hab x hx y hy
  have ha := hok a ma
  have hb := hok b mb
  unfold oth at hx hy
  unfold Lx at hab
  split at hx <;> split at hy <;> (try split at hx) <;> (try split at hy) <;> simp at hx hy <;> omega
theorem nbr_mem {ties : List (Int × Int)} {h x : Int} : x ∈ nbr ties h ↔ ∃ t ∈ ties, oth h t = some x := by
  unfold nbr
  rw [List.mem_filterMap]
theorem nbr_iff {many : Int} {ties : List (Int × Int)} (W : WebOk many ties) {h x : Int} : x ∈ nbr ties h ↔ (h, x) ∈ ties ∨ (x, h) ∈ ties := by
  rw [nbr_mem]
  constructor
  · rintro ⟨⟨a, b⟩, ht, he⟩
    unfold oth at he
    simp only at he
    split at he
    · rename_i e
      cases he
      cases e
      exact .inl ht
    · split at he
      · rename_i e
        cases he
        cases e
        exact .inr ht
      · cases he
  · rintro (ht | ht)
    · exact ⟨_, ht, by unfold oth; rw [if_pos rfl]⟩
    · have := W.ok _ ht
      exact ⟨_, ht, by unfold oth; rw [if_neg (by simp only at this ⊢; omega), if_pos rfl]⟩
theorem nbr_range {many : Int} {ties : List (Int × Int)} (W : WebOk many ties) {h x : Int} (hx : x ∈ nbr ties h) : 0 ≤ x ∧ x < many := by
  rcases (nbr_iff W).mp hx with q | q
  · have := W.ok _ q; simp only at this; omega
  · have := W.ok _ q; simp only at this; omega
theorem nbr_len {many : Int} {ties : List (Int × Int)} (W : WebOk many ties) (h : Int) : (nbr ties h).length ≤ 60 := by
  have := len_le_of_sub (l := nbr ties h) (m := rgI many) ((nbr_up W h).imp fun q => Int.ne_of_lt q) fun x hx => rgI_mem.mpr (nbr_range W hx)
  rw [rgI_len] at this
  have := W.hi
  omega
theorem ties_len {many : Int} {ties : List (Int × Int)} (W : WebOk many ties) : ties.length ≤ 3600 := by
  have hn : ties.Nodup := W.up.imp fun {a b} h => by
    rintro rfl
    unfold Lx at h
    omega
  have s : ties.length ≤ ((List.range 60).flatMap fun i => (List.range 60).map fun j => (((i : Nat) : Int), ((j : Nat) : Int))).length := by
    refine len_le_of_sub hn fun t ht => ?_
    have := W.ok t ht
    have := W.hi
    rw [List.mem_flatMap]
    refine ⟨t.1.toNat, List.mem_range.mpr (by omega), List.mem_map.mpr ⟨t.2.toNat, List.mem_range.mpr (by omega), ?_⟩⟩
    obtain ⟨a, b⟩ := t
    simp only at *
    congr 1 <;> omega
  have e : ((List.range 60).flatMap fun i => (List.range 60).map fun j => (((i : Nat) : Int), ((j : Nat) : Int))).length = 3600 := by decide +kernel
  omega
def intsD (ns : List Int) : PyData := .list (ns.map PyData.int)
/-- for each house the houses that it is tied to -/
def besD (many : Int) (ties : List (Int × Int)) : PyData := .list ((rgI many).map fun h => intsD (nbr ties h))
theorem dp_intsD {K : PySem.W.Frag} {H : Hp} {a : Addr} {ns : List Int} (h : SqL K H a (ns.map V.int)) : Dp K H (.ref a) (intsD ns) := dp_ints h
/-- what stands behind a datum that is a list of ints -/
theorem intsD_at {K : PySem.W.Frag} {H : Hp} {v : V} {ns : List Int} (h : Dp K H v (intsD ns)) : ∃ a, v = .ref a ∧ SqL K H a (ns.map V.int) := by
  unfold intsD at h
  cases h with
  | lst hs ha =>
    rename_i a xs
    have e : xs = ns.map V.int := by
      clear hs
      induction ns generalizing xs with
      | nil => cases ha; rfl
      | cons n r ih =>
        cases ha with
        | cons h1 h2 =>
          cases h1
          rw [List.map_cons, ih h2]
    subst e
    exact ⟨a, rfl, hs⟩
theorem tieD_at {K : PySem.W.Frag} {H : Hp} {v : V} {t : Int × Int} (h : Dp K H v (tieD t)) : ∃ a, v = .ref a ∧ SqT K H a [.int t.1, .int t.2] := by
  unfold tieD at h
  cases h with
  | tup hs ha =>
    cases ha with
    | cons h1 h2 =>
      cases h1
      cases h2 with
      | cons h3 h4 =>
        cases h3
        cases h4
        exact ⟨_, rfl, hs⟩
theorem webD_at {K : PySem.W.Frag} {H : Hp} {v : V} {many : Int} {ties : List (Int × Int)} (h : Dp K H v (webD many ties)) : ∃ a b xs, v = .ref a ∧ SqT K H a [.int many, .ref b] ∧ SqT K H b xs ∧ DpAll K H xs (ties.map tieD) := by
  unfold webD at h
  cases h with
  | tup hs ha =>
    cases ha with
    | cons h1 h2 =>
      cases h1
      cases h2 with
      | cons h3 h4 =>
        cases h4
        cases h3 with
        | tup h5 h6 => exact ⟨_, _, _, rfl, hs, h5, h6⟩
theorem listD_at {K : PySem.W.Frag} {H : Hp} {v : V} {ds : List PyData} (h : Dp K H v (.list ds)) : ∃ a xs, v = .ref a ∧ SqL K H a xs ∧ DpAll K H xs ds := by
  cases h with
  | lst hs ha => exact ⟨_, _, rfl, hs, ha⟩
theorem besD_at {K : PySem.W.Frag} {H : Hp} {v : V} {many : Int} {ties : List (Int × Int)} (h : Dp K H v (besD many ties)) : ∃ a xs, v = .ref a ∧ SqL K H a xs ∧ xs.length = many.toNat ∧
    ∀ i : Int, 0 ≤ i → i < many → ∃ b, atI xs i = some (.ref b) ∧ SqL K H b ((nbr ties i).map V.int) := by
  obtain ⟨a, xs, rfl, hs, ha⟩ := listD_at h
  obtain ⟨hl, hg⟩ := dpAll_get ha
  rw [List.length_map, rgI_len] at hl
  refine ⟨a, xs, rfl, hs, hl, fun i h0 h1 => ?_⟩
  have hi : i.toNat < xs.length := by omega
  obtain ⟨d, e1, e2⟩ := hg i.toNat xs[i.toNat] (List.getElem?_eq_getElem hi)
  have e3 : d = intsD (nbr ties i) := by
    rw [List.getElem?_map] at e1
    unfold rgI at e1
    rw [List.getElem?_map, List.getElem?_range (by omega)] at e1
    have := Option.some.inj e1
    rw [← this]
    simp only
    rw [show ((i.toNat : Nat) : Int) = i by omega]
  subst e3
  obtain ⟨b, e4, e5⟩ := intsD_at e2
  exact ⟨b, atI_of h0 (by rw [List.getElem?_eq_getElem hi, e4]), e5⟩
theorem dpAll_ix {K : PySem.W.Frag} {H : Hp} : ∀ {xs : List V} {ds : List PyData}, xs.length = ds.length → (∀ (i : Nat) (x : V) (d : PyData), xs[i]? = some x → ds[i]? = some d → Dp K H x d) → DpAll K H xs ds
  | [], [], _, _ => .nil
  | [], _ :: _, h, _ => by simp at h
  | _ :: _, [], h, _ => by simp at h
  | x :: xs, d :: ds, h, f => .cons (f 0 x d rfl rfl) (dpAll_ix (by simpa using h) fun i y e h1 h2 => f (i + 1) y e (by simpa using h1) (by simpa using h2))
theorem rgI_get {n : Int} {i : Nat} (h : (i : Int) < n) : (rgI n)[i]? = some (i : Int) := by
  unfold rgI
  rw [List.getElem?_map, List.getElem?_range (by omega)]
  rfl
theorem bes_dp {K : PySem.W.Frag} {H : Hp} {q : Addr} {bs : List Addr} {many : Int} {ties : List (Int × Int)} (h : SqL K H q (bs.map V.ref)) (hl : bs.length = many.toNat)
    (hb : ∀ (k : Nat) (b : Addr), bs[k]? = some b → SqL K H b ((nbr ties (k : Int)).map V.int)) : Dp K H (.ref q) (besD many ties) := by
  refine .lst h (dpAll_ix (by rw [List.length_map, List.length_map, rgI_len, hl]) fun i x d h1 h2 => ?_)
  rw [List.getElem?_map] at h1 h2
  cases e : bs[i]? with
  | none => rw [e] at h1; cases h1
  | some b =>
    rw [e] at h1
    cases h1
    have hi : i < bs.length := (List.getElem?_eq_some_iff.mp e).1
    rw [rgI_get (by omega)] at h2
    cases h2
    exact dp_intsD (hb i b e)
theorem nd_ix' {α : Type} {l : List α} (h : l.Nodup) {i j : Nat} {a : α} (hi : l[i]? = some a) (hj : l[j]? = some a) : i = j := by
  have hp := List.pairwise_iff_getElem.mp h
  obtain ⟨h1, e1⟩ := List.getElem?_eq_some_iff.mp hi
  obtain ⟨h2, e2⟩ := List.getElem?_eq_some_iff.mp hj
  rcases Nat.lt_trichotomy i j with q | q | q
  · exact absurd (e1.trans e2.symm) (hp i j h1 h2 q)
  · exact q
  · exact absurd (e2.trans e1.symm) (hp j i h2 h1 q)
/-- a list of lists: for each house the houses that it is tied to -/
def BesAt (H : Hp) (v : V) (many : Int) (ties : List (Int × Int)) : Prop := ∃ (q : Addr) (bs : List Addr), v = .ref q ∧ H q = some (.lst (bs.map V.ref)) ∧ bs.length = many.toNat ∧ ∀ (k : Nat) (b : Addr), bs[k]? = some b → H b = some (.lst ((nbr ties (k : Int)).map V.int))
theorem BesAt.dp {K : PySem.W.Frag} {H : Hp} {v : V} {many : Int} {ties : List (Int × Int)} (h : BesAt H v many ties) : Dp K H v (besD many ties) := by
  obtain ⟨q, bs, rfl, h1, h2, h3⟩ := h
  exact bes_dp (SqL.of h1) h2 fun k b hb => SqL.of (h3 k b hb)
theorem BesAt.ex {H H' : Hp} {v : V} {many : Int} {ties : List (Int × Int)} (h : BesAt H v many ties) (e : Evl.Ex H H') : BesAt H' v many ties := by
  obtain ⟨q, bs, rfl, h1, h2, h3⟩ := h
  exact ⟨q, bs, rfl, e _ _ h1, h2, fun k b hb => e _ _ (h3 k b hb)⟩
theorem BesAt.at {H : Hp} {v : V} {many : Int} {ties : List (Int × Int)} (h : BesAt H v many ties) : ∃ (q : Addr) (xs : List V), v = .ref q ∧ H q = some (.lst xs) ∧ ∀ i : Int, 0 ≤ i → i < many → ∃ b, atI xs i = some (.ref b) ∧ H b = some (.lst ((nbr ties i).map V.int)) := by
  obtain ⟨q, bs, rfl, h1, h2, h3⟩ := h
  refine ⟨q, _, rfl, h1, fun i h0 hi => ?_⟩
  have lt : i.toNat < bs.length := by omega
  refine ⟨bs[i.toNat], atI_of h0 (by rw [List.getElem?_map, List.getElem?_eq_getElem lt]; rfl), ?_⟩
  have := h3 i.toNat _ (List.getElem?_eq_getElem lt)
  rw [show ((i.toNat : Nat) : Int) = i by omega] at this
  exact this
/-! ### set(xs) of a list of ints: a set, told as the layer tells those of its own -/
abbrev emptyS (w : World) : Obj := { cls := .type "set", dict := none, data := .set #[] 0 (.fresh 0 0 (!w.params.followText "set-order")) }
section
variable {P : Program} {w : World} {A : Around} {E : Value → Shared → Prop} {s : Shared}
set_option maxHeartbeats 9000000 in
theorem call_set_ofList {a : Addr} {its : Array Value} (ks : List Int) {Q : Value → Shared → Prop} (calm : A.handled = none) (isl : s.heap.IsList a its) (are : IntsAre its.toList ks) (few : ks.length + 1 < scanBound)
    (out : ∀ (g : Heap) (tk n : Nat), SetR w g s.heap.objs.size (fun j => decide (j ∈ ks)) n → n ≤ ks.length → (∀ b o, s.heap.get? b = some o → g.get? b = some o) → Q (.ref s.heap.objs.size) { s with heap := g, toks := tk }) :
    wpAny (model P w) A (call (.type "set") [.ref a]) Q E s := by
  have size_is : its.size = ks.length := by
    have z := IntsAre.length are
    rwa [Array.length_toList] at z
  have cs := F.called_set
  obtain ⟨m1, m2, m3⟩ := cs.mro
  have made := cs.made
  have subs := cs.sub
  have nty := cs.notType
  have can := cs.canCreate
  have tcall := F.typeCall_set_1 (.ref a)
  refine wpAny_call (codeAny_of_tree ?_)
  show wpAny _ _ (callAny (Value.type "set") _) _ _ _
  refine wpAny_pure ⟨Code.quiet_builtin _ (by decide +kernel), codeAny_builtin F.entry_type_call ?_⟩
  rw [Around.under_plain (weight_type_call_type "set" [.ref a] []) rfl]
  repeat (any_goals (first | wp_step | assumption))
  refine codeAny_mono (code_set_led1 (.ref a) (E := E) (Q₁ := fun v s1 => v = .ref s.heap.objs.size ∧ s1 = { s with heap := s.heap.push (emptyS w) }) ⟨rfl, rfl⟩) fun res s1 got => ?_
  cases res with
  | error _ => exact got
  | ok flow =>
    cases flow with
    | ret v =>
      obtain ⟨rfl, rfl⟩ := got
      have at0 : (s.heap.push (emptyS w)).get? s.heap.objs.size = some (emptyS w) := Heap.get?_push_size _ rfl
      have ty0 : Shared.TypeIs { s with heap := s.heap.push (emptyS w) } (.ref s.heap.objs.size) "set" := ⟨_, at0, rfl⟩
      have ini1 := cs.init.lookup
      have ini2 := cs.init.bind (.ref s.heap.objs.size)
      repeat (any_goals (first | wp_step | assumption))
      refine codeAny_mono (codeAny_call_builtin (R := wants (fun r s2 => r = .none ∧ ∃ g tk n, s2 = { s with heap := g, toks := tk } ∧ SetR w g s.heap.objs.size (fun j => decide (j ∈ ks)) n ∧ n ≤ ks.length ∧ (∀ b o, s.heap.get? b = some o → g.get? b = some o)) E) cs.init.plain F.entry_set_init (check_set_init_1 ty0 ?_)) fun res2 s2 got2 => ?_
      · obtain ⟨ob, hob, hcl, n0, hdt⟩ := isl
        obtain ⟨k1, k2, k3, k4⟩ := ob
        simp only at hcl hdt
        subst hcl hdt
        have under : a < s.heap.objs.size := Heap.lt_size hob
        have hob2 : (s.heap.push (emptyS w)).get? a = some { cls := .type "list", dict := k2, data := .seq its n0, slots := k4 } := Heap.get?_push_of_some _ hob
        have t1 := F.sub_list_set
        have t2 := F.sub_list_frozenset
        have t3 : (Value.type "list" == Value.type "dict") = false := by decide
        have isl2 : (s.heap.push (emptyS w)).IsList a its := ⟨_, hob2, rfl, n0, rfl⟩
        unfold Builtin.«set.__init__» noKeywords Builtin.Frozenset.updateFrom
        generalize hit : pyIter = iter
        wp_walk
        subst hit
        refine wpAny_pyIter_list isl2 (wpAny_bind (wpAny_runValue ?_))
        have calm3 : A.in1.in1.in1.handled = none := by simp [calm]
        have apart : a ≠ (s.heap.push (emptyS w)).objs.size := by
          rw [Heap.size_push]
          exact Nat.ne_of_lt (Nat.lt_succ_of_lt under)
        have notin : s.heap.objs.size ∉ [(s.heap.push (emptyS w)).objs.size, a] := by
          intro m
          rw [Heap.size_push] at m
          rcases List.mem_cons.mp m with m | m
          · exact absurd m (Nat.ne_of_lt (Nat.lt_succ_self _))
          · exact absurd (List.mem_singleton.mp m) (Nat.ne_of_gt under)
        have vals : ∀ (i : Nat) (v : Value), its[i]? = some v → ∃ k t, ks[i]? = some k ∧ v = .int k t := fun i v hv => by
          have lt : i < ks.length := size_is ▸ (Array.getElem?_eq_some_iff.mp hv).1
          obtain ⟨t, e⟩ := IntsAre.int_at are i v (by rw [Array.getElem?_toList]; exact hv)
          rw [List.getD_eq_getElem?_getD, List.getElem?_eq_getElem lt] at e
          exact ⟨ks[i], t, List.getElem?_eq_getElem lt, e⟩
        refine set_update_ints (Walks.list calm3 _ a apart its).toS s.heap.objs.size notin ks size_is few vals (its.size - 0) 0 _ (by omega) (Nat.zero_le _) ⟨⟨_, Heap.get?_push_size _ rfl, rfl, rfl⟩, isl2.push _⟩ ?first ?last
        case first => exact ⟨0, Nat.le_refl 0, setR_new_at (Heap.get?_push_of_some _ at0)⟩
        case last =>
          intro s3 n3 moved le3 set3
          obtain ⟨g3, e1, e2, tk3, e3⟩ := s3
          have q1 : e1 = s.gens := moved.gens
          have q2 : e2 = s.drawn := moved.drawn
          have q3 : e3 = s.os := moved.os
          subst q1 q2 q3
          rw [size_is] at le3
          refine wpAny_pure (wpAny_pure ⟨rfl, g3, tk3, n3, rfl, set3, le3, fun b o e => ?_⟩)
          have under2 : b < s.heap.objs.size := Heap.lt_size e
          refine moved.heap b o (fun m => ?_) (Heap.get?_push_of_some _ (Heap.get?_push_of_some _ e))
          rcases List.mem_cons.mp m with m | m
          · exact absurd m (Nat.ne_of_lt under2)
          · have m := List.mem_singleton.mp m
            rw [Heap.size_push] at m
            exact absurd m (Nat.ne_of_lt (Nat.lt_succ_of_lt under2))
      · cases res2 with
        | error _ => exact got2
        | ok flow2 =>
          cases flow2 with
          | ret _ =>
            obtain ⟨rfl, g, tk, n, rfl, y1, y2, y3⟩ := got2
            repeat (any_goals (first | wp_step | assumption))
            exact out _ _ _ y1 y2 y3
          | _ => exact got2.elim
    | _ => exact got.elim
end
section
variable {X : Cx}
/-- set(xs), xs a list of ints -/
def rSetOfL (K : PySem.W.Frag) (w : World) : List V → Hp → VK → Prop := fun vs H Q => ∃ (a : Addr) (ns : List Int), vs = [.ref a] ∧ SqL K H a (ns.map V.int) ∧ ns.length ≤ 1000 ∧
  ∀ (q : Addr) (n : Nat), H q = none → n ≤ ns.length → Q (.ref q) (upd H q (SetO w q (fun j => decide (j ∈ ns)) n))
theorem cr_setL (hc : X.calm = true) : CallR X (.type "set") (rSetOfL X.K X.w) := by
  intro pins s σ H vs us Q I r h
  obtain ⟨a, ns, rfl, hs, hl, q⟩ := h
  obtain ⟨its, rv, pl, hz⟩ := I.list hs
  rw [Vals.ref1 r]
  refine call_set_ofList ns (I.ok.hd hc) pl.isList (by simpa using rv.ints) (Nat.lt_of_le_of_lt (Nat.add_le_add_right hl 1) (by decide)) fun g tk n S hn kp => ?_
  exact ⟨.ref _, _, I.laid (t' := tk) kp (Nat.le_refl _) (setO_new S), rfl, q _ n I.fresh hn⟩
end
/-! ### what a set lacks -/
def tieIn (some' : List Int) (t : Int × Int) : Bool := decide (t.1 ∈ some') && decide (t.2 ∈ some')
def firstTie (ties : List (Int × Int)) (some' : List Int) : Option (Int × Int) := ties.find? (tieIn some')
/-- a house in the set, or tied to one in it -/
def cov (ties : List (Int × Int)) (some' : List Int) (h : Int) : Bool := decide (h ∈ some') || (nbr ties h).any fun x => decide (x ∈ some')
def firstBare (many : Int) (ties : List (Int × Int)) (some' : List Int) : Option Int := (rgI many).find? fun h => !cov ties some' h
def tieO : Option (Int × Int) → PyData
  | none => .none
  | some t => tieD t
def intO : Option Int → PyData
  | none => .none
  | some i => .int i
def lacksD (many : Int) (ties : List (Int × Int)) (some' : List Int) : PyData :=
  match firstTie ties some' with
  | some t => .tuple [.str "tied", .int t.1, .int t.2]
  | none => match firstBare many ties some' with
    | some h => .tuple [.str "bare", .int h]
    | none => .none
/-- a set of houses: rising -/
structure SetOk (many : Int) (some' : List Int) : Prop where
  up : some'.Pairwise (· < ·)
  ok : ∀ h ∈ some', 0 ≤ h ∧ h < many
theorem SetOk.len {many : Int} {some' : List Int} (h : SetOk many some') (h60 : many ≤ 60) : some'.length ≤ 60 := by
  have := len_le_of_sub (l := some') (m := rgI many) (h.up.imp fun q => Int.ne_of_lt q) fun x hx => rgI_mem.mpr (h.ok x hx)
  rw [rgI_len] at this
  omega
theorem SetOk.nd {many : Int} {some' : List Int} (h : SetOk many some') : some'.Nodup := h.up.imp fun q => Int.ne_of_lt q
/-- find?, turn by turn -/
theorem find_take {α : Type} (f : α → Bool) : ∀ (l : List α) (i : Nat), (∀ x ∈ l.take i, f x = false) → ∀ x, l[i]? = some x → f x = true → l.find? f = some x
  | [], _, _, _, h, _ => by simp at h
  | y :: r, 0, _, x, h, hf => by
    have e : y = x := Option.some.inj h
    subst e
    rw [List.find?_cons, hf]
  | y :: r, i + 1, ha, x, h, hf => by
    have hy : f y = false := ha y (by simp)
    rw [List.find?_cons, hy]
    exact find_take f r i (fun z hz => ha z (by simp [hz])) x (by simpa using h) hf
theorem find_none {α : Type} (f : α → Bool) (l : List α) (h : ∀ x ∈ l, f x = false) : l.find? f = none := by
  rw [List.find?_eq_none]
  intro x hx
  rw [h x hx]
  decide
theorem take_snoc {α : Type} {l : List α} {i : Nat} {x : α} (h : l[i]? = some x) : l.take (i + 1) = l.take i ++ [x] := by rw [List.take_add_one, h]; rfl
theorem cov_iff {many : Int} {ties : List (Int × Int)} (W : WebOk many ties) {s : List Int} {h : Int} : cov ties s h = true ↔ h ∈ s ∨ ∃ t ∈ ties, (t.1 ∈ s ∧ h = t.2) ∨ (t.2 ∈ s ∧ h = t.1) := by
  unfold cov
  rw [Bool.or_eq_true, decide_eq_true_eq, List.any_eq_true]
  constructor
  · rintro (q | ⟨x, hx, q⟩)
    · exact .inl q
    · have q := of_decide_eq_true q
      rcases (nbr_iff W).mp hx with z | z
      · exact .inr ⟨_, z, .inr ⟨q, rfl⟩⟩
      · exact .inr ⟨_, z, .inl ⟨q, rfl⟩⟩
  · rintro (q | ⟨⟨a, b⟩, ht, q⟩)
    · exact .inl q
    · rcases q with ⟨q1, q2⟩ | ⟨q1, q2⟩
      · simp only at q1 q2
        subst q2
        exact .inr ⟨a, (nbr_iff W).mpr (.inr ht), decide_eq_true q1⟩
      · simp only at q1 q2
        subst q2
        exact .inr ⟨b, (nbr_iff W).mpr (.inl ht), decide_eq_true q1⟩
section
variable {K : PySem.W.Frag} {w : World} {H : Hp} {Q : VK}
theorem r_sIn {k : Int} {a : Addr} {S : Int → Bool} {n : Nat} (h : H a = some (SetO w a S n)) (q : Q (.bl (S k)) H) : rSIn w (.int k) (.ref a) H Q := ⟨k, a, S, n, rfl, rfl, h, q⟩
theorem r_sNotIn {k : Int} {a : Addr} {S : Int → Bool} {n : Nat} (h : H a = some (SetO w a S n)) (q : Q (.bl (!S k)) H) : rSNotIn w (.int k) (.ref a) H Q := ⟨k, a, S, n, rfl, rfl, h, q⟩
theorem r_sadd {σ : L2.St} {to : TE} {t : TA} (h : to σ H fun x H1 => (∃ a S n, x = V.ref a ∧ H1 a = some (SetO w a S n)) ∧ t σ H1 fun xs H2 => rSAdd w x xs H2 Q) : tSAdd w to t σ H Q := h
theorem r_setLst {a : Addr} {ns : List Int} (h : SqL K H a (ns.map V.int)) (hl : ns.length ≤ 1000) (k : ∀ (q : Addr) (n : Nat), H q = none → n ≤ ns.length → Q (.ref q) (upd H q (SetO w q (fun j => decide (j ∈ ns)) n))) : rSetOfL K w [.ref a] H Q := ⟨a, ns, rfl, h, hl, k⟩
end
theorem inV_int (a : Int) (ns : List Int) : inV (.int a) (ns.map V.int) = decide (a ∈ ns) := by
  unfold inV
  rw [List.any_map]
  induction ns with
  | nil => simp
  | cons x r ih =>
    rw [List.any_cons, ih]
    simp only [Function.comp, eqV]
    by_cases h : x = a
    · subst h; simp
    · have h' : ¬ a = x := fun e => h e.symm
      simp [h, h']
theorem flat_int (ns : List Int) : (ns.map V.int).all flatV = true := by
  rw [List.all_map]
  induction ns with
  | nil => rfl
  | cons x r ih => rw [List.all_cons, ih]; rfl
theorem eqv_nil (ns : List Int) : PyData.eqv (.list (ns.map PyData.int)) (.list []) = ns.isEmpty := by
  cases ns with
  | nil => rfl
  | cons x r => simp [PyData.eqv, PyData.eqvAll]
mutual
theorem eqv_of_eq : ∀ d : PyData, d.canLay0 = true → PyData.eqv d d = true
  | d, h => SeqAt.eqv_refl d h
end
section
variable {K : PySem.W.Frag} {H : Hp} {Q : VK}
theorem r_inI {p : Addr} {ns : List Int} {a : Int} (h : SqL K H p (ns.map V.int)) (q : Q (.bl (decide (a ∈ ns))) H) : rIn K false (.int a) (.ref p) H Q :=
  ⟨p, _, rfl, .inl h, rfl, flat_int ns, by rw [if_neg (by decide), inV_int]; exact q⟩
theorem r_notInI {p : Addr} {ns : List Int} {a : Int} (h : SqL K H p (ns.map V.int)) (q : Q (.bl (!decide (a ∈ ns))) H) : rIn K true (.int a) (.ref p) H Q :=
  ⟨p, _, rfl, .inl h, rfl, flat_int ns, by rw [if_pos rfl, inV_int]; exact q⟩
theorem r_eqNil {p q : Addr} {ns : List Int} (h : SqL K H p (ns.map V.int)) (g : SqL K H q []) (z : Q (.bl ns.isEmpty) H) : rEqD K (.ref p) (.ref q) H Q :=
  ⟨_, _, dp_ints h, dp_ints (cs := []) g, shaped_ints ns, shaped_ints [], by rw [show ([] : List Int).map PyData.int = [] from rfl, eqv_nil]; exact z⟩
theorem r_neNil {p q : Addr} {ns : List Int} (h : SqL K H p (ns.map V.int)) (g : SqL K H q []) (z : Q (.bl (!ns.isEmpty)) H) : rNeD K (.ref p) (.ref q) H Q :=
  ⟨_, _, dp_ints h, dp_ints (cs := []) g, shaped_ints ns, shaped_ints [], by rw [show ([] : List Int).map PyData.int = [] from rfl, eqv_nil]; exact z⟩
/-- [g x for x in ns if f x], ns ints, f and g changing nothing -/
theorem lc_pure {a D : Addr} {ns : List Int} {f : Int → Bool} {g : Int → V} {tt : TT} {te : TE} {vs : List Nat} {σ : L2.St} {j : Nat} {Qd : Hp → Prop} (hs : SqL K H a (ns.map V.int)) (hl : ns.length ≤ 10000) (hD : H D = none)
    (hw : ∀ x, wipe ((wipe σ vs).set j (some x)) vs = wipe σ vs) (ht : ∀ x ∈ ns, ∀ H1, Evl.Ex H H1 → ∀ QB : Bool → Hp → Prop, QB (f x) H1 → tt ((wipe σ vs).set j (some (.int x))) H1 QB)
    (he : ∀ x ∈ ns, f x = true → ∀ H1, Evl.Ex H H1 → ∀ Q : VK, Q (g x) H1 → te ((wipe σ vs).set j (some (.int x))) H1 Q) (k : ∀ H', Evl.Ex H H' → H' D = some (.lst ((ns.filter f).map g)) → Qd H') :
    ∃ W : Nat → Nat → Hp → Prop, (∃ m, W 0 m (upd H D (.lst []))) ∧ ∀ i m H, W i m H →
      ((Itl K a).stop i H ∧ Qd H) ∨ ((Itl K a).go i H ∧ ∃ Nx : Hp → Prop, (∀ H', Nx H' → ∃ m', m' < m ∧ W (i + 1) m' H') ∧ ∀ x H', (Itl K a).yld i H x H' → gName j x (wipe σ vs) H' fun σ2 H2 => wipe σ2 vs = wipe σ vs ∧ tt σ2 H2 fun b H3 =>
        if b = true then te σ2 H3 fun y H4 => ∃ acc, H4 D = some (.lst acc) ∧ acc.length < sizeLine ∧ Nx (upd H4 D (.lst (acc ++ [y]))) else Nx H3) := by
  refine lc_it (walk_list (xs := ns.map V.int)) (fun i H' => H' D = some (.lst (((ns.take i).filter f).map g)) ∧ Evl.Ex H H') ⟨upd_same, Evl.Ex.new hD⟩ (fun i H' _ h => Evl.ex_l h.2 hs) ?_ ?_
  · rintro i v H1 H2 hi ⟨h1, e1⟩ ⟨rfl, ey⟩
    rw [List.getElem?_map] at ey
    cases et : ns[i]? with
    | none => rw [et] at ey; cases ey
    | some x =>
      rw [et] at ey
      cases ey
      have hx := List.mem_of_getElem? et
      refine ⟨hw _, ht x hx H2 e1 _ ?_⟩
      have tk : ns.take (i + 1) = ns.take i ++ [x] := take_snoc et
      cases hf : f x with
      | true =>
        refine iteT (he x hx hf H2 e1 _ ⟨_, h1, Evl.sz_lt ?_, ?_, e1.mut hD⟩)
        · rw [List.length_map]
          have := List.length_filter_le f (ns.take i)
          rw [List.length_take] at this
          omega
        · rw [upd_same, tk, List.filter_append, List.filter_cons, if_pos hf, List.map_append]
          rfl
      | false =>
        refine iteF ⟨?_, e1⟩
        rw [tk, List.filter_append, List.filter_cons, if_neg (by rw [hf]; decide), List.filter_nil, List.append_nil]
        exact h1
  · rintro H' ⟨h1, e1⟩
    rw [List.length_map, List.take_length] at h1
    exact k H' e1 h1
end
theorem cov_not (ties : List (Int × Int)) (s : List Int) (h : Int) : (!cov ties s h) = ((!decide (h ∈ s)) && ((nbr ties h).filter fun x => decide (x ∈ s)).isEmpty) := by
  unfold cov
  rw [Bool.not_or]
  congr 1
  induction nbr ties h with
  | nil => rfl
  | cons x r ih =>
    rw [List.any_cons, List.filter_cons]
    by_cases q : x ∈ s
    · simp [q]
    · simp only [q, decide_false, Bool.false_or, Bool.false_eq_true, if_false]
      exact ih
/-! ### what a draw leaves as it was -/
theorem SqT.exB {K : PySem.W.Frag} {H H' : Hp} {p c a : Addr} {xs : List V} (hP : PotC H p c) (e : ExB p H H') (h : SqT K H a xs) : SqT K H' a xs := by
  obtain ⟨cs, at', r, h1, _⟩ := hP
  rcases h with (h | ⟨o, h⟩) | h
  · exact .inl (.inl (e a _ (ne_of h h1 (by intro z; cases z)) h))
  · exact .inl (.inr ⟨o, e a _ (ne_of h h1 (by intro z; cases z)) h⟩)
  · exact .inr h
theorem SqL.exB {K : PySem.W.Frag} {H H' : Hp} {p c a : Addr} {xs : List V} (hP : PotC H p c) (e : ExB p H H') (hx : ∀ q i j, xs ≠ [.ref q, .int i, .int j]) (h : SqL K H a xs) : SqL K H' a xs := by
  obtain ⟨cs, at', r, h1, _⟩ := hP
  rcases h with (h | ⟨o, h⟩) | h
  · exact .inl (.inl (e a _ (ne_of h h1 (fun z => hx _ _ _ (HO.lst.inj z))) h))
  · exact .inl (.inr ⟨o, e a _ (ne_of h h1 (by intro z; cases z)) h⟩)
  · exact .inr h
theorem ints_np {ns : List Int} : ∀ q i j, ns.map V.int ≠ [.ref q, .int i, .int j] := fun q i j h => by
  cases ns with
  | nil => cases h
  | cons x r => cases h
def potLike : List PyData → Bool
  | [.list _, .int _, .int _] => true
  | [.tuple _, .int _, .int _] => true
  | _ => false
mutual
/-- no list in it that could be the pot -/
def npD : PyData → Bool
  | .list ds => !potLike ds && npAll ds
  | .tuple ds => npAll ds
  | .dict _ => false
  | _ => true
def npAll : List PyData → Bool
  | [] => true
  | d :: r => npD d && npAll r
end
mutual
theorem Dp.exB {K : PySem.W.Frag} {H H' : Hp} {p c : Addr} (hP : PotC H p c) (e : ExB p H H') : ∀ (d : PyData) (v : V), npD d = true → Dp K H v d → Dp K H' v d
  | .none, _, _, h => by cases h; exact .non
  | .bool _, _, _, h => by cases h; exact .bl _
  | .int _, _, _, h => by cases h; exact .int _
  | .str _, _, _, h => by cases h; exact .str _
  | .list ds, _, hn, h => by
    rw [npD, Bool.and_eq_true] at hn
    cases h with
    | lst h1 h2 =>
      refine .lst (SqL.exB hP e (fun q i j z => ?_) h1) (DpAll.exB hP e ds _ hn.2 h2)
      subst z
      cases h2 with
      | cons g1 g2 =>
        cases g2 with
        | cons g3 g4 =>
          cases g4 with
          | cons g5 g6 =>
            cases g6
            cases g3
            cases g5
            cases g1 <;> exact absurd hn.1 (by simp [potLike])
  | .tuple ds, _, hn, h => by
    rw [npD] at hn
    cases h with
    | tup h1 h2 => exact .tup (SqT.exB hP e h1) (DpAll.exB hP e ds _ hn h2)
  | .dict _, _, _, h => by cases h
theorem DpAll.exB {K : PySem.W.Frag} {H H' : Hp} {p c : Addr} (hP : PotC H p c) (e : ExB p H H') : ∀ (ds : List PyData) (vs : List V), npAll ds = true → DpAll K H vs ds → DpAll K H' vs ds
  | [], _, _, h => by cases h; exact .nil
  | d :: ds, _, hn, h => by
    rw [npAll, Bool.and_eq_true] at hn
    cases h with
    | cons h1 h2 => exact .cons (Dp.exB hP e d _ hn.1 h1) (DpAll.exB hP e ds _ hn.2 h2)
end
theorem npAll_of : ∀ {ds : List PyData}, (∀ d ∈ ds, npD d = true) → npAll ds = true
  | [], _ => rfl
  | d :: r, h => by rw [npAll, h d List.mem_cons_self, npAll_of fun x hx => h x (List.mem_cons_of_mem _ hx)]; rfl
theorem np_ints (ns : List Int) : npD (intsD ns) = true := by
  unfold intsD
  rw [npD, Bool.and_eq_true]
  refine ⟨?_, npAll_of fun d hd => ?_⟩
  · cases ns with
    | nil => rfl
    | cons x r => rfl
  · obtain ⟨x, _, rfl⟩ := List.mem_map.mp hd
    rfl
theorem np_web (many : Int) (ties : List (Int × Int)) : npD (webD many ties) = true := by
  unfold webD
  simp only [npD, npAll, Bool.true_and, Bool.and_true]
  refine npAll_of fun d hd => ?_
  obtain ⟨x, _, rfl⟩ := List.mem_map.mp hd
  rfl
theorem np_bes (many : Int) (ties : List (Int × Int)) : npD (besD many ties) = true := by
  unfold besD
  rw [npD, Bool.and_eq_true]
  refine ⟨?_, npAll_of fun d hd => ?_⟩
  · cases rgI many with
    | nil => rfl
    | cons x r =>
      cases r with
      | nil => rfl
      | cons y r => rfl
  · obtain ⟨x, _, rfl⟩ := List.mem_map.mp hd
    exact np_ints _
theorem BesAt.exB {H H' : Hp} {p c : Addr} {v : V} {many : Int} {ties : List (Int × Int)} (h : BesAt H v many ties) (hP : PotC H p c) (e : ExB p H H') : BesAt H' v many ties := by
  obtain ⟨q, bs, rfl, h1, h2, h3⟩ := h
  obtain ⟨cs, a, r, g1, _⟩ := hP
  refine ⟨q, bs, rfl, e _ _ (ne_of h1 g1 fun w => ?_) h1, h2, fun k b hb => e _ _ (ne_of (h3 k b hb) g1 fun w => ints_np _ _ _ (HO.lst.inj w)) (h3 k b hb)⟩
  have w := HO.lst.inj w
  match bs, w with
  | x :: y :: r, w => injection w with _ w; injection w with w _; cases w
theorem fresh_B {H H' : Hp} {p c q : Addr} (e : ExB p H H') (hP : PotC H' p c) (h : H' q = none) : H q = none := by
  cases z : H q with
  | none => rfl
  | some u => rw [e q u (hP.np h) z] at h; cases h
/-- lists of ints at the addresses -/
def LstsAt (H : Hp) (qs : List Addr) (ss : List (List Int)) : Prop := Paired (fun q (s : List Int) => H q = some (.lst (s.map V.int))) qs ss
theorem LstsAt.mono {H H' : Hp} (e : ∀ q (s : List Int), H q = some (.lst (s.map V.int)) → H' q = some (.lst (s.map V.int))) : ∀ {qs : List Addr} {ss : List (List Int)}, LstsAt H qs ss → LstsAt H' qs ss
  | _, _, .nil => .nil
  | _, _, .cons h r => .cons (e _ _ h) (LstsAt.mono e r)
theorem LstsAt.ex {H H' : Hp} {qs : List Addr} {ss : List (List Int)} (h : LstsAt H qs ss) (e : Evl.Ex H H') : LstsAt H' qs ss := h.mono fun q s z => e q _ z
theorem LstsAt.exB {H H' : Hp} {p c : Addr} {qs : List Addr} {ss : List (List Int)} (h : LstsAt H qs ss) (hP : PotC H p c) (e : ExB p H H') : LstsAt H' qs ss := h.mono fun q s z => by
  obtain ⟨cs, a, r, h1, _⟩ := hP
  exact e q _ (ne_of z h1 fun w => ints_np _ _ _ (HO.lst.inj w)) z
theorem LstsAt.upd {H : Hp} {f x : Addr} {r : List V} {o : HO} {qs : List Addr} {ss : List (List Int)} (h : LstsAt H qs ss) (hf : H f = some (.lst (.ref x :: r))) : LstsAt (L2.upd H f o) qs ss := h.mono fun q s z => by
  rw [upd_ne (ne_of z hf fun w => by have := HO.lst.inj w; cases s <;> cases this)]
  exact z
theorem LstsAt.snoc {H : Hp} {q : Addr} {s : List Int} (hq : H q = some (.lst (s.map V.int))) : ∀ {qs : List Addr} {ss : List (List Int)}, LstsAt H qs ss → LstsAt H (qs ++ [q]) (ss ++ [s])
  | _, _, .nil => .cons hq .nil
  | _, _, .cons h r => .cons h (LstsAt.snoc hq r)
theorem LstsAt.dp {K : PySem.W.Frag} {H : Hp} : ∀ {qs : List Addr} {ss : List (List Int)}, LstsAt H qs ss → DpAll K H (qs.map V.ref) (ss.map intsD)
  | _, _, .nil => .nil
  | _, _, .cons h r => .cons (dp_intsD (SqL.of h)) (LstsAt.dp r)
theorem LstsAt.len {H : Hp} : ∀ {qs : List Addr} {ss : List (List Int)}, LstsAt H qs ss → qs.length = ss.length
  | _, _, .nil => rfl
  | _, _, .cons h r => by rw [List.length_cons, List.length_cons, LstsAt.len r]
theorem rgI_up (n : Int) : (rgI n).Pairwise (· < ·) := by
  unfold rgI
  refine List.Pairwise.map _ ?_ List.pairwise_lt_range
  intro a b h
  show (a : Int) < (b : Int)
  omega
theorem rgI_ok (n : Int) : SetOk n (rgI n) := ⟨rgI_up n, fun h hh => rgI_mem.mp hh⟩
/-- a set without the one at a place -/
def without (s : List Int) (k : Nat) : List Int := s.take k ++ s.drop (k + 1)
theorem without_sub (s : List Int) (k : Nat) : (without s k).Sublist s := by
  unfold without
  have h1 : (s.drop (k + 1)).Sublist (s.drop k) := by
    rw [show k + 1 = k + 1 from rfl, ← List.drop_drop]
    exact List.drop_sublist 1 (s.drop k)
  have h2 := List.Sublist.append_left h1 (s.take k)
  rw [List.take_append_drop] at h2
  exact h2
theorem without_ok {many : Int} {s : List Int} (h : SetOk many s) (k : Nat) : SetOk many (without s k) := ⟨h.up.sublist (without_sub s k), fun x hx => h.ok x ((without_sub s k).mem hx)⟩
theorem cut_to {s : List Int} {i : Int} (h0 : 0 ≤ i) : cutV (s.map V.int) none (some i) = (s.take i.toNat).map V.int := by
  rw [cutV_map]
  congr 1
  have e : i = ((i.toNat : Nat) : Int) := by omega
  conv => lhs; rw [e]
  exact cutG_take s i.toNat
theorem cut_from {s : List Int} {i : Int} (h0 : 0 ≤ i) : cutV (s.map V.int) (some i) none = (s.drop i.toNat).map V.int := by
  rw [cutV_map]
  congr 1
  have e : i = ((i.toNat : Nat) : Int) := by omega
  conv => lhs; rw [e]
  exact cutG_drop s i.toNat
section
variable {K : PySem.W.Frag} {w : World} {H : Hp} {Q : VK}
theorem r_cat {a b : Addr} {xs ys : List Int} (h : H a = some (.lst (xs.map V.int))) (g : H b = some (.lst (ys.map V.int))) (hl : xs.length + ys.length ≤ 100000) (k : ∀ p, H p = none → Q (.ref p) (upd H p (.lst ((xs ++ ys).map V.int)))) : rCat (.ref a) (.ref b) H Q :=
  ⟨a, b, _, _, rfl, rfl, h, g, Evl.sz_of (by rw [List.length_map, List.length_map]; exact hl), fun p hp => by rw [← List.map_append]; exact k p hp⟩
theorem r_sortSet {a : Addr} {L : List Int} {n : Nat} (h : H a = some (SetO w a (fun j => decide (j ∈ L)) n)) (hn : n < 64) (k : ∀ (ns : List Int) (p : Addr), ns.Pairwise (· < ·) → (∀ x, x ∈ ns ↔ x ∈ L) → H p = none → Q (.ref p) (upd H p (.lst (ns.map V.int)))) : rSortedSet w [.ref a] H Q :=
  ⟨a, _, n, rfl, h, hn, fun ns p h1 h2 _ hp => k ns p h1 (fun x => by rw [h2]; exact decide_eq_true_iff) hp⟩
end
theorem cut_fromG {α : Type} {f : α → V} {s : List α} {i : Int} (h0 : 0 ≤ i) : cutV (s.map f) (some i) none = (s.drop i.toNat).map f := by
  rw [cutV_map]
  congr 1
  have e : i = ((i.toNat : Nat) : Int) := by omega
  conv => lhs; rw [e]
  exact cutG_drop s i.toNat
theorem LstsAt.drop {H : Hp} : ∀ {qs : List Addr} {ss : List (List Int)} (n : Nat), LstsAt H qs ss → LstsAt H (qs.drop n) (ss.drop n)
  | _, _, 0, h => h
  | _, _, _ + 1, .nil => .nil
  | _, _, n + 1, .cons _ r => LstsAt.drop n r
theorem LstsAt.get {H : Hp} : ∀ {qs : List Addr} {ss : List (List Int)} {i : Nat} {q : Addr}, LstsAt H qs ss → qs[i]? = some q → ∃ s ∈ ss, H q = some (.lst (s.map V.int))
  | _, _, i, q, .nil, h => by simp at h
  | _, _, 0, q, .cons h r, e => by
    have e := Option.some.inj e
    rw [← e]
    exact ⟨_, List.mem_cons_self, h⟩
  | _, _, i + 1, q, .cons h r, e => by
    obtain ⟨s, h1, h2⟩ := LstsAt.get r (show _ from (by simpa using e))
    exact ⟨s, List.mem_cons_of_mem _ h1, h2⟩
theorem find_filter {α : Type} (f : α → Bool) (l : List α) : (l.find? f).isNone = (l.filter f).isEmpty := by
  induction l with
  | nil => rfl
  | cons x r ih =>
    rw [List.find?_cons, List.filter_cons]
    cases f x with
    | true => rfl
    | false => simpa using ih
theorem cov_all (ties : List (Int × Int)) (s : List Int) (h : Int) : ((nbr ties h ++ [h]).filter fun x => decide (x ∈ s)).isEmpty = !cov ties s h := by
  rw [cov_not, List.filter_append]
  generalize (nbr ties h).filter (fun x => decide (x ∈ s)) = l
  by_cases q : h ∈ s
  · cases l <;> simp [q]
  · cases l <;> simp [q]
theorem nine (i : Nat) (h : i < 5) : ∃ m : Int, atI ([.int 9, .int 9, .int 9, .int 9, .int 60] : List V) (0 + (i : Int)) = some (.int m) ∧ 1 ≤ m ∧ m ≤ 60 := by
  match i, h with
  | 0, _ => exact ⟨9, rfl, by decide, by decide⟩
  | 1, _ => exact ⟨9, rfl, by decide, by decide⟩
  | 2, _ => exact ⟨9, rfl, by decide, by decide⟩
  | 3, _ => exact ⟨9, rfl, by decide, by decide⟩
  | 4, _ => exact ⟨60, rfl, by decide, by decide⟩
theorem lacks_small (many : Int) (ties : List (Int × Int)) (s : List Int) : (lacksD many ties s).depth < 2 ∧ wd (lacksD many ties s) = true := by
  unfold lacksD
  split
  · exact ⟨by simp [PyData.depth, PyData.depthAll], by simp [wd, wdAll]⟩
  · split
    · exact ⟨by simp [PyData.depth, PyData.depthAll], by simp [wd, wdAll]⟩
    · exact ⟨by simp [PyData.depth], rfl⟩
theorem r_neSame {K : PySem.W.Frag} {H : Hp} {Q : VK} {p q : Addr} {ns : List Int} (h : SqL K H p (ns.map V.int)) (g : SqL K H q (ns.map V.int)) (z : Q (.bl false) H) : rNeD K (.ref p) (.ref q) H Q := by
  refine ⟨_, _, dp_ints h, dp_ints g, shaped_ints ns, shaped_ints ns, ?_⟩
  rw [SeqAt.eqv_refl _ (SeqAt.canLay_of_shaped (shaped_ints ns))]
  exact z
/-! ### names and rounds -/
def nmAt (names : List Int) (h : Int) : Int := names.getD h.toNat 0
structure NamesOk (many : Int) (names : List Int) : Prop where
  len : names.length = many.toNat
  nd : names.Nodup
/-- the neighbours of lesser names -/
def lessN (ties : List (Int × Int)) (names : List Int) (h : Int) : List Int := (nbr ties h).filter fun o => decide (nmAt names o < nmAt names h)
abbrev Row := Bool × Int
/-- the least, the greatest of numbers, with one ahead -/
def minL : Int → List Int → Int
  | x, [] => x
  | x, y :: r => minL (if y < x then y else x) r
def maxL : Int → List Int → Int
  | x, [] => x
  | x, y :: r => maxL (if y > x then y else x) r
theorem minL_spec : ∀ (x : Int) (r : List Int), minL x r ∈ x :: r ∧ ∀ y ∈ x :: r, minL x r ≤ y
  | x, [] => ⟨by simp [minL], fun y hy => by simp at hy; simp [minL, hy]⟩
  | x, y :: r => by
    have ih := minL_spec (if y < x then y else x) r
    unfold minL
    by_cases c : y < x
    · rw [if_pos c] at ih ⊢
      refine ⟨List.mem_cons_of_mem _ ih.1, fun z hz => ?_⟩
      have h0 := ih.2 _ List.mem_cons_self
      rcases List.mem_cons.mp hz with e | hz
      · omega
      · exact ih.2 z hz
    · rw [if_neg c] at ih ⊢
      refine ⟨?_, fun z hz => ?_⟩
      · rcases List.mem_cons.mp ih.1 with e | e
        · rw [e]; exact List.mem_cons_self
        · exact List.mem_cons_of_mem _ (List.mem_cons_of_mem _ e)
      · have h0 := ih.2 _ List.mem_cons_self
        rcases List.mem_cons.mp hz with e | hz
        · rw [e]; exact h0
        · rcases List.mem_cons.mp hz with e | hz
          · omega
          · exact ih.2 z (List.mem_cons_of_mem _ hz)
theorem maxL_spec : ∀ (x : Int) (r : List Int), maxL x r ∈ x :: r ∧ ∀ y ∈ x :: r, y ≤ maxL x r
  | x, [] => ⟨by simp [maxL], fun y hy => by simp at hy; simp [maxL, hy]⟩
  | x, y :: r => by
    have ih := maxL_spec (if y > x then y else x) r
    unfold maxL
    by_cases c : y > x
    · rw [if_pos c] at ih ⊢
      refine ⟨List.mem_cons_of_mem _ ih.1, fun z hz => ?_⟩
      have h0 := ih.2 _ List.mem_cons_self
      rcases List.mem_cons.mp hz with e | hz
      · omega
      · exact ih.2 z hz
    · rw [if_neg c] at ih ⊢
      refine ⟨?_, fun z hz => ?_⟩
      · rcases List.mem_cons.mp ih.1 with e | e
        · rw [e]; exact List.mem_cons_self
        · exact List.mem_cons_of_mem _ (List.mem_cons_of_mem _ e)
      · have h0 := ih.2 _ List.mem_cons_self
        rcases List.mem_cons.mp hz with e | hz
        · rw [e]; exact h0
        · rcases List.mem_cons.mp hz with e | hz
          · omega
          · exact ih.2 z (List.mem_cons_of_mem _ hz)
theorem minL_of {x m : Int} {r : List Int} (h1 : m ∈ x :: r) (h2 : ∀ y ∈ x :: r, m ≤ y) : m = minL x r := by
  have s := minL_spec x r
  have a := h2 _ s.1
  have b := s.2 _ h1
  omega
theorem maxL_of {x m : Int} {r : List Int} (h1 : m ∈ x :: r) (h2 : ∀ y ∈ x :: r, y ≤ m) : m = maxL x r := by
  have s := maxL_spec x r
  have a := h2 _ s.1
  have b := s.2 _ h1
  omega
def chosenIn (rows : List Row) : List Int := (rows.filter fun r => r.1).map fun r => r.2
/-- the row of a house by the rows of its neighbours of lesser names -/
def rowBy (rows : List Row) : Row :=
  match chosenIn rows with
  | x :: r => (false, minL x r)
  | [] => match rows.map (fun r => r.2) with
    | x :: r => (true, 1 + maxL x r)
    | [] => (true, 1 + 0)
def rank (many : Int) (names : List Int) (h : Int) : Nat := ((rgI many).filter fun x => decide (nmAt names x < nmAt names h)).length
theorem rank_lt {many : Int} {ties : List (Int × Int)} {names : List Int} (W : WebOk many ties) {h o : Int} (ho : o ∈ lessN ties names h) : rank many names o < rank many names h := by
  unfold lessN at ho
  rw [List.mem_filter, decide_eq_true_eq] at ho
  have hr := nbr_range W ho.1
  unfold rank
  have := len_le_of_sub (l := o :: (rgI many).filter fun x => decide (nmAt names x < nmAt names o)) (m := (rgI many).filter fun x => decide (nmAt names x < nmAt names h)) ?_ fun x hx => ?_
  · rw [List.length_cons] at this
    omega
  · refine List.pairwise_cons.mpr ⟨fun x hx e => ?_, (rgI_nd many).filter _⟩
    rw [List.mem_filter, decide_eq_true_eq] at hx
    subst e
    omega
  · rcases List.mem_cons.mp hx with e | hx
    · rw [e, List.mem_filter, decide_eq_true_eq]
      exact ⟨rgI_mem.mpr hr, ho.2⟩
    · rw [List.mem_filter, decide_eq_true_eq] at hx ⊢
      exact ⟨hx.1, by omega⟩
theorem rank_bound {many : Int} {names : List Int} {h : Int} (hh : 0 ≤ h ∧ h < many) : rank many names h < many.toNat := by
  unfold rank
  have := len_le_of_sub (l := h :: (rgI many).filter fun x => decide (nmAt names x < nmAt names h)) (m := rgI many) ?_ fun x hx => ?_
  · rw [List.length_cons, rgI_len] at this
    omega
  · refine List.pairwise_cons.mpr ⟨fun x hx e => ?_, (rgI_nd many).filter _⟩
    rw [List.mem_filter, decide_eq_true_eq] at hx
    subst e
    omega
  · rcases List.mem_cons.mp hx with e | hx
    · rw [e]; exact rgI_mem.mpr hh
    · exact (List.mem_filter.mp hx).1
def Rf (ties : List (Int × Int)) (names : List Int) : Nat → Int → Row
  | 0, _ => (true, 1)
  | k + 1, h => rowBy ((lessN ties names h).map (Rf ties names k))
theorem Rf_stable {many : Int} {ties : List (Int × Int)} {names : List Int} (W : WebOk many ties) : ∀ (k k' : Nat) (h : Int), rank many names h < k → rank many names h < k' → Rf ties names k h = Rf ties names k' h
  | 0, _, _, h, _ => absurd h (Nat.not_lt_zero _)
  | _ + 1, 0, _, _, h => absurd h (Nat.not_lt_zero _)
  | k + 1, k' + 1, h, h1, h2 => by
    rw [Rf, Rf]
    congr 1
    refine List.map_congr_left fun o ho => ?_
    have := rank_lt W ho
    exact Rf_stable W k k' o (by omega) (by omega)
/-- each house's row: the one that the points tell -/
def rowOf (many : Int) (ties : List (Int × Int)) (names : List Int) (h : Int) : Row := Rf ties names many.toNat h
theorem rowOf_eq {many : Int} {ties : List (Int × Int)} {names : List Int} (W : WebOk many ties) {h : Int} (hh : 0 ≤ h ∧ h < many) : rowOf many ties names h = rowBy ((lessN ties names h).map (rowOf many ties names)) := by
  have hb := rank_bound (names := names) hh
  unfold rowOf
  obtain ⟨k, hk⟩ : ∃ k, many.toNat = k + 1 := ⟨many.toNat - 1, by omega⟩
  rw [hk, Rf]
  congr 1
  refine List.map_congr_left fun o ho => ?_
  have := rank_lt W ho
  exact Rf_stable W k (k + 1) o (by omega) (by omega)
def rowsOf (many : Int) (ties : List (Int × Int)) (names : List Int) : List Row := (rgI many).map (rowOf many ties names)
/-- rows that are right house by house are these -/
theorem rows_unique {many : Int} {ties : List (Int × Int)} {names : List Int} (W : WebOk many ties) {f : Int → Row} (hf : ∀ h, 0 ≤ h → h < many → f h = rowBy ((lessN ties names h).map f)) : ∀ (n : Nat) (h : Int), rank many names h < n → 0 ≤ h → h < many → f h = rowOf many ties names h
  | 0, _, h, _, _ => absurd h (Nat.not_lt_zero _)
  | n + 1, h, hr, h0, h1 => by
    rw [hf h h0 h1, rowOf_eq W ⟨h0, h1⟩]
    congr 1
    refine List.map_congr_left fun o ho => ?_
    have hl := rank_lt W ho
    have hb := nbr_range W (List.mem_filter.mp ho).1
    exact rows_unique W hf n o (by omega) hb.1 hb.2
/-! ### what a row says -/
theorem rowBy_true {rows : List Row} {n : Int} (h : rowBy rows = (true, n)) : (∀ r ∈ rows, r.1 = false) ∧ (∀ r ∈ rows, r.2 < n) ∧ (rows = [] ∧ n = 1 ∨ ∃ r ∈ rows, r.2 + 1 = n) := by
  unfold rowBy at h
  cases e : chosenIn rows with
  | cons x r => rw [e] at h; cases h
  | nil =>
    rw [e] at h
    have h1 : ∀ r ∈ rows, r.1 = false := fun r hr => by
      cases q : r.1 with
      | false => rfl
      | true =>
        have : r.2 ∈ chosenIn rows := List.mem_map.mpr ⟨r, List.mem_filter.mpr ⟨hr, q⟩, rfl⟩
        rw [e] at this
        cases this
    refine ⟨h1, ?_⟩
    cases rows with
    | nil =>
      simp at h
      exact ⟨fun r hr => (by cases hr), Or.inl ⟨rfl, (by omega)⟩⟩
    | cons a t =>
      rw [List.map_cons] at h
      simp only [Prod.mk.injEq, true_and] at h
      have s := maxL_spec a.2 (t.map fun r => r.2)
      refine ⟨fun r hr => ?_, .inr ?_⟩
      · have := s.2 r.2 (by rw [← List.map_cons (f := fun r : Row => r.2)]; exact List.mem_map_of_mem hr)
        omega
      · have s1 := s.1
        rw [← List.map_cons (f := fun r : Row => r.2)] at s1
        obtain ⟨r, hr, e⟩ := List.mem_map.mp s1
        exact ⟨r, hr, by omega⟩
theorem rowBy_false {rows : List Row} {n : Int} (h : rowBy rows = (false, n)) : (∃ r ∈ rows, r = (true, n)) ∧ ∀ r ∈ rows, r.1 = true → n ≤ r.2 := by
  unfold rowBy at h
  cases e : chosenIn rows with
  | nil =>
    rw [e] at h
    simp only at h
    split at h <;> cases h
  | cons x r =>
    rw [e] at h
    simp only [Prod.mk.injEq, true_and] at h
    have s := minL_spec x r
    rw [← e] at s
    rw [h] at s
    obtain ⟨s1, s2⟩ := s
    obtain ⟨y, hy, ey⟩ := List.mem_map.mp s1
    rw [List.mem_filter] at hy
    refine ⟨⟨y, hy.1, by obtain ⟨a, b⟩ := y; simp only at hy ey; rw [hy.2, ey]⟩, fun z hz hzt => s2 z.2 (List.mem_map.mpr ⟨z, List.mem_filter.mpr ⟨hz, hzt⟩, rfl⟩)⟩
section
variable {many : Int} {ties : List (Int × Int)} {names : List Int}
theorem row_pos (W : WebOk many ties) : ∀ (n : Nat) (h : Int), rank many names h < n → 0 ≤ h → h < many → 1 ≤ (rowOf many ties names h).2
  | 0, _, h, _, _ => absurd h (Nat.not_lt_zero _)
  | n + 1, h, hr, h0, h1 => by
    have e := rowOf_eq (names := names) W ⟨h0, h1⟩
    have ih : ∀ r ∈ (lessN ties names h).map (rowOf many ties names), 1 ≤ r.2 := fun r hr' => by
      obtain ⟨o, ho, rfl⟩ := List.mem_map.mp hr'
      have hl := rank_lt W ho
      have hb := nbr_range W (List.mem_filter.mp ho).1
      exact row_pos W n o (by omega) hb.1 hb.2
    rcases hq : rowOf many ties names h with ⟨b, m⟩
    rw [hq] at e
    cases b with
    | true =>
      rcases (rowBy_true e.symm).2.2 with q | ⟨r, hr, q⟩
      · simp only; omega
      · have := ih r hr
        simp only; omega
    | false =>
      obtain ⟨⟨r, hr, q⟩, _⟩ := rowBy_false e.symm
      have := ih r hr
      rw [q] at this
      exact this
/-- a house's row is chosen in round n + 1: just where it is left ahead of it, and no neighbour left has a lesser name -/
theorem fresh_iff (W : WebOk many ties) {h n : Int} (h0 : 0 ≤ h) (h1 : h < many) (hn : 0 ≤ n) : rowOf many ties names h = (true, n + 1) ↔ n < (rowOf many ties names h).2 ∧ ∀ o ∈ lessN ties names h, (rowOf many ties names o).2 ≤ n := by
  have e := rowOf_eq (names := names) W ⟨h0, h1⟩
  constructor
  · intro q
    rw [q] at e
    have t := rowBy_true e.symm
    refine ⟨by rw [q]; simp only; omega, fun o ho => ?_⟩
    have := t.2.1 _ (List.mem_map_of_mem (f := rowOf many ties names) ho)
    omega
  · rintro ⟨q1, q2⟩
    rcases hq : rowOf many ties names h with ⟨b, m⟩
    rw [hq] at e q1
    simp only at q1
    cases b with
    | true =>
      rcases (rowBy_true e.symm).2.2 with q | ⟨r, hr, q⟩
      · rw [show m = n + 1 by omega]
      · obtain ⟨o, ho, rfl⟩ := List.mem_map.mp hr
        have := q2 o ho
        rw [show m = n + 1 by omega]
    | false =>
      obtain ⟨⟨r, hr, q⟩, _⟩ := rowBy_false e.symm
      obtain ⟨o, ho, rfl⟩ := List.mem_map.mp hr
      have := q2 o ho
      rw [q] at this
      simp only at this
      omega
theorem nm_ne (N : NamesOk many names) {a b : Int} (ha : 0 ≤ a ∧ a < many) (hb : 0 ≤ b ∧ b < many) (h : a ≠ b) : nmAt names a ≠ nmAt names b := fun e => by
  have := nd_ix N.nd (i := a.toNat) (j := b.toNat) (by rw [N.len]; omega) (by rw [N.len]; omega) e
  omega
/-- out in round n + 1: left ahead of it, not chosen in it, a neighbour chosen in it -/
theorem out_iff (W : WebOk many ties) (N : NamesOk many names) {h n : Int} (h0 : 0 ≤ h) (h1 : h < many) (hn : 0 ≤ n) : rowOf many ties names h = (false, n + 1) ↔ n < (rowOf many ties names h).2 ∧ rowOf many ties names h ≠ (true, n + 1) ∧ ∃ o ∈ nbr ties h, rowOf many ties names o = (true, n + 1) := by
  have e := rowOf_eq (names := names) W ⟨h0, h1⟩
  constructor
  · intro q
    rw [q] at e
    obtain ⟨⟨r, hr, q'⟩, _⟩ := rowBy_false e.symm
    obtain ⟨o, ho, q2⟩ := List.mem_map.mp hr
    exact ⟨by rw [q]; simp only; omega, by rw [q]; simp, o, (List.mem_filter.mp ho).1, by rw [q2, q']⟩
  · rintro ⟨q1, q2, o, ho, q3⟩
    have hor := nbr_range W ho
    have hne : o ≠ h := fun z => by
      subst z
      rcases (nbr_iff W).mp ho with q | q
      · have := W.ok _ q; simp only at this; omega
      · have := W.ok _ q; simp only at this; omega
    have nn := nm_ne N hor ⟨h0, h1⟩ hne
    by_cases hl : nmAt names o < nmAt names h
    · have ho' : o ∈ lessN ties names h := List.mem_filter.mpr ⟨ho, decide_eq_true hl⟩
      rcases hq : rowOf many ties names h with ⟨b, m⟩
      rw [hq] at e q1
      simp only at q1
      cases b with
      | true =>
        have := (rowBy_true e.symm).1 _ (List.mem_map_of_mem (f := rowOf many ties names) ho')
        rw [q3] at this
        cases this
      | false =>
        have := (rowBy_false e.symm).2 _ (List.mem_map_of_mem (f := rowOf many ties names) ho') (by rw [q3])
        rw [q3] at this
        simp only at this
        rw [show m = n + 1 by omega]
    · have hho : h ∈ nbr ties o := by
        rcases (nbr_iff W).mp ho with q | q
        · exact (nbr_iff W).mpr (.inr q)
        · exact (nbr_iff W).mpr (.inl q)
      have h' : h ∈ lessN ties names o := List.mem_filter.mpr ⟨hho, decide_eq_true (by omega)⟩
      have := ((fresh_iff W hor.1 hor.2 hn).mp q3).2 h h'
      omega
/-- where a house is left, one is chosen next -/
theorem some_fresh (W : WebOk many ties) {n : Int} (hn : 0 ≤ n) : ∀ (k : Nat) (h : Int), rank many names h < k → 0 ≤ h → h < many → n < (rowOf many ties names h).2 → ∃ o, 0 ≤ o ∧ o < many ∧ rowOf many ties names o = (true, n + 1)
  | 0, _, h, _, _, _ => absurd h (Nat.not_lt_zero _)
  | k + 1, h, hr, h0, h1, hl => by
    by_cases hall : ∀ o ∈ lessN ties names h, (rowOf many ties names o).2 ≤ n
    · exact ⟨h, h0, h1, (fresh_iff W h0 h1 hn).mpr ⟨hl, hall⟩⟩
    · have : ∃ o ∈ lessN ties names h, n < (rowOf many ties names o).2 := by
        refine Classical.byContradiction fun z => hall fun o ho => ?_
        refine Classical.byContradiction fun y => z ⟨o, ho, by omega⟩
      obtain ⟨o, ho, q⟩ := this
      have hr' := rank_lt W ho
      have hb := nbr_range W (List.mem_filter.mp ho).1
      exact some_fresh W hn k o (by omega) hb.1 hb.2 q
end
theorem ne_of_none' {H : Hp} {a b : Addr} {o : HO} (h : H a = some o) (g : H b = none) : b ≠ a := fun e => by rw [e, h] at g; cases g
/-- a list of lists of ints: for each house that of f -/
def LsAt (H : Hp) (v : V) (n : Nat) (f : Int → List Int) : Prop := ∃ (q : Addr) (bs : List Addr), v = .ref q ∧ H q = some (.lst (bs.map V.ref)) ∧ bs.length = n ∧ ∀ (k : Nat) (b : Addr), bs[k]? = some b → H b = some (.lst ((f (k : Int)).map V.int))
theorem LsAt.ex {H H' : Hp} {v : V} {n : Nat} {f : Int → List Int} (h : LsAt H v n f) (e : Evl.Ex H H') : LsAt H' v n f := by
  obtain ⟨q, bs, rfl, h1, h2, h3⟩ := h
  exact ⟨q, bs, rfl, e _ _ h1, h2, fun k b hb => e _ _ (h3 k b hb)⟩
theorem LsAt.bes {H : Hp} {v : V} {many : Int} {ties : List (Int × Int)} (h : LsAt H v many.toNat (nbr ties)) : BesAt H v many ties := h
theorem BesAt.ls {H : Hp} {v : V} {many : Int} {ties : List (Int × Int)} (h : BesAt H v many ties) : LsAt H v many.toNat (nbr ties) := h
/-- the same, and all of it new -/
def LsN (H0 H : Hp) (v : V) (n : Nat) (f : Int → List Int) : Prop := ∃ (q : Addr) (bs : List Addr), v = .ref q ∧ H q = some (.lst (bs.map V.ref)) ∧ H0 q = none ∧ bs.length = n ∧ ∀ (k : Nat) (b : Addr), bs[k]? = some b → H b = some (.lst ((f (k : Int)).map V.int)) ∧ H0 b = none
theorem LsN.at {H0 H : Hp} {v : V} {n : Nat} {f : Int → List Int} (h : LsN H0 H v n f) : LsAt H v n f := by
  obtain ⟨q, bs, h1, h2, _, h3, h4⟩ := h
  exact ⟨q, bs, h1, h2, h3, fun k b hb => (h4 k b hb).1⟩
theorem nm_at {names : List Int} {many x : Int} (hl : names.length = many.toNat) (h0 : 0 ≤ x) (h1 : x < many) : atI (names.map V.int) x = some (.int (nmAt names x)) := atI_int h0 (by omega)
def maxDf (d : Int) : List Int → Int
  | [] => d
  | x :: r => maxL x r
theorem readsAll_of_ints {h : Heap} : ∀ {vs : List Value} {ns : List Int}, IntsAre vs ns → ∃ as, ReadsAll h vs (ns.map PyData.int) as
  | _, _, .nil => ⟨[], .nil⟩
  | _, _, .cons _ _ r => by
    obtain ⟨bs, h2⟩ := readsAll_of_ints (h := h) r
    exact ⟨_, .cons (.int _ _) h2⟩
theorem foldl_maxL : ∀ (x : Int) (r : List Int), r.foldl max x = maxL x r
  | x, [] => rfl
  | x, y :: r => by
    rw [List.foldl_cons, maxL, foldl_maxL]
    congr 1
    split <;> omega
/-- max(xs, default=d) of a list of ints -/
def rMaxDf (K : PySem.W.Frag) : List V → List V → Hp → VK → Prop := fun vs zs H Q => ∃ (a : Addr) (ns : List Int) (d : Int), vs = [V.ref a] ∧ zs = [.int d] ∧ SqL K H a (ns.map V.int) ∧ Q (.int (maxDf d ns)) H
theorem cr_maxDf {X : Cx} (hc : X.calm = true) (hu : X.A.units + 64 < cLine) : CallRK X (.builtin "max") [Str.ofString "default"] (rMaxDf X.K) := by
  intro pins s σ H vs zs us ws Q I r rz h
  obtain ⟨a, ns, d, rfl, rfl, hs, q⟩ := h
  obtain ⟨its, rv, hl, hz0⟩ := I.list hs
  obtain rfl := Vals.ref1 r
  obtain ⟨w1, rfl, t1, rfl⟩ := vals1 rz
  obtain ⟨as, hr⟩ := readsAll_of_ints (h := s.heap) rv.ints
  have ha : PySem.W.AlikeAll (ns.map PyData.int) := by
    refine ⟨fun x hx y hy => ?_, fun x hx => ?_⟩
    · obtain ⟨i, _, rfl⟩ := List.mem_map.mp hx
      obtain ⟨j, _, rfl⟩ := List.mem_map.mp hy
      simp [PySem.W.alike]
    · obtain ⟨i, _, rfl⟩ := List.mem_map.mp hx
      intro e
      cases e
  have hd : PyData.depthAll (ns.map PyData.int) = 0 := by
    clear hr ha rv hs q hz0
    induction ns with
    | nil => rfl
    | cons x r ih =>
      rw [List.map_cons, PyData.depthAll, ih]
      rfl
  refine PySem.W.max_list_default (I.ok.hd hc) hl.isList hr ha (by rw [hd]; omega) (fun e h' tk hk => ?_) (fun y ys i v h' tk bs e hi hv hk => ?_)
  · have e : ns = [] := List.map_eq_nil_iff.mp e
    subst e
    exact ⟨.int d, H, I.kept hk, ⟨t1, rfl⟩, q⟩
  · cases ns with
    | nil => cases e
    | cons n r =>
      rw [List.map_cons] at e
      injection e with e1 e2
      subst e1 e2
      rw [PySem.W.maxD_ints] at hv
      cases hv with
      | int _ t =>
        rw [foldl_maxL]
        exact ⟨.int (maxL n r), H, I.kept hk, ⟨t, rfl⟩, q⟩
theorem call_repr_bl {X : Cx} : CallR X (.builtin "repr") (fun xs H Q => ∃ b : Bool, xs = [.bl b] ∧ Q (.str (if b then "True" else "False")) H) := by
  intro pins s σ H xs us Q I r h
  obtain ⟨b, rfl, q⟩ := h
  obtain ⟨u, rfl, e⟩ := vals1 r
  obtain rfl : u = Value.bool b := e
  exact PySem.P.repr_of_bool ⟨.str _, H, I.tok _, ⟨_, rfl⟩, q⟩
def tTru (K : PySem.W.Frag) (te : TE) : TT := fun σ H Q => te σ H fun x H' => ∃ k, TruV K x H' k ∧ Q k H'
def rowD (r : Row) : PyData := .tuple [.bool r.1, .int r.2]
def rowsD (rs : List Row) : PyData := .list (rs.map rowD)
theorem rowD_at {K : PySem.W.Frag} {H : Hp} {v : V} {r : Row} (h : Dp K H v (rowD r)) : ∃ a, v = .ref a ∧ SqT K H a [.bl r.1, .int r.2] := by
  unfold rowD at h
  cases h with
  | tup hs ha =>
    cases ha with
    | cons h1 h2 =>
      cases h1
      cases h2 with
      | cons h3 h4 =>
        cases h3
        cases h4
        exact ⟨_, rfl, hs⟩
theorem dp_row {K : PySem.W.Frag} {H : Hp} {a : Addr} {r : Row} (h : SqT K H a [.bl r.1, .int r.2]) : Dp K H (.ref a) (rowD r) := .tup h (.cons (.bl _) (.cons (.int _) .nil))
theorem shaped_row (r : Row) : SeqAt.shaped (rowD r) = true := by
  unfold rowD SeqAt.shaped
  simp [PyData.canLay0, PyData.canLayAll0, PyData.depth, PyData.depthAll]
theorem shaped_rows (rs : List Row) : SeqAt.shaped (rowsD rs) = true := by
  have h1 : PyData.canLayAll0 (rs.map rowD) = true := by
    induction rs with
    | nil => rfl
    | cons x r ih => simp [PyData.canLayAll0, PyData.canLay0, rowD, ih]
  have h2 : PyData.depthAll (rs.map rowD) ≤ 2 := by
    induction rs with
    | nil => simp [PyData.depthAll]
    | cons x r ih =>
      have := ih (by rw [List.map_cons, PyData.canLayAll0, Bool.and_eq_true] at h1; exact h1.2)
      simp [PyData.depthAll, PyData.depth, rowD]
      omega
  unfold rowsD SeqAt.shaped
  rw [Bool.and_eq_true]
  refine ⟨by rw [PyData.canLay0]; exact h1, decide_eq_true ?_⟩
  rw [PyData.depth]
  omega
theorem eqv_row (a b : Row) : PyData.eqv (rowD a) (rowD b) = decide (a = b) := by
  obtain ⟨a1, a2⟩ := a
  obtain ⟨b1, b2⟩ := b
  unfold rowD
  by_cases h : a2 = b2
  · subst h
    cases a1 <;> cases b1 <;> simp [PyData.eqv, PyData.eqvAll]
  · cases a1 <;> cases b1 <;> simp [PyData.eqv, PyData.eqvAll, h]
theorem np_row (r : Row) : npD (rowD r) = true := rfl
theorem np_rows (rs : List Row) : npD (rowsD rs) = true := by
  unfold rowsD
  rw [npD, Bool.and_eq_true]
  refine ⟨?_, npAll_of fun d hd => ?_⟩
  · cases rs with
    | nil => rfl
    | cons x r =>
      cases r with
      | nil => rfl
      | cons y r => rfl
  · obtain ⟨x, _, rfl⟩ := List.mem_map.mp hd
    rfl
theorem rowsD_at {K : PySem.W.Frag} {H : Hp} {v : V} {rs : List Row} (h : Dp K H v (rowsD rs)) : ∃ a xs, v = .ref a ∧ SqL K H a xs ∧ DpAll K H xs (rs.map rowD) := listD_at h
theorem rows_get {K : PySem.W.Frag} {H : Hp} {xs : List V} {rs : List Row} (h : DpAll K H xs (rs.map rowD)) : xs.length = rs.length ∧ ∀ (i : Nat) (r : Row), rs[i]? = some r → ∃ t, xs[i]? = some (.ref t) ∧ SqT K H t [.bl r.1, .int r.2] := by
  obtain ⟨h1, h2⟩ := dpAll_get h
  rw [List.length_map] at h1
  refine ⟨h1, fun i r hr => ?_⟩
  have hi : i < xs.length := by rw [h1]; exact (List.getElem?_eq_some_iff.mp hr).1
  obtain ⟨d, e1, e2⟩ := h2 i xs[i] (List.getElem?_eq_getElem hi)
  rw [List.getElem?_map, hr] at e1
  cases e1
  obtain ⟨t, e3, e4⟩ := rowD_at e2
  exact ⟨t, by rw [List.getElem?_eq_getElem hi, e3], e4⟩
/-- [g r for one, two in rows if f r] -/
theorem lc_pureR {K : PySem.W.Frag} {H : Hp} {a D : Addr} {xs : List V} {rs : List Row} {f : Row → Bool} {g : Row → V} {tt : TT} {te : TE} {vs : List Nat} {σ : L2.St} {j k : Nat} {Qd : Hp → Prop} (hs : SqL K H a xs) (hd : DpAll K H xs (rs.map rowD)) (hl : rs.length ≤ 10000) (hD : H D = none)
    (hw : ∀ x y, wipe (((wipe σ vs).set j (some x)).set k (some y)) vs = wipe σ vs) (ht : ∀ r ∈ rs, ∀ H1, Evl.Ex H H1 → ∀ QB : Bool → Hp → Prop, QB (f r) H1 → tt (((wipe σ vs).set j (some (.bl r.1))).set k (some (.int r.2))) H1 QB)
    (he : ∀ r ∈ rs, f r = true → ∀ H1, Evl.Ex H H1 → ∀ Q : VK, Q (g r) H1 → te (((wipe σ vs).set j (some (.bl r.1))).set k (some (.int r.2))) H1 Q) (kk : ∀ H', Evl.Ex H H' → H' D = some (.lst ((rs.filter f).map g)) → Qd H') :
    ∃ W : Nat → Nat → Hp → Prop, (∃ m, W 0 m (upd H D (.lst []))) ∧ ∀ i m H, W i m H →
      ((Itl K a).stop i H ∧ Qd H) ∨ ((Itl K a).go i H ∧ ∃ Nx : Hp → Prop, (∀ H', Nx H' → ∃ m', m' < m ∧ W (i + 1) m' H') ∧ ∀ x H', (Itl K a).yld i H x H' → gTup K 2 (gCons (gName j) (gCons (gName k) gNil)) x (wipe σ vs) H' fun σ2 H2 => wipe σ2 vs = wipe σ vs ∧ tt σ2 H2 fun b H3 =>
        if b = true then te σ2 H3 fun y H4 => ∃ acc, H4 D = some (.lst acc) ∧ acc.length < sizeLine ∧ Nx (upd H4 D (.lst (acc ++ [y]))) else Nx H3) := by
  obtain ⟨l1, l2⟩ := rows_get hd
  refine lc_it (walk_list (xs := xs)) (fun i H' => H' D = some (.lst (((rs.take i).filter f).map g)) ∧ Evl.Ex H H') ⟨upd_same, Evl.Ex.new hD⟩ (fun i H' _ h => Evl.ex_l h.2 hs) ?_ ?_
  · rintro i v H1 H2 hi ⟨h1, e1⟩ ⟨rfl, ey⟩
    have et := List.getElem?_eq_getElem (l := rs) (i := i) (by omega)
    generalize hr0 : rs[i] = r at et
    obtain ⟨t, ex, st⟩ := l2 i r et
    rw [ex] at ey
    cases ey
    have hx := List.mem_of_getElem? et
    refine r_gTup2 rfl (Evl.ex_t e1 st) ⟨hw _ _, ht r hx H2 e1 _ ?_⟩
    have tk : rs.take (i + 1) = rs.take i ++ [r] := take_snoc et
    cases hf : f r with
    | true =>
      refine iteT (he r hx hf H2 e1 _ ⟨_, h1, Evl.sz_lt ?_, ?_, e1.mut hD⟩)
      · rw [List.length_map]
        have := List.length_filter_le f (rs.take i)
        rw [List.length_take] at this
        omega
      · rw [upd_same, tk, List.filter_append, List.filter_cons, if_pos hf, List.map_append]
        rfl
    | false =>
      refine iteF ⟨?_, e1⟩
      rw [tk, List.filter_append, List.filter_cons, if_neg (by rw [hf]; decide), List.filter_nil, List.append_nil]
      exact h1
  · rintro H' ⟨h1, e1⟩
    rw [l1, List.take_length] at h1
    exact kk H' e1 h1
theorem r_ckw {H : Hp} {Q : VK} {σ : L2.St} {r : List V → List V → Hp → VK → Prop} {t tk : TA} (h : t σ H fun vs H1 => tk σ H1 fun zs H2 => r vs zs H2 Q) : tCKw r t tk σ H Q := h
def rwAt (rs : List Row) (h : Int) : Row := rs.getD h.toNat (true, 0)
theorem rowsOf_len {many : Int} {ties : List (Int × Int)} {names : List Int} : (rowsOf many ties names).length = many.toNat := by unfold rowsOf; rw [List.length_map, rgI_len]
theorem rwAt_of {many : Int} {ties : List (Int × Int)} {names : List Int} {h : Int} (h0 : 0 ≤ h) (h1 : h < many) : rwAt (rowsOf many ties names) h = rowOf many ties names h := by
  unfold rwAt rowsOf
  have g := rgI_get (n := many) (i := h.toNat) (by omega)
  rw [List.getD_eq_getElem?_getD, List.getElem?_map, g]
  show rowOf many ties names ((h.toNat : Nat) : Int) = _
  rw [show ((h.toNat : Nat) : Int) = h by omega]
theorem rwAt_get {rs : List Row} {h : Int} (h1 : h.toNat < rs.length) : rs[h.toNat]? = some (rwAt rs h) := by
  unfold rwAt
  rw [List.getD_eq_getElem?_getD, List.getElem?_eq_getElem h1]
  rfl
theorem rows_right {many : Int} {ties : List (Int × Int)} {names : List Int} {rs : List Row} (W : WebOk many ties) (hl : rs.length = many.toNat) :
    (∀ h, 0 ≤ h → h < many → rwAt rs h = rowBy ((lessN ties names h).map (rwAt rs))) ↔ rs = rowsOf many ties names := by
  constructor
  · intro f
    have u := fun h h0 h1 => rows_unique W f (rank many names h + 1) h (Nat.lt_succ_self _) h0 h1
    refine List.ext_getElem? fun i => ?_
    by_cases hi : i < rs.length
    · have h1 := rwAt_get (rs := rs) (h := (i : Int)) (by simpa using hi)
      have h2 := rwAt_get (rs := rowsOf many ties names) (h := (i : Int)) (by rw [rowsOf_len]; omega)
      rw [show ((i : Int)).toNat = i by omega] at h1 h2
      rw [h1, h2, u (i : Int) (by omega) (by omega), rwAt_of (by omega) (by omega)]
    · rw [List.getElem?_eq_none (by omega), List.getElem?_eq_none (by rw [rowsOf_len]; omega)]
  · rintro rfl h h0 h1
    rw [rwAt_of h0 h1, rowOf_eq W ⟨h0, h1⟩]
    congr 1
    refine List.map_congr_left fun o ho => ?_
    have hb := nbr_range W (List.mem_filter.mp ho).1
    exact (rwAt_of hb.1 hb.2).symm
theorem dpAll_snoc {K : PySem.W.Frag} {H : Hp} {x : V} {d : PyData} : ∀ {xs : List V} {ds : List PyData}, DpAll K H xs ds → Dp K H x d → DpAll K H (xs ++ [x]) (ds ++ [d])
  | _, _, .nil, h => .cons h .nil
  | _, _, .cons a r, h => .cons a (dpAll_snoc r h)
theorem room65 {k : Nat} {A : Around} (r : Room k A) : A.units + 65 < cLine := by have := r.un; omega
/-! ### rows of which some are None -/
def OV (H : Hp) (x : V) (o : Option Row) : Prop := match o with
  | none => x = .non
  | some r => ∃ t, x = .ref t ∧ H t = some (.tup [.bl r.1, .int r.2])
def OsAt (H : Hp) (R : Addr) (os : List (Option Row)) : Prop := ∃ xs, H R = some (.lst xs) ∧ xs.length = os.length ∧ ∀ (i : Nat) (o : Option Row), os[i]? = some o → ∃ x, xs[i]? = some x ∧ OV H x o
theorem OV.keep {H H' : Hp} {x : V} {o : Option Row} (e : ExT H H') (h : OV H x o) : OV H' x o := by
  cases o with
  | none => exact h
  | some r =>
    obtain ⟨t, h1, h2⟩ := h
    exact ⟨t, h1, e t _ h2⟩
theorem OsAt.keep {H H' : Hp} {R : Addr} {os : List (Option Row)} (e : ExT H H') (hR : ∀ xs, H R = some (.lst xs) → H' R = some (.lst xs)) (h : OsAt H R os) : OsAt H' R os := by
  obtain ⟨xs, h1, h2, h3⟩ := h
  refine ⟨xs, hR _ h1, h2, fun i o ho => ?_⟩
  obtain ⟨x, h4, h5⟩ := h3 i o ho
  exact ⟨x, h4, h5.keep e⟩
theorem OsAt.ex {H H' : Hp} {R : Addr} {os : List (Option Row)} (h : OsAt H R os) (e : Evl.Ex H H') : OsAt H' R os := h.keep (ExT.of e) fun xs h => e _ _ h
/-- another list is written -/
theorem OsAt.lst {H : Hp} {R q : Addr} {xs : List V} {o : HO} {os : List (Option Row)} (h : OsAt H R os) (hq : H q = some (.lst xs)) (n : q ≠ R) : OsAt (L2.upd H q o) R os := h.keep (ExT.lst hq) fun ys hy => by rw [upd_ne n.symm]; exact hy
/-- one is set -/
theorem OsAt.set {H : Hp} {R t : Addr} {xs : List V} {os : List (Option Row)} {i : Nat} {r : Row} (h : OsAt H R os) (hR : H R = some (.lst xs)) (ht : H t = some (.tup [.bl r.1, .int r.2])) : OsAt (L2.upd H R (.lst (xs.set i (.ref t)))) R (os.set i (some r)) := by
  obtain ⟨ys, h1, h2, h3⟩ := h
  rw [hR] at h1
  cases h1
  have e : ExT H (L2.upd H R (.lst (xs.set i (.ref t)))) := ExT.lst hR
  refine ⟨_, upd_same, by rw [List.length_set, List.length_set]; exact h2, fun j o ho => ?_⟩
  by_cases hj : j = i
  · subst hj
    have hl : j < os.length := by
      have := (List.getElem?_eq_some_iff.mp ho).1
      rw [List.length_set] at this
      exact this
    rw [List.getElem?_set_self hl] at ho
    cases ho
    exact ⟨.ref t, List.getElem?_set_self (by omega), t, rfl, e _ _ ht⟩
  · rw [List.getElem?_set_ne (fun z => hj z.symm)] at ho
    obtain ⟨x, h4, h5⟩ := h3 j o ho
    exact ⟨x, by rw [List.getElem?_set_ne (fun z => hj z.symm)]; exact h4, h5.keep e⟩
def oD : Option Row → PyData
  | none => .none
  | some r => rowD r
theorem OV.dp {K : PySem.W.Frag} {H : Hp} {x : V} {o : Option Row} (h : OV H x o) : Dp K H x (oD o) := by
  cases o with
  | none =>
    have h : x = .non := h
    subst h
    exact .non
  | some r =>
    obtain ⟨t, h1, h2⟩ := h
    subst h1
    exact dp_row (SqT.of h2)
theorem OsAt.dp {K : PySem.W.Frag} {H : Hp} {R : Addr} {os : List (Option Row)} (h : OsAt H R os) : Dp K H (.ref R) (.list (os.map oD)) := by
  obtain ⟨xs, h1, h2, h3⟩ := h
  refine .lst (SqL.of h1) (dpAll_ix (by rw [List.length_map]; exact h2) fun i x d hx hd => ?_)
  rw [List.getElem?_map] at hd
  cases e : os[i]? with
  | none => rw [e] at hd; cases hd
  | some o =>
    rw [e] at hd
    cases hd
    obtain ⟨y, h4, h5⟩ := h3 i o e
    rw [h4] at hx
    cases hx
    exact h5.dp
theorem OsAt.rows {K : PySem.W.Frag} {H : Hp} {R : Addr} {rs : List Row} (h : OsAt H R (rs.map some)) : Dp K H (.ref R) (rowsD rs) := by
  have := h.dp (K := K)
  rw [List.map_map] at this
  exact this
theorem shaped_os (os : List (Option Row)) : SeqAt.shaped (.list (os.map oD)) = true := by
  have h1 : PyData.canLayAll0 (os.map oD) = true := by
    induction os with
    | nil => rfl
    | cons x r ih => cases x <;> simp [PyData.canLayAll0, PyData.canLay0, oD, rowD, ih]
  have h2 : PyData.depthAll (os.map oD) ≤ 2 := by
    clear h1
    induction os with
    | nil => simp [PyData.depthAll]
    | cons x r ih => cases x <;> simp [PyData.depthAll, PyData.depth, oD, rowD] <;> omega
  unfold SeqAt.shaped
  rw [Bool.and_eq_true]
  refine ⟨by rw [PyData.canLay0]; exact h1, decide_eq_true ?_⟩
  rw [PyData.depth]
  omega
theorem any_none (os : List (Option Row)) : (os.map oD).any (fun z => PyData.eqv z .none) = os.any Option.isNone := by
  rw [List.any_map]
  congr 1
  funext o
  cases o <;> simp [oD, rowD, PyData.eqv]
theorem r_noneIn {K : PySem.W.Frag} {H : Hp} {Q : VK} {R : Addr} {os : List (Option Row)} (h : OsAt H R os) (q : Q (.bl (os.any Option.isNone)) H) : rInD K .non (.ref R) H Q :=
  ⟨.none, _, .non, h.dp, rfl, shaped_os os, by rw [any_none]; exact q⟩
theorem OsAt.at {H : Hp} {R : Addr} {os : List (Option Row)} (h : OsAt H R os) : ∃ xs, H R = some (.lst xs) ∧ xs.length = os.length ∧ ∀ (i : Int) (o : Option Row), 0 ≤ i → os[i.toNat]? = some o → ∃ x, atI xs i = some x ∧ OV H x o := by
  obtain ⟨xs, h1, h2, h3⟩ := h
  refine ⟨xs, h1, h2, fun i o h0 ho => ?_⟩
  obtain ⟨x, h4, h5⟩ := h3 _ o ho
  exact ⟨x, atI_of h0 h4, h5⟩
theorem OV.isNon {H : Hp} {x : V} {o : Option Row} (h : OV H x o) : decide (x = V.non) = o.isNone := by
  cases o with
  | none =>
    have h : x = .non := h
    subst h
    rfl
  | some r =>
    obtain ⟨t, h1, _⟩ := h
    subst h1
    rfl
/-! ### those that are decided, by a test -/
def stO (many : Int) (f : Int → Row) (d : Int → Bool) : List (Option Row) := (rgI many).map fun h => if d h = true then some (f h) else none
theorem stO_len {many : Int} {f : Int → Row} {d : Int → Bool} : (stO many f d).length = many.toNat := by unfold stO; rw [List.length_map, rgI_len]
theorem stO_get {many : Int} {f : Int → Row} {d : Int → Bool} {h : Int} (h0 : 0 ≤ h) (h1 : h < many) : (stO many f d)[h.toNat]? = some (if d h = true then some (f h) else none) := by
  unfold stO
  rw [List.getElem?_map, rgI_get (by omega)]
  show some (if d ((h.toNat : Nat) : Int) = true then _ else _) = _
  rw [show ((h.toNat : Nat) : Int) = h by omega]
theorem stO_congr {many : Int} {f : Int → Row} {d d' : Int → Bool} (h : ∀ x, 0 ≤ x → x < many → d x = d' x) : stO many f d = stO many f d' := by
  unfold stO
  refine List.map_congr_left fun x hx => ?_
  have := rgI_mem.mp hx
  rw [h x this.1 this.2]
theorem stO_set {many : Int} {f : Int → Row} {d : Int → Bool} {h : Int} (h0 : 0 ≤ h) (h1 : h < many) : (stO many f d).set h.toNat (some (f h)) = stO many f fun x => d x || decide (x = h) := by
  refine List.ext_getElem? fun i => ?_
  by_cases hi : i < many.toNat
  · have g := fun (d : Int → Bool) => stO_get (f := f) (d := d) (h := (i : Int)) (by omega) (by omega : (i : Int) < many)
    simp only [Int.toNat_natCast] at g
    rw [g]
    by_cases e : i = h.toNat
    · subst e
      rw [List.getElem?_set_self (by rw [stO_len]; exact hi), show ((h.toNat : Nat) : Int) = h by omega]
      simp
    · rw [List.getElem?_set_ne (fun z => e z.symm), g]
      rw [decide_eq_false (show ¬ (i : Int) = h by omega), Bool.or_false]
  · rw [List.getElem?_eq_none (by rw [List.length_set, stO_len]; omega), List.getElem?_eq_none (by rw [stO_len]; omega)]
theorem stO_none {many : Int} {f : Int → Row} {d : Int → Bool} : (stO many f d).any Option.isNone = (rgI many).any fun h => !d h := by
  unfold stO
  rw [List.any_map]
  congr 1
  funext h
  show Option.isNone (if d h = true then some (f h) else none) = !d h
  cases d h <;> rfl
theorem stO_all {many : Int} {f : Int → Row} {d : Int → Bool} (h : ∀ x, 0 ≤ x → x < many → d x = true) : stO many f d = ((rgI many).map f).map some := by
  unfold stO
  rw [List.map_map]
  refine List.map_congr_left fun x hx => ?_
  have := rgI_mem.mp hx
  rw [if_pos (h x this.1 this.2)]
  rfl
theorem ixN_of {n : Nat} {i : Int} (h0 : 0 ≤ i) (h1 : i < (n : Int)) : ixN n i = some i.toNat := by
  unfold ixN
  rw [if_pos h0, if_pos h1]
theorem cutV_to {xs : List V} {i : Int} (h0 : 0 ≤ i) : cutV xs none (some i) = xs.take i.toNat := by
  have := cutV_map (fun x : V => x) xs none (some i)
  rw [List.map_id', List.map_id'] at this
  rw [this]
  have e : i = ((i.toNat : Nat) : Int) := by omega
  conv => lhs; rw [e]
  exact cutG_take xs i.toNat
theorem cutV_from {xs : List V} {i : Int} (h0 : 0 ≤ i) : cutV xs (some i) none = xs.drop i.toNat := by
  have := cutV_map (fun x : V => x) xs (some i) none
  rw [List.map_id', List.map_id'] at this
  rw [this]
  have e : i = ((i.toNat : Nat) : Int) := by omega
  conv => lhs; rw [e]
  exact cutG_drop xs i.toNat
section
variable {K : PySem.W.Frag} {H : Hp} {Q : VK}
theorem dpAll_append : ∀ {xs ys : List V} {ds es : List PyData}, DpAll K H xs ds → DpAll K H ys es → DpAll K H (xs ++ ys) (ds ++ es)
  | _, _, _, _, .nil, h => h
  | _, _, _, _, .cons a r, h => .cons a (dpAll_append r h)
theorem dpAll_take : ∀ {xs : List V} {ds : List PyData} (n : Nat), DpAll K H xs ds → DpAll K H (xs.take n) (ds.take n)
  | _, _, 0, _ => .nil
  | _, _, _ + 1, .nil => .nil
  | _, _, n + 1, .cons a r => .cons a (dpAll_take n r)
theorem dpAll_drop : ∀ {xs : List V} {ds : List PyData} (n : Nat), DpAll K H xs ds → DpAll K H (xs.drop n) (ds.drop n)
  | _, _, 0, h => h
  | _, _, _ + 1, .nil => .nil
  | _, _, n + 1, .cons _ r => dpAll_drop n r
theorem r_catG {a b : Addr} {xs ys : List V} (h : H a = some (.lst xs)) (g : H b = some (.lst ys)) (hl : xs.length + ys.length ≤ 100000) (k : ∀ p, H p = none → Q (.ref p) (upd H p (.lst (xs ++ ys)))) : rCat (.ref a) (.ref b) H Q :=
  ⟨a, b, _, _, rfl, rfl, h, g, Evl.sz_of hl, k⟩
theorem r_indexI {a : Addr} {names : List Int} {y : Int} {j : Nat} (h : SqL K H a (names.map V.int)) (hn : names.Nodup) (hj : names[j]? = some y) (q : Q (.int (j : Nat)) H) : rIndex K (.ref a) [.int y] H Q := by
  refine ⟨a, _, .int y, j, .int y, rfl, rfl, h, rfl, flat_int names, by rw [List.getElem?_map, hj]; rfl, by simp [eqV], fun m z' hm hz => ?_, q⟩
  rw [List.getElem?_map] at hz
  cases e : names[m]? with
  | none => rw [e] at hz; cases hz
  | some z =>
    rw [e] at hz
    cases hz
    have : z ≠ y := fun c => by
      subst c
      have := nd_ix' hn e hj
      omega
    simp [eqV, this]
end
/-- [g r for one in rows if f r] -/
theorem lc_pureR1 {K : PySem.W.Frag} {H : Hp} {a D : Addr} {xs : List V} {rs : List Row} {f : Row → Bool} {g : Row → V} {tt : TT} {te : TE} {vs : List Nat} {σ : L2.St} {j : Nat} {Qd : Hp → Prop} (hs : SqL K H a xs) (hd : DpAll K H xs (rs.map rowD)) (hl : rs.length ≤ 10000) (hD : H D = none)
    (hw : ∀ x, wipe ((wipe σ vs).set j (some x)) vs = wipe σ vs) (ht : ∀ r ∈ rs, ∀ t H1, SqT K H1 t [.bl r.1, .int r.2] → Evl.Ex H H1 → ∀ QB : Bool → Hp → Prop, QB (f r) H1 → tt ((wipe σ vs).set j (some (.ref t))) H1 QB)
    (he : ∀ r ∈ rs, f r = true → ∀ t H1, SqT K H1 t [.bl r.1, .int r.2] → Evl.Ex H H1 → ∀ Q : VK, Q (g r) H1 → te ((wipe σ vs).set j (some (.ref t))) H1 Q) (kk : ∀ H', Evl.Ex H H' → H' D = some (.lst ((rs.filter f).map g)) → Qd H') :
    ∃ W : Nat → Nat → Hp → Prop, (∃ m, W 0 m (upd H D (.lst []))) ∧ ∀ i m H, W i m H →
      ((Itl K a).stop i H ∧ Qd H) ∨ ((Itl K a).go i H ∧ ∃ Nx : Hp → Prop, (∀ H', Nx H' → ∃ m', m' < m ∧ W (i + 1) m' H') ∧ ∀ x H', (Itl K a).yld i H x H' → gName j x (wipe σ vs) H' fun σ2 H2 => wipe σ2 vs = wipe σ vs ∧ tt σ2 H2 fun b H3 =>
        if b = true then te σ2 H3 fun y H4 => ∃ acc, H4 D = some (.lst acc) ∧ acc.length < sizeLine ∧ Nx (upd H4 D (.lst (acc ++ [y]))) else Nx H3) := by
  obtain ⟨l1, l2⟩ := rows_get hd
  refine lc_it (walk_list (xs := xs)) (fun i H' => H' D = some (.lst (((rs.take i).filter f).map g)) ∧ Evl.Ex H H') ⟨upd_same, Evl.Ex.new hD⟩ (fun i H' _ h => Evl.ex_l h.2 hs) ?_ ?_
  · rintro i v H1 H2 hi ⟨h1, e1⟩ ⟨rfl, ey⟩
    have et := List.getElem?_eq_getElem (l := rs) (i := i) (by omega)
    generalize hr0 : rs[i] = r at et
    obtain ⟨t, ex, st⟩ := l2 i r et
    rw [ex] at ey
    cases ey
    have hx := List.mem_of_getElem? et
    refine ⟨hw _, ht r hx t H2 (Evl.ex_t e1 st) e1 _ ?_⟩
    have tk : rs.take (i + 1) = rs.take i ++ [r] := take_snoc et
    cases hf : f r with
    | true =>
      refine iteT (he r hx hf t H2 (Evl.ex_t e1 st) e1 _ ⟨_, h1, Evl.sz_lt ?_, ?_, e1.mut hD⟩)
      · rw [List.length_map]
        have := List.length_filter_le f (rs.take i)
        rw [List.length_take] at this
        omega
      · rw [upd_same, tk, List.filter_append, List.filter_cons, if_pos hf, List.map_append]
        rfl
    | false =>
      refine iteF ⟨?_, e1⟩
      rw [tk, List.filter_append, List.filter_cons, if_neg (by rw [hf]; decide), List.filter_nil, List.append_nil]
      exact h1
  · rintro H' ⟨h1, e1⟩
    rw [l1, List.take_length] at h1
    exact kk H' e1 h1
/-! ### lists of rows, raw -/
def OvAll (H : Hp) (xs : List V) (os : List (Option Row)) : Prop := Paired (OV H) xs os
theorem OsAt.all {H : Hp} {R : Addr} {os : List (Option Row)} (h : OsAt H R os) : ∃ xs, H R = some (.lst xs) ∧ OvAll H xs os := by
  obtain ⟨xs, h1, h2, h3⟩ := h
  refine ⟨xs, h1, ?_⟩
  clear h1
  induction xs generalizing os with
  | nil =>
    cases os with
    | nil => exact .nil
    | cons o r => simp at h2
  | cons x r ih =>
    cases os with
    | nil => simp at h2
    | cons o t =>
      obtain ⟨y, e, ov⟩ := h3 0 o rfl
      cases e
      exact .cons ov (ih (by simpa using h2) fun i o ho => by
        obtain ⟨y, e, ov⟩ := h3 (i + 1) o (by simpa using ho)
        exact ⟨y, by simpa using e, ov⟩)
theorem OvAll.len {H : Hp} : ∀ {xs : List V} {os : List (Option Row)}, OvAll H xs os → xs.length = os.length
  | _, _, .nil => rfl
  | _, _, .cons _ r => by rw [List.length_cons, List.length_cons, OvAll.len r]
theorem OvAll.get {H : Hp} : ∀ {xs : List V} {os : List (Option Row)}, OvAll H xs os → ∀ (i : Nat) (o : Option Row), os[i]? = some o → ∃ x, xs[i]? = some x ∧ OV H x o
  | _, _, .nil, _, _, h => by simp at h
  | _, _, .cons a r, 0, o, h => by
    have e := Option.some.inj h
    subst e
    exact ⟨_, rfl, a⟩
  | _, _, .cons a r, i + 1, o, h => by
    obtain ⟨x, e, ov⟩ := OvAll.get r i o (by simpa using h)
    exact ⟨x, by simpa using e, ov⟩
theorem OvAll.at {H : Hp} {R : Addr} {xs : List V} {os : List (Option Row)} (h : H R = some (.lst xs)) (a : OvAll H xs os) : OsAt H R os := ⟨xs, h, a.len, a.get⟩
theorem OvAll.keep {H H' : Hp} (e : ExT H H') : ∀ {xs : List V} {os : List (Option Row)}, OvAll H xs os → OvAll H' xs os
  | _, _, .nil => .nil
  | _, _, .cons a r => .cons (a.keep e) (OvAll.keep e r)
theorem OvAll.append {H : Hp} : ∀ {xs ys : List V} {os ps : List (Option Row)}, OvAll H xs os → OvAll H ys ps → OvAll H (xs ++ ys) (os ++ ps)
  | _, _, _, _, .nil, h => h
  | _, _, _, _, .cons a r, h => .cons a (OvAll.append r h)
theorem OvAll.take {H : Hp} : ∀ {xs : List V} {os : List (Option Row)} (n : Nat), OvAll H xs os → OvAll H (xs.take n) (os.take n)
  | _, _, 0, _ => .nil
  | _, _, _ + 1, .nil => .nil
  | _, _, n + 1, .cons a r => .cons a (OvAll.take n r)
theorem OvAll.drop {H : Hp} : ∀ {xs : List V} {os : List (Option Row)} (n : Nat), OvAll H xs os → OvAll H (xs.drop n) (os.drop n)
  | _, _, 0, h => h
  | _, _, _ + 1, .nil => .nil
  | _, _, n + 1, .cons _ r => OvAll.drop n r
/-- a list of rows, raw -/
def RwAt (H : Hp) (v : V) (rs : List Row) : Prop := ∃ a, v = .ref a ∧ OsAt H a (rs.map some)
theorem RwAt.dp {K : PySem.W.Frag} {H : Hp} {v : V} {rs : List Row} (h : RwAt H v rs) : Dp K H v (rowsD rs) := by
  obtain ⟨a, rfl, os⟩ := h
  exact os.rows
theorem RwAt.ex {H H' : Hp} {v : V} {rs : List Row} (h : RwAt H v rs) (e : Evl.Ex H H') : RwAt H' v rs := by
  obtain ⟨a, rfl, os⟩ := h
  exact ⟨a, rfl, os.ex e⟩
theorem RwAt.exB {H H' : Hp} {p c : Addr} {v : V} {rs : List Row} (h : RwAt H v rs) (hP : PotC H p c) (e : ExB p H H') : RwAt H' v rs := by
  obtain ⟨a, rfl, os⟩ := h
  refine ⟨a, rfl, os.keep (hP.t e) fun xs hx => e a _ (fun z => ?_) hx⟩
  subst z
  obtain ⟨cs, at', r, h1, _⟩ := hP
  rw [h1] at hx
  have hx := HO.lst.inj (Option.some.inj hx)
  subst hx
  obtain ⟨ys, y1, y2, y3⟩ := os
  rw [h1] at y1
  have y1 := HO.lst.inj (Option.some.inj y1)
  subst y1
  have hl : 1 < (rs.map some).length := by rw [← y2]; simp
  obtain ⟨x, e1, ov⟩ := y3 1 _ (List.getElem?_eq_getElem hl)
  cases e1
  rw [List.getElem_map] at ov
  obtain ⟨t, e2, _⟩ := ov
  cases e2
/-- the list of lists of rows is written -/
theorem RwAt.wr {H : Hp} {S l : Addr} {r ys : List V} {o : HO} {v : V} {rs : List Row} (h : RwAt H v rs) (hS : H S = some (.lst (.ref l :: r))) (hl : H l = some (.lst ys)) : RwAt (L2.upd H S o) v rs := by
  obtain ⟨a, rfl, os⟩ := h
  refine ⟨a, rfl, os.lst hS fun z => ?_⟩
  subst z
  obtain ⟨xs, h1, h2, h3⟩ := os
  rw [hS] at h1
  have h1 := HO.lst.inj (Option.some.inj h1)
  subst h1
  have hl0 : 0 < (rs.map Option.some).length := by rw [← h2]; simp
  obtain ⟨x, e1, ov⟩ := h3 0 _ (List.getElem?_eq_getElem hl0)
  cases e1
  rw [List.getElem_map] at ov
  obtain ⟨t, e2, e3⟩ := ov
  cases e2
  rw [hl] at e3
  cases e3
theorem eqvAll_rows : ∀ a b : List Row, PyData.eqvAll (a.map rowD) (b.map rowD) = decide (a = b)
  | [], [] => by simp [PyData.eqvAll]
  | [], _ :: _ => by simp [PyData.eqvAll]
  | _ :: _, [] => by simp [PyData.eqvAll]
  | x :: a, y :: b => by
    rw [List.map_cons, List.map_cons, PyData.eqvAll, eqv_row, eqvAll_rows]
    by_cases h1 : x = y <;> by_cases h2 : a = b <;> simp [h1, h2]
theorem eqv_rows (a b : List Row) : PyData.eqv (rowsD a) (rowsD b) = decide (a = b) := by
  unfold rowsD
  rw [PyData.eqv]
  exact eqvAll_rows a b
def handD (names : List Int) (rs : List Row) : PyData := .tuple [intsD names, rowsD rs]
theorem depth_ints1 (ns : List Int) : PyData.depthAll (ns.map PyData.int) ≤ 1 := by
  induction ns with
  | nil => simp [PyData.depthAll]
  | cons x r ih =>
    simp [PyData.depthAll, PyData.depth]
    omega
theorem depth_rows2 (rs : List Row) : PyData.depthAll (rs.map rowD) ≤ 2 := by
  induction rs with
  | nil => simp [PyData.depthAll]
  | cons x r ih =>
    simp [PyData.depthAll, PyData.depth, rowD]
    omega
theorem shaped_hand (names : List Int) (rs : List Row) : SeqAt.shaped (handD names rs) = true := by
  have h1 := SeqAt.canLay_of_shaped (shaped_ints names)
  have h2 := SeqAt.canLay_of_shaped (shaped_rows rs)
  have h3 := depth_ints1 names
  have h4 := depth_rows2 rs
  unfold SeqAt.shaped
  rw [Bool.and_eq_true]
  refine ⟨?_, decide_eq_true ?_⟩
  · unfold handD intsD
    rw [PyData.canLay0, PyData.canLayAll0, PyData.canLayAll0, PyData.canLayAll0, h1, h2]
    rfl
  · unfold handD intsD rowsD
    simp only [PyData.depth, PyData.depthAll]
    omega
theorem r_neHand {K : PySem.W.Frag} {H : Hp} {Q : VK} {x y : V} {names : List Int} {rs : List Row} (h : Dp K H x (handD names rs)) (g : Dp K H y (handD names rs)) (z : Q (.bl false) H) : rNeD K x y H Q := by
  refine ⟨_, _, h, g, shaped_hand names rs, shaped_hand names rs, ?_⟩
  rw [SeqAt.eqv_refl _ (SeqAt.canLay_of_shaped (shaped_hand names rs))]
  exact z
theorem RwAt.at {H : Hp} {v : V} {rs : List Row} (h : RwAt H v rs) : ∃ a xs, v = .ref a ∧ H a = some (.lst xs) ∧ xs.length = rs.length ∧ ∀ (i : Int), 0 ≤ i → i < (rs.length : Int) → ∃ t, atI xs i = some (.ref t) ∧ H t = some (.tup [.bl (rwAt rs i).1, .int (rwAt rs i).2]) := by
  obtain ⟨a, rfl, xs, h1, h2, h3⟩ := h
  rw [List.length_map] at h2
  refine ⟨a, xs, rfl, h1, h2, fun i h0 hi => ?_⟩
  have er := rwAt_get (rs := rs) (h := i) (by omega)
  obtain ⟨x, e, t, e2, e3⟩ := h3 i.toNat _ (by rw [List.getElem?_map, er]; rfl)
  rw [e2] at e
  exact ⟨t, atI_of h0 e, e3⟩
/-- [(f r, g r) for row in rows]: rows again -/
theorem lc_mkR {K : PySem.W.Frag} {H : Hp} {a D : Addr} {rs : List Row} {h : Row → Row} {te : TE} {vs : List Nat} {σ : L2.St} {j : Nat} {Qd : Hp → Prop} (hs : RwAt H (.ref a) rs) (hl : rs.length ≤ 10000) (hD : H D = none)
    (hw : ∀ x, wipe ((wipe σ vs).set j (some x)) vs = wipe σ vs)
    (he : ∀ r ∈ rs, ∀ t H1, SqT K H1 t [.bl r.1, .int r.2] → ∀ Q : VK, (∀ q, H1 q = none → Q (.ref q) (upd H1 q (.tup [.bl (h r).1, .int (h r).2]))) → te ((wipe σ vs).set j (some (.ref t))) H1 Q) (kk : ∀ H', Evl.Ex H H' → RwAt H' (.ref D) (rs.map h) → Qd H') :
    ∃ W : Nat → Nat → Hp → Prop, (∃ m, W 0 m (upd H D (.lst []))) ∧ ∀ i m H, W i m H →
      ((Itl K a).stop i H ∧ Qd H) ∨ ((Itl K a).go i H ∧ ∃ Nx : Hp → Prop, (∀ H', Nx H' → ∃ m', m' < m ∧ W (i + 1) m' H') ∧ ∀ x H', (Itl K a).yld i H x H' → gName j x (wipe σ vs) H' fun σ2 H2 => wipe σ2 vs = wipe σ vs ∧ tYes σ2 H2 fun b H3 =>
        if b = true then te σ2 H3 fun y H4 => ∃ acc, H4 D = some (.lst acc) ∧ acc.length < sizeLine ∧ Nx (upd H4 D (.lst (acc ++ [y]))) else Nx H3) := by
  obtain ⟨_, e0, os⟩ := hs
  cases e0
  obtain ⟨xs, hx, ov⟩ := os.all
  have l1 := ov.len
  rw [List.length_map] at l1
  refine lc_it (walk_list (xs := xs)) (fun i H' => ∃ ys, H' D = some (.lst ys) ∧ OvAll H' ys (((rs.take i).map h).map some) ∧ Evl.Ex H H') ⟨[], upd_same, .nil, Evl.Ex.new hD⟩ ?_ ?_ ?_
  · rintro i H' _ ⟨_, _, _, e⟩
    exact Evl.ex_l e (SqL.of hx)
  · rintro i v H1 H2 hi ⟨ys, h1, h2, e1⟩ ⟨rfl, ey⟩
    have et := List.getElem?_eq_getElem (l := rs) (i := i) (by omega)
    generalize hr0 : rs[i] = r at et
    obtain ⟨x, ex, t, e2, e3⟩ := ov.get i _ (by rw [List.getElem?_map, et]; rfl)
    rw [e2] at ex
    rw [ex] at ey
    cases ey
    have tk : rs.take (i + 1) = rs.take i ++ [r] := take_snoc et
    refine ⟨hw _, r_yes ?_⟩
    refine iteT (he r (List.mem_of_getElem? et) t H2 (SqT.of (e1 _ _ e3)) _ fun q hq => ?_)
    have Dq : D ≠ q := ne_of_none h1 hq
    have yl := h2.len
    rw [List.length_map, List.length_map, List.length_take] at yl
    have e4 := Evl.Ex.new (o := .tup [.bl (h r).1, .int (h r).2]) hq
    refine ⟨ys, by rw [upd_ne Dq]; exact h1, Evl.sz_lt (by omega), ys ++ [.ref q], upd_same, ?_, (e1.trans e4).mut hD⟩
    have ext : ExT (upd H2 q (.tup [.bl (h r).1, .int (h r).2])) (upd (upd H2 q (.tup [.bl (h r).1, .int (h r).2])) D (.lst (ys ++ [.ref q]))) := ExT.lst (xs := ys) (by rw [upd_ne Dq]; exact h1)
    rw [tk, List.map_append, List.map_append]
    exact OvAll.append (h2.keep ((ExT.of e4).trans ext)) (.cons ⟨q, rfl, ext _ _ upd_same⟩ .nil)
  · rintro H' ⟨ys, h1, h2, e1⟩
    rw [l1, List.take_length] at h2
    exact kk H' e1 ⟨D, rfl, OvAll.at h1 h2⟩
theorem ints_exB {H H' : Hp} {p c q : Addr} {ns : List Int} (hP : PotC H p c) (e : ExB p H H') (h : H q = some (.lst (ns.map V.int))) : H' q = some (.lst (ns.map V.int)) := by
  obtain ⟨cs, a, r, h1, _⟩ := hP
  exact e q _ (ne_of h h1 fun w => ints_np _ _ _ (HO.lst.inj w)) h
/-- lists of rows, each of n -/
def Rws (H : Hp) (n : Nat) (xs : List V) : Prop := ∀ x ∈ xs, ∃ rs, rs.length = n ∧ RwAt H x rs
theorem Rws.nil {H : Hp} {n : Nat} : Rws H n [] := fun x hx => by cases hx
theorem Rws.cons {H : Hp} {n : Nat} {x : V} {xs : List V} {rs : List Row} (h : RwAt H x rs) (l : rs.length = n) (t : Rws H n xs) : Rws H n (x :: xs) := fun y hy => by
  rcases List.mem_cons.mp hy with e | hy
  · exact ⟨rs, l, e ▸ h⟩
  · exact t y hy
theorem Rws.append {H : Hp} {n : Nat} {xs ys : List V} (a : Rws H n xs) (b : Rws H n ys) : Rws H n (xs ++ ys) := fun y hy => (List.mem_append.mp hy).elim (a y) (b y)
theorem Rws.ex {H H' : Hp} {n : Nat} {xs : List V} (h : Rws H n xs) (e : Evl.Ex H H') : Rws H' n xs := fun x hx => by
  obtain ⟨rs, l, r⟩ := h x hx
  exact ⟨rs, l, r.ex e⟩
theorem Rws.wr {H : Hp} {S l : Addr} {r ys : List V} {o : HO} {n : Nat} {xs : List V} (h : Rws H n xs) (hS : H S = some (.lst (.ref l :: r))) (hl : H l = some (.lst ys)) : Rws (L2.upd H S o) n xs := fun x hx => by
  obtain ⟨rs, e, q⟩ := h x hx
  exact ⟨rs, e, q.wr hS hl⟩
theorem Rws.exB {H H' : Hp} {p c : Addr} {n : Nat} {xs : List V} (h : Rws H n xs) (hP : PotC H p c) (e : ExB p H H') : Rws H' n xs := fun x hx => by
  obtain ⟨rs, l, r⟩ := h x hx
  exact ⟨rs, l, r.exB hP e⟩
/-! ### an exception kept behind its clause -/
/-- what stands at a: an exception of this class, its dict -/
def KeptO (cls : Value) (d : Option Addr) (a : Addr) : HO := .ext fun h => ∃ (o : Obj) (vs : Array Value), h.get? a = some o ∧ Zc cls d o ∧ o.data = .fields vs
section
variable {X : Cx} {pins : List (Addr × Obj)} {σ : L2.St} {H : Hp} {s : Shared}
/-- a pinned object of ours is told from now on -/
theorem inv_told {a : Addr} {o1 : Obj} {u : HO} (J : Inv X ((a, o1) :: pins) σ H s) (hnew : X.s_0.heap.get? a = none) (hpin : ∀ p ∈ X.pn ++ pins, p.1 ≠ a) (good : ObjOk X.prog X.w (L2.upd H a u) s.heap a u) : Inv X pins σ (L2.upd H a u) s := by
  obtain ⟨p1, p2, p3, p4, p5⟩ := J.pin (a, o1) (List.mem_append_right _ List.mem_cons_self)
  have p1 : s.heap.get? a = some o1 := p1
  have p2 : H a = none := p2
  have p3 : a ≠ X.env.locals := p3
  have far : ∀ {b : Addr} {v : HO}, H b = some v → b ≠ a := fun {b v} e z => by rw [z, p2] at e; cases e
  have cel : ∀ x c, X.env.cells.lookup x = some c → c ≠ a := fun x c e z => by
    obtain ⟨v, q, hq, hd⟩ := J.cell x c e
    rw [z, p1] at hq
    cases hq
    exact p5 _ hd
  exact {
    ok := J.ok, os := J.os, bare := J.bare, loc := J.loc, cell := J.cell, len := J.len
    base := {
      keep := J.base.keep, slot := J.base.slot, there := J.base.there
      free := fun b q e n hx => by
        rw [upd_ne (fun z => by rw [z, hnew] at e; cases e)]
        exact J.base.free b q e n hx
      tups := fun b xs e => by
        have r := J.base.tups b xs e
        rw [upd_ne (far r)]
        exact r
      frzs := fun b q v e => by
        have r := J.base.frzs b q v e
        rw [upd_ne (far r)]
        exact r
      tbls := fun b ps e => by
        obtain ⟨m, r⟩ := J.base.tbls b ps e
        exact ⟨m, by rw [upd_ne (far r)]; exact r⟩ }
    free := by rw [upd_ne p3.symm]; exact J.free
    freeC := fun x c e => by rw [upd_ne (cel x c e)]; exact J.freeC x c e
    pin := fun p hp => by
      have hp' : p ∈ X.pn ++ ((a, o1) :: pins) := by
        rcases List.mem_append.mp hp with z | z
        · exact List.mem_append_left _ z
        · exact List.mem_append_right _ (List.mem_cons_of_mem _ z)
      obtain ⟨q1, q2, q3, q4, q5⟩ := J.pin p hp'
      exact ⟨q1, by rw [upd_ne (hpin p hp)]; exact q2, q3, q4, q5⟩
    hok := fun b v e => by
      by_cases hb : b = a
      · rw [hb, upd_same] at e
        cases e
        rw [hb]
        exact good
      · rw [upd_ne hb] at e
        exact (J.hok b v e).stay (fun c w _ q => q) (fun c q => by rw [upd_ne (far q)]; exact q) fun c xs q => by rw [upd_ne (far q)]; exact q }
end
/-- what 'except x as n: y = n' wishes of an exception; i, j: the places of n, y -/
def wKept (K : PySem.W.Frag) (c : Value) (i j : Nat) (Wout : WX) (D : Ends) : WX := fun cls d σ H =>
  ∃ b, PySem.W.exmOne K cls c = some b ∧ (b = true → ∀ a, H a = none → D.nx (((σ.set i (some (.ref a))).set j (some (.ref a))).set i none) (L2.upd H a (KeptO cls d a))) ∧ (b = false → Wout cls d σ H)
section
variable {X : Cx} {x n : Str} {c : Value} {i j : Nat} {body : List Stmt} {st : Stmt} {np pos pos' : Pos} {tb : WX → TS} {Wout : WX}
theorem ps_kept (hx : X.ex = []) (hs : X.stack = X.env :: X.outer) (hf : X.env.frame = some X.env.locals) (hN : X.N.Nodup) (hi : X.N[i]? = some n) (hln : X.env.kindOf n = some .local) (hc : Names X x c) (tk : Takes X Wout)
    (hb : ∀ (W : WX) (pn : List (Addr × Obj)) (xe : Value → Shared → Prop), Takes (X.tr pn xe) W → PassesOwn (model X.prog X.w) X.A X.env xe → PSs (X.tr pn xe) body (tb W))
    (hsu : ∀ (a : Addr) (o : Obj) (pn : List (Addr × Obj)), PSs (X.suite a ((a, o) :: pn)) [st] (tAsg (tVar i) (gName j))) :
    PS X (.Try body [.ExceptHandler (some (.Name x np)) (some n) [st] pos'] [] [] pos) (fun D σ H => tb (wKept X.K c i j Wout D) D σ H) := by
  constructor
  intro pins s0 σ0 H0 D I0 h0
  have good := I0.ok
  have fr0 : X.A.frames = some (X.env :: X.outer) := hs ▸ good.frames
  have ln : Loc X.env.scope n := Or.inl hln
  apply wpAny_Try_except
  let catch' : Value → Shared → Prop := fun e s₁ => wpAny (model X.prog X.w) X.A (noteFrame e X.env) (fun _ s₂ => wpAny (model X.prog X.w) X.A (setFlight e none)
    (fun _ s₃ => wpAny (model X.prog X.w) X.A (handleBy e X.env [.ExceptHandler (some (.Name x np)) (some n) [st] pos']) (SP X pins D) X.xe s₃) X.xe s₂) X.xe s₁
  have caught : Takes (X.tr (X.pn ++ pins) catch') (wKept X.K c i j Wout D) := by
    rintro u s1 ⟨a, B, sI, pns, σ1, H1, cls, d, rfl, J', nb, up, sky, na, os, ag, b, hb1, hyes, hno⟩
    have J : Inv X pins σ1 H1 sI := J'.ofTry good
    rw [show (X.tr (X.pn ++ pins) catch').stack = X.env :: X.outer from hs] at sky nb
    show wpAny (model X.prog X.w) X.A (noteFrame (.ref a) X.env) _ _ _
    refine Sky.land Zc.steady fr0 hf sky fun g1 l1 u1 => ?_
    have nbJ : ∀ b o, sI.heap.get? b = some o → b ∉ frs X.stack → B.get? b = some o := by rw [hs]; exact nb
    have K1 : Inv X pins σ1 H1 { s1 with heap := g1 } := J.landed nbJ l1.1 (up.trans u1) os ag
    obtain ⟨o1, v1, a1, y1, d1⟩ := l1.there
    obtain ⟨-, gone, ff, _⟩ := id l1
    have out : a ∉ frs (X.env :: X.outer) := fun hm => by
      obtain ⟨_, o', e', bad⟩ := ff.mem hm
      rw [a1] at e'
      cases e'
      exact bad _ d1
    have aL : a ≠ X.env.locals := by
      rintro rfl
      exact out (List.mem_filterMap.mpr ⟨X.env, List.mem_cons_self, hf⟩)
    have aF : a ∉ X.fs := fun hm => by
      obtain ⟨e, he, q⟩ := List.mem_filterMap.mp hm
      exact out (List.mem_filterMap.mpr ⟨e, List.mem_cons_of_mem _ he, q⟩)
    have notI : ∀ o, sI.heap.get? a ≠ some o := fun o e => by
      have := nb a o e out
      rw [gone] at this
      cases this
    have new0 : X.s_0.heap.get? a = none := by
      cases e : X.s_0.heap.get? a with
      | none => rfl
      | some o =>
        obtain ⟨o', e'⟩ := J.base.there a o e (by rw [hx]; exact List.not_mem_nil)
        exact absurd e' (notI o')
    have apart : ∀ p ∈ X.pn ++ pins, p.1 ≠ a := fun p hp z => by
      have q := (J.pin p hp).1
      rw [z] at q
      exact notI _ q
    have S1 := K1.suite a1 d1 na aL aF
    refine wpAny_handleBy_cons (codeAny_handlers_test ?_) (by intro q; cases q)
    have seen : PySem.W.Looks (model X.prog X.w) g1 (typeOf (.ref a)) cls := fun A Q E s k q => wpAny_typeOf_ref (k _ _ a1) (by rw [y1.1]; exact q)
    have asked := PySem.W.exm_one (M := model X.prog X.w) K1.kIn seen hb1
    have named : ∀ {Q : Value → Shared → Prop} {E : Value → Shared → Prop}, Q c { s1 with heap := g1 } → wpAny (model X.prog X.w) (X.A.mark (some (.ref a))) (eval (.Name x np) X.env) Q E { s1 with heap := g1 } := by
      intro Q E q
      rcases hc with ⟨k1, k2, k3 | ⟨k3, k4, k5⟩⟩
      · exact ld_glob (X := X.suite a ((a, o1) :: (X.pn ++ pins))) S1 k1 k3 q k2
      · exact ld_blt (X := X.suite a ((a, o1) :: (X.pn ++ pins))) S1 k1 k3 k4 q k5 k2
    refine named (asked.here ?_)
    cases b with
    | true =>
      refine codeAny_handlers_suite_as ?_
      refine HandSPX.lands_againZ l1 fun g2 l2 u2 => ?_
      have K2 : Inv X pins σ1 H1 { s1 with heap := g2 } := J.landed nbJ l2.1 ((up.trans u1).trans u2) os ag
      obtain ⟨o2, v2, a2, y2, d2⟩ := l2.there
      have S2 := K2.suite a2 d2 na aL aF
      refine store_ok (X := X.suite a ((a, o2) :: (X.pn ++ pins))) (v := .ref a) S2 hN hi ln rfl (fun s3 S3 => ?_) (.inr hln)
      have len : i < σ1.length := by
        rw [K2.len]
        exact (List.getElem?_eq_some_iff.mp hi).1
      let D2 : Ends := { nx := fun σ' H' => σ' = (σ1.set i (some (.ref a))).set j (some (.ref a)) ∧ H' = H1, rt := fun _ _ => False, bk := fun _ _ => False, ct := fun _ _ => False }
      refine wpAny_mono ((hsu a o2 (X.pn ++ pins)).run [] s3 _ H1 D2 S3 (r_asg (r_var (List.getElem?_set_self len) ⟨rfl, rfl⟩))) (fun f s4 hsp => ?_) (fun _ _ z => False.elim z)
      cases f with
      | next =>
        obtain ⟨σ4, H4, S4, rfl, rfl⟩ := hsp
        have K4 : Inv X ((a, o2) :: pins) ((σ1.set i (some (.ref a))).set j (some (.ref a))) H4 s4 := {
          ok := good, os := S4.os, bare := S4.bare, base := S4.base, loc := S4.loc, cell := S4.cell, free := S4.free, freeC := S4.freeC, hok := S4.hok, len := S4.len
          pin := fun p hp => S4.pin p (List.mem_append_left _ (by
            rcases List.mem_append.mp hp with z | z
            · exact List.mem_cons_of_mem _ (List.mem_append_left _ z)
            · rcases List.mem_cons.mp z with z | z
              · rw [z]; exact List.mem_cons_self
              · exact List.mem_cons_of_mem _ (List.mem_append_right _ z))) }
        refine gone_ok K4 hN hi hln fun s5 K5 => ?_
        obtain ⟨p1, p2, _⟩ := K5.pin (a, o2) (List.mem_append_right _ List.mem_cons_self)
        exact ⟨_, _, inv_told (u := KeptO cls d a) K5 new0 apart ⟨⟨o2, v2, p1, y2, d2⟩, ⟨o2, p1⟩, fun _ _ ⟨o, v, q, r⟩ k => ⟨o, v, k o q, r⟩⟩, hyes rfl a na⟩
      | brk =>
        obtain ⟨_, _, _, q⟩ := hsp
        exact q.elim
      | cont =>
        obtain ⟨_, _, _, q⟩ := hsp
        exact q.elim
      | ret u =>
        obtain ⟨_, _, _, _, _, q⟩ := hsp
        exact q.elim
    | false =>
      show wpAny _ X.A (handleBy (.ref a) X.env []) _ _ _
      refine wpAny_handleBy_nil ?_
      obtain ⟨_, _, _, o3, v3, T, _, _, e3, _, d3, t3, _⟩ := id l1
      unfold PySem.passOn
      refine wpAny_bind (wpAny_field e3 d3 t3 ?_)
      rw [if_neg (show ¬ ((Value.ref T == Value.none) = true) from by simp)]
      have onward : wpAny (model X.prog X.w) X.A (setFlight (.ref a) X.env.frame) (fun _ s4 => wpAny (model X.prog X.w) X.A (throw (.ref a) : Sem Flow) (SP X pins D) X.xe s4) X.xe { s1 with heap := g1 } := by
        rw [hf]
        refine HandSPX.setFlight_upZ l1 fun g2 m2 u2 => wpAny_throw (tk _ _ ?_)
        exact ⟨a, B, sI, pins, σ1, H1, cls, d, rfl, J, nbJ, (up.trans u1).trans u2, .inr (.inr (by rw [hs]; exact m2)), na, os, ag, hno rfl⟩
      first
        | exact wpAny_bind (wpAny_pure (wpAny_bind onward))
        | exact wpAny_bind onward
  refine wpAny_mono ((hb (wKept X.K c i j Wout D) (X.pn ++ pins) catch' caught PassesOwn.looking).run [] s0 σ0 H0 D (I0.toTry _) h0) (fun f s1 hsp => ?_) (fun _ _ z => z)
  cases f with
  | next =>
    obtain ⟨σ1, H1, J1, q⟩ := hsp
    exact wpAny_execs_nil ⟨σ1, H1, J1.ofTry good, q⟩
  | brk =>
    obtain ⟨σ1, H1, J1, q⟩ := hsp
    exact ⟨σ1, H1, J1.ofTry good, q⟩
  | cont =>
    obtain ⟨σ1, H1, J1, q⟩ := hsp
    exact ⟨σ1, H1, J1.ofTry good, q⟩
  | ret u =>
    obtain ⟨v, σ1, H1, J1, r, q⟩ := hsp
    exact ⟨v, σ1, H1, J1.ofTry good, r, q⟩
end
/-- the object at a is an exception of the class D, without a dict: told by whatever is kept of it -/
def ExcAt (H : Hp) (a D : Addr) : Prop := ∃ φ : Heap → Prop, H a = some (.ext φ) ∧ ∀ h, φ h → ∃ (o : Obj) (vs : Array Value), h.get? a = some o ∧ Zc (.ref D) none o ∧ o.data = .fields vs
theorem ExcAt.kept {H : Hp} {a D : Addr} (e : H a = some (KeptO (.ref D) none a)) : ExcAt H a D := ⟨_, e, fun _ z => z⟩
theorem ExcAt.ex {H H' : Hp} {a D : Addr} (h : ExcAt H a D) (e : Evl.Ex H H') : ExcAt H' a D := by
  obtain ⟨φ, h1, h2⟩ := h
  exact ⟨φ, e _ _ h1, h2⟩
/-- isinstance(x, c), x an exception that is told -/
def rIsK (K : PySem.W.Frag) : List V → Hp → VK → Prop := fun xs H Q => ∃ (a D : Addr) (c : V) (cv : Value) (b : Bool), xs = [.ref a, c] ∧ ExcAt H a D ∧ ExcC K D ∧ (∀ u, RelV c u → u = cv) ∧ PySem.W.kitOne K (.ref D) cv = some b ∧ Q (.bl b) H
theorem call_isK {X : Cx} : CallR X (.builtin "isinstance") (rIsK X.K) := by
  intro pins s σ H xs us Q I r h
  obtain ⟨a, D, c, cv, b, rfl, ⟨φ, ha, hφ⟩, C, hcv, e, q⟩ := h
  match us, r with
  | [_, _], .cons rx (.cons rt .nil) =>
    cases rx
    obtain rfl := hcv _ rt
    obtain ⟨o, vs, hg, hz, hd⟩ := hφ _ (I.hok a _ ha).1
    have J : PySem.W.InstAt s.heap a o D none := by
      obtain ⟨oc, od, oda, osl⟩ := o
      obtain ⟨h1, h2⟩ := hz
      dsimp only at h1 h2 hd
      subst h1 h2 hd
      exact ⟨hg, rfl, rfl, trivial⟩
    exact PySem.W.kia_one (PySem.W.handS_kitx_exc C.hg C.hk C.hs C.hd C.ha C.hn C.ht C.hm) I.kIn J e (fun z => nomatch z) fun tk => ⟨.bl b, H, I.kept (t' := tk) fun _ _ z => z, rfl, q⟩
theorem relC {C : Addr} {u : Value} (r : RelV (.ref C) u) : u = .ref C := r
theorem r_isK {K : PySem.W.Frag} {H : Hp} {Q : VK} {a D C : Addr} {b : Bool} (h : ExcAt H a D) (e : ExcC K D) (k : PySem.W.kitOne K (.ref D) (.ref C) = some b) (q : Q (.bl b) H) : rIsK K [.ref a, .ref C] H Q := ⟨a, D, _, _, b, rfl, h, e, fun _ r => r, k, q⟩
/-! ### xs.count(y), flat values -/
def rCntV (K : PySem.W.Frag) : V → List V → Hp → VK → Prop := fun x xs H Q => ∃ (p : Addr) (ys : List V) (y : V), x = .ref p ∧ xs = [y] ∧ SqL K H p ys ∧ flatV y = true ∧ ys.all flatV = true ∧ Q (.int ((ys.countP fun z => eqV z y : Nat) : Int)) H
theorem cnt_eqU {y : V} : ∀ {ys : List V} {us : List Value}, Vals ys us → ys.all flatV = true → us.countP (eqU y) = ys.countP fun z => eqV z y
  | _, _, .nil, _ => rfl
  | z :: ys, u :: us, .cons r t, f => by
    rw [List.all_cons, Bool.and_eq_true] at f
    rw [List.countP_cons, List.countP_cons, eqU_of r f.1, cnt_eqU t f.2]
theorem mt_cntV {X : Cx} : MtR X "list.count" (rCntV X.K) := by
  intro pins s σ H x xs v us Q I rx rxs h
  obtain ⟨p, ys, y, rfl, rfl, hs, fy, fys, q⟩ := h
  cases rx
  obtain ⟨u, rfl, ru⟩ := rxs.one
  obtain ⟨its, rv, ⟨⟨cls, dd, data, sl⟩, n, ho, hc, hdn, hd⟩, hlen⟩ := I.list hs
  simp only at hc hd
  subst hc hd
  refine call_meets PySem.F.slot_list_count ⟨_, ho, rfl⟩ PySem.F.entry_list_count (PySem.F.args_list_count_2 _ _) (SeqAt.list_countAt p its.toArray n dd sl u (eqU y)) ⟨ho, fun w hw => mem_eqAt ru fy rv fys w (by simpa using hw), ?_⟩
  have ec : its.toArray.toList.countP (eqU y) = ys.countP fun z => eqV z y := cnt_eqU rv fys
  exact ⟨.int ((ys.countP fun z => eqV z y : Nat) : Int), H, I.tok _, ⟨s.toks, congrArg (fun m : Nat => Value.int (m : Int) s.toks) ec⟩, q⟩
/-! ### the classes' facts, from the written part's answers -/
theorem kit_self {K : PySem.W.Frag} {C : Addr} : PySem.W.kitOne K (.ref C) (.ref C) = some true := by
  unfold PySem.W.kitOne
  rw [if_pos (beq_iff_eq.mpr rfl)]
theorem kit_ne {K : PySem.W.Frag} {D C : Addr} {b : Bool} (h0 : D ≠ C) (h1 : PySem.W.hasDictIn K C = true) (h2 : PySem.W.typeIn K (.ref C) = some (.type "type")) (h3 : PySem.W.subIn K (.ref D) (.ref C) = some b) : PySem.W.kitOne K (.ref D) (.ref C) = some b := by
  obtain ⟨cd, hc, _⟩ := PySem.W.any_some h1
  unfold PySem.W.kitOne
  rw [if_neg (fun z => h0 (Value.ref.inj (beq_iff_eq.mp z)))]
  unfold PySem.W.kitCls
  simp only
  rw [if_pos (by rw [hc, h2]; rfl)]
  exact h3
theorem kit_type {K : PySem.W.Frag} {D : Addr} {t : String} {b : Bool} (h1 : PySem.W.kitMeta t = true) (h3 : PySem.W.subIn K (.ref D) (.type t) = some b) : PySem.W.kitOne K (.ref D) (.type t) = some b := by
  unfold PySem.W.kitOne
  rw [if_neg (fun z => by have := beq_iff_eq.mp z; cases this)]
  unfold PySem.W.kitCls
  simp only
  rw [if_pos h1]
  exact h3
/-! ### a heap of two parts: what stays (F) and what is one's own (M) -/
/-- what is told of a cell of one's own: an object, the law's pot -/
inductive Cel where
  | is (o : HO)
  | pot
def PotS (F H : Hp) (p : Addr) : Prop := ∃ (c : Addr) (cs : List Int) (at' r : Int), H p = some (.lst [.ref c, .int at', .int r]) ∧ F c = some (.lst (cs.map V.int)) ∧ 0 ≤ at' ∧ 0 ≤ r ∧ cs.length ≤ 100
def Cel.ok (io : List Addr) (H0 F H : Hp) (a : Addr) : Cel → Prop
  | .is o => H a = some o ∧ H0 a = none
  | .pot => PotS F H a ∧ (a ∈ io ∨ H0 a = none)
/-- a tuple never is one's own: it doesn't change -/
def NoTup : HO → Prop
  | .tup _ => False
  | _ => True
/-- io: cells of the caller's that may be written; H0, F0: at the entry; F: what stays; M: one's own -/
structure Sep (io : List Addr) (H0 F0 F H : Hp) (M : List (Addr × Cel)) : Prop where
  old : ∀ a o, H0 a = some o → a ∉ io → H a = some o
  nn : ∀ a, H a = none → H0 a = none
  gr : Evl.Ex F0 F
  gn : ∀ a, F a ≠ none → F0 a ≠ none ∨ H0 a = none ∨ ∃ xs, F a = some (.tup xs)
  fr : Evl.Ex F H
  own : ∀ m ∈ M, m.2.ok io H0 F H m.1 ∧ F m.1 = none
  nd : (M.map (·.1)).Nodup
  nt : ∀ m ∈ M, ∀ o, m.2 = .is o → NoTup o
theorem Cel.nz {io : List Addr} {H0 F H : Hp} {a : Addr} {c : Cel} (h : c.ok io H0 F H a) : H a ≠ none := by
  cases c with
  | is o => intro e; rw [h.1] at e; cases e
  | pot => obtain ⟨⟨c, cs, x, r, h, _⟩, _⟩ := h; intro e; rw [h] at e; cases e
theorem Cel.mono {io : List Addr} {H0 F H F' H' : Hp} {a : Addr} {c : Cel} (h : c.ok io H0 F H a) (e : Evl.Ex F F') (k : ∀ o, H a = some o → H' a = some o) : c.ok io H0 F' H' a := by
  cases c with
  | is o => exact ⟨k _ h.1, h.2⟩
  | pot => obtain ⟨⟨c, cs, x, r, h1, h2, h3⟩, h4⟩ := h; exact ⟨⟨c, cs, x, r, k _ h1, e _ _ h2, h3⟩, h4⟩
theorem Cel.noTup {io : List Addr} {H0 F H H' : Hp} {a : Addr} {c : Cel} {xs : List V} (h : c.ok io H0 F H a) (nt : ∀ o, c = .is o → NoTup o) (k : ∀ o, H a = some o → H' a = some o) (z : H' a = some (.tup xs)) : False := by
  cases c with
  | is o =>
    rw [k _ h.1] at z
    cases z
    exact nt _ rfl
  | pot =>
    obtain ⟨⟨c, cs, x, r, h, _⟩, _⟩ := h
    rw [k _ h] at z
    cases z
theorem Hp.ne {H : Hp} {a b : Addr} (h : H a ≠ none) (g : H b = none) : a ≠ b := fun e => h (by rw [e]; exact g)
theorem Hp.some_ne {H : Hp} {a : Addr} {o : HO} (h : H a = some o) : H a ≠ none := fun e => by rw [h] at e; cases e
section
variable {io : List Addr} {H0 F0 F H F1 : Hp} {M N : List (Addr × Cel)} {K : PySem.W.Frag} {a p : Addr} {o : HO} {xs : List V} {v : V} {d : PyData}
theorem Sep.start0 (fr : Evl.Ex F H) : Sep [] H F F H [] := ⟨fun _ _ h _ => h, fun _ h => h, Evl.Ex.refl _, fun _ h => .inl h, fr, fun m hm => (by cases hm), List.nodup_nil, fun m hm => (by cases hm)⟩
theorem Sep.startP (fr : Evl.Ex F H) (hF : F p = none) (hp : PotS F H p) : Sep [p] H F F H [(p, .pot)] :=
  ⟨fun _ _ h _ => h, fun _ h => h, Evl.Ex.refl _, fun _ h => .inl h, fr, fun m hm => by
    rw [List.mem_singleton] at hm
    subst hm
    exact ⟨⟨hp, .inl List.mem_cons_self⟩, hF⟩, by simp, fun m hm o e => by rw [List.mem_singleton] at hm; subst hm; cases e⟩
theorem Sep.fnone (S : Sep io H0 F0 F H M) (h : H a = none) : F a = none := by
  cases e : F a with
  | none => rfl
  | some o => rw [S.fr a o e] at h; cases h
theorem Sep.newF (S : Sep io H0 F0 F H M) (hp : H p = none) (o : HO) : Sep io H0 F0 (upd F p o) (upd H p o) M := by
  have fp := S.fnone hp
  refine ⟨fun a u h n => ?_, fun a h => ?_, S.gr.trans (Evl.Ex.new fp), fun a h => ?_, fun a u h => ?_, fun m hm => ?_, S.nd, S.nt⟩
  · have q := S.old a u h n
    rw [upd_ne (Hp.ne (Hp.some_ne q) hp)]
    exact q
  · by_cases e : a = p
    · subst e; rw [upd_same] at h; cases h
    · rw [upd_ne e] at h; exact S.nn a h
  · by_cases e : a = p
    · subst e; exact .inr (.inl (S.nn a hp))
    · rw [upd_ne e] at h ⊢; exact S.gn a h
  · by_cases e : a = p
    · subst e; rw [upd_same] at h ⊢; exact h
    · rw [upd_ne e] at h ⊢; exact S.fr a u h
  · obtain ⟨h1, h2⟩ := S.own m hm
    have ne := Hp.ne (Cel.nz h1) hp
    exact ⟨Cel.mono h1 (Evl.Ex.new fp) fun u hu => by rw [upd_ne ne]; exact hu, by rw [upd_ne ne]; exact h2⟩
theorem Sep.newM (S : Sep io H0 F0 F H M) (hp : H p = none) (o : HO) (nt : NoTup o := by exact True.intro) : Sep io H0 F0 F (upd H p o) ((p, .is o) :: M) := by
  have fp := S.fnone hp
  have far : ∀ m ∈ M, m.1 ≠ p := fun m hm => Hp.ne (Cel.nz (S.own m hm).1) hp
  refine ⟨fun a u h n => ?_, fun a h => ?_, S.gr, S.gn, fun a u h => ?_, fun m hm => ?_, ?_, fun m hm u e => ?_⟩
  · have q := S.old a u h n
    rw [upd_ne (Hp.ne (Hp.some_ne q) hp)]
    exact q
  · by_cases e : a = p
    · subst e; rw [upd_same] at h; cases h
    · rw [upd_ne e] at h; exact S.nn a h
  · have q := S.fr a u h
    rw [upd_ne (Hp.ne (Hp.some_ne q) hp)]
    exact q
  · rcases List.mem_cons.mp hm with rfl | hm
    · exact ⟨⟨upd_same, S.nn p hp⟩, fp⟩
    · obtain ⟨h1, h2⟩ := S.own m hm
      exact ⟨Cel.mono h1 (Evl.Ex.refl _) fun u hu => by rw [upd_ne (far m hm)]; exact hu, h2⟩
  · rw [List.map_cons]
    refine List.nodup_cons.mpr ⟨fun h => ?_, S.nd⟩
    obtain ⟨m, hm, e⟩ := List.mem_map.mp h
    exact far m hm e
  · rcases List.mem_cons.mp hm with rfl | hm
    · cases e; exact nt
    · exact S.nt m hm u e
theorem mem_of_k {α : Type} {l : List α} {k : Nat} {x : α} (h : l[k]? = some x) : x ∈ l := List.mem_of_getElem? h
theorem nd_of_ne {M : List (Addr × Cel)} (h : (M.map (·.1)).Nodup) {k j : Nat} {x y : Addr × Cel} (hk : M[k]? = some x) (hj : M[j]? = some y) (ne : j ≠ k) : y.1 ≠ x.1 := fun e => by
  have h1 : (M.map (·.1))[k]? = some x.1 := by rw [List.getElem?_map, hk]; rfl
  have h2 : (M.map (·.1))[j]? = some x.1 := by rw [List.getElem?_map, hj]; exact congrArg some e
  exact ne (nd_ix' h h2 h1)
theorem set_map_fst {M : List (Addr × Cel)} {k : Nat} {a : Addr} {c c' : Cel} (hk : M[k]? = some (a, c)) : (M.set k (a, c')).map (·.1) = M.map (·.1) := by
  rw [List.map_set]
  refine List.ext_getElem? fun j => ?_
  by_cases e : j = k
  · subst e
    have lt : j < M.length := (List.getElem?_eq_some_iff.mp hk).1
    rw [List.getElem?_set_self (by rw [List.length_map]; exact lt), List.getElem?_map, hk]
    rfl
  · rw [List.getElem?_set_ne (Ne.symm e)]
/-- a cell of one's own is written -/
theorem Sep.put (S : Sep io H0 F0 F H M) (k : Nat) {u : HO} (hk : M[k]? = some (a, .is u)) (o : HO) (nt : NoTup o := by exact True.intro) : Sep io H0 F0 F (upd H a o) (M.set k (a, .is o)) := by
  obtain ⟨⟨g1, g2⟩, g3⟩ := S.own _ (mem_of_k hk)
  refine ⟨fun b u h n => ?_, fun b h => ?_, S.gr, S.gn, fun b u h => ?_, fun m hm => ?_, ?_, fun m hm w e => ?_⟩
  · rw [upd_ne (Hp.ne (Hp.some_ne h) g2)]
    exact S.old b u h n
  · by_cases e : b = a
    · subst e; exact g2
    · rw [upd_ne e] at h; exact S.nn b h
  · rw [upd_ne (Hp.ne (Hp.some_ne h) g3)]
    exact S.fr b u h
  · obtain ⟨j, hj⟩ := List.mem_iff_getElem?.mp hm
    by_cases e : j = k
    · subst e
      rw [List.getElem?_set_self (List.getElem?_eq_some_iff.mp hk).1] at hj
      cases hj
      exact ⟨⟨upd_same, g2⟩, g3⟩
    · rw [List.getElem?_set_ne (Ne.symm e)] at hj
      obtain ⟨h1, h2⟩ := S.own m (mem_of_k hj)
      have ne := nd_of_ne S.nd hk hj e
      exact ⟨Cel.mono h1 (Evl.Ex.refl _) fun w hw => by rw [upd_ne ne]; exact hw, h2⟩
  · rw [set_map_fst hk]
    exact S.nd
  · rcases List.mem_or_eq_of_mem_set hm with hm | rfl
    · exact S.nt m hm w e
    · cases e; exact nt
/-- from now on it stays -/
theorem Sep.frz (S : Sep io H0 F0 F H M) (k : Nat) (hk : M[k]? = some (a, .is o)) : ∃ F', Sep io H0 F0 F' H (M.eraseIdx k) ∧ Evl.Ex F F' ∧ F' a = some o := by
  obtain ⟨⟨g1, g2⟩, g3⟩ := S.own _ (mem_of_k hk)
  refine ⟨upd F a o, ⟨S.old, S.nn, S.gr.trans (Evl.Ex.new g3), fun b h => ?_, fun b u h => ?_, fun m hm => ?_, ?_, fun m hm w e => S.nt m (List.mem_of_mem_eraseIdx hm) w e⟩, Evl.Ex.new g3, upd_same⟩
  · by_cases e : b = a
    · subst e; exact .inr (.inl g2)
    · rw [upd_ne e] at h ⊢; exact S.gn b h
  · by_cases e : b = a
    · subst e; rw [upd_same] at h; cases h; exact g1
    · rw [upd_ne e] at h; exact S.fr b u h
  · have lt : k < M.length := (List.getElem?_eq_some_iff.mp hk).1
    obtain ⟨j, hj⟩ := List.mem_iff_getElem?.mp hm
    rw [List.getElem?_eraseIdx] at hj
    obtain ⟨j', ne, hj⟩ : ∃ j', j' ≠ k ∧ M[j']? = some m := by
      split at hj
      · exact ⟨j, by omega, hj⟩
      · exact ⟨j + 1, by omega, hj⟩
    obtain ⟨h1, h2⟩ := S.own m (mem_of_k hj)
    have ne := nd_of_ne S.nd hk hj ne
    exact ⟨Cel.mono h1 (Evl.Ex.new g3) fun w hw => hw, by rw [upd_ne ne]; exact h2⟩
  · exact S.nd.sublist ((List.eraseIdx_sublist M k).map _)
theorem Sep.sub (S : Sep io H0 F0 F H M) (h : N.Sublist M) : Sep io H0 F0 F H N :=
  ⟨S.old, S.nn, S.gr, S.gn, S.fr, fun m hm => S.own m (h.subset hm), S.nd.sublist (h.map _), fun m hm => S.nt m (h.subset hm)⟩
theorem Sep.nil (S : Sep io H0 F0 F H M) : Sep io H0 F0 F H [] := S.sub (List.nil_sublist _)
theorem Sep.drop (S : Sep io H0 F0 F H M) (k : Nat) : Sep io H0 F0 F H (M.eraseIdx k) := S.sub (List.eraseIdx_sublist M k)
theorem Sep.topot (S : Sep io H0 F0 F H M) (k : Nat) (hk : M[k]? = some (p, .is o)) (h : PotS F H p) : Sep io H0 F0 F H (M.set k (p, .pot)) := by
  obtain ⟨⟨g1, g2⟩, g3⟩ := S.own _ (mem_of_k hk)
  refine ⟨S.old, S.nn, S.gr, S.gn, S.fr, fun m hm => ?_, ?_, fun m hm w e => ?_⟩
  · obtain ⟨j, hj⟩ := List.mem_iff_getElem?.mp hm
    by_cases e : j = k
    · subst e
      rw [List.getElem?_set_self (List.getElem?_eq_some_iff.mp hk).1] at hj
      cases hj
      exact ⟨⟨h, .inr g2⟩, g3⟩
    · rw [List.getElem?_set_ne (Ne.symm e)] at hj
      exact S.own m (mem_of_k hj)
  · rw [set_map_fst hk]
    exact S.nd
  · rcases List.mem_or_eq_of_mem_set hm with hm | rfl
    · exact S.nt m hm w e
    · cases e
/-- the pot is written -/
theorem Sep.putPot (S : Sep io H0 F0 F H M) (k : Nat) (hk : M[k]? = some (p, .pot)) (o : HO) (hP : PotS F (upd H p o) p) : Sep io H0 F0 F (upd H p o) M := by
  obtain ⟨⟨g1, g2⟩, g3⟩ := S.own _ (mem_of_k hk)
  refine ⟨fun b u h n => ?_, fun b h => ?_, S.gr, S.gn, fun b u h => ?_, fun m hm => ?_, S.nd, S.nt⟩
  · have ne : b ≠ p := fun e => by
      rw [e] at h n
      rcases g2 with z | z
      · exact n z
      · rw [h] at z; cases z
    rw [upd_ne ne]
    exact S.old b u h n
  · by_cases e : b = p
    · rw [e, upd_same] at h; cases h
    · rw [upd_ne e] at h; exact S.nn b h
  · rw [upd_ne (Hp.ne (Hp.some_ne h) g3)]
    exact S.fr b u h
  · obtain ⟨j, hj⟩ := List.mem_iff_getElem?.mp hm
    by_cases e : j = k
    · subst e
      rw [hk] at hj
      cases hj
      exact ⟨⟨hP, g2⟩, g3⟩
    · obtain ⟨h1, h2⟩ := S.own m (mem_of_k hj)
      have ne := nd_of_ne S.nd hk hj e
      exact ⟨Cel.mono h1 (Evl.Ex.refl _) fun w hw => by rw [upd_ne ne]; exact hw, h2⟩
/-- a call that writes nothing of ours -/
theorem Sep.comp (S : Sep io H0 F0 F H M) {F' H' : Hp} (S' : Sep [] H F F' H' N) : Sep io H0 F0 F' H' (N ++ M) := by
  have ex : ∀ a o, H a = some o → H' a = some o := fun a o h => S'.old a o h (by simp)
  refine ⟨fun a u h n => ex a u (S.old a u h n), fun a h => S.nn a (S'.nn a h), S.gr.trans S'.gr, fun a h => ?_, S'.fr, fun m hm => ?_, ?_, fun m hm w e => (List.mem_append.mp hm).elim (fun q => S'.nt m q w e) fun q => S.nt m q w e⟩
  · rcases S'.gn a h with z | z | z
    · rcases S.gn a z with y | y | ⟨xs, y⟩
      · exact .inl y
      · exact .inr (.inl y)
      · exact .inr (.inr ⟨xs, S'.gr _ _ y⟩)
    · exact .inr (.inl (S.nn a z))
    · exact .inr (.inr z)
  · rcases List.mem_append.mp hm with hm | hm
    · obtain ⟨h1, h2⟩ := S'.own m hm
      refine ⟨?_, h2⟩
      obtain ⟨x, c⟩ := m
      cases c with
      | is o => exact ⟨h1.1, S.nn _ h1.2⟩
      | pot =>
        obtain ⟨q, z | z⟩ := h1
        · cases z
        · exact ⟨q, .inr (S.nn _ z)⟩
    · obtain ⟨h1, h2⟩ := S.own m hm
      refine ⟨Cel.mono h1 S'.gr (ex _), ?_⟩
      cases e : F' m.1 with
      | none => rfl
      | some u =>
        rcases S'.gn m.1 (Hp.some_ne e) with z | z | ⟨xs, z⟩
        · exact absurd h2 z
        · exact absurd z (Cel.nz h1)
        · have z2 := S'.fr _ _ z
          exact (Cel.noTup h1 (S.nt m hm) (ex _) z2).elim
  · rw [List.map_append]
    refine List.nodup_append.mpr ⟨S'.nd, S.nd, ?_⟩
    intro x hx y hy e
    obtain ⟨m, hm, rfl⟩ := List.mem_map.mp hx
    obtain ⟨n, hn, rfl⟩ := List.mem_map.mp hy
    have h1 := (S'.own m hm).1
    have h2 := Cel.nz (S.own n hn).1
    obtain ⟨x, c⟩ := m
    cases c with
    | is o => exact h2 (by rw [← e]; exact h1.2)
    | pot =>
      obtain ⟨q, z | z⟩ := h1
      · cases z
      · exact h2 (by rw [← e]; exact z)
/-- a call that writes the pot -/
theorem Sep.compP (S : Sep io H0 F0 F H M) (k : Nat) (hk : M[k]? = some (p, .pot)) {F' H' : Hp} (S' : Sep [p] H F F' H' (N ++ [(p, .pot)])) : Sep io H0 F0 F' H' (N ++ M) := by
  obtain ⟨⟨g1, g2⟩, g3⟩ := S.own _ (mem_of_k hk)
  have ex : ∀ a o, a ≠ p → H a = some o → H' a = some o := fun a o n h => S'.old a o h (by simpa using n)
  have hp0 : H p ≠ none := by obtain ⟨_, _, _, _, h, _⟩ := g1; rw [h]; intro z; cases z
  have pp := S'.own (p, .pot) (List.mem_append_right _ (List.mem_singleton.mpr rfl))
  have np : ∀ m ∈ N, m.1 ≠ p := fun m hm e => by
    have nd := S'.nd
    rw [List.map_append] at nd
    exact (List.nodup_append.mp nd).2.2 m.1 (List.mem_map_of_mem hm) p (by simp) e
  refine ⟨fun a u h n => ?_, fun a h => S.nn a (S'.nn a h), S.gr.trans S'.gr, fun a h => ?_, S'.fr, fun m hm => ?_, ?_, fun m hm w e => (List.mem_append.mp hm).elim (fun q => S'.nt m (List.mem_append_left _ q) w e) fun q => S.nt m q w e⟩
  · refine ex a u (fun e => ?_) (S.old a u h n)
    subst e
    rcases g2 with z | z
    · exact n z
    · rw [h] at z; cases z
  · rcases S'.gn a h with z | z | z
    · rcases S.gn a z with y | y | ⟨xs, y⟩
      · exact .inl y
      · exact .inr (.inl y)
      · exact .inr (.inr ⟨xs, S'.gr _ _ y⟩)
    · exact .inr (.inl (S.nn a z))
    · exact .inr (.inr z)
  · rcases List.mem_append.mp hm with hm | hm
    · obtain ⟨h1, h2⟩ := S'.own m (List.mem_append_left _ hm)
      have n := np m hm
      refine ⟨?_, h2⟩
      obtain ⟨x, c⟩ := m
      cases c with
      | is o => exact ⟨h1.1, S.nn _ h1.2⟩
      | pot =>
        obtain ⟨q, z | z⟩ := h1
        · exact absurd (List.mem_singleton.mp z) n
        · exact ⟨q, .inr (S.nn _ z)⟩
    · obtain ⟨j, hj⟩ := List.mem_iff_getElem?.mp hm
      by_cases e : j = k
      · subst e
        rw [hk] at hj
        cases hj
        exact ⟨⟨pp.1.1, g2⟩, pp.2⟩
      · obtain ⟨h1, h2⟩ := S.own m hm
        refine ⟨Cel.mono h1 S'.gr fun u hu => ex _ u (nd_of_ne S.nd hk hj e) hu, ?_⟩
        cases q : F' m.1 with
        | none => rfl
        | some u =>
          rcases S'.gn m.1 (Hp.some_ne q) with z | z | ⟨xs, z⟩
          · exact absurd h2 z
          · exact absurd z (Cel.nz h1)
          · have z2 := S'.fr _ _ z
            exact (Cel.noTup h1 (S.nt m hm) (fun u hu => ex _ u (nd_of_ne S.nd hk hj e) hu) z2).elim
  · rw [List.map_append]
    refine List.nodup_append.mpr ⟨S'.nd.sublist ((List.sublist_append_left N _).map _), S.nd, ?_⟩
    intro x hx y hy e
    obtain ⟨m, hm, rfl⟩ := List.mem_map.mp hx
    obtain ⟨n, hn, rfl⟩ := List.mem_map.mp hy
    have h1 := (S'.own m (List.mem_append_left _ hm)).1
    have h2 := Cel.nz (S.own n hn).1
    have n' := np m hm
    obtain ⟨x, c⟩ := m
    cases c with
    | is o => exact h2 (by rw [← e]; exact h1.2)
    | pot =>
      obtain ⟨q, z | z⟩ := h1
      · exact absurd (List.mem_singleton.mp z) n'
      · exact h2 (by rw [← e]; exact z)
/-- a tuple that stands is known to stay -/
theorem Sep.adopt (S : Sep io H0 F0 F H M) (hq : H a = some (.tup xs)) : ∃ F', Sep io H0 F0 F' H M ∧ Evl.Ex F F' ∧ F' a = some (.tup xs) := by
  cases e : F a with
  | some u =>
    have := S.fr _ _ e
    rw [hq] at this
    cases this
    exact ⟨F, S, Evl.Ex.refl _, e⟩
  | none =>
    refine ⟨upd F a (.tup xs), ⟨S.old, S.nn, S.gr.trans (Evl.Ex.new e), fun b h => ?_, fun b u h => ?_, fun m hm => ?_, S.nd, S.nt⟩, Evl.Ex.new e, upd_same⟩
    · by_cases q : b = a
      · subst q; exact .inr (.inr ⟨xs, upd_same⟩)
      · rw [upd_ne q] at h ⊢; exact S.gn b h
    · by_cases q : b = a
      · subst q; rw [upd_same] at h; cases h; exact hq
      · rw [upd_ne q] at h; exact S.fr b u h
    · obtain ⟨h1, h2⟩ := S.own m hm
      refine ⟨Cel.mono h1 (Evl.Ex.new e) fun _ z => z, ?_⟩
      by_cases q : m.1 = a
      · rw [← q] at hq
        exact (Cel.noTup h1 (S.nt m hm) (fun _ z => z) hq).elim
      · rw [upd_ne q]; exact h2
/-! reading -/
theorem Sep.rdL (S : Sep io H0 F0 F H M) (e : Evl.Ex F1 F) (h : SqL K F1 a xs) : SqL K H a xs := Evl.ex_l S.fr (Evl.ex_l e h)
theorem Sep.rdT (S : Sep io H0 F0 F H M) (e : Evl.Ex F1 F) (h : SqT K F1 a xs) : SqT K H a xs := Evl.ex_t S.fr (Evl.ex_t e h)
theorem Sep.rdC (S : Sep io H0 F0 F H M) (e : Evl.Ex F1 F) (h : F1 a = some o) : H a = some o := S.fr _ _ (e _ _ h)
theorem Sep.rdM (S : Sep io H0 F0 F H M) (k : Nat) (h : M[k]? = some (a, .is o)) : H a = some o := (S.own _ (mem_of_k h)).1.1
theorem Sep.rdD (S : Sep io H0 F0 F H M) (e : Evl.Ex F1 F) (h : Dp K F1 v d) : Dp K H v d := Dp.ex S.fr _ _ (Dp.ex e _ _ h)
theorem Sep.ex (S : Sep [] H0 F0 F H M) : Evl.Ex H0 H := fun a o h => S.old a o h (by simp)
end
/-! ### new things -/
def newK (H : Hp) (o : HO) (Q : VK) : Prop := ∀ p, H p = none → Q (.ref p) (upd H p o)
section
variable {io : List Addr} {H0 F0 F H : Hp} {M : List (Addr × Cel)} {K : PySem.W.Frag} {o : HO} {Q : VK} {σ : L2.St} {ta : TA} {te : TE}
theorem s_new (S : Sep io H0 F0 F H M) (k : ∀ p F' H', Sep io H0 F0 F' H' M → Evl.Ex F F' → F' p = some o → Q (.ref p) H') : newK H o Q := fun p hp =>
  k p _ _ (S.newF hp o) (Evl.Ex.new (S.fnone hp)) upd_same
theorem s_own (S : Sep io H0 F0 F H M) (k : ∀ p H', Sep io H0 F0 F H' ((p, .is o) :: M) → Q (.ref p) H') (nt : NoTup o := by exact True.intro) : newK H o Q := fun p hp => k p _ (S.newM hp o nt)
theorem s_tup (h : ta σ H fun xs H1 => xs.length ≤ sizeLine ∧ newK H1 (.tup xs) Q) : tTup ta σ H Q := h
theorem s_lst (h : ta σ H fun xs H1 => xs.length ≤ sizeLine ∧ newK H1 (.lst xs) Q) : tLst ta σ H Q := h
end
/-! ### calls -/
def SpF {α : Type} (A : α → List V → Hp → Prop) (B : α → V → List (Addr × Cel) → Hp → Prop) : Sp := fun vs H Q _ => ∃ (x : α) (F : Hp), Evl.Ex F H ∧ A x vs F ∧
  ∀ (v : V) (N : List (Addr × Cel)) (F' H' : Hp), Sep [] H F F' H' N → B x v N F' → Q v H'
def SpP {α : Type} (A : α → List V → Hp → Prop) (B : α → V → List (Addr × Cel) → Hp → Prop) : Sp := fun vs H Q _ => ∃ (x : α) (F : Hp) (p : Addr) (r : List V), vs = .ref p :: r ∧ Evl.Ex F H ∧ F p = none ∧ PotS F H p ∧ A x r F ∧
  ∀ (v : V) (N : List (Addr × Cel)) (F' H' : Hp), Sep [p] H F F' H' (N ++ [(p, .pot)]) → B x v N F' → Q v H'
section
variable {io : List Addr} {H0 F0 F H : Hp} {M : List (Addr × Cel)} {Q : VK} {E : XK} {α : Type} {A : α → List V → Hp → Prop} {B : α → V → List (Addr × Cel) → Hp → Prop} {vs : List V} {p : Addr}
theorem r_callF (S : Sep io H0 F0 F H M) (x : α) (a : A x vs F) (k : ∀ v N F' H', Sep io H0 F0 F' H' (N ++ M) → Evl.Ex F F' → B x v N F' → Q v H') : SpF A B vs H Q E :=
  ⟨x, F, S.fr, a, fun v N F' H' S' b => k v N F' H' (S.comp S') S'.gr b⟩
theorem r_callP (S : Sep io H0 F0 F H M) (j : Nat) (hj : M[j]? = some (p, .pot)) (x : α) (a : A x vs F) (k : ∀ v N F' H', Sep io H0 F0 F' H' (N ++ M) → Evl.Ex F F' → B x v N F' → Q v H') : SpP A B (.ref p :: vs) H Q E :=
  ⟨x, F, p, vs, rfl, S.fr, (S.own _ (mem_of_k hj)).2, (S.own _ (mem_of_k hj)).1.1, a, fun v N F' H' S' b => k v N F' H' (S.compP j hj S') S'.gr b⟩
end
/-! ### loops -/
/-- at turn i of a loop -/
def LI (io : List Addr) (H0 F0 F : Hp) (I : Nat → L2.St → Hp → List (Addr × Cel) → Prop) (i : Nat) : L2.St → Hp → Prop := fun σ H => ∃ F' M', Sep io H0 F0 F' H M' ∧ Evl.Ex F F' ∧ I i σ F' M'
theorem LI.mk {io : List Addr} {H0 F0 F F' H : Hp} {M : List (Addr × Cel)} {I : Nat → L2.St → Hp → List (Addr × Cel) → Prop} {i : Nat} {σ : L2.St} (S : Sep io H0 F0 F' H M) (e : Evl.Ex F F') (h : I i σ F' M) : LI io H0 F0 F I i σ H := ⟨F', M, S, e, h⟩
section
variable {io : List Addr} {H0 F0 F H : Hp} {M : List (Addr × Cel)} {K : PySem.W.Frag} {g : TG} {tb : TS} {D : Ends} {σ : L2.St} {a b : Addr} {xs ys : List V} {ns : List Int} {ds : List PyData} (I : Nat → L2.St → Hp → List (Addr × Cel) → Prop)
abbrev Body (io : List Addr) (H0 F0 F : Hp) (I : Nat → L2.St → Hp → List (Addr × Cel) → Prop) (D : Ends) (g : TG) (tb : TS) (i : Nat) (x : V) (σ' : L2.St) (H' : Hp) : Prop :=
  g x σ' H' fun σ2 H2 => tb { D with nx := LI io H0 F0 F I (i + 1), ct := LI io H0 F0 F I (i + 1), bk := D.nx } σ2 H2
abbrev ForW (J : It) (D : Ends) (g : TG) (tb : TS) (σ : L2.St) (H : Hp) : Prop := ∃ W : Nat → Nat → L2.St → Hp → Prop, (∃ m, W 0 m σ H) ∧ ∀ i m σ H, W i m σ H →
      (J.stop i H ∧ D.nx σ H) ∨ (J.go i H ∧ ∃ N : L2.St → Hp → Prop, (∀ σ' H', N σ' H' → ∃ m', m' < m ∧ W (i + 1) m' σ' H') ∧ ∀ x H', J.yld i H x H' → g x σ H' fun σ2 H2 => tb { D with nx := N, ct := N, bk := D.nx } σ2 H2)
/-- over a list that stays -/
theorem s_forL (S : Sep io H0 F0 F H M) (hs : SqL K F a xs) (h0 : I 0 σ F M)
    (hb : ∀ i x σ' F' H' M', xs[i]? = some x → Sep io H0 F0 F' H' M' → Evl.Ex F F' → I i σ' F' M' → Body io H0 F0 F I D g tb i x σ' H')
    (hd : ∀ σ' F' H' M', Sep io H0 F0 F' H' M' → Evl.Ex F F' → I xs.length σ' F' M' → D.nx σ' H') : ForW (Itl K a) D g tb σ H := by
  refine for_it (walk_list (xs := xs)) (LI io H0 F0 F I) ⟨F, M, S, Evl.Ex.refl _, h0⟩ ?_ ?_ ?_
  · rintro i σ' H' _ ⟨F', M', S', e, _⟩
    exact S'.rdL e hs
  · rintro i x σ' H' H'' hi ⟨F', M', S', e, h⟩ ⟨rfl, ex⟩
    exact hb i x σ' F' H'' M' ex S' e h
  · rintro σ' H' ⟨F', M', S', e, h⟩
    exact hd σ' F' H' M' S' e h
/-- over a list that is told at each turn -/
theorem s_forO (S : Sep io H0 F0 F H M) (h0 : I 0 σ F M) (hs : ∀ i σ' F' H' M', Sep io H0 F0 F' H' M' → Evl.Ex F F' → I i σ' F' M' → SqL K H' a xs)
    (hb : ∀ i x σ' F' H' M', xs[i]? = some x → Sep io H0 F0 F' H' M' → Evl.Ex F F' → I i σ' F' M' → Body io H0 F0 F I D g tb i x σ' H')
    (hd : ∀ σ' F' H' M', Sep io H0 F0 F' H' M' → Evl.Ex F F' → I xs.length σ' F' M' → D.nx σ' H') : ForW (Itl K a) D g tb σ H := by
  refine for_it (walk_list (xs := xs)) (LI io H0 F0 F I) ⟨F, M, S, Evl.Ex.refl _, h0⟩ ?_ ?_ ?_
  · rintro i σ' H' _ ⟨F', M', S', e, h⟩
    exact hs i σ' F' H' M' S' e h
  · rintro i x σ' H' H'' hi ⟨F', M', S', e, h⟩ ⟨rfl, ex⟩
    exact hb i x σ' F' H'' M' ex S' e h
  · rintro σ' H' ⟨F', M', S', e, h⟩
    exact hd σ' F' H' M' S' e h
theorem s_forT (S : Sep io H0 F0 F H M) (hs : SqT K F a xs) (h0 : I 0 σ F M)
    (hb : ∀ i x σ' F' H' M', xs[i]? = some x → Sep io H0 F0 F' H' M' → Evl.Ex F F' → I i σ' F' M' → Body io H0 F0 F I D g tb i x σ' H')
    (hd : ∀ σ' F' H' M', Sep io H0 F0 F' H' M' → Evl.Ex F F' → I xs.length σ' F' M' → D.nx σ' H') : ForW (Itt K a) D g tb σ H := by
  refine for_it (walk_tup (xs := xs)) (LI io H0 F0 F I) ⟨F, M, S, Evl.Ex.refl _, h0⟩ ?_ ?_ ?_
  · rintro i σ' H' _ ⟨F', M', S', e, _⟩
    exact S'.rdT e hs
  · rintro i x σ' H' H'' hi ⟨F', M', S', e, h⟩ ⟨rfl, ex⟩
    exact hb i x σ' F' H'' M' ex S' e h
  · rintro σ' H' ⟨F', M', S', e, h⟩
    exact hd σ' F' H' M' S' e h
theorem s_forR {lo : Int} {n : Nat} (S : Sep io H0 F0 F H M) (h0 : I 0 σ F M)
    (hb : ∀ i σ' F' H' M', i < n → Sep io H0 F0 F' H' M' → Evl.Ex F F' → I i σ' F' M' → Body io H0 F0 F I D g tb i (.int (lo + (i : Int))) σ' H')
    (hd : ∀ σ' F' H' M', Sep io H0 F0 F' H' M' → Evl.Ex F F' → I n σ' F' M' → D.nx σ' H') : ForW (Itr lo n) D g tb σ H := by
  refine for_it walk_range (LI io H0 F0 F I) ⟨F, M, S, Evl.Ex.refl _, h0⟩ (fun _ _ _ _ _ => trivial) ?_ ?_
  · rintro i x σ' H' H'' hi ⟨F', M', S', e, h⟩ ⟨rfl, rfl⟩
    exact hb i σ' F' H'' M' hi S' e h
  · rintro σ' H' ⟨F', M', S', e, h⟩
    exact hd σ' F' H' M' S' e h
/-- enumerate(list): a new pair each turn -/
theorem s_forE (S : Sep io H0 F0 F H M) (hs : SqL K F a xs) (h0 : I 0 σ F M)
    (hb : ∀ (i : Nat) (x : V) t σ' F1 F' H' M', xs[i]? = some x → Sep io H0 F0 F' H' M' → Evl.Ex F F1 → Evl.Ex F1 F' → F' t = some (.tup [.int (i : Int), x]) → I i σ' F1 M' → Body io H0 F0 F I D g tb i (.ref t) σ' H')
    (hd : ∀ σ' F' H' M', Sep io H0 F0 F' H' M' → Evl.Ex F F' → I xs.length σ' F' M' → D.nx σ' H') : ForW (Ite K a) D g tb σ H := by
  refine for_it (walk_enum (xs := xs)) (LI io H0 F0 F I) ⟨F, M, S, Evl.Ex.refl _, h0⟩ ?_ ?_ ?_
  · rintro i σ' H' _ ⟨F', M', S', e, _⟩
    exact S'.rdL e hs
  · rintro i x σ' H' H'' hi ⟨F', M', S', e, h⟩ ⟨t, x1, x2, rfl, ht, rfl, e1, e2⟩
    cases e1
    exact hb i x2 t σ' F' _ _ M' e2 (S'.newF ht _) e (Evl.Ex.new (S'.fnone ht)) upd_same h
  · rintro σ' H' ⟨F', M', S', e, h⟩
    exact hd σ' F' H' M' S' e h
/-- zip of two lists -/
theorem s_forZ {n : Nat} (hn : n = min xs.length ys.length) (S : Sep io H0 F0 F H M) (hs : SqL K F a xs) (hy : SqL K F b ys) (h0 : I 0 σ F M)
    (hb : ∀ i x y t σ' F1 F' H' M', xs[i]? = some x → ys[i]? = some y → Sep io H0 F0 F' H' M' → Evl.Ex F F1 → Evl.Ex F1 F' → F' t = some (.tup [x, y]) → I i σ' F1 M' → Body io H0 F0 F I D g tb i (.ref t) σ' H')
    (hd : ∀ σ' F' H' M', Sep io H0 F0 F' H' M' → Evl.Ex F F' → I n σ' F' M' → D.nx σ' H') : ForW (Itz K a b) D g tb σ H := by
  refine for_it (walk_zip hn) (LI io H0 F0 F I) ⟨F, M, S, Evl.Ex.refl _, h0⟩ ?_ ?_ ?_
  · rintro i σ' H' _ ⟨F', M', S', e, _⟩
    exact ⟨S'.rdL e hs, S'.rdL e hy⟩
  · rintro i x σ' H' H'' hi ⟨F', M', S', e, h⟩ ⟨t, x1, x2, rfl, ht, rfl, e1, e2⟩
    exact hb i x1 x2 t σ' F' _ _ M' e1 e2 (S'.newF ht _) e (Evl.Ex.new (S'.fnone ht)) upd_same h
  · rintro σ' H' ⟨F', M', S', e, h⟩
    exact hd σ' F' H' M' S' e h
/-- while -/
theorem s_while {c : TT} (Iw : Nat → L2.St → Hp → List (Addr × Cel) → Prop) (S : Sep io H0 F0 F H M) (m : Nat) (h0 : Iw m σ F M)
    (hb : ∀ m σ' F' H' M', Sep io H0 F0 F' H' M' → Evl.Ex F F' → Iw m σ' F' M' → c σ' H' fun t H1 => if t = true then ∃ N : L2.St → Hp → Prop, (∀ σ' H', N σ' H' → ∃ m', m' < m ∧ LI io H0 F0 F Iw m' σ' H') ∧ tb { D with nx := N, ct := N, bk := D.nx } σ' H1 else D.nx σ' H1) : tWhile c tb D σ H := by
  refine ⟨LI io H0 F0 F Iw, ⟨m, F, M, S, Evl.Ex.refl _, h0⟩, ?_⟩
  rintro m σ' H' ⟨F', M', S', e, h⟩
  exact hb m σ' F' H' M' S' e h
end
def lcK (J : It) (g : TG) (tt : TT) (te : TE) (vs : List Nat) (σ : L2.St) (H1 : Hp) (Q : VK) : Prop := ∀ D, H1 D = none → ∃ W : Nat → Nat → Hp → Prop, (∃ m, W 0 m (upd H1 D (.lst []))) ∧ ∀ i m H, W i m H →
  (J.stop i H ∧ Q (.ref D) H) ∨ (J.go i H ∧ ∃ Nx : Hp → Prop, (∀ H', Nx H' → ∃ m', m' < m ∧ W (i + 1) m' H') ∧ ∀ x H', J.yld i H x H' → g x (wipe σ vs) H' fun σ2 H2 => wipe σ2 vs = wipe σ vs ∧ tt σ2 H2 fun b H3 =>
    if b = true then te σ2 H3 fun y H4 => ∃ acc, H4 D = some (.lst acc) ∧ acc.length < sizeLine ∧ Nx (upd H4 D (.lst (acc ++ [y]))) else Nx H3)
/-- what a loop, a comprehension goes over: the things as, told by X -/
def Src {α : Type} (J : It) (io : List Addr) (H0 F0 F : Hp) (L : List (Addr × Cel)) (as : List α) (X : α → V → Hp → Prop) : Prop := ∃ (G : Hp → Prop) (Y : Nat → Hp → V → Hp → Prop), Walk J as.length G Y ∧
  (∀ F' H' M', Sep io H0 F0 F' H' M' → Evl.Ex F F' → (∀ m ∈ L, m ∈ M') → G H') ∧
  ∀ i a x F' H' H'' M', as[i]? = some a → Sep io H0 F0 F' H' M' → Evl.Ex F F' → (∀ m ∈ L, m ∈ M') → Y i H' x H'' → ∃ F'', Sep io H0 F0 F'' H'' M' ∧ Evl.Ex F' F'' ∧ X a x F''
section
variable {io : List Addr} {H0 F0 F H : Hp} {M L : List (Addr × Cel)} {K : PySem.W.Frag} {a b : Addr} {xs ys : List V} {ns : List Int} {α : Type} {as : List α} {da : α → PyData}
theorem srcV (h : SqL K F b xs) : Src (Itl K b) io H0 F0 F [] xs (fun a x _ => x = a) :=
  ⟨_, _, walk_list, fun F' H' M' S e _ => S.rdL e h, fun i a x F' H' H'' M' ha S e _ y => by
    obtain ⟨rfl, y⟩ := y
    rw [ha] at y
    exact ⟨F', S, Evl.Ex.refl _, (Option.some.inj y).symm⟩⟩
theorem srcVT (h : SqT K F b xs) : Src (Itt K b) io H0 F0 F [] xs (fun a x _ => x = a) :=
  ⟨_, _, walk_tup, fun F' H' M' S e _ => S.rdT e h, fun i a x F' H' H'' M' ha S e _ y => by
    obtain ⟨rfl, y⟩ := y
    rw [ha] at y
    exact ⟨F', S, Evl.Ex.refl _, (Option.some.inj y).symm⟩⟩
theorem srcM : Src (Itl K b) io H0 F0 F [(b, .is (.lst xs))] xs (fun a x _ => x = a) :=
  ⟨_, _, walk_list, fun F' H' M' S e hm => SqL.of (S.own _ (hm _ List.mem_cons_self)).1.1, fun i a x F' H' H'' M' ha S e _ y => by
    obtain ⟨rfl, y⟩ := y
    rw [ha] at y
    exact ⟨F', S, Evl.Ex.refl _, (Option.some.inj y).symm⟩⟩
/-- items by a function of the things -/
theorem Src.map {J : It} {β : Type} {bs : List β} {r : β → α} {X : α → V → Hp → Prop} (s : Src J io H0 F0 F L (bs.map r) X) : Src J io H0 F0 F L bs (fun b => X (r b)) := by
  obtain ⟨G, Y, w, h1, h2⟩ := s
  rw [List.length_map] at w
  exact ⟨G, Y, w, h1, fun i a x F' H' H'' M' ha => h2 i (r a) x F' H' H'' M' (by rw [List.getElem?_map, ha]; rfl)⟩
theorem srcI (h : SqL K F b (ns.map V.int)) : Src (Itl K b) io H0 F0 F [] ns (fun a x _ => x = .int a) := (srcV h).map
theorem srcMI : Src (Itl K b) io H0 F0 F [(b, .is (.lst (ns.map V.int)))] ns (fun a x _ => x = .int a) := Src.map srcM
theorem dpAll_at {H : Hp} : ∀ {xs : List V} {ds : List PyData} {i : Nat} {d : PyData}, DpAll K H xs ds → ds[i]? = some d → ∃ x, xs[i]? = some x ∧ Dp K H x d
  | _, _, _, _, .nil, h => by simp at h
  | _, _, 0, _, .cons h _, e => by cases (Option.some.inj e); exact ⟨_, rfl, h⟩
  | _, _, i + 1, d, .cons _ t, e => by
    obtain ⟨x, h1, h2⟩ := dpAll_at (i := i) t (by simpa using e)
    exact ⟨x, by simpa using h1, h2⟩
theorem srcD (h : SqL K F b xs) (hd : DpAll K F xs (as.map da)) : Src (Itl K b) io H0 F0 F [] as (fun a x F' => Dp K F' x (da a)) := by
  have hl := (dpAll_get hd).1
  rw [List.length_map] at hl
  refine ⟨_, _, hl ▸ walk_list (xs := xs), fun F' H' M' S e _ => S.rdL e h, fun i a x F' H' H'' M' ha S e _ y => ?_⟩
  obtain ⟨rfl, y⟩ := y
  obtain ⟨x', h1, h2⟩ := dpAll_at hd (i := i) (d := da a) (by rw [List.getElem?_map, ha]; rfl)
  rw [h1] at y
  cases y
  exact ⟨F', S, Evl.Ex.refl _, Dp.ex e _ _ h2⟩
theorem srcDT (h : SqT K F b xs) (hd : DpAll K F xs (as.map da)) : Src (Itt K b) io H0 F0 F [] as (fun a x F' => Dp K F' x (da a)) := by
  have hl := (dpAll_get hd).1
  rw [List.length_map] at hl
  refine ⟨_, _, hl ▸ walk_tup (xs := xs), fun F' H' M' S e _ => S.rdT e h, fun i a x F' H' H'' M' ha S e _ y => ?_⟩
  obtain ⟨rfl, y⟩ := y
  obtain ⟨x', h1, h2⟩ := dpAll_at hd (i := i) (d := da a) (by rw [List.getElem?_map, ha]; rfl)
  rw [h1] at y
  cases y
  exact ⟨F', S, Evl.Ex.refl _, Dp.ex e _ _ h2⟩
/-- a list of one's own, its things told -/
theorem srcMD (hd : DpAll K F xs (as.map da)) : Src (Itl K b) io H0 F0 F [(b, .is (.lst xs))] as (fun a x F' => Dp K F' x (da a)) := by
  have hl := (dpAll_get hd).1
  rw [List.length_map] at hl
  refine ⟨_, _, hl ▸ walk_list (xs := xs), fun F' H' M' S e hm => SqL.of (S.own _ (hm _ List.mem_cons_self)).1.1, fun i a x F' H' H'' M' ha S e _ y => ?_⟩
  obtain ⟨rfl, y⟩ := y
  obtain ⟨x', h1, h2⟩ := dpAll_at hd (i := i) (d := da a) (by rw [List.getElem?_map, ha]; rfl)
  rw [h1] at y
  cases y
  exact ⟨F', S, Evl.Ex.refl _, Dp.ex e _ _ h2⟩
theorem srcR {lo : Int} {n : Nat} : Src (Itr lo n) io H0 F0 F [] ((List.range n).map fun i : Nat => lo + (i : Int)) (fun a x _ => x = .int a) := by
  refine ⟨_, _, by rw [List.length_map, List.length_range]; exact walk_range, fun F' H' M' S e _ => trivial, fun i a x F' H' H'' M' ha S e _ y => ?_⟩
  obtain ⟨rfl, rfl⟩ := y
  rw [List.getElem?_map] at ha
  cases q : (List.range n)[i]? with
  | none => rw [q] at ha; cases ha
  | some j =>
    rw [q] at ha
    cases ha
    have := List.getElem?_eq_some_iff.mp q
    obtain ⟨h1, h2⟩ := this
    rw [List.getElem_range] at h2
    subst h2
    exact ⟨F', S, Evl.Ex.refl _, rfl⟩
theorem srcRG {n : Int} : Src (Itr 0 n.toNat) io H0 F0 F [] (rgI n) (fun a x _ => x = .int a) := by
  have h := srcR (io := io) (H0 := H0) (F0 := F0) (F := F) (lo := 0) (n := n.toNat)
  have e : ((List.range n.toNat).map fun i : Nat => (0 : Int) + (i : Int)) = rgI n := by
    unfold rgI
    refine List.map_congr_left fun i _ => ?_
    omega
  rw [e] at h
  exact h
theorem srcE (h : SqL K F b xs) : Src (Ite K b) io H0 F0 F [] xs.zipIdx (fun a x F' => ∃ t, x = .ref t ∧ F' t = some (.tup [.int (a.2 : Int), a.1])) := by
  refine ⟨_, _, by rw [List.length_zipIdx]; exact walk_enum (xs := xs), fun F' H' M' S e _ => S.rdL e h, fun i a x F' H' H'' M' ha S e _ y => ?_⟩
  obtain ⟨t, x1, x2, rfl, ht, rfl, e1, e2⟩ := y
  cases e1
  have e2 : xs[i]? = some x2 := e2
  rw [List.getElem?_zipIdx, e2] at ha
  cases ha
  refine ⟨_, S.newF ht _, Evl.Ex.new (S.fnone ht), t, rfl, ?_⟩
  rw [upd_same]
  simp
theorem srcZ (h : SqL K F a xs) (g : SqL K F b ys) : Src (Itz K a b) io H0 F0 F [] (xs.zip ys) (fun p x F' => ∃ t, x = .ref t ∧ F' t = some (.tup [p.1, p.2])) := by
  refine ⟨_, _, walk_zip (xs := xs) (ys := ys) List.length_zip, fun F' H' M' S e _ => ⟨S.rdL e h, S.rdL e g⟩, fun i p x F' H' H'' M' ha S e _ y => ?_⟩
  obtain ⟨t, x1, x2, rfl, ht, rfl, e1, e2⟩ := y
  have e1 : xs[i]? = some x1 := e1
  have e2 : ys[i]? = some x2 := e2
  rw [List.getElem?_zip_eq_some] at ha
  rw [e1, e2] at ha
  obtain ⟨z1, z2⟩ := ha
  cases z1
  cases z2
  exact ⟨_, S.newF ht _, Evl.Ex.new (S.fnone ht), t, rfl, upd_same⟩
end
/-! ### for over a source -/
section
variable {io : List Addr} {H0 F0 F H : Hp} {M L : List (Addr × Cel)} {g : TG} {tb : TS} {D : Ends} {σ : L2.St} {J : It} {α : Type} {as : List α} {X : α → V → Hp → Prop} (I : Nat → L2.St → Hp → List (Addr × Cel) → Prop)
theorem s_for (src : Src J io H0 F0 F L as X) (S : Sep io H0 F0 F H M) (h0 : I 0 σ F M) (hL : ∀ i σ' F' M', I i σ' F' M' → ∀ m ∈ L, m ∈ M')
    (hb : ∀ (i : Nat) (a : α) x σ' F1 F' H' M', as[i]? = some a → Sep io H0 F0 F' H' M' → Evl.Ex F F1 → Evl.Ex F1 F' → X a x F' → I i σ' F1 M' → Body io H0 F0 F I D g tb i x σ' H')
    (hd : ∀ σ' F' H' M', Sep io H0 F0 F' H' M' → Evl.Ex F F' → I as.length σ' F' M' → D.nx σ' H') : ForW J D g tb σ H := by
  obtain ⟨G, Y, w, s1, s2⟩ := src
  refine for_it w (LI io H0 F0 F I) ⟨F, M, S, Evl.Ex.refl _, h0⟩ ?_ ?_ ?_
  · rintro i σ' H' _ ⟨F', M', S', e, h⟩
    exact s1 F' H' M' S' e (hL i σ' F' M' h)
  · rintro i x σ' H' H'' hi ⟨F', M', S', e, h⟩ y
    obtain ⟨F'', S'', e2, hx⟩ := s2 i as[i] x F' H' H'' M' (List.getElem?_eq_getElem hi) S' e (hL i σ' F' M' h) y
    exact hb i as[i] x σ' F' F'' H'' M' (List.getElem?_eq_getElem hi) S'' e e2 hx h
  · rintro σ' H' ⟨F', M', S', e, h⟩
    exact hd σ' F' H' M' S' e h
end
/-! ### comprehensions -/
/-- at turn i of a comprehension -/
def CI (io : List Addr) (H0 F0 F : Hp) (D : Addr) (I : Nat → List V → Hp → List (Addr × Cel) → Prop) (i : Nat) (H : Hp) : Prop := ∃ acc F' M', Sep io H0 F0 F' H ((D, .is (.lst acc)) :: M') ∧ Evl.Ex F F' ∧ I i acc F' M'
def PutK (D : Addr) (P : Hp → Prop) (y : V) (H4 : Hp) : Prop := ∃ acc, H4 D = some (.lst acc) ∧ acc.length < sizeLine ∧ P (upd H4 D (.lst (acc ++ [y])))
section
variable {io : List Addr} {H0 F0 F H : Hp} {M L : List (Addr × Cel)} {K : PySem.W.Frag} {g : TG} {tt : TT} {te : TE} {σ : L2.St} {wi : TI} {Q : VK} {vs : List Nat} {J : It} {α : Type} {as : List α} {X : α → V → Hp → Prop}
theorem s_lc (h : wi σ H fun J H1 => lcK J g tt te vs σ H1 Q) : tLc wi g tt te vs σ H Q := h
theorem CI.put {I : Nat → List V → Hp → List (Addr × Cel) → Prop} {i : Nat} {D : Addr} {acc : List V} {F' H' : Hp} {M' : List (Addr × Cel)} {y : V} (S : Sep io H0 F0 F' H' ((D, .is (.lst acc)) :: M')) (e : Evl.Ex F F') (hl : acc.length < 100000) (h : I (i + 1) (acc ++ [y]) F' M') : PutK D (CI io H0 F0 F D I (i + 1)) y H' :=
  ⟨acc, S.rdM 0 rfl, Evl.sz_lt hl, acc ++ [y], F', M', S.put 0 rfl _, e, h⟩
theorem CI.skip {I : Nat → List V → Hp → List (Addr × Cel) → Prop} {i : Nat} {D : Addr} {acc : List V} {F' H' : Hp} {M' : List (Addr × Cel)} (S : Sep io H0 F0 F' H' ((D, .is (.lst acc)) :: M')) (e : Evl.Ex F F') (h : I (i + 1) acc F' M') : CI io H0 F0 F D I (i + 1) H' := ⟨acc, F', M', S, e, h⟩
/-- the general one: I by the turn, what is made so far -/
theorem s_lcI (src : Src J io H0 F0 F L as X) (I : Nat → List V → Hp → List (Addr × Cel) → Prop) (S : Sep io H0 F0 F H M) (h0 : I 0 [] F M) (hL : ∀ i acc F' M', I i acc F' M' → ∀ m ∈ L, m ∈ M')
    (hb : ∀ (i : Nat) (a : α) x acc D F1 F' H' M', as[i]? = some a → Sep io H0 F0 F' H' ((D, .is (.lst acc)) :: M') → Evl.Ex F F1 → Evl.Ex F1 F' → X a x F' → I i acc F1 M' → g x (wipe σ vs) H' fun σ2 H2 => wipe σ2 vs = wipe σ vs ∧ tt σ2 H2 fun b H3 =>
      if b = true then te σ2 H3 (PutK D (CI io H0 F0 F D I (i + 1))) else CI io H0 F0 F D I (i + 1) H3)
    (hd : ∀ D acc F' H' M', Sep io H0 F0 F' H' ((D, .is (.lst acc)) :: M') → Evl.Ex F F' → I as.length acc F' M' → Q (.ref D) H') : lcK J g tt te vs σ H Q := by
  intro D hD
  obtain ⟨G, Y, w, s1, s2⟩ := src
  refine lc_it w (fun i H' => CI io H0 F0 F D I i H') ⟨[], F, M, S.newM hD _, Evl.Ex.refl _, h0⟩ ?_ ?_ ?_
  · rintro i H' _ ⟨acc, F', M', S', e, h⟩
    exact s1 F' H' _ S' e fun m hm => List.mem_cons_of_mem _ (hL i acc F' M' h m hm)
  · rintro i x H' H'' hi ⟨acc, F', M', S', e, h⟩ y
    obtain ⟨F'', S'', e2, hx⟩ := s2 i as[i] x F' H' H'' _ (List.getElem?_eq_getElem hi) S' e (fun m hm => List.mem_cons_of_mem _ (hL i acc F' M' h m hm)) y
    exact hb i as[i] x acc D F' F'' H'' M' (List.getElem?_eq_getElem hi) S'' e e2 hx h
  · rintro H' ⟨acc, F', M', S', e, h⟩
    exact hd D acc F' H' M' S' e h
/-- values: (those of as that f takes) by gg -/
structure VT {α : Type} (as : List α) (f : α → Bool) (gg : α → V) (i : Nat) (a : α) (acc : List V) : Prop where
  at' : as[i]? = some a
  acc' : acc = ((as.take i).filter f).map gg
  few : as.length ≤ 99999
abbrev IV {α : Type} (M : List (Addr × Cel)) (as : List α) (f : α → Bool) (gg : α → V) : Nat → List V → Hp → List (Addr × Cel) → Prop := fun i acc _ M' => M' = M ∧ acc = ((as.take i).filter f).map gg
section
variable {f : α → Bool} {gg : α → V} {i : Nat} {a : α} {acc : List V} {D : Addr} {F' H' : Hp} {y : V}
theorem VT.put (t : VT as f gg i a acc) (S : Sep io H0 F0 F' H' ((D, .is (.lst acc)) :: M)) (e : Evl.Ex F F') (hf : f a = true) (hy : y = gg a) : PutK D (CI io H0 F0 F D (IV M as f gg) (i + 1)) y H' := by
  refine CI.put S e ?_ ⟨rfl, ?_⟩
  · rw [t.acc', List.length_map]
    have := List.length_filter_le f (as.take i)
    rw [List.length_take] at this
    have := t.few
    omega
  · rw [take_snoc t.at', List.filter_append, List.filter_cons, if_pos hf, List.map_append, t.acc', hy]
    rfl
theorem VT.skip (t : VT as f gg i a acc) (S : Sep io H0 F0 F' H' ((D, .is (.lst acc)) :: M)) (e : Evl.Ex F F') (hf : f a = false) : CI io H0 F0 F D (IV M as f gg) (i + 1) H' := by
  refine CI.skip S e ⟨rfl, ?_⟩
  rw [take_snoc t.at', List.filter_append, List.filter_cons, if_neg (by rw [hf]; decide), List.filter_nil, List.append_nil]
  exact t.acc'
end
theorem s_lcV (src : Src J io H0 F0 F L as X) (f : α → Bool) (gg : α → V) (S : Sep io H0 F0 F H M) (few : as.length ≤ 99999) (hL : ∀ m ∈ L, m ∈ M)
    (hb : ∀ (i : Nat) (a : α) x acc D F' H', VT as f gg i a acc → Sep io H0 F0 F' H' ((D, .is (.lst acc)) :: M) → Evl.Ex F F' → X a x F' → g x (wipe σ vs) H' fun σ2 H2 => wipe σ2 vs = wipe σ vs ∧ tt σ2 H2 fun b H3 =>
      if b = true then te σ2 H3 (PutK D (CI io H0 F0 F D (IV M as f gg) (i + 1))) else CI io H0 F0 F D (IV M as f gg) (i + 1) H3)
    (hd : ∀ D F' H', Sep io H0 F0 F' H' ((D, .is (.lst ((as.filter f).map gg))) :: M) → Evl.Ex F F' → Q (.ref D) H') : lcK J g tt te vs σ H Q := by
  refine s_lcI src (IV M as f gg) S ⟨rfl, rfl⟩ (fun i acc F' M' h => by rw [h.1]; exact hL) ?_ ?_
  · rintro i a x acc D F1 F' H' M' ha S' e1 e2 hx ⟨rfl, h⟩
    exact hb i a x acc D F' H' ⟨ha, h, few⟩ S' (e1.trans e2) hx
  · rintro D acc F' H' M' S' e ⟨rfl, h⟩
    rw [List.take_length] at h
    subst h
    exact hd D F' H' S' e
/-- data -/
structure DT {α : Type} (K : PySem.W.Frag) (as : List α) (f : α → Bool) (gg : α → PyData) (i : Nat) (a : α) (acc : List V) (F' : Hp) : Prop where
  at' : as[i]? = some a
  acc' : DpAll K F' acc (((as.take i).filter f).map gg)
  few : as.length ≤ 99999
abbrev ID {α : Type} (K : PySem.W.Frag) (M : List (Addr × Cel)) (as : List α) (f : α → Bool) (gg : α → PyData) : Nat → List V → Hp → List (Addr × Cel) → Prop := fun i acc F' M' => M' = M ∧ DpAll K F' acc (((as.take i).filter f).map gg)
theorem dpAll_app {H : Hp} : ∀ {xs ys : List V} {ds es : List PyData}, DpAll K H xs ds → DpAll K H ys es → DpAll K H (xs ++ ys) (ds ++ es)
  | _, _, _, _, .nil, h => h
  | _, _, _, _, .cons a t, h => .cons a (dpAll_app t h)
section
variable {f : α → Bool} {gg : α → PyData} {i : Nat} {a : α} {acc : List V} {D : Addr} {F1 F' H' : Hp} {y : V}
theorem DT.put (t : DT K as f gg i a acc F1) (S : Sep io H0 F0 F' H' ((D, .is (.lst acc)) :: M)) (e : Evl.Ex F F') (e1 : Evl.Ex F1 F') (hf : f a = true) (hy : Dp K F' y (gg a)) : PutK D (CI io H0 F0 F D (ID K M as f gg) (i + 1)) y H' := by
  refine CI.put S e ?_ ⟨rfl, ?_⟩
  · have := (dpAll_get t.acc').1
    rw [this, List.length_map]
    have := List.length_filter_le f (as.take i)
    rw [List.length_take] at this
    have := t.few
    omega
  · rw [take_snoc t.at', List.filter_append, List.filter_cons, if_pos hf, List.map_append]
    exact dpAll_app (DpAll.ex e1 _ _ t.acc') (.cons hy .nil)
theorem DT.skip (t : DT K as f gg i a acc F1) (S : Sep io H0 F0 F' H' ((D, .is (.lst acc)) :: M)) (e : Evl.Ex F F') (e1 : Evl.Ex F1 F') (hf : f a = false) : CI io H0 F0 F D (ID K M as f gg) (i + 1) H' := by
  refine CI.skip S e ⟨rfl, ?_⟩
  rw [take_snoc t.at', List.filter_append, List.filter_cons, if_neg (by rw [hf]; decide), List.filter_nil, List.append_nil]
  exact DpAll.ex e1 _ _ t.acc'
end
theorem s_lcD (src : Src J io H0 F0 F L as X) (f : α → Bool) (gg : α → PyData) (S : Sep io H0 F0 F H M) (few : as.length ≤ 99999) (hL : ∀ m ∈ L, m ∈ M)
    (hb : ∀ (i : Nat) (a : α) x acc D F' H', DT K as f gg i a acc F' → Sep io H0 F0 F' H' ((D, .is (.lst acc)) :: M) → Evl.Ex F F' → X a x F' → g x (wipe σ vs) H' fun σ2 H2 => wipe σ2 vs = wipe σ vs ∧ tt σ2 H2 fun b H3 =>
      if b = true then te σ2 H3 (PutK D (CI io H0 F0 F D (ID K M as f gg) (i + 1))) else CI io H0 F0 F D (ID K M as f gg) (i + 1) H3)
    (hd : ∀ D acc F' H', Sep io H0 F0 F' H' ((D, .is (.lst acc)) :: M) → Evl.Ex F F' → DpAll K F' acc ((as.filter f).map gg) → Q (.ref D) H') : lcK J g tt te vs σ H Q := by
  refine s_lcI src (ID K M as f gg) S ⟨rfl, .nil⟩ (fun i acc F' M' h => by rw [h.1]; exact hL) ?_ ?_
  · rintro i a x acc D F1 F' H' M' ha S' e1 e2 hx ⟨rfl, h⟩
    exact hb i a x acc D F' H' ⟨ha, DpAll.ex e2 _ _ h, few⟩ S' (e1.trans e2) hx
  · rintro D acc F' H' M' S' e ⟨rfl, h⟩
    rw [List.take_length] at h
    exact hd D acc F' H' S' e h
end
/-! ### calls that make things -/
def rListN (K : PySem.W.Frag) : List V → Hp → VK → Prop := fun xs H Q => ∃ p ys, xs = [.ref p] ∧ (SqL K H p ys ∨ SqT K H p ys) ∧ newK H (.lst ys) Q
theorem call_listN {X : Cx} : CallR X (.type "list") (rListN X.K) := call_list_of
theorem s_list {K : PySem.W.Frag} {H : Hp} {a : Addr} {xs : List V} {Q : VK} (hs : SqL K H a xs ∨ SqT K H a xs) (q : newK H (.lst xs) Q) : rListN K [.ref a] H Q := ⟨a, xs, rfl, hs, q⟩
def rTupN (K : PySem.W.Frag) : List V → Hp → VK → Prop := fun xs H Q => ∃ p ys, xs = [.ref p] ∧ SqL K H p ys ∧ newK H (.tup ys) Q
theorem call_tupN {X : Cx} : CallR X (.type "tuple") (rTupN X.K) := by
  intro pins s σ H xs us Q I r h
  obtain ⟨p, ys, e, h1, h2⟩ := h
  exact call_tuple_of pins s σ H xs us Q I r ⟨p, ys, e, .inl ⟨h1, h2⟩⟩
theorem s_tupN {K : PySem.W.Frag} {H : Hp} {a : Addr} {xs : List V} {Q : VK} (hs : SqL K H a xs) (q : newK H (.tup xs) Q) : rTupN K [.ref a] H Q := ⟨a, xs, rfl, hs, q⟩
def rSortN (K : PySem.W.Frag) : List V → Hp → VK → Prop := fun vs H Q => ∃ (a : Addr) (ns : List Int), vs = [V.ref a] ∧ SqL K H a (ns.map V.int) ∧
  ∀ (ns' : List Int), ns'.Perm ns → ns'.Pairwise (· ≤ ·) → newK H (.lst (ns'.map V.int)) Q
theorem cr_sortedN {X : Cx} : CallR X (.builtin "sorted") (rSortN X.K) := by
  intro pins s σ H xs us Q I r h
  obtain ⟨p, ys, e, h1, h2⟩ := h
  exact cr_sortedI pins s σ H xs us Q I r ⟨p, ys, e, h1, fun ns' q a b c => h2 ns' a b q c⟩
theorem s_sortN {K : PySem.W.Frag} {H : Hp} {a : Addr} {ns : List Int} {Q : VK} (hs : SqL K H a (ns.map V.int)) (q : ∀ (ns' : List Int), ns'.Perm ns → ns'.Pairwise (· ≤ ·) → newK H (.lst (ns'.map V.int)) Q) : rSortN K [.ref a] H Q := ⟨a, ns, rfl, hs, q⟩
/-- pairs, sorted -/
def rSortPN (K : PySem.W.Frag) : List V → Hp → VK → Prop := fun vs H Q => ∃ (a : Addr) (xs : List V) (k : V → Int × Int), vs = [V.ref a] ∧ SqL K H a xs ∧ (∀ x ∈ xs, ∃ t, x = V.ref t ∧ H t = some (.tup [.int (k x).1, .int (k x).2])) ∧
  ∀ ys, SrtO.Srtd (ltP k) ys → SrtO.Stb (ltP k) ys xs → newK H (.lst ys) Q
theorem cr_sortedPN {X : Cx} : CallR X (.builtin "sorted") (rSortPN X.K) := by
  intro pins s σ H xs us Q I r h
  obtain ⟨a, ys, k, e, h1, h2, h3⟩ := h
  exact cr_sortedPO pins s σ H xs us Q I r ⟨a, ys, k, e, h1, h2, fun zs p a b c => h3 zs a b p c⟩
theorem r_isNV {x : V} {H : Hp} {Q : VK} (q : Q (.bl (decide (x = .non))) H) : rIsNone x .non H Q := ⟨rfl, q⟩
theorem r_notNV {x : V} {H : Hp} {Q : VK} (q : Q (.bl (!decide (x = .non))) H) : rNotNone x .non H Q := ⟨rfl, q⟩
/-! ### lists -/
section
variable {io : List Addr} {H0 F0 F H : Hp} {M L : List (Addr × Cel)} {K : PySem.W.Frag} {Q : VK} {a b : Addr} {xs ys : List V} {y : V} {i : Int} {QH : Hp → Prop}
theorem s_app (S : Sep io H0 F0 F H M) (k : Nat) (hk : M[k]? = some (a, .is (.lst xs))) (hz : xs.length < 100000) (q : ∀ H', Sep io H0 F0 F H' (M.set k (a, .is (.lst (xs ++ [y])))) → Q .non H') : rAppend (.ref a) [y] H Q :=
  r_app (S.rdM k hk) hz (q _ (S.put k hk _))
theorem s_setL (S : Sep io H0 F0 F H M) (k : Nat) (hk : M[k]? = some (a, .is (.lst xs))) {j : Nat} (hj : ixN xs.length i = some j) (q : ∀ H', Sep io H0 F0 F H' (M.set k (a, .is (.lst (xs.set j y)))) → QH H') : rSetL (.ref a) (.int i) y H QH :=
  r_setL (S.rdM k hk) hj (q _ (S.put k hk _))
theorem s_popAt (S : Sep io H0 F0 F H M) (k : Nat) (hk : M[k]? = some (a, .is (.lst xs))) (h0 : 0 ≤ i) (h1 : i < (xs.length : Int)) (hs : xs.length ≤ 1000000) (hy : xs[i.toNat]? = some y) (q : ∀ H', Sep io H0 F0 F H' (M.set k (a, .is (.lst (xs.eraseIdx i.toNat)))) → Q y H') : rPopAt (.ref a) [.int i] H Q :=
  r_popAt (S.rdM k hk) h0 h1 hs hy (q _ (S.put k hk _))
theorem s_cat (h : H a = some (.lst xs)) (g : H b = some (.lst ys)) (hl : xs.length + ys.length ≤ 100000) (q : newK H (.lst (xs ++ ys)) Q) : rCat (.ref a) (.ref b) H Q := r_catG h g hl q
theorem s_slL {lo hi : Option Int} (h : SqL K H a xs) (q : newK H (.lst (cutV xs lo hi)) Q) : rSlL K (.ref a) lo hi H Q := r_slL h q
theorem s_lstRg {f : L2.St → Hp → (Int → Int → Hp → Prop) → Prop} {σ : L2.St} (h : f σ H fun a b H1 => RgOk a b ∧ newK H1 (.lst (rgV a b)) Q) : tLstRg f σ H Q := h
end
/-! ### from promises over the heap alone -/
/-- nothing that stood is changed; the new cells of L stay -/
theorem Sep.grow {F H H' : Hp} (fr : Evl.Ex F H) (e : Evl.Ex H H') (L : List Addr) (hL : ∀ a ∈ L, H a = none) : ∃ F', Sep [] H F F' H' [] ∧ Evl.Ex F F' ∧ ∀ a ∈ L, F' a = H' a := by
  have hF : ∀ a ∈ L, F a = none := fun a ha => by
    cases q : F a with
    | none => rfl
    | some o => have := hL a ha; rw [fr a o q] at this; cases this
  refine ⟨fun a => if a ∈ L then H' a else F a, ⟨fun a o h _ => e a o h, fun a h => ?_, fun a o h => ?_, fun a h => ?_, fun a o h => ?_, fun m hm => (by cases hm), List.nodup_nil, fun m hm => (by cases hm)⟩, fun a o h => ?_, fun a ha => if_pos ha⟩
  · cases q : H a with
    | none => rfl
    | some o => rw [e a o q] at h; cases h
  · show (if a ∈ L then H' a else F a) = some o
    rw [if_neg fun z => by rw [hF a z] at h; cases h]
    exact h
  · by_cases z : a ∈ L
    · exact .inr (.inl (hL a z))
    · exact .inl fun q => h (by show (if a ∈ L then H' a else F a) = none; rw [if_neg z]; exact q)
  · have h : (if a ∈ L then H' a else F a) = some o := h
    by_cases z : a ∈ L
    · rw [if_pos z] at h; exact h
    · rw [if_neg z] at h; exact e _ _ (fr _ _ h)
  · show (if a ∈ L then H' a else F a) = some o
    rw [if_neg fun z => by rw [hF a z] at h; cases h]
    exact h
theorem Sep.scal {F H H' : Hp} (fr : Evl.Ex F H) (e : Evl.Ex H H') : Sep [] H F F H' [] :=
  ⟨fun a o h _ => e a o h, fun a h => (by
    cases q : H a with
    | none => rfl
    | some o => rw [e a o q] at h; cases h), Evl.Ex.refl _, fun a h => .inl h, fun a o h => e _ _ (fr _ _ h), fun m hm => (by cases hm), List.nodup_nil, fun m hm => (by cases hm)⟩
/-! ### sets of one's own -/
section
variable {io : List Addr} {H0 F0 F H : Hp} {M : List (Addr × Cel)} {K : PySem.W.Frag} {w : World} {Q : VK} {a : Addr} {ns : List Int} {o : HO}
/-- set(xs), xs a list of ints -/
def rSetN (K : PySem.W.Frag) (w : World) : List V → Hp → VK → Prop := fun vs H Q => ∃ (a : Addr) (ns : List Int), vs = [.ref a] ∧ SqL K H a (ns.map V.int) ∧ ns.length ≤ 1000 ∧
  ∀ (q : Addr) (n : Nat), H q = none → n ≤ ns.length → Q (.ref q) (upd H q (SetO w q (fun j => decide (j ∈ ns)) n))
theorem cr_setN {X : Cx} (hc : X.calm = true) : CallR X (.type "set") (rSetN X.K X.w) := cr_setL hc
theorem s_setN (S : Sep io H0 F0 F H M) (h : SqL K H a (ns.map V.int)) (hl : ns.length ≤ 1000) (k : ∀ (q : Addr) (n : Nat) (F' H' : Hp), n ≤ ns.length → Sep io H0 F0 F' H' M → Evl.Ex F F' → F' q = some (SetO w q (fun j => decide (j ∈ ns)) n) → Q (.ref q) H') : rSetN K w [.ref a] H Q :=
  ⟨a, ns, rfl, h, hl, fun q n hq hn => k q n _ _ hn (S.newF hq _) (Evl.Ex.new (S.fnone hq)) upd_same⟩
/-- the set is one's own -/
theorem s_setM (S : Sep io H0 F0 F H M) (h : SqL K H a (ns.map V.int)) (hl : ns.length ≤ 1000) (k : ∀ (q : Addr) (n : Nat) (H' : Hp), n ≤ ns.length → Sep io H0 F0 F H' ((q, .is (SetO w q (fun j => decide (j ∈ ns)) n)) :: M) → Q (.ref q) H') : rSetN K w [.ref a] H Q :=
  ⟨a, ns, rfl, h, hl, fun q n hq hn => k q n _ hn (S.newM hq _)⟩
end
section
variable {io : List Addr} {H0 F0 F : Hp} {K : PySem.W.Frag} {b : Addr} {xs : List V} {ps : List (Int × Int)}
theorem TupsAt.get {H : Hp} : ∀ {xs : List V} {ps : List (Int × Int)} {i : Nat} {p : Int × Int}, TupsAt H xs ps → ps[i]? = some p → ∃ t, xs[i]? = some (.ref t) ∧ H t = some (.tup [.int p.1, .int p.2])
  | _, _, i, _, .nil, h => by simp at h
  | _, _, 0, p, .cons ⟨t, h1, h2⟩ r, e => by cases (Option.some.inj e); exact ⟨t, by rw [h1]; rfl, h2⟩
  | _, _, i + 1, p, .cons _ r, e => by
    obtain ⟨t, h1, h2⟩ := TupsAt.get (i := i) r (by simpa using e)
    exact ⟨t, by simpa using h1, h2⟩
theorem TupsAt.len {H : Hp} : ∀ {xs : List V} {ps : List (Int × Int)}, TupsAt H xs ps → xs.length = ps.length
  | _, _, .nil => rfl
  | _, _, .cons _ r => by rw [List.length_cons, List.length_cons, TupsAt.len r]
/-- a list of pairs -/
theorem srcP (h : SqL K F b xs) (ht : TupsAt F xs ps) : Src (Itl K b) io H0 F0 F [] ps (fun p x F' => ∃ t, x = .ref t ∧ F' t = some (.tup [.int p.1, .int p.2])) := by
  refine ⟨_, _, ht.len ▸ walk_list (xs := xs), fun F' H' M' S e _ => S.rdL e h, fun i a x F' H' H'' M' ha S e _ y => ?_⟩
  obtain ⟨rfl, y⟩ := y
  obtain ⟨t, h1, h2⟩ := ht.get ha
  rw [h1] at y
  cases y
  exact ⟨F', S, Evl.Ex.refl _, t, rfl, e _ _ h2⟩
theorem srcMP (ht : TupsAt F xs ps) : Src (Itl K b) io H0 F0 F [(b, .is (.lst xs))] ps (fun p x F' => ∃ t, x = .ref t ∧ F' t = some (.tup [.int p.1, .int p.2])) := by
  refine ⟨_, _, ht.len ▸ walk_list (xs := xs), fun F' H' M' S e hm => SqL.of (S.own _ (hm _ List.mem_cons_self)).1.1, fun i a x F' H' H'' M' ha S e _ y => ?_⟩
  obtain ⟨rfl, y⟩ := y
  obtain ⟨t, h1, h2⟩ := ht.get ha
  rw [h1] at y
  cases y
  exact ⟨F', S, Evl.Ex.refl _, t, rfl, e _ _ h2⟩
theorem zipIdx_by {α β : Type} (l : List α) (f : Nat → Bool) (g : Nat → β) : ((l.zipIdx.filter fun p => f p.2).map fun p => g p.2) = ((List.range l.length).filter f).map g := by
  have e : l.zipIdx.map Prod.snd = List.range l.length := by rw [List.zipIdx_map_snd, List.range_eq_range']
  rw [← e, List.filter_map, List.map_map]
  rfl
end
/-- names in the same order tell the same rows -/
theorem rowOf_congr {many : Int} {ties : List (Int × Int)} {n1 n2 : List Int} (W : WebOk many ties) (hs : ∀ a b, 0 ≤ a → a < many → 0 ≤ b → b < many → (nmAt n1 a < nmAt n1 b ↔ nmAt n2 a < nmAt n2 b)) {h : Int} (h0 : 0 ≤ h) (h1 : h < many) : rowOf many ties n1 h = rowOf many ties n2 h := by
  refine rows_unique W (f := rowOf many ties n1) (fun x x0 x1 => ?_) many.toNat h (rank_bound ⟨h0, h1⟩) h0 h1
  rw [rowOf_eq W ⟨x0, x1⟩]
  congr 2
  unfold lessN
  refine List.filter_congr fun o ho => ?_
  have hb := nbr_range W ho
  rw [decide_eq_decide]
  exact hs o x hb.1 hb.2 x0 x1
theorem rowsOf_congr {many : Int} {ties : List (Int × Int)} {n1 n2 : List Int} (W : WebOk many ties) (hs : ∀ a b, 0 ≤ a → a < many → 0 ≤ b → b < many → (nmAt n1 a < nmAt n1 b ↔ nmAt n2 a < nmAt n2 b)) : rowsOf many ties n1 = rowsOf many ties n2 := by
  unfold rowsOf
  refine List.map_congr_left fun h hh => ?_
  have := rgI_mem.mp hh
  exact rowOf_congr W hs this.1 this.2
/-- the set by names -/
def pickedOf (many : Int) (ties : List (Int × Int)) (names : List Int) : List Int := (rgI many).filter fun h => (rowOf many ties names h).1
theorem OvAll.rows {K : PySem.W.Frag} {H : Hp} : ∀ {xs : List V} {rs : List Row}, OvAll H xs (rs.map some) → DpAll K H xs (rs.map rowD)
  | _, [], .nil => .nil
  | _, _ :: _, .cons ⟨t, h1, h2⟩ r => by rw [h1]; exact .cons (dp_row (SqT.of h2)) (OvAll.rows r)
/-- those of a list of rows, some of which are None, that are none -/
theorem OvAll.some_of {K : PySem.W.Frag} {H : Hp} {c : Int → Bool} {ro : Int → Row} : ∀ {L : List Int} {ys : List V}, OvAll H ys (L.map fun o => if c o = true then some (ro o) else none) → DpAll K H (ys.filter fun x => !decide (x = .non)) (((L.filter c).map ro).map rowD)
  | [], _, .nil => .nil
  | o :: L, _, @Paired.cons _ _ _ y _ ys _ h r => by
    have h : OV H y (if c o = true then some (ro o) else none) := h
    rw [List.filter_cons, List.filter_cons]
    by_cases hc : c o = true
    · rw [if_pos hc] at h
      obtain ⟨t, h1, h2⟩ := h
      rw [if_pos hc, if_pos (by rw [h1]; rfl), h1, List.map_cons, List.map_cons]
      exact .cons (dp_row (SqT.of h2)) (OvAll.some_of r)
    · rw [if_neg hc] at h
      have h : y = .non := h
      rw [if_neg hc, if_neg (by rw [h]; decide)]
      exact OvAll.some_of r
theorem OvAll.map_get {H : Hp} {xs : List V} {many : Int} {ro : Int → Row} {d : Int → Bool} (h : OvAll H xs (stO many ro d)) : ∀ {L : List Int}, (∀ o ∈ L, 0 ≤ o ∧ o < many) → OvAll H (L.map fun o => xs.getD o.toNat .non) (L.map fun o => if d o = true then some (ro o) else none)
  | [], _ => .nil
  | o :: L, hL => by
    have ho := hL o List.mem_cons_self
    obtain ⟨x, e, ov⟩ := h.get o.toNat _ (stO_get ho.1 ho.2)
    refine .cons ?_ (OvAll.map_get h fun p hp => hL p (List.mem_cons_of_mem _ hp))
    show OV H (xs.getD o.toNat .non) (if d o = true then some (ro o) else none)
    rw [List.getD_eq_getElem?_getD, e]
    exact ov
theorem OvAll.set {H : Hp} {t : Addr} {r : Row} (ht : H t = some (.tup [.bl r.1, .int r.2])) : ∀ {xs : List V} {os : List (Option Row)} (i : Nat), OvAll H xs os → OvAll H (xs.set i (.ref t)) (os.set i (some r))
  | _, _, _, .nil => .nil
  | _, _, 0, .cons _ s => .cons ⟨t, rfl, ht⟩ s
  | _, _, i + 1, .cons q s => .cons q (OvAll.set ht i s)
theorem OvAll.non {H : Hp} {many : Int} {ro : Int → Row} : OvAll H (List.replicate many.toNat .non) (stO many ro fun _ => false) := by
  unfold stO
  have : ∀ (L : List Int), OvAll H (List.replicate L.length .non) (L.map fun h => if (fun _ => false) h = true then some (ro h) else none) := by
    intro L
    induction L with
    | nil => exact .nil
    | cons x r ih => exact .cons rfl ih
  have h := this (rgI many)
  rw [rgI_len] at h
  exact h
theorem dpAll_row_at {K : PySem.W.Frag} {H : Hp} {v : V} {r : Row} (h : Dp K H v (rowD r)) : ∃ t, v = .ref t ∧ SqT K H t [.bl r.1, .int r.2] := rowD_at h
/-- by rising names: who stands ahead -/
theorem ahead_iff {many : Int} {names order : List Int} (hp : order.Perm (rgI many)) (pw : order.Pairwise fun a b => nmAt names a < nmAt names b) {i : Nat} {h o : Int} (hi : order[i]? = some h) (h0 : 0 ≤ o) (h1 : o < many) : o ∈ order.take i ↔ nmAt names o < nmAt names h := by
  obtain ⟨hi1, hi2⟩ := List.getElem?_eq_some_iff.mp hi
  have hpw := List.pairwise_iff_getElem.mp pw
  constructor
  · intro m
    obtain ⟨j, hj, ej⟩ := List.mem_iff_getElem.mp m
    rw [List.length_take] at hj
    rw [List.getElem_take] at ej
    have := hpw j i (by omega) hi1 (by omega)
    rw [ej, hi2] at this
    exact this
  · intro lt
    obtain ⟨j, hj, ej⟩ := List.mem_iff_getElem.mp (hp.mem_iff.mpr (rgI_mem.mpr ⟨h0, h1⟩))
    by_cases c : j < i
    · exact List.mem_iff_getElem.mpr ⟨j, by rw [List.length_take]; omega, by rw [List.getElem_take]; exact ej⟩
    · exfalso
      by_cases c2 : j = i
      · subst c2
        rw [hi2] at ej
        rw [ej] at lt
        omega
      · have := hpw i j hi1 hj (by omega)
        rw [hi2, ej] at this
        omega
/-! ### set(t), t a tuple of tuples of ints, fewer than 64 -/
section
variable {P : Program} {w : World} {A : Around} {E : Value → Shared → Prop} {s : Shared}
set_option maxHeartbeats 9000000 in
theorem set_of_tuple {l : Addr} {its : Array Value} (ks : List (Addr × List Int)) {Q : Value → Shared → Prop} (calm : A.handled = none) (ist : IsTup s.heap l its) (are : its.toList = ks.map fun p => Value.ref p.1)
    (tups : ∀ p ∈ ks, IsT P w s.heap p.2 p.1) (few : ks.length < 64) (deep : A.units + 3 < cLine)
    (out : ∀ (g : Heap) (tk : Nat) L es ep t, SetTR P w g s.heap.objs.size L es ep t → Got ks ks.length L → (∀ b o, s.heap.get? b = some o → g.get? b = some o) → Q (.ref s.heap.objs.size) { s with heap := g, toks := tk }) :
    wpAny (model P w) A (call (.type "set") [.ref l]) Q E s := by
  have size_is : its.size = ks.length := by
    have z := congrArg List.length are
    rwa [Array.length_toList, List.length_map] at z
  have cs := F.called_set
  obtain ⟨m1, m2, m3⟩ := cs.mro
  have made := cs.made
  have subs := cs.sub
  have nty := cs.notType
  have can := cs.canCreate
  have tcall := F.typeCall_set_1 (.ref l)
  refine wpAny_call (codeAny_of_tree ?_)
  show wpAny _ _ (callAny (Value.type "set") _) _ _ _
  refine wpAny_pure ⟨Code.quiet_builtin _ (by decide +kernel), codeAny_builtin F.entry_type_call ?_⟩
  rw [Around.under_plain (weight_type_call_type "set" [.ref l] []) rfl]
  repeat (any_goals (first | wp_step | assumption))
  refine codeAny_mono (code_set_led1 (.ref l) (E := E) (Q₁ := fun v s1 => v = .ref s.heap.objs.size ∧ s1 = { s with heap := s.heap.push (emptyS w) }) ⟨rfl, rfl⟩) fun res s1 got => ?_
  cases res with
  | error _ => exact got
  | ok flow =>
    cases flow with
    | ret v =>
      obtain ⟨rfl, rfl⟩ := got
      have at0 : (s.heap.push (emptyS w)).get? s.heap.objs.size = some (emptyS w) := Heap.get?_push_size _ rfl
      have ty0 : Shared.TypeIs { s with heap := s.heap.push (emptyS w) } (.ref s.heap.objs.size) "set" := ⟨_, at0, rfl⟩
      have ini1 := cs.init.lookup
      have ini2 := cs.init.bind (.ref s.heap.objs.size)
      repeat (any_goals (first | wp_step | assumption))
      refine codeAny_mono (codeAny_call_builtin (R := wants (fun r s2 => r = .none ∧ ∃ g tk L es ep t, s2 = { s with heap := g, toks := tk } ∧ SetTR P w g s.heap.objs.size L es ep t ∧ Got ks ks.length L ∧ (∀ b o, s.heap.get? b = some o → g.get? b = some o)) E) cs.init.plain F.entry_set_init (check_set_init_1 ty0 ?_)) fun res2 s2 got2 => ?_
      · obtain ⟨ob, hob, hcl, n0, hdt⟩ := ist
        obtain ⟨k1, k2, k3, k4⟩ := ob
        simp only at hcl hdt
        subst hcl hdt
        have under : l < s.heap.objs.size := Heap.lt_size hob
        have hob2 : (s.heap.push (emptyS w)).get? l = some { cls := .type "tuple", dict := k2, data := .seq its n0, slots := k4 } := Heap.get?_push_of_some _ hob
        have t1 := F.sub_tuple_set
        have t2 := F.sub_tuple_frozenset
        have t3 : (Value.type "tuple" == Value.type "dict") = false := by decide
        have isl2 : (s.heap.push (emptyS w)).IsTuple l its := ⟨_, hob2, rfl, n0, rfl⟩
        unfold Builtin.«set.__init__» noKeywords Builtin.Frozenset.updateFrom
        generalize hit : pyIter = iter
        wp_walk
        subst hit
        refine wpAny_pyIter_tuple isl2 (wpAny_bind (wpAny_runValue ?_))
        have calm3 : A.in1.in1.in1.handled = none := by simp [calm]
        have apart : l ≠ (s.heap.push (emptyS w)).objs.size := by
          rw [Heap.size_push]
          exact Nat.ne_of_lt (Nat.lt_succ_of_lt under)
        have notin : s.heap.objs.size ∉ [(s.heap.push (emptyS w)).objs.size, l] := by
          intro m
          rw [Heap.size_push] at m
          rcases List.mem_cons.mp m with m | m
          · exact absurd m (Nat.ne_of_lt (Nat.lt_succ_self _))
          · exact absurd (List.mem_singleton.mp m) (Nat.ne_of_gt under)
        have vals : ∀ (i : Nat) (v : Value), its[i]? = some v → ∃ p, ks[i]? = some p ∧ v = .ref p.1 := fun i v hv => by
          have z : its.toList[i]? = some v := by rw [Array.getElem?_toList]; exact hv
          rw [are, List.getElem?_map] at z
          cases q : ks[i]? with
          | none => rw [q] at z; cases z
          | some p => rw [q] at z; exact ⟨p, rfl, (Option.some.inj z).symm⟩
        have gone : ∀ b, s.heap.objs.size ≤ b → s.heap.get? b = none := fun b hb => by
          cases q : s.heap.get? b with
          | none => rfl
          | some o => exact absurd (Nat.lt_of_lt_of_le (Heap.lt_size q) hb) (Nat.lt_irrefl _)
        refine set_update_tups (Walks.tuple calm3 _ l apart its).toS s.heap.objs.size notin ks size_is few vals s.heap tups (gone _ (Nat.le_refl _)) (fun b hb => gone b ?_) deep (its.size - 0) 0 _ (by omega) (Nat.zero_le _) ⟨⟨_, Heap.get?_push_size _ rfl, rfl, rfl⟩, isl2.push _⟩ (fun b o e => Heap.get?_push_of_some _ (Heap.get?_push_of_some _ e)) ?first ?last
        · rw [List.mem_singleton.mp hb, Heap.size_push]
          exact Nat.le_succ _
        case first => exact ⟨[], #[], 0, _, setTR_fresh (Heap.get?_push_of_some _ at0), Got.zero ks⟩
        case last =>
          intro s3 L es ep t moved set3 got3 keep3
          obtain ⟨g3, e1, e2, tk3, e3⟩ := s3
          have q1 : e1 = s.gens := moved.gens
          have q2 : e2 = s.drawn := moved.drawn
          have q3 : e3 = s.os := moved.os
          subst q1 q2 q3
          rw [size_is] at got3
          exact wpAny_pure (wpAny_pure ⟨rfl, g3, tk3, L, es, ep, t, rfl, set3, got3, keep3⟩)
      · cases res2 with
        | error _ => exact got2
        | ok flow2 =>
          cases flow2 with
          | ret _ =>
            obtain ⟨rfl, g, tk, L, es, ep, t, rfl, y1, y2, y3⟩ := got2
            repeat (any_goals (first | wp_step | assumption))
            exact out _ _ _ _ _ _ y1 y2 y3
          | _ => exact got2.elim
    | _ => exact got.elim
end
section
variable {X : Cx}
def rSetTT (K : PySem.W.Frag) (P : Program) (w : World) : List V → Hp → VK → Prop := fun xs H Q => ∃ (l : Addr) (ks : List (Addr × List Int)), xs = [V.ref l] ∧ SqT K H l (ks.map fun p => V.ref p.1) ∧ (∀ p ∈ ks, SqT K H p.1 (p.2.map V.int)) ∧ ks.length < 64 ∧
  ∀ a L, H a = none → (∀ p ∈ L, p ∈ ks) → (∀ p ∈ ks, p.2 ∈ L.map (·.2)) → Q (.ref a) (upd H a (SetTO P w a L))
theorem cr_setTT (hc : X.calm = true) (hu : X.A.units + 64 < cLine) : CallR X (.type "set") (rSetTT X.K X.prog X.w) := by
  intro pins s σ H xs us Q I r h
  obtain ⟨l, ks, rfl, hl, hk, hf, q⟩ := h
  obtain ⟨its, rv, pl, hz⟩ := I.tuple hl
  rw [Vals.ref1 r]
  have hn : H s.heap.objs.size = none := I.hok.fresh (Nat.le_refl _)
  refine set_of_tuple (P := X.prog) (w := X.w) ks (I.ok.hd hc) pl (by simpa using refs_of_vals rv) (fun p hp => I.isT (hk p hp)) hf (by omega) fun g tk L es ep t R got kp => ?_
  refine ⟨.ref s.heap.objs.size, upd H s.heap.objs.size (SetTO X.prog X.w s.heap.objs.size L), I.laid (t' := tk) kp (Nat.le_refl _) (setTO_new R.t0), rfl, q _ L hn (fun p hp => List.mem_of_mem_take (got.sub p hp)) fun p hp => got.all p (by rw [List.take_length]; exact hp)⟩
end
section
variable {many : Int} {ties : List (Int × Int)} {names : List Int}
theorem rowBy_fst (rows : List Row) : (rowBy rows).1 = true ↔ ∀ r ∈ rows, r.1 = false := by
  constructor
  · intro h
    exact (rowBy_true (n := (rowBy rows).2) (by rw [← h])).1
  · intro h
    cases e : (rowBy rows).1 with
    | true => rfl
    | false =>
      obtain ⟨⟨r, hr, q⟩, _⟩ := rowBy_false (n := (rowBy rows).2) (show rowBy rows = (false, (rowBy rows).2) by rw [← e])
      have := h r hr
      rw [q] at this
      cases this
theorem chosen_iff (W : WebOk many ties) {h : Int} (hh : 0 ≤ h ∧ h < many) : (rowOf many ties names h).1 = true ↔ ∀ o ∈ lessN ties names h, (rowOf many ties names o).1 = false := by
  rw [rowOf_eq W hh, rowBy_fst]
  constructor
  · intro q o ho
    exact q _ (List.mem_map_of_mem (f := rowOf many ties names) ho)
  · rintro q r hr
    obtain ⟨o, ho, rfl⟩ := List.mem_map.mp hr
    exact q o ho
/-- the set by names is the one that goes by its lesser neighbours -/
theorem chosen_only (W : WebOk many ties) {c : Int → Bool} (hc : ∀ h, 0 ≤ h → h < many → (c h = true ↔ ∀ o ∈ lessN ties names h, c o = false)) : ∀ (n : Nat) (h : Int), rank many names h < n → 0 ≤ h → h < many → c h = (rowOf many ties names h).1
  | 0, _, h, _, _ => absurd h (Nat.not_lt_zero _)
  | n + 1, h, hr, h0, h1 => by
    rw [Bool.eq_iff_iff, hc h h0 h1, chosen_iff W ⟨h0, h1⟩]
    constructor
    · intro q o ho
      have hl := rank_lt W ho
      have hb := nbr_range W (List.mem_filter.mp ho).1
      rw [← chosen_only W hc n o (by omega) hb.1 hb.2]
      exact q o ho
    · intro q o ho
      have hl := rank_lt W ho
      have hb := nbr_range W (List.mem_filter.mp ho).1
      rw [chosen_only W hc n o (by omega) hb.1 hb.2]
      exact q o ho
theorem picked_mem {h : Int} : h ∈ pickedOf many ties names ↔ (0 ≤ h ∧ h < many) ∧ (rowOf many ties names h).1 = true := by
  unfold pickedOf
  rw [List.mem_filter, rgI_mem]
theorem picked_ok : SetOk many (pickedOf many ties names) := ⟨(rgI_up many).filter _, fun h hh => (picked_mem.mp hh).1⟩
theorem oth_ne (W : WebOk many ties) {h o : Int} (ho : o ∈ nbr ties h) : o ≠ h := fun z => by
  subst z
  rcases (nbr_iff W).mp ho with q | q
  · have := W.ok _ q; simp only at this; omega
  · have := W.ok _ q; simp only at this; omega
theorem nbr_sym (W : WebOk many ties) {h o : Int} (ho : o ∈ nbr ties h) : h ∈ nbr ties o := by
  rcases (nbr_iff W).mp ho with q | q
  · exact (nbr_iff W).mpr (.inr q)
  · exact (nbr_iff W).mpr (.inl q)
/-- no two neighbours are picked -/
theorem picked_free (W : WebOk many ties) (N : NamesOk many names) {h o : Int} (hh : 0 ≤ h ∧ h < many) (ho : o ∈ nbr ties h) (c : (rowOf many ties names h).1 = true) : (rowOf many ties names o).1 = false := by
  have hor := nbr_range W ho
  have nn := nm_ne N hor hh (oth_ne W ho)
  by_cases q : nmAt names o < nmAt names h
  · exact (chosen_iff W hh).mp c o (List.mem_filter.mpr ⟨ho, decide_eq_true q⟩)
  · cases e : (rowOf many ties names o).1 with
    | false => rfl
    | true =>
      have := (chosen_iff W hor).mp e h (List.mem_filter.mpr ⟨nbr_sym W ho, decide_eq_true (by omega)⟩)
      rw [c] at this
      cases this
theorem picked_apart (W : WebOk many ties) (N : NamesOk many names) : firstTie ties (pickedOf many ties names) = none := by
  refine find_none _ _ fun t ht => ?_
  unfold tieIn
  cases e : decide (t.1 ∈ pickedOf many ties names) with
  | false => rfl
  | true =>
    rw [Bool.true_and]
    refine decide_eq_false fun q => ?_
    have e := picked_mem.mp (of_decide_eq_true e)
    have q := picked_mem.mp q
    have := picked_free W N e.1 (o := t.2) ((nbr_iff W).mpr (.inl ht)) e.2
    rw [q.2] at this
    cases this
theorem picked_near (W : WebOk many ties) {h : Int} (hh : 0 ≤ h ∧ h < many) (c : (rowOf many ties names h).1 = false) : ∃ o ∈ lessN ties names h, (rowOf many ties names o).1 = true := by
  refine Classical.byContradiction fun z => ?_
  have := (chosen_iff (names := names) W hh).mpr fun o ho => by
    cases e : (rowOf many ties names o).1 with
    | false => rfl
    | true => exact absurd ⟨o, ho, e⟩ z
  rw [c] at this
  cases this
theorem picked_full (W : WebOk many ties) : firstBare many ties (pickedOf many ties names) = none := by
  refine find_none _ _ fun h hh => ?_
  have hh := rgI_mem.mp hh
  rw [Bool.not_eq_false']
  unfold cov
  rw [Bool.or_eq_true, decide_eq_true_eq, List.any_eq_true]
  cases e : (rowOf many ties names h).1 with
  | true => exact .inl (picked_mem.mpr ⟨hh, e⟩)
  | false =>
    obtain ⟨o, ho, c⟩ := picked_near W hh e
    have ho := (List.mem_filter.mp ho).1
    exact .inr ⟨o, ho, decide_eq_true (picked_mem.mpr ⟨nbr_range W ho, c⟩)⟩
theorem picked_lacks (W : WebOk many ties) (N : NamesOk many names) : lacksD many ties (pickedOf many ties names) = .none := by
  unfold lacksD
  rw [picked_apart W N, picked_full W]
/-- there are at most as many rounds as chosen ones -/
theorem latest_le (W : WebOk many ties) : maxDf 0 ((rowsOf many ties names).map fun r => r.2) ≤ ((pickedOf many ties names).length : Int) := by
  have key : ∀ (L : List Int) (h : Int), (0 ≤ h ∧ h < many) → (rowOf many ties names h).2 ≤ ((pickedOf many ties names).length : Int) := by
    intro _ h hh
    have hp := row_pos (names := names) W (rank many names h + 1) h (by omega) hh.1 hh.2
    generalize hm : (rowOf many ties names h).2 = m at hp
    have : ((List.range m.toNat).map fun k : Nat => (k : Int) + 1).length ≤ ((pickedOf many ties names).map fun h => (rowOf many ties names h).2).length := by
      refine len_le_of_sub ?_ fun x hx => ?_
      · refine List.Pairwise.map _ ?_ List.nodup_range
        intro a b h e
        exact h (by omega)
      · obtain ⟨k, hk, rfl⟩ := List.mem_map.mp hx
        have hk := List.mem_range.mp hk
        obtain ⟨o, o0, o1, e⟩ := some_fresh (names := names) W (n := (k : Int)) (by omega) (rank many names h + 1) h (by omega) hh.1 hh.2 (by omega)
        exact List.mem_map.mpr ⟨o, picked_mem.mpr ⟨⟨o0, o1⟩, by rw [e]⟩, by rw [e]⟩
    rw [List.length_map, List.length_map, List.length_range] at this
    omega
  unfold maxDf
  cases e : (rowsOf many ties names).map fun r => r.2 with
  | nil => simp only; omega
  | cons x r =>
    have s := (maxL_spec x r).1
    rw [← e] at s
    simp only
    obtain ⟨rw', hr, er⟩ := List.mem_map.mp s
    unfold rowsOf at hr
    obtain ⟨h, hh, eh⟩ := List.mem_map.mp hr
    rw [← er, ← eh]
    exact key [] h (rgI_mem.mp hh)
/-- the house of the least name -/
theorem least_first (W : WebOk many ties) {h : Int} (hh : 0 ≤ h ∧ h < many) (hl : ∀ o, 0 ≤ o → o < many → nmAt names h ≤ nmAt names o) : rowOf many ties names h = (true, 1) := by
  rw [rowOf_eq W hh]
  have e : lessN ties names h = [] := by
    unfold lessN
    rw [List.filter_eq_nil_iff]
    intro o ho
    have hb := nbr_range W ho
    have := hl o hb.1 hb.2
    rw [decide_eq_true_eq]
    omega
  rw [e]
  rfl
/-- names by which the houses of a set go first -/
structure FirstsOk (many : Int) (names some' ns : List Int) : Prop where
  ok : NamesOk many ns
  first : ∀ h ∈ some', ∀ o, 0 ≤ o → o < many → o ∉ some' → nmAt ns h < nmAt ns o
theorem firsts_same (W : WebOk many ties) (N : NamesOk many names) {ns : List Int} (F : FirstsOk many names (pickedOf many ties names) ns) : pickedOf many ties ns = pickedOf many ties names := by
  unfold pickedOf
  refine List.filter_congr fun h hh => ?_
  have hh := rgI_mem.mp hh
  symm
  refine chosen_only W (c := fun h => (rowOf many ties names h).1) (fun x x0 x1 => ?_) many.toNat h (rank_bound ⟨hh.1, hh.2⟩) hh.1 hh.2
  constructor
  · intro c o ho
    exact picked_free W N ⟨x0, x1⟩ (List.mem_filter.mp ho).1 c
  · intro q
    cases e : (rowOf many ties names x).1 with
    | true => rfl
    | false =>
      obtain ⟨o, ho, c⟩ := picked_near W ⟨x0, x1⟩ e
      have ho := (List.mem_filter.mp ho).1
      have hb := nbr_range W ho
      have lt := F.first o (picked_mem.mpr ⟨hb, c⟩) x x0 x1 (fun z => by rw [(picked_mem.mp z).2] at e; cases e)
      rw [q o (List.mem_filter.mpr ⟨ho, decide_eq_true lt⟩)] at c
      cases c
/-- a tie of which neither house is chosen turns nothing -/
theorem more_same (W : WebOk many ties) {ties' : List (Int × Int)} (W' : WebOk many ties') (N : NamesOk many names) {a b : Int} (ha : (rowOf many ties names a).1 = false) (hb : (rowOf many ties names b).1 = false)
    (hm : ∀ t : Int × Int, t ∈ ties' ↔ t ∈ ties ∨ t = (a, b)) : pickedOf many ties' names = pickedOf many ties names := by
  unfold pickedOf
  refine List.filter_congr fun h hh => ?_
  have hh := rgI_mem.mp hh
  symm
  refine chosen_only W' (c := fun h => (rowOf many ties names h).1) (fun x x0 x1 => ?_) many.toNat h (rank_bound ⟨hh.1, hh.2⟩) hh.1 hh.2
  constructor
  · intro c o ho
    have ho := (List.mem_filter.mp ho).1
    have : o ∈ nbr ties x := by
      rcases (nbr_iff W').mp ho with q | q
      · rcases (hm _).mp q with z | z
        · exact (nbr_iff W).mpr (.inl z)
        · cases z
          have c : (rowOf many ties names a).1 = true := c
          rw [ha] at c
          cases c
      · rcases (hm _).mp q with z | z
        · exact (nbr_iff W).mpr (.inr z)
        · cases z
          have c : (rowOf many ties names b).1 = true := c
          rw [hb] at c
          cases c
    exact picked_free W N ⟨x0, x1⟩ this c
  · intro q
    cases e : (rowOf many ties names x).1 with
    | true => rfl
    | false =>
      obtain ⟨o, ho, c⟩ := picked_near W ⟨x0, x1⟩ e
      have hl := List.mem_filter.mp ho
      have m : o ∈ lessN ties' names x := by
        refine List.mem_filter.mpr ⟨?_, hl.2⟩
        rcases (nbr_iff W).mp hl.1 with z | z
        · exact (nbr_iff W').mpr (.inl ((hm _).mpr (.inl z)))
        · exact (nbr_iff W').mpr (.inr ((hm _).mpr (.inl z)))
      rw [q o m] at c
      cases c
end
/-! ### t + u, either may be empty -/
section
variable {prog : Program} {w : World} {A : Around} {E : Value → Shared → Prop} {s : Shared}
theorem cat_left0 {t b : Addr} {ws : List Value} {Q : Value → Shared → Prop} (ht : IsTup s.heap t ([] : List Value).toArray) (hb : IsTup s.heap b ws.toArray) (q : Q (.ref b) s) : wpAny (model prog w) A (binaryOp .Add (.ref t) (.ref b)) Q E s := by
  obtain ⟨⟨c1, d1, x1, l1⟩, o1, e1, m1, f1⟩ := id ht
  obtain ⟨⟨c2, d2, x2, l2⟩, o2, e2, m2, f2⟩ := id hb
  simp only at e1 f1 e2 f2
  subst e1 f1 e2 f2
  exact concat_meets ⟨_, o1, rfl⟩ ⟨_, o2, rfl⟩ noFill_tuple_add seq_tuple_add PySem.F.slot_tuple_add PySem.F.entry_tuple_add (PySem.F.args_tuple_add_2 _ _) (tuple_addW0 t b _ _ m1 m2 d1 d2 l1 l2 rfl) ⟨o1, o2, q⟩
end
def rCatTG (K : PySem.W.Frag) : R2 := fun x y H Q => ∃ a b xs ys, x = .ref a ∧ y = .ref b ∧ SqT K H a xs ∧ SqT K H b ys ∧ xs.length + ys.length ≤ sizeLine ∧ (xs = [] → Q (.ref b) H) ∧ (xs ≠ [] → ys = [] → Q (.ref a) H) ∧ (xs ≠ [] → ys ≠ [] → newK H (.tup (xs ++ ys)) Q)
theorem op_catTG {X : Cx} : OpR X (binaryOp .Add) (rCatTG X.K) := by
  intro pins s σ H x y v u Q I rx ry h
  obtain ⟨a, b, xs, ys, rfl, rfl, ha, hb, hz, q0, q1, q2⟩ := h
  by_cases hx : xs = []
  · cases rx
    cases ry
    obtain ⟨its, r1, p1, _⟩ := I.tuple ha
    obtain ⟨its2, r2, p2, _⟩ := I.tuple hb
    have e1 : its = [] := r1.nil_iff.mpr hx
    subst e1
    exact cat_left0 p1 p2 ⟨.ref b, H, I, rfl, q0 hx⟩
  · exact op_catT pins s σ H _ _ v u Q I rx ry ⟨a, b, xs, ys, rfl, rfl, ha, hb, hx, hz, q1 hx, fun hy => q2 hx hy⟩
theorem s_catT {K : PySem.W.Frag} {H : Hp} {a b : Addr} {xs ys : List V} {Q : VK} (ha : SqT K H a xs) (hb : SqT K H b ys) (hz : xs.length + ys.length ≤ 100000) (q0 : xs = [] → Q (.ref b) H) (q1 : xs ≠ [] → ys = [] → Q (.ref a) H) (q2 : xs ≠ [] → ys ≠ [] → newK H (.tup (xs ++ ys)) Q) : rCatTG K (.ref a) (.ref b) H Q :=
  ⟨a, b, xs, ys, rfl, rfl, ha, hb, Nat.le_trans hz (by decide), q0, q1, q2⟩
/-- x is y, x is not y, truths -/
theorem r_isB {a b : Bool} {H : Hp} {Q : VK} (q : Q (.bl (decide (a = b))) H) : (fun x y H Q => ∃ a b, x = V.bl a ∧ y = V.bl b ∧ Q (.bl (decide (a = b))) H : R2) (.bl a) (.bl b) H Q := ⟨a, b, rfl, rfl, q⟩
def rNotBl : R2 := fun x y H Q => ∃ a b, x = V.bl a ∧ y = V.bl b ∧ Q (.bl (!decide (a = b))) H
theorem op_notBl {X : Cx} : OpR X (compareOp .IsNot) rNotBl := op_isnot_bl
theorem r_notBl {a b : Bool} {H : Hp} {Q : VK} (q : Q (.bl (!decide (a = b))) H) : rNotBl (.bl a) (.bl b) H Q := ⟨a, b, rfl, rfl, q⟩
def rIsBl : R2 := fun x y H Q => ∃ a b, x = V.bl a ∧ y = V.bl b ∧ Q (.bl (decide (a = b))) H
theorem op_isBl2 {X : Cx} : OpR X (compareOp .Is) rIsBl := op_is_bl
theorem r_isBl {a b : Bool} {H : Hp} {Q : VK} (q : Q (.bl (decide (a = b))) H) : rIsBl (.bl a) (.bl b) H Q := ⟨a, b, rfl, rfl, q⟩
/-! ### == of lists of ints -/
theorem eqvAll_ints : ∀ a b : List Int, PyData.eqvAll (a.map PyData.int) (b.map PyData.int) = decide (a = b)
  | [], [] => by simp [PyData.eqvAll]
  | [], _ :: _ => by simp [PyData.eqvAll]
  | _ :: _, [] => by simp [PyData.eqvAll]
  | x :: a, y :: b => by
    rw [List.map_cons, List.map_cons, PyData.eqvAll, eqvAll_ints a b]
    by_cases h1 : x = y <;> by_cases h2 : a = b <;> simp [h1, h2, PyData.eqv]
theorem eqv_ints (a b : List Int) : PyData.eqv (intsD a) (intsD b) = decide (a = b) := by
  unfold intsD
  rw [PyData.eqv]
  exact eqvAll_ints a b
theorem r_neInts {K : PySem.W.Frag} {H : Hp} {Q : VK} {p q : Addr} {a b : List Int} (h : SqL K H p (a.map V.int)) (g : SqL K H q (b.map V.int)) (z : Q (.bl (!decide (a = b))) H) : rNeD K (.ref p) (.ref q) H Q :=
  ⟨_, _, dp_ints h, dp_ints g, shaped_ints a, shaped_ints b, by have := eqv_ints a b; unfold intsD at this; rw [this]; exact z⟩
theorem r_eqInts {K : PySem.W.Frag} {H : Hp} {Q : VK} {p q : Addr} {a b : List Int} (h : SqL K H p (a.map V.int)) (g : SqL K H q (b.map V.int)) (z : Q (.bl (decide (a = b))) H) : rEqD K (.ref p) (.ref q) H Q :=
  ⟨_, _, dp_ints h, dp_ints g, shaped_ints a, shaped_ints b, by have := eqv_ints a b; unfold intsD at this; rw [this]; exact z⟩
/-! ### min -/
theorem r_min {K : PySem.W.Frag} {H : Hp} {Q : VK} {a : Addr} {ns : List Int} (h : SqL K H a (ns.map V.int)) (h0 : 0 < ns.length) (q : ∀ m, m ∈ ns → (∀ y, y ∈ ns → m ≤ y) → Q (.int m) H) : rMin K [.ref a] H Q := ⟨a, ns, rfl, h, h0, q⟩
/-! ### sets of pairs -/
section
variable {io : List Addr} {H0 F0 F H : Hp} {M : List (Addr × Cel)} {K : PySem.W.Frag} {P : Program} {w : World} {Q : VK} {a : Addr}
/-- set(t), t a tuple of pairs of small numbers -/
theorem s_setTT {xs : List V} {ps : List (Int × Int)} (S : Sep io H0 F0 F H M) (h : SqT K F a xs) (ht : DpAll K F xs (ps.map tieD)) (few : ps.length < 64)
    (k : ∀ (q : Addr) (L : List (Addr × List Int)) (F' H' : Hp), Sep io H0 F0 F' H' M → Evl.Ex F F' → F' q = some (SetTO P w q L) → (∀ p ∈ L, ∃ t : Int × Int, t ∈ ps ∧ p.2 = [t.1, t.2] ∧ SqT K F' p.1 [.int t.1, .int t.2]) → (∀ t ∈ ps, [t.1, t.2] ∈ L.map (·.2)) → Q (.ref q) H') : rSetTT K P w [.ref a] H Q := by
  obtain ⟨ks, e1, e2, e3⟩ : ∃ ks : List (Addr × List Int), xs = ks.map (fun p => V.ref p.1) ∧ ks.map (·.2) = ps.map (fun t => [t.1, t.2]) ∧ ∀ p ∈ ks, ∃ t : Int × Int, t ∈ ps ∧ p.2 = [t.1, t.2] ∧ SqT K F p.1 [.int t.1, .int t.2] := by
    clear h few k
    induction ps generalizing xs with
    | nil => cases ht; exact ⟨[], rfl, rfl, fun p hp => by cases hp⟩
    | cons t r ih =>
      cases ht with
      | cons hx hr =>
        obtain ⟨b, rfl, hb⟩ := tieD_at hx
        obtain ⟨ks, i1, i2, i3⟩ := ih hr
        refine ⟨(b, [t.1, t.2]) :: ks, by rw [i1]; rfl, by rw [List.map_cons, List.map_cons, i2], fun p hp => ?_⟩
        rcases List.mem_cons.mp hp with rfl | hp
        · exact ⟨t, List.mem_cons_self, rfl, hb⟩
        · obtain ⟨u, g1, g2, g3⟩ := i3 p hp
          exact ⟨u, List.mem_cons_of_mem _ g1, g2, g3⟩
  subst e1
  have kl : ks.length = ps.length := by rw [← List.length_map (f := fun p : Addr × List Int => p.2), e2, List.length_map]
  refine ⟨a, ks, rfl, Evl.ex_t S.fr h, fun p hp => ?_, by omega, fun q L hq h1 h2 => ?_⟩
  · obtain ⟨t, _, g2, g3⟩ := e3 p hp
    rw [g2]
    exact Evl.ex_t S.fr g3
  · refine k q L _ _ (S.newF hq _) (Evl.Ex.new (S.fnone hq)) upd_same (fun p hp => ?_) fun t ht => ?_
    · obtain ⟨t, g1, g2, g3⟩ := e3 p (h1 p hp)
      exact ⟨t, g1, g2, Evl.ex_t (Evl.Ex.new (S.fnone hq)) g3⟩
    · have m : [t.1, t.2] ∈ ks.map (·.2) := by rw [e2]; exact List.mem_map.mpr ⟨t, ht, rfl⟩
      obtain ⟨p, hp, e⟩ := List.mem_map.mp m
      rw [← e]
      exact h2 p hp
/-- sorted(that set): the pairs, each once, rising -/
theorem s_sortTT {ps : List (Int × Int)} {L : List (Addr × List Int)} (S : Sep io H0 F0 F H M) (h : F a = some (SetTO P w a L)) (hb : ∀ t ∈ ps, (0 ≤ t.1 ∧ t.1 < 64) ∧ 0 ≤ t.2 ∧ t.2 < 64) (h1 : ∀ p ∈ L, ∃ t : Int × Int, t ∈ ps ∧ p.2 = [t.1, t.2] ∧ SqT K F p.1 [.int t.1, .int t.2]) (h2 : ∀ t ∈ ps, [t.1, t.2] ∈ L.map (·.2))
    (k : ∀ (q : Addr) (ys : List V) (ts : List (Int × Int)) (F' H' : Hp), Sep io H0 F0 F' H' M → Evl.Ex F F' → F' q = some (.lst ys) → DpAll K F' ys (ts.map tieD) → ts.Pairwise Lx → (∀ t, t ∈ ts ↔ t ∈ ps) → Q (.ref q) H') : rSortedT K P w [.ref a] H Q := by
  refine ⟨a, L, 2, 64, rfl, S.fr _ _ h, fun p hp => ?_, by decide, fun p hp => ?_, fun L' q hp nd len pw hq => ?_⟩
  · obtain ⟨t, _, g2, g3⟩ := h1 p hp
    rw [g2]
    exact Evl.ex_t S.fr g3
  · obtain ⟨t, g1, g2, _⟩ := h1 p hp
    rw [g2]
    refine ⟨rfl, fun n hn => ?_⟩
    have := hb t g1
    rcases List.mem_cons.mp hn with rfl | hn
    · exact this.1
    · rw [List.mem_singleton.mp hn]; exact this.2
  · have S' := S.newF hq (.lst (L'.map fun q => V.ref q.1))
    have e := Evl.Ex.new (o := .lst (L'.map fun q => V.ref q.1)) (S.fnone hq)
    let f : Addr × List Int → Int × Int := fun p => (p.2.getD 0 0, p.2.getD 1 0)
    have hf : ∀ p ∈ L', ∃ t : Int × Int, t ∈ ps ∧ p.2 = [t.1, t.2] ∧ SqT K F p.1 [.int t.1, .int t.2] ∧ f p = t := fun p hp' => by
      obtain ⟨t, g1, g2, g3⟩ := h1 p (hp.mem_iff.mp hp')
      refine ⟨t, g1, g2, g3, ?_⟩
      show (p.2.getD 0 0, p.2.getD 1 0) = t
      rw [g2]
      rfl
    refine k q _ (L'.map f) _ _ S' e upd_same ?_ ?_ fun t => ?_
    · refine DpAll.ex e _ _ ?_
      clear hp nd len pw S' e hq
      induction L' with
      | nil => exact .nil
      | cons p r ih =>
        obtain ⟨t, _, _, g3, g4⟩ := hf p List.mem_cons_self
        refine .cons ?_ (ih fun p hp => hf p (List.mem_cons_of_mem _ hp))
        rw [g4]
        exact .tup g3 (.cons (.int _) (.cons (.int _) .nil))
    · refine List.pairwise_map.mpr (List.Pairwise.imp_of_mem ?_ (List.Pairwise.and pw (List.pairwise_map.mp nd)))
      intro p r hp' hr' ⟨c, ne⟩
      obtain ⟨t, g1, g2, _, g4⟩ := hf p hp'
      obtain ⟨u, k1, k2, _, k4⟩ := hf r hr'
      rw [g4, k4]
      rw [g2, k2] at c ne
      have b1 := hb t g1
      have b2 := hb u k1
      exact pair_lt c ne b1.1 b1.2 b2.1 b2.2
    · constructor
      · intro m
        obtain ⟨p, hp', e⟩ := List.mem_map.mp m
        obtain ⟨u, g1, _, _, g4⟩ := hf p hp'
        rw [← e, g4]
        exact g1
      · intro m
        obtain ⟨p, hp', e⟩ := List.mem_map.mp (h2 t m)
        refine List.mem_map.mpr ⟨p, hp.mem_iff.mpr hp', ?_⟩
        show (p.2.getD 0 0, p.2.getD 1 0) = t
        rw [e]
        rfl
theorem s_catS {b : Addr} {xs ys : List V} (S : Sep io H0 F0 F H M) (ha : SqT K F a xs) (hb : SqT K F b ys) (hy : ys ≠ []) (hz : xs.length + ys.length ≤ 100000) (k : ∀ (u : Addr) (F' H' : Hp), Sep io H0 F0 F' H' M → Evl.Ex F F' → SqT K F' u (xs ++ ys) → Q (.ref u) H') : rCatTG K (.ref a) (.ref b) H Q := by
  refine s_catT (Evl.ex_t S.fr ha) (Evl.ex_t S.fr hb) hz (fun e => ?_) (fun _ e => absurd e hy) (fun _ _ => s_new S fun u F' H' S' e c => k u F' H' S' e (SqT.of c))
  subst e
  exact k b F H S (Evl.Ex.refl _) hb
theorem r_neSameD {x y : V} {d : PyData} (h : Dp K H x d) (g : Dp K H y d) (sh : SeqAt.shaped d = true) (z : Q (.bl false) H) : rNeD K x y H Q := by
  refine ⟨_, _, h, g, sh, sh, ?_⟩
  rw [SeqAt.eqv_refl _ (SeqAt.canLay_of_shaped sh)]
  exact z
end
/-! ### sets of many tuples of ints: the round of i -> 5 i + 1 over a power of two -/
def xx : Nat → Nat
  | 0 => 0
  | n + 1 => 5 * xx n + 1
theorem xx_lcg (m : Nat) : ∀ n, lcgN m n = xx n % (m + 1)
  | 0 => (Nat.zero_mod _).symm
  | n + 1 => by
    rw [lcgN, xx_lcg m n, xx]
    rw [Nat.add_mod, Nat.mul_mod, Nat.mod_mod, ← Nat.mul_mod, ← Nat.add_mod, Nat.mul_comm]
theorem xx_add (a : Nat) : ∀ b, xx (b + a) = 5 ^ b * xx a + xx b
  | 0 => by simp [xx]
  | b + 1 => by
    rw [show b + 1 + a = (b + a) + 1 by omega, xx, xx_add a b, xx, Nat.pow_succ]
    rw [Nat.mul_add, Nat.add_assoc, ← Nat.mul_assoc, Nat.mul_comm 5 (5 ^ b)]
theorem five_odd : ∀ n, ∃ d, 5 ^ n = 4 * d + 1
  | 0 => ⟨0, rfl⟩
  | n + 1 => by
    obtain ⟨d, e⟩ := five_odd n
    exact ⟨5 * d + 1, by rw [Nat.pow_succ, e]; omega⟩
theorem xx_two : ∀ k, ∃ c, xx (2 ^ k) = 2 ^ k * (2 * c + 1)
  | 0 => ⟨0, rfl⟩
  | k + 1 => by
    obtain ⟨c, e⟩ := xx_two k
    obtain ⟨d, f⟩ := five_odd (2 ^ k)
    refine ⟨2 * (d * c) + d + c, ?_⟩
    rw [show 2 ^ (k + 1) = 2 ^ k + 2 ^ k by rw [Nat.pow_succ]; omega, xx_add, e, f]
    generalize 2 ^ k = z
    grind
theorem xx_back (k n : Nat) : xx (2 ^ k + n) % 2 ^ k = xx n % 2 ^ k := by
  obtain ⟨c, e⟩ := xx_two k
  rw [Nat.add_comm, xx_add, e, Nat.mul_left_comm, Nat.add_mod, Nat.mul_mod_right, Nat.zero_add, Nat.mod_mod]
theorem two_of {r z t : Nat} (l : r < z * 2) (e : r % z = t) : r = t ∨ r = t + z := by
  have h := Nat.div_add_mod r z
  have h2 : r / z < 2 := Nat.div_lt_of_lt_mul l
  rw [e] at h
  generalize r / z = y at h h2
  rcases (show y = 0 ∨ y = 1 by omega) with q | q <;> rw [q] at h
  · left; omega
  · right; omega
theorem xx_all : ∀ k j, j < 2 ^ k → ∃ b, b < 2 ^ k ∧ xx b % 2 ^ k = j
  | 0, j, h => ⟨0, by decide, by rw [Nat.pow_zero] at *; omega⟩
  | k + 1, j, h => by
    have hp : 0 < 2 ^ k := Nat.pow_pos (by decide)
    have e2 : 2 ^ (k + 1) = 2 ^ k * 2 := Nat.pow_succ ..
    obtain ⟨b, hb, eb⟩ := xx_all k (j % 2 ^ k) (Nat.mod_lt _ hp)
    have r1 : xx b % 2 ^ (k + 1) % 2 ^ k = j % 2 ^ k := by
      rw [e2, Nat.mod_mul_right_mod]
      exact eb
    have rl : xx b % 2 ^ (k + 1) < 2 ^ (k + 1) := Nat.mod_lt _ (Nat.pow_pos (by decide))
    by_cases c : xx b % 2 ^ (k + 1) = j
    · exact ⟨b, by omega, c⟩
    · refine ⟨b + 2 ^ k, by omega, ?_⟩
      obtain ⟨c2, ec⟩ := xx_two k
      obtain ⟨d, ed⟩ := five_odd b
      rw [xx_add, ec, ed]
      have big : (4 * d + 1) * (2 ^ k * (2 * c2 + 1)) = 2 ^ (k + 1) * (2 * d * (2 * c2 + 1) + c2) + 2 ^ k := by
        rw [e2]
        generalize 2 ^ k = z
        grind
      rw [big, Nat.add_assoc, Nat.mul_add_mod, Nat.add_mod, Nat.mod_eq_of_lt (show 2 ^ k < 2 ^ (k + 1) by omega)]
      generalize xx b % 2 ^ (k + 1) = r at *
      rw [e2] at rl h ⊢
      have q1 := two_of rl r1
      have q2 := two_of h rfl
      have lz := Nat.mod_lt j hp
      clear big ec ed eb e2 r1
      generalize 2 ^ k = z at *
      generalize j % z = t at *
      rcases q1 with q1 | q1 <;> rcases q2 with q2 | q2
      · omega
      · rw [Nat.mod_eq_of_lt (by omega)]; omega
      · rw [show z + r = t + z * 2 by omega, Nat.add_mod_right, Nat.mod_eq_of_lt (by omega)]; omega
      · omega
/-- the masks of tables of few thousands -/
def MaskG (m : Nat) : Prop := m = 7 ∨ m = 31 ∨ m = 127 ∨ m = 511 ∨ m = 2047 ∨ m = 8191
theorem MaskG.pow {m : Nat} (h : MaskG m) : ∃ k, m + 1 = 2 ^ k := by
  rcases h with e | e | e | e | e | e <;> subst e
  · exact ⟨3, rfl⟩
  · exact ⟨5, rfl⟩
  · exact ⟨7, rfl⟩
  · exact ⟨9, rfl⟩
  · exact ⟨11, rfl⟩
  · exact ⟨13, rfl⟩
theorem MaskG.odd {m : Nat} (h : MaskG m) : m % 2 = 1 := by rcases h with e | e | e | e | e | e <;> rw [e]
theorem MaskG.le {m : Nat} (h : MaskG m) : m ≤ 8191 := by rcases h with e | e | e | e | e | e <;> omega
theorem lcg_meets {m : Nat} (hm : MaskG m) {i j : Nat} (hi : i ≤ m) (hj : j ≤ m) : ∃ k, k ≤ m ∧ lcgI m i k = j := by
  obtain ⟨k, ek⟩ := hm.pow
  obtain ⟨a, la, ea⟩ := xx_all k i (by omega)
  obtain ⟨b, lb, eb⟩ := xx_all k j (by omega)
  have ei : lcgN m a = i := by rw [xx_lcg, ek, ea]
  by_cases c : a ≤ b
  · refine ⟨b - a, by omega, ?_⟩
    rw [← ei, lcgN_add, show a + (b - a) = b by omega, xx_lcg, ek, eb]
  · refine ⟨b + (m + 1) - a, by omega, ?_⟩
    rw [← ei, lcgN_add, show a + (b + (m + 1) - a) = 2 ^ k + b by omega, xx_lcg, ek, xx_back, eb]
theorem runs_meet {m : Nat} (hm : MaskG m) (h : Int) {j : Nat} (hj : j ≤ m) : ∃ n, n ≤ m + 12 ∧ runI m (SetTable.bits h) n = j := by
  obtain ⟨k, lk, e⟩ := lcg_meets hm (runI_le m (SetTable.bits h) 12) hj
  refine ⟨12 + k, by omega, ?_⟩
  rw [runI_tail (bits_lt h)]
  exact e
theorem ways_meet {m : Nat} (hm : MaskG m) (h : Int) {j : Nat} (hj : j ≤ m) : ∃ k, k < 10 * SetTable.turns m ∧ way m h k = j := by
  obtain ⟨n, ln, e⟩ := runs_meet hm h hj
  obtain ⟨k, lk, e2⟩ := run_nth m (SetTable.bits h) n
  refine ⟨k, ?_, ?_⟩
  · unfold SetTable.turns
    omega
  · show (nth m (runAt m (SetTable.bits h % (m + 1)) (SetTable.bits h)) k).j = j
    rw [e2]
    exact e
theorem way_in {m : Nat} {h : Int} {k : Nat} : way m h k ≤ m := by
  have r := runEnd_bd (Nat.le_of_lt_succ (Nat.mod_lt (SetTable.bits h) (Nat.succ_pos m)))
  have q := nth_in (m := m) k (runAt m (SetTable.bits h % (m + 1)) (SetTable.bits h)) (show SetTable.bits h % (m + 1) + (SetTable.runEnd m (SetTable.bits h % (m + 1)) - SetTable.bits h % (m + 1)) ≤ m by simp only [Nat.succ_eq_add_one] at r; omega)
  exact Nat.le_trans (Nat.le_add_right _ _) q
/-! ### tables -/
structure TabG (t : SetTable) (hs : List Int) : Prop where
  up : Ris t.place.toList
  none' : t.dummies = #[]
  size' : t.place.size = hs.length
  mask' : MaskG t.mask
  under : ∀ x ∈ t.place.toList, x ≤ t.mask
  found : ∀ (i : Nat) (h : Int) (j : Nat), hs[i]? = some h → t.place.toList[i]? = some j → ∃ k, way t.mask h k = j ∧ ∀ k', k' < k → way t.mask h k' ∈ t.place.toList
section
variable {t : SetTable} {hs : List Int}
theorem TabG.len (T : TabG t hs) : t.place.toList.length = hs.length := by rw [Array.length_toList]; exact T.size'
theorem TabG.gap (T : TabG t hs) (room : hs.length ≤ t.mask) (h : Int) : ∃ n, n < 10 * SetTable.turns t.mask ∧ way t.mask h n ∉ t.place.toList ∧ ∀ k, k < n → way t.mask h k ∈ t.place.toList := by
  have hl := T.len
  obtain ⟨j, lj, nj⟩ := st_missing t.place.toList (t.mask + 1) (by omega)
  obtain ⟨k, lk, ek⟩ := ways_meet T.mask' h (Nat.le_of_lt_succ lj)
  obtain ⟨n, a1, a2, a3⟩ := st_least (p := fun c => way t.mask h c ∉ t.place.toList) k (by show way t.mask h k ∉ _; rw [ek]; exact nj)
  exact ⟨n, Nat.lt_of_le_of_lt a1 lk, a2, fun c hc => Classical.byContradiction fun z => a3 c hc z⟩
theorem TabG.ahead (T : TabG t hs) {h : Int} {n i j : Nat} (hn : way t.mask h n ∉ t.place.toList) (hi : hs[i]? = some h) (hj : t.place.toList[i]? = some j) : ∃ k, k < n ∧ way t.mask h k = j := by
  obtain ⟨k, e, b⟩ := T.found i h j hi hj
  refine ⟨k, Classical.byContradiction fun z => ?_, e⟩
  by_cases c : k = n
  · rw [← c, e] at hn
    exact hn (List.mem_of_getElem? hj)
  · exact hn (b n (by omega))
theorem TabG.add (T : TabG t hs) {h : Int} {n : Nat} (hn : way t.mask h n ∉ t.place.toList) (hb : ∀ k, k < n → way t.mask h k ∈ t.place.toList) : ∃ p, (t.put (way t.mask h n)).2 = p ∧ p ≤ hs.length ∧ SetTable.below t.place (way t.mask h n) = p ∧
    TabG (t.put (way t.mask h n)).1 (hs.take p ++ h :: hs.drop p) ∧ (t.put (way t.mask h n)).1.mask = t.mask ∧ (t.put (way t.mask h n)).1.led = t.led ∧ (t.put (way t.mask h n)).1.plain = t.plain ∧ (t.put (way t.mask h n)).1.fill = hs.length + 1 := by
  have lm : way t.mask h n ≤ t.mask := way_in
  obtain ⟨j, ej⟩ : ∃ j, way t.mask h n = j := ⟨_, rfl⟩
  rw [ej] at hn lm ⊢
  have tl := T.len
  have cut := (below_cut T.up j).1
  have c1 : SetTable.below t.place j ≤ t.place.toList.length := by rw [Array.length_toList]; exact cut
  have c2 : SetTable.below t.place j ≤ hs.length := by omega
  have pp := put_place t j
  have new : t.place[SetTable.below t.place j]? ≠ some j := fun z => hn (List.mem_of_getElem? (by rw [Array.getElem?_toList]; exact z))
  have up : ∀ x, x ∈ t.place.toList → x ∈ (t.put j).1.place.toList := fun x hx => by rw [pp]; exact mem_ins.2 (.inr hx)
  have sz : (t.put j).1.place.size = hs.length + 1 := by
    rw [← Array.length_toList, pp, len_ins _ c1, tl]
  refine ⟨SetTable.below t.place j, rfl, c2, rfl, ⟨ris_insert T.up new, put_dm T.none' j, by rw [len_ins _ c2]; exact sz, T.mask', fun x hx => ?_, fun i h' j' g1 g2 => ?_⟩, rfl, rfl, rfl, ?_⟩
  · rw [pp] at hx
    rcases mem_ins.1 hx with rfl | z
    · exact lm
    · exact T.under x z
  · rw [tins_get hs c2] at g1
    rw [pp, tins_get _ c1] at g2
    show ∃ k, way t.mask h' k = j' ∧ ∀ k', k' < k → way t.mask h' k' ∈ (t.put j).1.place.toList
    by_cases a1 : i < SetTable.below t.place j
    · rw [if_pos a1] at g1 g2
      obtain ⟨k, e, z⟩ := T.found i h' j' g1 g2
      exact ⟨k, e, fun k' l => up _ (z k' l)⟩
    · rw [if_neg a1] at g1 g2
      by_cases a2 : i = SetTable.below t.place j
      · rw [if_pos a2] at g1 g2
        cases g1
        cases g2
        exact ⟨n, ej, fun k' l => up _ (hb k' l)⟩
      · rw [if_neg a2] at g1 g2
        obtain ⟨k, e, z⟩ := T.found (i - 1) h' j' g1 g2
        exact ⟨k, e, fun k' l => up _ (z k' l)⟩
  · show (t.put j).1.place.size + (t.put j).1.dummies.size = hs.length + 1
    rw [sz, put_dm T.none' j]
    rfl
end
/-! ### laid anew -/
theorem free_at {m : Nat} (hm : MaskG m) (owner : Array (Option Nat)) (h : Int) {j : Nat} (hj : j ≤ m) (hf : oAt owner j = none) :
    ∃ n, SetTable.layClean.free m owner (SetTable.turns m) (SetTable.bits h % (m + 1)) (SetTable.bits h) = some (way m h n) ∧ oAt owner (way m h n) = none ∧ ∀ k, k < n → oAt owner (way m h k) ≠ none := by
  obtain ⟨r, lr, er⟩ := runs_meet hm h hj
  obtain ⟨f, ef⟩ : ∃ f, off m (SetTable.bits h % (m + 1)) (SetTable.bits h) r = f := ⟨_, rfl⟩
  have hw : way m h f = j := by
    show (nth m (runAt m (SetTable.bits h % (m + 1)) (SetTable.bits h)) f).j = j
    rw [← ef, nth_off, itL_run]
    exact er
  obtain ⟨n, a1, a2, a3⟩ := st_least (p := fun k => oAt owner (way m h k) = none) f (by show oAt owner (way m h f) = none; rw [hw]; exact hf)
  have some_of : ∀ {o : Option Nat}, o ≠ none → o.isNone = false := fun {o} z => by cases o with | none => exact absurd rfl z | some _ => rfl
  refine ⟨n, free_spec m owner (SetTable.turns m) r _ _ n (by unfold SetTable.turns; omega) (by omega) (fun k hk => some_of (a3 k hk)) ?_, a2, a3⟩
  have a2 : oAt owner (nth m (runAt m (SetTable.bits h % (m + 1)) (SetTable.bits h)) n).j = none := a2
  rw [a2]
  rfl
theorem own_more {m : Nat} (hm : MaskG m) {done : List Int} {owner : Array (Option Nat)} (W : Own m done owner) (hl : done.length ≤ m) (h : Int) :
    ∃ j, SetTable.layClean.free m owner (SetTable.turns m) (SetTable.bits h % (m + 1)) (SetTable.bits h) = some j ∧ Own m (done ++ [h]) (owner.setIfInBounds j (some done.length)) := by
  obtain ⟨ps, pl, pin⟩ := W.ps
  obtain ⟨z, lz, nz⟩ := st_missing ps (m + 1) (by omega)
  have hz : oAt owner z = none := Classical.byContradiction fun q => nz (pin z (Nat.le_of_lt_succ lz) q)
  obtain ⟨n, b1, b2, b3⟩ := free_at hm owner h (Nat.le_of_lt_succ lz) hz
  obtain ⟨j, ej⟩ : ∃ j, way m h n = j := ⟨_, rfl⟩
  have jm : j ≤ m := by rw [← ej]; exact way_in
  rw [ej] at b1 b2
  have js : j < owner.size := by have := W.sz; omega
  have self := oAt_set_self (owner := owner) (some done.length) js
  have stay : ∀ i, oAt owner i ≠ none → oAt (owner.setIfInBounds j (some done.length)) i ≠ none := fun i hi => by
    by_cases c : i = j
    · rw [c, self]; exact fun e => nomatch e
    · rw [oAt_set_ne _ c]; exact hi
  refine ⟨j, b1, by rw [Array.size_setIfInBounds]; exact W.sz, fun i k hi e => ?_, fun k hk => ?_, j :: ps, by rw [List.length_cons, List.length_append, pl]; rfl, fun i hi e => ?_⟩
  · by_cases c : i = j
    · rw [c, self] at e
      cases e
      refine ⟨h, n, by rw [List.getElem?_append_right (Nat.le_refl _), Nat.sub_self]; rfl, by rw [c]; exact ej, fun k' l => stay _ (b3 k' l)⟩
    · rw [oAt_set_ne _ c] at e
      obtain ⟨h', n', e1, e2, e3⟩ := W.at_ i k hi e
      refine ⟨h', n', ?_, e2, fun k' l => stay _ (e3 k' l)⟩
      rw [List.getElem?_append_left (List.getElem?_eq_some_iff.mp e1).1]
      exact e1
  · rw [List.length_append, List.length_singleton] at hk
    by_cases c : k = done.length
    · exact ⟨j, jm, by rw [c]; exact self⟩
    · obtain ⟨i, hi, e⟩ := W.all k (by omega)
      refine ⟨i, hi, ?_⟩
      rw [oAt_set_ne _ fun q => by rw [q, b2] at e; cases e]
      exact e
  · by_cases c : i = j
    · rw [c]; exact List.mem_cons_self
    · rw [oAt_set_ne _ c] at e
      exact List.mem_cons_of_mem _ (pin i hi e)
theorem lay_all {m : Nat} (hm : MaskG m) : ∀ (rest done : List Int) (owner : Array (Option Nat)), Own m done owner → done.length + rest.length ≤ m → ∃ o', rest.foldl (stepF m) (some (owner, done.length)) = some (o', (done ++ rest).length) ∧ Own m (done ++ rest) o'
  | [], done, owner, W, _ => ⟨owner, by rw [List.append_nil]; rfl, by rw [List.append_nil]; exact W⟩
  | h :: rest, done, owner, W, hl => by
    have hl : done.length + (rest.length + 1) ≤ m := hl
    obtain ⟨j, e, W'⟩ := own_more hm W (by omega) h
    have dl : (done ++ [h]).length = done.length + 1 := List.length_append ..
    obtain ⟨o', f, W2⟩ := lay_all hm rest (done ++ [h]) _ W' (by omega)
    have ea : done ++ [h] ++ rest = done ++ h :: rest := List.append_assoc ..
    rw [ea] at f W2
    rw [dl] at f
    refine ⟨o', ?_, W2⟩
    rw [List.foldl_cons, stepF_some e]
    exact f
theorem lay_ok {m : Nat} (hm : MaskG m) {hs : Array Int} (hn : hs.size ≤ m) : ∃ owner, SetTable.layClean m hs = some owner ∧ Own m hs.toList owner := by
  obtain ⟨owner, f, W⟩ := lay_all hm hs.toList [] _ (Own.init m) (by rw [Array.length_toList]; simpa using hn)
  refine ⟨owner, ?_, W⟩
  rw [layClean_eq, show (0 : Nat) = ([] : List Int).length from rfl, f]
  rfl
theorem relay_ok (t : SetTable) {hs : Array Int} {wanted m : Nat} (hw : SetTable.sizeAbove wanted - 1 = m) (hM : MaskG m) (hn : hs.size ≤ m) :
    ∃ t' order, t.relaid hs wanted = some (t', order) ∧ order.toList.Perm (List.range hs.size) ∧ TabG t' (order.toList.map fun i => hs.getD i 0) ∧ t'.mask = m ∧ t'.led = t.led ∧ t'.plain = t.plain := by
  obtain ⟨owner, e, W⟩ := lay_ok hM hn
  obtain ⟨lv, elv⟩ : ∃ lv, liveOf m owner = lv := ⟨_, rfl⟩
  have hr : t.relaid hs wanted = some (tabOf t m owner, (lv.map (·.2)).toArray) := by
    rw [relaid_eq, hw, e, ← elv]
    rfl
  have ris := ris_live (fun j => owner.getD j none) (List.range (m + 1)) List.pairwise_lt_range
  have r1 : Ris (lv.map (·.1)) := by rw [← elv]; exact ris.1
  have r2 : ∀ x ∈ lv.map (·.1), x ≤ m := fun x hx => by
    rw [← elv] at hx
    exact Nat.le_of_lt_succ (List.mem_range.mp (ris.2 x hx))
  have mem : ∀ {j k}, (j, k) ∈ lv ↔ j ≤ m ∧ oAt owner j = some k := fun {j k} => by rw [← elv]; exact mem_live W.sz
  have nd_of : ∀ {l : List Nat}, Ris l → l.Nodup := fun {l} h => List.Pairwise.imp (fun h => Nat.ne_of_lt h) h
  have tot : lv.length = hs.size := by
    obtain ⟨ps, p1, p2⟩ := W.ps
    have u1 := nat_nodup_len (lv.map (·.1)) ps (nd_of r1) fun x hx => by
      obtain ⟨⟨y, k⟩, hq, rfl⟩ := List.mem_map.mp hx
      obtain ⟨b1, b2⟩ := mem.1 hq
      exact p2 y b1 (by rw [b2]; exact fun z => nomatch z)
    have u2 := nat_nodup_len (List.range hs.size) (lv.map (·.2)) List.nodup_range fun k hk => by
      obtain ⟨j, b1, b2⟩ := W.all k (by rw [Array.length_toList]; exact List.mem_range.mp hk)
      exact List.mem_map.mpr ⟨(j, k), mem.2 ⟨b1, b2⟩, rfl⟩
    have p1' : ps.length = hs.size := p1
    rw [List.length_map, p1'] at u1
    rw [List.length_map, List.length_range] at u2
    omega
  have pl : (tabOf t m owner).place.toList = lv.map (·.1) := by rw [← elv]; rfl
  refine ⟨_, _, hr, perm_range hs.size _ (by simpa using tot) fun k hk => ?_, ⟨by rw [pl]; exact r1, rfl, ?_, hM, fun x hx => r2 x (by rw [pl] at hx; exact hx), fun i h j h1 h2 => ?_⟩, rfl, rfl, rfl⟩
  · obtain ⟨j, b1, b2⟩ := W.all k (by rw [Array.length_toList]; exact hk)
    exact List.mem_map.mpr ⟨(j, k), mem.2 ⟨b1, b2⟩, rfl⟩
  · rw [← Array.length_toList, pl]
    simp
  · rw [pl] at h2 ⊢
    have h1 : ((lv.map (·.2)).map fun i => hs.getD i 0)[i]? = some h := h1
    rw [List.getElem?_map, List.getElem?_map] at h1
    rw [List.getElem?_map] at h2
    cases hq : lv[i]? with
    | none => rw [hq] at h2; cases h2
    | some q =>
      obtain ⟨y, k⟩ := q
      rw [hq] at h1 h2
      cases h2
      have eh : hs.getD k 0 = h := Option.some.inj h1
      obtain ⟨b1, b2⟩ := mem.1 (List.mem_of_getElem? hq)
      obtain ⟨h0, n, a1, a2, a3⟩ := W.at_ y k b1 b2
      have e0 : hs.getD k 0 = h0 := by
        rw [Array.getD_eq_getD_getElem?, ← Array.getElem?_toList, a1]
        rfl
      rw [e0] at eh
      subst eh
      refine ⟨n, a2, fun k' l => ?_⟩
      show way m h0 k' ∈ lv.map (·.1)
      cases z : oAt owner (way m h0 k') with
      | none => exact absurd z (a3 k' l)
      | some k2 => exact List.mem_map.mpr ⟨(way m h0 k', k2), mem.2 ⟨way_in, z⟩, rfl⟩
/-! ### sets of up to 4000 tuples of ints -/
abbrev prb (m : Nat) (h : Int) (c : Nat) : SetTable.Probe := nth m (runAt m (SetTable.bits h % (m + 1)) (SetTable.bits h)) c
theorem prb_more {m : Nat} {h : Int} {c : Nat} (q : Nat) : nth m (prb m h c) q = prb m h (c + q) := (nth_add m c _ q).symm
theorem prb_j {m : Nat} {h : Int} {c : Nat} (q : Nat) : (nth m (prb m h c) q).j = way m h (c + q) := by rw [prb_more]
theorem prb_clean {m : Nat} {h : Int} : ∀ c, (prb m h c).dummy = none
  | 0 => rfl
  | c + 1 => by
    have e : prb m h (c + 1) = adv m (prb m h c) := nth_succ m _ c
    rw [e]
    unfold adv
    split
    · exact prb_clean c
    · exact prb_clean c
structure SetG (P : Program) (w : World) (h : Heap) (a : Addr) (L : List (Addr × List Int)) (es : Array (Int × Value)) (ep : Nat) (t : SetTable) : Prop where
  obj : ∃ o, h.get? a = some o ∧ o.ExactSet ∧ o.data = .set es ep t
  row : es.toList = L2.rowsOf P w L
  tab : TabG t (L.map fun q => thash P w q.2)
  dis : (L.map (·.2)).Nodup
  are : ∀ q ∈ L, IsT P w h q.2 q.1
  pln : t.plain = true
  lead : w.params.followText "set-order" = true ∨ t.led = true
  gap : L.length * 5 < t.mask * 3
  most : L.length ≤ 4000
section
variable {P : Program} {w : World} {A : Around} {E : Value → Shared → Prop} {s : Shared} {a : Addr} {L : List (Addr × List Int)} {es : Array (Int × Value)} {ep : Nat} {t : SetTable}
theorem rows_len {L : List (Addr × List Int)} {es : Array (Int × Value)} (h : es.toList = L2.rowsOf P w L) : es.size = L.length := by
  have z : es.toList.length = (L2.rowsOf P w L).length := by rw [h]
  simpa [L2.rowsOf] using z
theorem rows_at {L : List (Addr × List Int)} {es : Array (Int × Value)} (h : es.toList = L2.rowsOf P w L) {i : Nat} {q : Addr × List Int} (g : L[i]? = some q) : es[i]? = some (thash P w q.2, Value.ref q.1) := by
  rw [← Array.getElem?_toList, h]
  simp [L2.rowsOf, g]
theorem fits_of {t : SetTable} {n : Nat} (d : t.dummies = #[]) (e : t.place.size = n) (l : n ≤ t.mask) : t.fits n = true := by
  simp [SetTable.fits, SetTable.fill, d, e, l]
theorem SetG.len (R : SetG P w s.heap a L es ep t) : es.size = L.length := rows_len R.row
theorem SetG.ok (R : SetG P w s.heap a L es ep t) : t.fits es.size = true := by
  have h1 : t.place.size = L.length := by rw [R.tab.size', List.length_map]
  have h3 := R.gap
  rw [R.len]
  exact fits_of R.tab.none' h1 (by omega)
theorem SetG.stays (R : SetG P w s.heap a L es ep t) : ¬ t.gaveWay = true := by
  simp [SetTable.gaveWay, R.tab.mask'.odd]

/-- a search for the tuple k from its c-th step on; the n-th is the first that meets a gap -/
theorem seek_from (R : SetG P w s.heap a L es ep t) {x : Addr} {k : List Int} (hx : IsT P w s.heap k x) (deep : A.units < cLine) {n : Nat} (nl : n < 10 * SetTable.turns t.mask)
    (ng : way t.mask (thash P w k) n ∉ t.place.toList) (nb : ∀ c, c < n → way t.mask (thash P w k) c ∈ t.place.toList) {Q : SetFound → Shared → Prop}
    (yes : k ∈ L.map (·.2) → Q (.there none) s) (no : k ∉ L.map (·.2) → Q (.free (way t.mask (thash P w k) n) false) s) :
    ∀ (f c : Nat) (stand : Option SetTable.Probe), stand.getD (t.probeStart (thash P w k)) = prb t.mask (thash P w k) c → c ≤ n → n - c < f →
      (∀ (i : Nat) (q : Addr × List Int), L[i]? = some q → q.2 = k → ∃ d, c ≤ d ∧ d < n ∧ t.place.toList[i]? = some (way t.mask (thash P w k) d)) →
      wpAny (model P w) A (setSearchFrom a (.ref x) (thash P w k) true f stand) Q E s := by
  intro f
  induction f with
  | zero => intro c _ _ _ h; exact absurd h (Nat.not_lt_zero _)
  | succ f ih =>
    intro c stand from_ cn room ahead
    obtain ⟨o, ho, _, hd⟩ := R.obj
    obtain ⟨g, eg⟩ : ∃ g : Nat → Int, (fun i => (es[i]?.map (·.1)).getD 0) = g := ⟨_, rfl⟩
    have gat : ∀ (i : Nat) (q : Addr × List Int), L[i]? = some q → g i = thash P w q.2 := fun i q h => by
      rw [← eg]
      simp [rows_at R.row h]
    rw [setSearchFrom_succ]
    refine wpAny_bind (wpAny_setState_of ho hd R.ok ?_)
    dsimp only
    refine wp_if_neg R.stays ?_
    try refine wpAny_bind (wpAny_pure ?_)
    rw [from_, eg]
    have probed := go_spec t R.tab.up R.tab.none' g (thash P w k) (10 * SetTable.turns t.mask) (n - c) (prb t.mask (thash P w k) c) (prb_clean c) (by omega)
      (fun q hq => by rw [prb_j]; exact nb _ (by omega)) (by rw [prb_j, show c + (n - c) = n by omega]; exact ng)
    rcases probed with ⟨q, i, lq, iq, hq, before, e⟩ | ⟨before, e⟩
    · rw [show t.probe g (thash P w k) (prb t.mask (thash P w k) c) = _ from e]
      rw [prb_j] at iq ⊢
      rw [prb_more]
      dsimp only
      have il : i < L.length := by
        have h1 := (List.getElem?_eq_some_iff.mp iq).1
        have h2 := R.tab.len
        rw [List.length_map] at h2
        omega
      obtain ⟨p, hp⟩ : ∃ p, L[i]? = some p := ⟨_, List.getElem?_eq_getElem il⟩
      have pm : p ∈ L := List.mem_of_getElem? hp
      have live : t.slot (way t.mask (thash P w k) (c + q)) = .live i := slot_live R.tab.up iq
      have then_ : wpAny (model P w) A (searchRest a (.ref x) (thash P w k) true f es t (way t.mask (thash P w k) (c + q)) i (prb t.mask (thash P w k) (c + (q + 1)))) Q E s := by
        unfold searchRest
        rw [rows_at R.row hp]
        dsimp only
        refine wpAny_bind (wpAny_holding (wpAny_eqBool_tuple deep (R.are p pm) hx ?_))
        refine wpAny_bind (wpAny_setState_of ho hd R.ok ?_)
        dsimp only
        by_cases same : p.2 = k
        · refine wp_if_pos (by simp [same]) (wpAny_pure (yes ?_))
          exact List.mem_map.mpr ⟨p, pm, same⟩
        · refine wp_if_neg (by simp [same]) ?_
          try refine wpAny_bind (wpAny_pure ?_)
          rw [sameMem]
          dsimp only
          simp only [if_true, live, rows_at R.row hp]
          refine wpAny_bind (wpAny_isSame_ref_self (wpAny_bind (wpAny_pure ?_)))
          simp only [if_true]
          refine wp_if_neg (by simp [same]) (ih (c + (q + 1)) _ rfl (by omega) (by omega) fun i0 p0 h0 k0 => ?_)
          obtain ⟨d, d1, d2, d3⟩ := ahead i0 p0 h0 k0
          refine ⟨d, ?_, d2, d3⟩
          by_cases u : d < c + q
          · exact absurd ((gat i0 p0 h0).trans (by rw [k0])) (before (d - c) i0 (by omega) (by rw [prb_j, show c + (d - c) = d by omega]; exact d3))
          · by_cases v : d = c + q
            · rw [v] at d3
              have l2 := slot_live R.tab.up d3
              rw [live] at l2
              cases l2
              rw [hp] at h0
              cases h0
              exact absurd k0 same
            · omega
      by_cases lead : t.led = true
      · refine wp_if_neg (by simp [lead]) ?_
        try refine wpAny_bind (wpAny_pure ?_)
        exact then_
      · refine wp_if_pos (by simp [lead]) (wpAny_bind (seen_tup hx (fun y hy => ?_) ?_))
        · obtain ⟨z, hz, rfl⟩ := List.mem_map.mp hy
          have hz2 : z ∈ es.toList := by
            have hz3 : z ∈ es ∧ z.1 = thash P w k := by simpa using hz
            simpa using hz3.1
          rw [R.row] at hz2
          obtain ⟨p2, g1, rfl⟩ := List.mem_map.mp hz2
          exact ⟨p2.2, p2.1, rfl, R.are p2 g1⟩
        · refine wp_if_neg (by decide) ?_
          try refine wpAny_bind (wpAny_pure ?_)
          exact then_
    · rw [show t.probe g (thash P w k) (prb t.mask (thash P w k) c) = _ from e, prb_j, show c + (n - c) = n by omega]
      dsimp only
      refine wpAny_pure (no fun hm => ?_)
      obtain ⟨p0, h0, k0⟩ := List.mem_map.mp hm
      obtain ⟨i0, h1⟩ := List.mem_iff_getElem?.mp h0
      obtain ⟨d, d1, d2, d3⟩ := ahead i0 p0 h1 k0
      exact before (d - c) i0 (by omega) (by rw [prb_j, show c + (d - c) = d by omega]; exact d3) ((gat i0 p0 h1).trans (by rw [k0]))
theorem seek_new (R : SetG P w s.heap a L es ep t) {x : Addr} {k : List Int} (hx : IsT P w s.heap k x) (deep : A.units < cLine) {Q : SetFound → Shared → Prop}
    (yes : k ∈ L.map (·.2) → Q (.there none) s)
    (no : ∀ n, k ∉ L.map (·.2) → way t.mask (thash P w k) n ∉ t.place.toList → (∀ c, c < n → way t.mask (thash P w k) c ∈ t.place.toList) → Q (.free (way t.mask (thash P w k) n) false) s) :
    wpAny (model P w) A (setSearch a (.ref x) (thash P w k) true) Q E s := by
  have room := R.gap
  obtain ⟨n, n1, n2, n3⟩ := R.tab.gap (by rw [List.length_map]; omega) (thash P w k)
  have small : n < 100000 := by
    have := R.tab.mask'.le
    unfold SetTable.turns at n1
    omega
  unfold setSearch
  refine seek_from R hx deep n1 n2 n3 yes (fun h => no n h n2 n3) 100000 0 none rfl (Nat.zero_le _) (by omega) fun i q g e => ?_
  have h1 : (L.map fun q => thash P w q.2)[i]? = some (thash P w k) := by rw [List.getElem?_map, g, ← e]; rfl
  have il : i < t.place.toList.length := by
    have := (List.getElem?_eq_some_iff.mp g).1
    have z := R.tab.len
    rw [List.length_map] at z
    omega
  obtain ⟨d, d1, d2⟩ := R.tab.ahead n2 h1 (List.getElem?_eq_getElem il)
  exact ⟨d, Nat.zero_le _, d1, by rw [d2]; exact List.getElem?_eq_getElem il⟩
end
theorem grow32 : SetTable.sizeAbove (SetTable.grown 5) = 32 := by decide +kernel
theorem grow128 : SetTable.sizeAbove (SetTable.grown 19) = 128 := by decide +kernel
theorem grow512 : SetTable.sizeAbove (SetTable.grown 77) = 512 := by decide +kernel
theorem grow2048 : SetTable.sizeAbove (SetTable.grown 307) = 2048 := by decide +kernel
theorem grow8192 : SetTable.sizeAbove (SetTable.grown 1229) = 8192 := by decide +kernel
/-- a full table's next mask -/
theorem next_mask {m n : Nat} (hm : MaskG m) (h1 : n * 5 < m * 3) (h2 : (n + 1) * 5 ≥ m * 3) (h3 : n + 1 ≤ 4000) : ∃ b, MaskG b ∧ SetTable.sizeAbove (SetTable.grown (n + 1)) = b + 1 ∧ (n + 1) * 5 < b * 3 := by
  rcases hm with rfl | rfl | rfl | rfl | rfl | rfl
  · obtain rfl : n = 4 := by omega
    exact ⟨31, .inr (.inl rfl), grow32, by decide⟩
  · obtain rfl : n = 18 := by omega
    exact ⟨127, .inr (.inr (.inl rfl)), grow128, by decide⟩
  · obtain rfl : n = 76 := by omega
    exact ⟨511, .inr (.inr (.inr (.inl rfl))), grow512, by decide⟩
  · obtain rfl : n = 306 := by omega
    exact ⟨2047, .inr (.inr (.inr (.inr (.inl rfl)))), grow2048, by decide⟩
  · obtain rfl : n = 1228 := by omega
    exact ⟨8191, .inr (.inr (.inr (.inr (.inr rfl)))), grow8192, by decide⟩
  · omega
section
variable {P : Program} {w : World} {A : Around} {E : Value → Shared → Prop} {s : Shared} {a : Addr} {L : List (Addr × List Int)} {es : Array (Int × Value)} {ep : Nat} {t : SetTable}
/-- the table is laid anew, greater -/
theorem lay_anew {o : Obj} (ho : s.heap.get? a = some o) (ex : o.ExactSet) (hd : o.data = .set es ep t) (row : es.toList = L2.rowsOf P w L) (d0 : t.dummies = #[]) (sz : t.place.size = es.size) (le : es.size ≤ t.mask)
    (dis : (L.map (·.2)).Nodup) (are : ∀ q ∈ L, IsT P w s.heap q.2 q.1) (pln : t.plain = true) (lead : w.params.followText "set-order" = true ∨ t.led = true) (most : L.length ≤ 4000) {wanted b : Nat}
    (hb : MaskG b) (hw : SetTable.sizeAbove wanted = b + 1) (gap : L.length * 5 < b * 3) {Q : Unit → Shared → Prop}
    (q : ∀ g N fs en u, Heap.SameBut a s.heap g → SetG P w g a N fs en u → N.Perm L → Q () { s with heap := g }) : wpAny (model P w) A (setRelay a wanted) Q E s := by
  have n0 := rows_len row
  have bl := hb.le
  obtain ⟨u, order, r0, r1, r2, r3, r4, r5⟩ := relay_ok t (hs := es.map (·.1)) (wanted := wanted) (m := b) (by omega) hb (by rw [Array.size_map]; omega)
  rw [Array.size_map, n0] at r1
  obtain ⟨N, f1, f2, f3⟩ := order_rows L es order row r1
  rw [← f3] at r2
  have n1 : (order.filterMap fun i => es[i]?).size = es.size := by rw [rows_len f1, f2.length_eq, n0]
  rw [setRelay_eq]
  refine wpAny_bind (wpAny_setState_of ho hd (fits_of d0 sz le) ?_)
  dsimp only
  refine wp_if_neg (by rw [hw, sizeLine_eq]; omega) ?_
  try refine wpAny_bind (wpAny_pure ?_)
  rw [r0]
  dsimp only
  refine wpAny_bind (wp_if_neg (by simp [n1]) ?_)
  try refine wpAny_bind (wpAny_pure ?_)
  refine wpAny_pure ?_
  dsimp only
  refine wpAny_storeSet_of ho hd ?_ (by rw [n1, n0, sizeLine_eq]; omega)
  have but := Heap.SameBut.update (a := a) (h := s.heap) (f := Obj.putSet (order.filterMap fun i => es[i]?) u)
  exact q _ N _ (ep + 1) u but ⟨⟨_, store_at ho hd, ⟨ex.1, ex.2.1, ex.2.2⟩, rfl⟩, f1, r2, (f2.map (·.2)).nodup_iff.mpr dis, fun z hz => isT_same (are z (f2.mem_iff.mp hz)) ho hd but, by rw [r5]; exact pln, by rw [r4]; exact lead, by rw [f2.length_eq, r3]; exact gap, by rw [f2.length_eq]; exact most⟩ f2
/-- one is added -/
theorem add_one (R : SetG P w s.heap a L es ep t) {x : Addr} {k : List Int} (hx : IsT P w s.heap k x) (deep : A.units < cLine) (more : L.length + 1 ≤ 4000) {Q : Bool → Shared → Prop}
    (q : ∀ c g N fs en u, Heap.SameBut a s.heap g → SetG P w g a N fs en u → (k ∈ L.map (·.2) → N = L) → (k ∉ L.map (·.2) → N.Perm ((x, k) :: L)) → Q c { s with heap := g }) :
    wpAny (model P w) A (setAddHashed a (.ref x) (thash P w k)) Q E s := by
  obtain ⟨o, ho, ex, hd⟩ := R.obj
  unfold setAddHashed
  refine wpAny_holding ?_
  rw [show (100000 : Nat) = 99999 + 1 from rfl, setAddHashedIn_succ]
  refine wpAny_bind (wpAny_setState_of ho hd R.ok ?_)
  dsimp only
  refine wp_if_neg (by simp [byScan, Value.scannable]) ?_
  try refine wpAny_bind (wpAny_pure ?_)
  refine wpAny_bind (seek_new R hx deep (fun there => ?_) fun n fresh ng nb => ?_)
  · dsimp only
    exact wpAny_pure (q false s.heap L es ep t (Heap.SameBut.refl a s.heap) R (fun _ => rfl) fun z => absurd there z)
  · dsimp only
    refine wpAny_bind (wpAny_setState_of ho hd R.ok ?_)
    dsimp only
    obtain ⟨p, p1, p2, p3, T, p5, p6, p7, p8⟩ := R.tab.add ng nb
    have pln : (t.put (way t.mask (thash P w k) n)).1.plain = true := by rw [p7]; exact R.pln
    generalize t.put (way t.mask (thash P w k) n) = tp at p1 T p5 p6 p7 p8 pln ⊢
    obtain ⟨u, p'⟩ := tp
    dsimp only at p1 T p5 p6 p7 p8 pln ⊢
    subst p1
    first
      | (refine wpAny_bind ?_; refine wp_if_pos pln ?_; refine hashBy_tup hx ?_)
      | refine wp_if_pos pln (wpAny_bind (hashBy_tup hx ?_))
    simp only [if_true]
    have row : (SetTable.insertAt es p' (thash P w k, Value.ref x)).toList = L2.rowsOf P w (L.take p' ++ (x, k) :: L.drop p') := by
      rw [SetTable.toList_insertAt, rows_put, R.row]
    have perm := put_perm L p' (x, k)
    have hmap : (L.map fun q => thash P w q.2).take p' ++ thash P w k :: (L.map fun q => thash P w q.2).drop p' = (L.take p' ++ (x, k) :: L.drop p').map fun q => thash P w q.2 := by
      rw [List.map_append, List.map_cons, List.map_take, List.map_drop]
    rw [hmap] at T
    generalize SetTable.insertAt es p' (thash P w k, Value.ref x) = fs at row ⊢
    generalize L.take p' ++ (x, k) :: L.drop p' = N at row perm T
    have nl : N.length = L.length + 1 := perm.length_eq
    have fl : fs.size = L.length + 1 := by rw [rows_len row, nl]
    have dis : (N.map (·.2)).Nodup := (perm.map (·.2)).nodup_iff.mpr (List.nodup_cons.mpr ⟨fresh, R.dis⟩)
    refine wpAny_bind (wpAny_storeSet_of ho hd ?_ (by rw [fl, sizeLine_eq]; omega))
    have but := Heap.SameBut.update (a := a) (h := s.heap) (f := Obj.putSet fs u)
    have ho1 := store_at (es' := fs) (t' := u) ho hd
    generalize s.heap.update a (Obj.putSet fs u) = g at but ho1 ⊢
    have are : ∀ z ∈ N, IsT P w g z.2 z.1 := fun z hz => by
      rcases List.mem_cons.mp (perm.mem_iff.mp hz) with rfl | hz
      · exact isT_same hx ho hd but
      · exact isT_same (R.are z hz) ho hd but
    have lead : w.params.followText "set-order" = true ∨ u.led = true := by rw [p6]; exact R.lead
    have room := R.gap
    have full : u.tooFull = decide ((L.length + 1) * 5 ≥ t.mask * 3) := by
      unfold SetTable.tooFull
      rw [p8, p5, List.length_map]
    by_cases c : (L.length + 1) * 5 ≥ t.mask * 3
    · have cf : u.tooFull = true := by rw [full]; exact decide_eq_true c
      obtain ⟨b, hb, hs, gap⟩ := next_mask R.tab.mask' room c more
      first
        | (refine wpAny_bind ?_; refine wp_if_pos (by simp [cf]) ?_)
        | (refine wp_if_pos (by simp [cf]) ?_; refine wpAny_bind ?_)
      rw [R.len]
      refine lay_anew (s := { s with heap := g }) ho1 ⟨ex.1, ex.2.1, ex.2.2⟩ rfl row T.none' (by rw [T.size', List.length_map, nl, fl]) (by rw [fl, p5]; rcases R.tab.mask' with e | e | e | e | e | e <;> rw [e] at room ⊢ <;> omega) dis are pln lead (by omega) hb hs (by rw [nl]; exact gap) ?_
      intro g2 N2 fs2 en2 u2 but2 R2 perm2
      exact wpAny_pure (q true g2 N2 fs2 en2 u2 (but.trans but2) R2 (fun z => absurd z fresh) fun _ => perm2.trans perm)
    · have cf : u.tooFull = false := by rw [full]; exact decide_eq_false c
      first
        | refine wp_if_neg (by simp [cf]) ?_
        | (refine wpAny_bind ?_; refine wp_if_neg (by simp [cf]) ?_; refine wpAny_pure ?_)
      refine wpAny_pure (q true g N fs (ep + 1) u but ⟨⟨_, ho1, ⟨ex.1, ex.2.1, ex.2.2⟩, rfl⟩, row, T, dis, are, pln, lead, ?_, by omega⟩ (fun z => absurd z fresh) fun _ => perm)
      rw [nl, p5]
      omega
/-- told anew where all that was told stays -/
theorem SetG.later {g h : Heap} (R : SetG P w g a L es ep t) (ha : ∀ o, g.get? a = some o → h.get? a = some o) (ht : ∀ q ∈ L, IsT P w h q.2 q.1) : SetG P w h a L es ep t := by
  obtain ⟨o, ho, r⟩ := R.obj
  exact ⟨⟨o, ha o ho, r⟩, R.row, R.tab, R.dis, ht, R.pln, R.lead, R.gap, R.most⟩
/-- a new one -/
theorem SetG.nil {h : Heap} (ho : h.get? a = some (emptyS w)) : SetG P w h a [] #[] 0 (.fresh 0 0 (!w.params.followText "set-order")) :=
  ⟨⟨_, ho, ⟨rfl, rfl, rfl⟩, rfl⟩, rfl, ⟨List.Pairwise.nil, rfl, rfl, .inl rfl, fun x hx => (by cases hx), fun i h j hi => by simp at hi⟩, List.nodup_nil, fun p hp => (by cases hp), rfl, by cases w.params.followText "set-order" <;> simp [SetTable.fresh], by show 0 * 5 < 7 * 3; decide, Nat.zero_le _⟩
end
section
variable {P : Program} {w : World} {A : Around} {E : Value → Shared → Prop} {s : Shared}
/-- a source of tuples is gone through, each is added -/
theorem all_added {I src : Addr} {fp wr : List Addr} {G : Array GenState → Array GenState → Prop} {Pv : Nat → Value → Prop} {St : Nat → Shared → Prop} {R : Result → Shared → Prop} {n : Nat} (ks : List (Addr × List Int))
    (W : WalksS P w A.in1 I fp wr G n Pv St) (hn : n = ks.length) (far : src ∉ fp) (few : ks.length ≤ 4000) (vals : ∀ i v, Pv i v → ∃ q, ks[i]? = some q ∧ v = .ref q.1)
    (g : Heap) (tups : ∀ q ∈ ks, IsT P w g q.2 q.1) (g0 : g.get? src = none) (gw : ∀ b ∈ wr, g.get? b = none) (deep : A.in1.units < cLine) :
    ∀ (left i : Nat) (s : Shared), ks.length - i = left → i ≤ ks.length → St i s → (∀ b o, g.get? b = some o → s.heap.get? b = some o) → (∃ L es ep t, SetG P w s.heap src L es ep t ∧ Got ks i L) →
      (∀ s' L es ep t, Moved (src :: wr) G s s' → SetG P w s'.heap src L es ep t → Got ks ks.length L → (∀ b o, g.get? b = some o → s'.heap.get? b = some o) → R (.ok (.ret .none)) s') →
      codeAny (model P w) A (.builtin "set.update.loop" ⟨[.ref src, .ref I], []⟩) R s := by
  subst hn
  have apart : src ∉ wr := fun h => far (W.sub _ h)
  have wider : ∀ b ∈ wr, b ∈ src :: wr := fun b hb => List.mem_cons_of_mem _ hb
  intro left
  induction left with
  | zero =>
    intro i s le ic st old ⟨L, es, ep, t, set, got⟩ out
    obtain rfl : i = ks.length := by omega
    refine codeAny_builtin F.entry_set_update_loop ?_
    rw [Around.under_plainId F.plain_set_update_loop _]
    show wpAny _ _ (pyNext (.ref I) >>= _) _ _ s
    refine wpAny_bind (W.done s _ _ st fun s' mv => ?_)
    have old' : ∀ b o, g.get? b = some o → s'.heap.get? b = some o := fun b o e => mv.heap b o (fun hb => by rw [gw b hb] at e; cases e) (old b o e)
    exact wpAny_pure (out s' L es ep t (mv.mono wider) (set.later (fun o e => mv.heap src o apart e) fun q hq => isT_keep (tups q (List.mem_of_mem_take (got.sub q hq))) old') got old')
  | succ left ih =>
    intro i s le ic st old ⟨L, es, ep, t, set, got⟩ out
    have lt : i < ks.length := by omega
    refine codeAny_builtin F.entry_set_update_loop ?_
    rw [Around.under_plainId F.plain_set_update_loop _]
    show wpAny _ _ (pyNext (.ref I) >>= _) _ _ s
    refine wpAny_bind (W.item i s _ _ lt st fun v s' pv st' mv => ?_)
    obtain ⟨q, hq, rfl⟩ := vals i v pv
    have old' : ∀ b o, g.get? b = some o → s'.heap.get? b = some o := fun b o e => mv.heap b o (fun hb => by rw [gw b hb] at e; cases e) (old b o e)
    have set' : SetG P w s'.heap src L es ep t := set.later (fun o e => mv.heap src o apart e) fun z hz => isT_keep (tups z (List.mem_of_mem_take (got.sub z hz))) old'
    have hx : IsT P w s'.heap q.2 q.1 := isT_keep (tups q (List.mem_of_getElem? hq)) old'
    show wpAny _ _ (holding [Value.ref q.1] (setAdd src (.ref q.1)) >>= _) _ _ s'
    refine wpAny_bind (wpAny_holding ?_)
    unfold setAdd
    refine wpAny_holding (wpAny_bind (wpAny_pyHash_tuple deep hx ?_))
    refine add_one (s := { s' with toks := s'.toks + (q.2.length + 1) }) set' hx deep (by have := got.len; omega) fun c h N fs en u but set2 c1 c2 => ?_
    have got2 : Got ks (i + 1) N := by
      by_cases m : q.2 ∈ L.map (·.2)
      · rw [c1 m]; exact got.same hq m
      · exact got.more hq (c2 m)
    have stays : ∀ b o, b ≠ src → s'.heap.get? b = some o → h.get? b = some o := fun b o ne e => (but.2 b ne).trans e
    refine wpAny_pure ⟨plainId_quiet F.plain_set_update_loop _, ih (i + 1) _ (by omega) lt (W.frame _ s' _ _ st' (Nat.le_add_right _ _) fun b hb o e => stays b o (fun z => far (by rw [← z]; exact hb)) e) (fun b o e => stays b o (fun z => by rw [z, g0] at e; cases e) (old' b o e)) ⟨N, fs, en, u, set2, got2⟩ fun s2 N2 fs2 en2 u2 mv2 set3 got3 old3 => ?_⟩
    exact out s2 N2 fs2 en2 u2 (Moved.trans W.gtrans ((mv.mono wider).then_heap (Nat.le_add_right _ _) fun b o hb e => stays b o (fun z => hb (by rw [z]; exact List.mem_cons_self)) e) mv2) set3 got3 old3

set_option maxHeartbeats 9000000 in
theorem great_of_tuple {l : Addr} {its : Array Value} (ks : List (Addr × List Int)) {Q : Value → Shared → Prop} (calm : A.handled = none) (ist : IsTup s.heap l its) (vals0 : its.toList = ks.map fun p => Value.ref p.1)
    (tups : ∀ p ∈ ks, IsT P w s.heap p.2 p.1) (few : ks.length ≤ 4000) (deep : A.units + 3 < cLine)
    (out : ∀ (g : Heap) (tk : Nat) L es ep t, SetG P w g s.heap.objs.size L es ep t → Got ks ks.length L → (∀ b o, s.heap.get? b = some o → g.get? b = some o) → Q (.ref s.heap.objs.size) { s with heap := g, toks := tk }) :
    wpAny (model P w) A (call (.type "set") [.ref l]) Q E s := by
  have size_is : its.size = ks.length := by
    have z := congrArg List.length vals0
    rwa [Array.length_toList, List.length_map] at z
  have cs := F.called_set
  obtain ⟨m1, m2, m3⟩ := cs.mro
  have made := cs.made
  have subs := cs.sub
  have nty := cs.notType
  have can := cs.canCreate
  have tcall := F.typeCall_set_1 (.ref l)
  refine wpAny_call (codeAny_of_tree ?_)
  show wpAny _ _ (callAny (Value.type "set") _) _ _ _
  refine wpAny_pure ⟨Code.quiet_builtin _ (by decide +kernel), codeAny_builtin F.entry_type_call ?_⟩
  rw [Around.under_plain (weight_type_call_type "set" [.ref l] []) rfl]
  repeat (any_goals (first | wp_step | assumption))
  refine codeAny_mono (code_set_led1 (.ref l) (E := E) (Q₁ := fun v s1 => v = .ref s.heap.objs.size ∧ s1 = { s with heap := s.heap.push (emptyS w) }) ⟨rfl, rfl⟩) fun res s1 got => ?_
  cases res with
  | error _ => exact got
  | ok flow =>
    cases flow with
    | ret v =>
      obtain ⟨rfl, rfl⟩ := got
      have at0 : (s.heap.push (emptyS w)).get? s.heap.objs.size = some (emptyS w) := Heap.get?_push_size _ rfl
      have ty0 : Shared.TypeIs { s with heap := s.heap.push (emptyS w) } (.ref s.heap.objs.size) "set" := ⟨_, at0, rfl⟩
      have ini1 := cs.init.lookup
      have ini2 := cs.init.bind (.ref s.heap.objs.size)
      repeat (any_goals (first | wp_step | assumption))
      refine codeAny_mono (codeAny_call_builtin (R := wants (fun r s2 => r = .none ∧ ∃ g tk L es ep t, s2 = { s with heap := g, toks := tk } ∧ SetG P w g s.heap.objs.size L es ep t ∧ Got ks ks.length L ∧ (∀ b o, s.heap.get? b = some o → g.get? b = some o)) E) cs.init.plain F.entry_set_init (check_set_init_1 ty0 ?_)) fun res2 s2 got2 => ?_
      · obtain ⟨ob, hob, hcl, n0, hdt⟩ := ist
        obtain ⟨k1, k2, k3, k4⟩ := ob
        simp only at hcl hdt
        subst hcl hdt
        have under : l < s.heap.objs.size := Heap.lt_size hob
        have hob2 : (s.heap.push (emptyS w)).get? l = some { cls := .type "tuple", dict := k2, data := .seq its n0, slots := k4 } := Heap.get?_push_of_some _ hob
        have t1 := F.sub_tuple_set
        have t2 := F.sub_tuple_frozenset
        have t3 : (Value.type "tuple" == Value.type "dict") = false := by decide
        have isl2 : IsTup (s.heap.push (emptyS w)) l its := ⟨_, hob2, rfl, n0, rfl⟩
        unfold Builtin.«set.__init__» noKeywords Builtin.Frozenset.updateFrom
        generalize hit : pyIter = iter
        wp_walk
        subst hit
        refine wpAny_pyIter_tuple isl2 (wpAny_bind (wpAny_runValue ?_))
        have calm3 : A.in1.in1.in1.handled = none := by simp [calm]
        have apart : l ≠ (s.heap.push (emptyS w)).objs.size := by
          rw [Heap.size_push]
          exact Nat.ne_of_lt (Nat.lt_succ_of_lt under)
        have notin : s.heap.objs.size ∉ [(s.heap.push (emptyS w)).objs.size, l] := by
          intro m
          rw [Heap.size_push] at m
          rcases List.mem_cons.mp m with m | m
          · exact absurd m (Nat.ne_of_lt (Nat.lt_succ_self _))
          · exact absurd (List.mem_singleton.mp m) (Nat.ne_of_gt under)
        have vals : ∀ (i : Nat) (v : Value), its[i]? = some v → ∃ p, ks[i]? = some p ∧ v = .ref p.1 := fun i v hv => by
          have z : its.toList[i]? = some v := by rw [Array.getElem?_toList]; exact hv
          rw [vals0, List.getElem?_map] at z
          cases q : ks[i]? with
          | none => rw [q] at z; cases z
          | some p => rw [q] at z; exact ⟨p, rfl, (Option.some.inj z).symm⟩
        have gone : ∀ b, s.heap.objs.size ≤ b → s.heap.get? b = none := fun b hb => by
          cases q : s.heap.get? b with
          | none => rfl
          | some o => exact absurd (Nat.lt_of_lt_of_le (Heap.lt_size q) hb) (Nat.lt_irrefl _)
        refine all_added ks (Walks.tuple calm3 _ l apart its).toS size_is notin few vals s.heap tups (gone _ (Nat.le_refl _)) (fun b hb => gone b ?_) deep (ks.length - 0) 0 _ (by omega) (Nat.zero_le _) ⟨⟨_, Heap.get?_push_size _ rfl, rfl, rfl⟩, isl2.push _⟩ (fun b o e => Heap.get?_push_of_some _ (Heap.get?_push_of_some _ e)) ?first ?last
        · rw [List.mem_singleton.mp hb, Heap.size_push]
          exact Nat.le_succ _
        case first => exact ⟨[], #[], 0, _, SetG.nil (Heap.get?_push_of_some _ at0), Got.zero ks⟩
        case last =>
          intro s3 L es ep t moved set3 got3 keep3
          obtain ⟨g3, e1, e2, tk3, e3⟩ := s3
          have q1 : e1 = s.gens := moved.gens
          have q2 : e2 = s.drawn := moved.drawn
          have q3 : e3 = s.os := moved.os
          subst q1 q2 q3
          exact wpAny_pure (wpAny_pure ⟨rfl, g3, tk3, L, es, ep, t, rfl, set3, got3, keep3⟩)
      · cases res2 with
        | error _ => exact got2
        | ok flow2 =>
          cases flow2 with
          | ret _ =>
            obtain ⟨rfl, g, tk, L, es, ep, t, rfl, y1, y2, y3⟩ := got2
            repeat (any_goals (first | wp_step | assumption))
            exact out _ _ _ _ _ _ y1 y2 y3
          | _ => exact got2.elim
    | _ => exact got.elim

set_option maxHeartbeats 9000000 in
theorem great_of_list {l : Addr} {its : Array Value} (ks : List (Addr × List Int)) {Q : Value → Shared → Prop} (calm : A.handled = none) (ist : Heap.IsList s.heap l its) (vals0 : its.toList = ks.map fun p => Value.ref p.1)
    (tups : ∀ p ∈ ks, IsT P w s.heap p.2 p.1) (few : ks.length ≤ 4000) (deep : A.units + 3 < cLine)
    (out : ∀ (g : Heap) (tk : Nat) L es ep t, SetG P w g s.heap.objs.size L es ep t → Got ks ks.length L → (∀ b o, s.heap.get? b = some o → g.get? b = some o) → Q (.ref s.heap.objs.size) { s with heap := g, toks := tk }) :
    wpAny (model P w) A (call (.type "set") [.ref l]) Q E s := by
  have size_is : its.size = ks.length := by
    have z := congrArg List.length vals0
    rwa [Array.length_toList, List.length_map] at z
  have cs := F.called_set
  obtain ⟨m1, m2, m3⟩ := cs.mro
  have made := cs.made
  have subs := cs.sub
  have nty := cs.notType
  have can := cs.canCreate
  have tcall := F.typeCall_set_1 (.ref l)
  refine wpAny_call (codeAny_of_tree ?_)
  show wpAny _ _ (callAny (Value.type "set") _) _ _ _
  refine wpAny_pure ⟨Code.quiet_builtin _ (by decide +kernel), codeAny_builtin F.entry_type_call ?_⟩
  rw [Around.under_plain (weight_type_call_type "set" [.ref l] []) rfl]
  repeat (any_goals (first | wp_step | assumption))
  refine codeAny_mono (code_set_led1 (.ref l) (E := E) (Q₁ := fun v s1 => v = .ref s.heap.objs.size ∧ s1 = { s with heap := s.heap.push (emptyS w) }) ⟨rfl, rfl⟩) fun res s1 got => ?_
  cases res with
  | error _ => exact got
  | ok flow =>
    cases flow with
    | ret v =>
      obtain ⟨rfl, rfl⟩ := got
      have at0 : (s.heap.push (emptyS w)).get? s.heap.objs.size = some (emptyS w) := Heap.get?_push_size _ rfl
      have ty0 : Shared.TypeIs { s with heap := s.heap.push (emptyS w) } (.ref s.heap.objs.size) "set" := ⟨_, at0, rfl⟩
      have ini1 := cs.init.lookup
      have ini2 := cs.init.bind (.ref s.heap.objs.size)
      repeat (any_goals (first | wp_step | assumption))
      refine codeAny_mono (codeAny_call_builtin (R := wants (fun r s2 => r = .none ∧ ∃ g tk L es ep t, s2 = { s with heap := g, toks := tk } ∧ SetG P w g s.heap.objs.size L es ep t ∧ Got ks ks.length L ∧ (∀ b o, s.heap.get? b = some o → g.get? b = some o)) E) cs.init.plain F.entry_set_init (check_set_init_1 ty0 ?_)) fun res2 s2 got2 => ?_
      · obtain ⟨ob, hob, hcl, n0, hdt⟩ := ist
        obtain ⟨k1, k2, k3, k4⟩ := ob
        simp only at hcl hdt
        subst hcl hdt
        have under : l < s.heap.objs.size := Heap.lt_size hob
        have hob2 : (s.heap.push (emptyS w)).get? l = some { cls := .type "list", dict := k2, data := .seq its n0, slots := k4 } := Heap.get?_push_of_some _ hob
        have t1 := F.sub_list_set
        have t2 := F.sub_list_frozenset
        have t3 : (Value.type "list" == Value.type "dict") = false := by decide
        have isl2 : Heap.IsList (s.heap.push (emptyS w)) l its := ⟨_, hob2, rfl, n0, rfl⟩
        unfold Builtin.«set.__init__» noKeywords Builtin.Frozenset.updateFrom
        generalize hit : pyIter = iter
        wp_walk
        subst hit
        refine wpAny_pyIter_list isl2 (wpAny_bind (wpAny_runValue ?_))
        have calm3 : A.in1.in1.in1.handled = none := by simp [calm]
        have apart : l ≠ (s.heap.push (emptyS w)).objs.size := by
          rw [Heap.size_push]
          exact Nat.ne_of_lt (Nat.lt_succ_of_lt under)
        have notin : s.heap.objs.size ∉ [(s.heap.push (emptyS w)).objs.size, l] := by
          intro m
          rw [Heap.size_push] at m
          rcases List.mem_cons.mp m with m | m
          · exact absurd m (Nat.ne_of_lt (Nat.lt_succ_self _))
          · exact absurd (List.mem_singleton.mp m) (Nat.ne_of_gt under)
        have vals : ∀ (i : Nat) (v : Value), its[i]? = some v → ∃ p, ks[i]? = some p ∧ v = .ref p.1 := fun i v hv => by
          have z : its.toList[i]? = some v := by rw [Array.getElem?_toList]; exact hv
          rw [vals0, List.getElem?_map] at z
          cases q : ks[i]? with
          | none => rw [q] at z; cases z
          | some p => rw [q] at z; exact ⟨p, rfl, (Option.some.inj z).symm⟩
        have gone : ∀ b, s.heap.objs.size ≤ b → s.heap.get? b = none := fun b hb => by
          cases q : s.heap.get? b with
          | none => rfl
          | some o => exact absurd (Nat.lt_of_lt_of_le (Heap.lt_size q) hb) (Nat.lt_irrefl _)
        refine all_added ks (Walks.list calm3 _ l apart its).toS size_is notin few vals s.heap tups (gone _ (Nat.le_refl _)) (fun b hb => gone b ?_) deep (ks.length - 0) 0 _ (by omega) (Nat.zero_le _) ⟨⟨_, Heap.get?_push_size _ rfl, rfl, rfl⟩, isl2.push _⟩ (fun b o e => Heap.get?_push_of_some _ (Heap.get?_push_of_some _ e)) ?first ?last
        · rw [List.mem_singleton.mp hb, Heap.size_push]
          exact Nat.le_succ _
        case first => exact ⟨[], #[], 0, _, SetG.nil (Heap.get?_push_of_some _ at0), Got.zero ks⟩
        case last =>
          intro s3 L es ep t moved set3 got3 keep3
          obtain ⟨g3, e1, e2, tk3, e3⟩ := s3
          have q1 : e1 = s.gens := moved.gens
          have q2 : e2 = s.drawn := moved.drawn
          have q3 : e3 = s.os := moved.os
          subst q1 q2 q3
          exact wpAny_pure (wpAny_pure ⟨rfl, g3, tk3, L, es, ep, t, rfl, set3, got3, keep3⟩)
      · cases res2 with
        | error _ => exact got2
        | ok flow2 =>
          cases flow2 with
          | ret _ =>
            obtain ⟨rfl, g, tk, L, es, ep, t, rfl, y1, y2, y3⟩ := got2
            repeat (any_goals (first | wp_step | assumption))
            exact out _ _ _ _ _ _ y1 y2 y3
          | _ => exact got2.elim
    | _ => exact got.elim
end
theorem perm_back {α β : Type} {f : α → β} : ∀ {l : List β} {L : List α}, l.Perm (L.map f) → ∃ N : List α, N.Perm L ∧ l = N.map f
  | [], L, h => by
    have e := h.nil_eq
    rw [eq_comm, List.map_eq_nil_iff] at e
    subst e
    exact ⟨[], .refl _, rfl⟩
  | b :: l, L, h => by
    obtain ⟨q, hq, rfl⟩ := List.mem_map.mp (h.mem_iff.mp List.mem_cons_self)
    obtain ⟨A, B, rfl⟩ := List.append_of_mem hq
    have h2 : (f q :: l).Perm (f q :: (A ++ B).map f) := by
      refine h.trans ?_
      rw [List.map_append, List.map_cons, List.map_append]
      exact List.perm_middle
    obtain ⟨N, n1, rfl⟩ := perm_back h2.cons_inv
    exact ⟨q :: N, (n1.cons q).trans List.perm_middle.symm, rfl⟩
section
variable {P : Program} {w : World} {A : Around} {E : Value → Shared → Prop} {s : Shared} {a : Addr} {L : List (Addr × List Int)} {es : Array (Int × Value)} {ep : Nat} {t : SetTable}
/-- the pair that is read at a value -/
def twoAt (h : Heap) (v : Value) : Int × Int := ((TS.intsOf h v).getD 0 0, (TS.intsOf h v).getD 1 0)
theorem isPair_of {h : Heap} {b : Addr} {x y : Int} (g : IsT P w h [x, y] b) : Srt.IsPair h (.ref b) x y ∧ twoAt h (.ref b) = (x, y) := by
  have ti := tupInts_of g
  obtain ⟨o, its, n, ho, hc, hd, hi⟩ := g
  refine ⟨?_, by unfold twoAt; rw [ti.ints]; rfl⟩
  have hi := ints_of_items hi
  obtain ⟨l⟩ := its
  cases hi with
  | cons _ t1 r1 =>
    cases r1 with
    | cons _ t2 r2 =>
      cases r2
      exact ⟨b, o, t1, t2, n, rfl, ho, hc, hd⟩
/-- sorted(a great set of pairs) -/
theorem sorted_great (R : SetG P w s.heap a L es ep t) (calm : A.handled = none) (two : ∀ q ∈ L, ∃ x y, q.2 = [x, y]) {Q : Value → Shared → Prop}
    (out : ∀ s' p (ys : Array Value) (c : Nat) (N : List (Addr × List Int)), (∀ b o, s.heap.get? b = some o → s'.heap.get? b = some o) → s'.gens = s.gens → s'.os = s.os → s.heap.objs.size ≤ p →
      s'.heap.get? p = some (seqObj "list" ys c) → ys.toList = N.map (fun q => Value.ref q.1) → N.Perm L → N.Pairwise (fun q r => SrtO.lexB (r.2.getD 0 0, r.2.getD 1 0) (q.2.getD 0 0, q.2.getD 1 0) = false) → Q (.ref p) s') :
    wpAny (model P w) A (call (.builtin "sorted") [.ref a]) Q E s := by
  obtain ⟨o, ho, ex, hd⟩ := R.obj
  have ln := R.len
  have mo := R.most
  refine Calls.call_function_entry kind_sorted plain_sorted entry_sorted (args_sorted1 _) ?_
  unfold Builtin.«sorted»
  refine wpAny_bind (m := checkCount "sorted" 1 1 _) (wpAny_pure ?_)
  refine wpAny_bind (collect_set (A := A.in1) calm ⟨o, ho, ex.1, hd⟩ R.ok (by unfold scanBound; omega) R.tab.up R.lead fun s1 vs keep1 grew g1 o1 perm => ?_)
  have cells : es.toList.map (·.2) = L.map fun q => Value.ref q.1 := by
    rw [R.row]
    unfold L2.rowsOf
    rw [List.map_map]
    rfl
  rw [cells] at perm
  obtain ⟨N0, np0, rfl⟩ := perm_back (f := fun q : Addr × List Int => Value.ref q.1) perm
  have nl : (N0.map fun q => Value.ref q.1).length ≤ sizeLine := by rw [List.length_map, np0.length_eq, sizeLine_eq]; omega
  refine wpAny_bind (wpAny_newList ?_ nl)
  obtain ⟨h2, eh2⟩ : ∃ h2, s1.heap.push (seqObj "list" (N0.map fun q => Value.ref q.1).toArray 0) = h2 := ⟨_, rfl⟩
  have atL : h2.get? s1.heap.objs.size = some (seqObj "list" (N0.map fun q => Value.ref q.1).toArray 0) := by rw [← eh2]; exact Heap.get?_push_size _ rfl
  have keep2 : ∀ b o, s.heap.get? b = some o → h2.get? b = some o := fun b o e => by rw [← eh2]; exact Heap.get?_push_of_some _ (keep1 b o e)
  have pairs : ∀ q ∈ L, Srt.IsPair h2 (.ref q.1) (q.2.getD 0 0) (q.2.getD 1 0) ∧ twoAt h2 (.ref q.1) = (q.2.getD 0 0, q.2.getD 1 0) := fun q hq => by
    obtain ⟨x, y, e⟩ := two q hq
    have it := isT_keep (R.are q hq) keep2
    rw [e] at it ⊢
    exact isPair_of it
  have pr : ∀ v ∈ N0.map (fun q => Value.ref q.1), Srt.IsPair h2 v (twoAt h2 v).1 (twoAt h2 v).2 := fun v hv => by
    obtain ⟨q, hq, rfl⟩ := List.mem_map.mp hv
    obtain ⟨p1, p2⟩ := pairs q (np0.mem_iff.mp hq)
    rw [p2]
    exact p1
  show wpAny _ _ _ _ _ { s1 with heap := s1.heap.push (seqObj "list" (N0.map fun q => Value.ref q.1).toArray 0) }
  rw [eh2]
  refine wpAny_bind (wpAny_holding (wpAny_call_entry slot_list_sort ⟨_, atL, rfl⟩ entry_list_sort
    (SrtO.list_sort_ord (s := { s1 with heap := h2 }) (SrtO.swo_lex (twoAt h2)) atL nl (fun two2 => SrtO.pairs_sortableO (s := { s1 with heap := h2 }) (by omega) pr fun o' e => ?_) fun ys srt stb => ⟨_, rfl, ?_⟩) (args_list_sort _)))
  · have e' : some o' = some (seqObj "list" (N0.map fun q => Value.ref q.1).toArray 0) := e.symm.trans atL
    cases e'
    intro c
    exact absurd (Value.type.inj c) (by decide)
  · obtain ⟨N, np, rfl⟩ := perm_back (f := fun q : Addr × List Int => Value.ref q.1) stb.perm
    have np2 := np.trans np0
    obtain ⟨c, hc⟩ := sortedHeap_at (vs := N0.map fun q => Value.ref q.1) (out := (N.map fun q => Value.ref q.1).toArray) atL
    refine wpAny_pure ⟨_, rfl, out _ s1.heap.objs.size _ c N (fun b u e => ?_) g1 o1 grew hc rfl np2 ?_⟩
    · have lt := Heap.lt_size (keep1 b u e)
      show (sortedHeap h2 s1.heap.objs.size _ _).get? b = some u
      rw [sortedHeap_old (Nat.ne_of_lt lt) (by rw [← eh2, size_push']; exact Nat.lt_succ_of_lt lt)]
      exact keep2 b u e
    · refine List.Pairwise.imp_of_mem (fun {q r} hq hr h => ?_) (List.pairwise_map.mp srt)
      have p1 := (pairs q (np2.mem_iff.mp hq)).2
      have p2 := (pairs r (np2.mem_iff.mp hr)).2
      rw [← p1, ← p2]
      exact h
end
/-- the set, its tuples apart -/
def SetG0 (P : Program) (w : World) (L : List (Addr × List Int)) (es : Array (Int × Value)) (t : SetTable) : Prop :=
  es.toList = L2.rowsOf P w L ∧ TabG t (L.map fun q => thash P w q.2) ∧ (L.map (·.2)).Nodup ∧ t.plain = true ∧ (w.params.followText "set-order" = true ∨ t.led = true) ∧ L.length * 5 < t.mask * 3 ∧ L.length ≤ 4000
def SetGO (P : Program) (w : World) (a : Addr) (L : List (Addr × List Int)) : HO := .ext fun h => ∃ es ep t, (∃ o, h.get? a = some o ∧ o.ExactSet ∧ o.data = .set es ep t) ∧ SetG0 P w L es t
section
variable {P : Program} {w : World} {H : Hp} {h : Heap} {a : Addr} {L : List (Addr × List Int)} {es : Array (Int × Value)} {ep : Nat} {t : SetTable}
theorem setGO_ok (R : SetG P w h a L es ep t) : ObjOk P w H h a (SetGO P w a L) := by
  have ⟨o, ho, _⟩ := R.obj
  refine ⟨⟨es, ep, t, R.obj, R.row, R.tab, R.dis, R.pln, R.lead, R.gap, R.most⟩, ⟨o, ho⟩, fun h1 h2 p k => ?_⟩
  obtain ⟨es', ep', t', ⟨o', ho', r'⟩, q'⟩ := p
  exact ⟨es', ep', t', ⟨o', k o' ho', r'⟩, q'⟩
theorem setGO_at (x : ObjOk P w H h a (SetGO P w a L)) (ti : ∀ q ∈ L, IsT P w h q.2 q.1) : ∃ es ep t, SetG P w h a L es ep t := by
  obtain ⟨⟨es, ep, t, ob, z⟩, _⟩ := x
  obtain ⟨z1, z2, z3, z4, z5, z6, z7⟩ := z
  exact ⟨es, ep, t, ob, z1, z2, z3, ti, z4, z5, z6, z7⟩
end
section
variable {X : Cx}
/-- set(xs), xs a list or a tuple of up to 4000 tuples of ints -/
def rGreat (sq : Hp → Addr → List V → Prop) (K : PySem.W.Frag) (P : Program) (w : World) : List V → Hp → VK → Prop := fun xs H Q => ∃ (l : Addr) (ks : List (Addr × List Int)), xs = [V.ref l] ∧ sq H l (ks.map fun q => V.ref q.1) ∧ (∀ q ∈ ks, SqT K H q.1 (q.2.map V.int)) ∧ ks.length ≤ 4000 ∧
  ∀ L, (∀ q ∈ L, q ∈ ks) → (∀ q ∈ ks, q.2 ∈ L.map (·.2)) → ∀ a, H a = none → Q (.ref a) (upd H a (SetGO P w a L))
def rGreatT (K : PySem.W.Frag) := rGreat (SqT K) K
def rGreatL (K : PySem.W.Frag) := rGreat (SqL K) K
theorem cr_greatT (calm : X.calm = true) (deep : X.A.units + 64 < cLine) : CallR X (.type "set") (rGreatT X.K X.prog X.w) := by
  intro pins s σ H xs us Q I r h
  obtain ⟨l, ks, rfl, hl, hk, few, q⟩ := h
  obtain ⟨its, rv, pl, _⟩ := I.tuple hl
  rw [Vals.ref1 r]
  refine great_of_tuple (P := X.prog) (w := X.w) ks (I.ok.hd calm) pl (by simpa using refs_of_vals rv) (fun q hq => I.isT (hk q hq)) few (by omega) fun g tk L es ep t R got kp => ?_
  exact ⟨.ref s.heap.objs.size, upd H s.heap.objs.size (SetGO X.prog X.w s.heap.objs.size L), I.laid (t' := tk) kp (Nat.le_refl _) (setGO_ok R), rfl, q L (fun q hq => List.mem_of_mem_take (got.sub q hq)) (fun q hq => got.all q (by rw [List.take_length]; exact hq)) _ (I.hok.fresh (Nat.le_refl _))⟩
theorem cr_greatL (calm : X.calm = true) (deep : X.A.units + 64 < cLine) : CallR X (.type "set") (rGreatL X.K X.prog X.w) := by
  intro pins s σ H xs us Q I r h
  obtain ⟨l, ks, rfl, hl, hk, few, q⟩ := h
  obtain ⟨its, rv, pl, _⟩ := I.list hl
  rw [Vals.ref1 r]
  refine great_of_list (P := X.prog) (w := X.w) ks (I.ok.hd calm) pl.isList (by simpa using refs_of_vals rv) (fun q hq => I.isT (hk q hq)) few (by omega) fun g tk L es ep t R got kp => ?_
  exact ⟨.ref s.heap.objs.size, upd H s.heap.objs.size (SetGO X.prog X.w s.heap.objs.size L), I.laid (t' := tk) kp (Nat.le_refl _) (setGO_ok R), rfl, q L (fun q hq => List.mem_of_mem_take (got.sub q hq)) (fun q hq => got.all q (by rw [List.take_length]; exact hq)) _ (I.hok.fresh (Nat.le_refl _))⟩
/-- sorted(it), of pairs -/
def rSortGreat (K : PySem.W.Frag) (P : Program) (w : World) : List V → Hp → VK → Prop := fun vs H Q => ∃ (a : Addr) (L : List (Addr × List Int)), vs = [V.ref a] ∧ H a = some (SetGO P w a L) ∧ (∀ q ∈ L, ∃ x y, q.2 = [x, y] ∧ SqT K H q.1 [.int x, .int y]) ∧
  ∀ N : List (Addr × List Int), N.Perm L → (N.map (·.2)).Nodup → N.Pairwise (fun q r => SrtO.lexB (r.2.getD 0 0, r.2.getD 1 0) (q.2.getD 0 0, q.2.getD 1 0) = false) → newK H (.lst (N.map fun q => V.ref q.1)) Q
theorem cr_sortGreat (calm : X.calm = true) : CallR X (.builtin "sorted") (rSortGreat X.K X.prog X.w) := by
  intro pins s σ H vs us Q I r h
  obtain ⟨a, L, rfl, ha, two, q⟩ := h
  obtain ⟨es, ep, t, R⟩ := setGO_at (I.hok a _ ha) fun p hp => by
    obtain ⟨x, y, e, g⟩ := two p hp
    rw [e]
    exact I.isT (k := [x, y]) g
  rw [Vals.ref1 r]
  refine sorted_great R (I.ok.hd calm) (fun p hp => by obtain ⟨x, y, e, _⟩ := two p hp; exact ⟨x, y, e⟩) fun s' p ys c N k g o hp hg out pm pw => ?_
  have few : N.length ≤ 4000 := by rw [pm.length_eq]; exact R.most
  have hn : H p = none := I.hok.fresh hp
  have J : Inv X pins σ (upd H p (.lst (N.map fun q => V.ref q.1))) { s with heap := s'.heap, gens := s'.gens, drawn := s'.drawn, toks := s'.toks } :=
    I.call (ch := []) (Un.laid k hp hn) (I.hok.laid k hp ⟨by rw [List.length_map, sizeLine_eq]; omega, ys.toList, c, by rw [out]; exact vals_of_refs N, hg⟩) (by rw [g]; exact I.bare) (fun _ z => nomatch z)
  have e : s' = { s with heap := s'.heap, gens := s'.gens, drawn := s'.drawn, toks := s'.toks } := by
    obtain ⟨_, _, _, _, _⟩ := s'
    cases o
    rfl
  rw [e]
  exact ⟨.ref p, _, J, rfl, q N pm ((pm.map (·.2)).nodup_iff.mpr R.dis) pw p hn⟩
end
/-! ### min, max of a tuple -/
section
variable {X : Cx}
/-- a tuple of ints, any number of them above none -/
def rLeastT (K : PySem.W.Frag) : List V → Hp → VK → Prop := fun vs H Q => ∃ (a : Addr) (ns : List Int), vs = [.ref a] ∧ SqT K H a (ns.map V.int) ∧ ns ≠ [] ∧ ∀ m, m ∈ ns → (∀ j ∈ ns, m ≤ j) → Q (.int m) H
def rMostT (K : PySem.W.Frag) : List V → Hp → VK → Prop := fun vs H Q => ∃ (a : Addr) (ns : List Int), vs = [.ref a] ∧ SqT K H a (ns.map V.int) ∧ ns ≠ [] ∧ ∀ m, m ∈ ns → (∀ j ∈ ns, j ≤ m) → Q (.int m) H
theorem ints_nth : ∀ {us : List Value} {ns : List Int}, IntsAre us ns → ∀ (i : Nat) (v : Value), us[i]? = some v → ∃ t, v = .int (ns.getD i 0) t
  | _, _, .nil, i, v, h => by simp at h
  | _, _, .cons n t r, 0, v, h => by cases h; exact ⟨t, rfl⟩
  | _, _, .cons n t r, i + 1, v, h => by
    obtain ⟨t', e⟩ := ints_nth r i v (by simpa using h)
    exact ⟨t', by simpa using e⟩
theorem cr_leastT (calm : X.calm = true) : CallR X (.builtin "min") (rLeastT X.K) := by
  intro pins s σ H vs us Q I r h
  obtain ⟨a, ns, rfl, ht, ne, q⟩ := h
  obtain ⟨its, rv, pl, _⟩ := I.tuple ht
  rw [Vals.ref1 r]
  have ia := rv.ints
  have lt : a < s.heap.objs.size := by obtain ⟨o, e, _⟩ := pl; exact Heap.lt_size e
  have ln : its.length = ns.length := by rw [← rv.length, List.length_map]
  have np : 0 < ns.length := List.length_pos_iff.mpr ne
  refine call_min_walk (wpAny_pyIter_tuple pl ?_)
  refine ⟨_, _, _, _, _, _, _, rfl, Walks.tuple (A := X.A.in1) (I.ok.hd calm) s.heap.objs.size a (Nat.ne_of_lt lt) its.toArray, ⟨⟨_, Heap.get?_push_size _ rfl, rfl, rfl⟩, pl.push _⟩, fun b hb => ?_, by rw [List.size_toArray]; omega,
    CmpOf.ints_lt (fun i => ns.getD i 0) fun i v hv => ints_nth ia i v (by simpa using hv), fun v h' tk hv hk => ?_⟩
  · rw [Heap.size_push]
    rcases List.mem_cons.mp hb with rfl | hb
    · exact Nat.lt_succ_self _
    · rw [List.mem_singleton.mp hb]; exact Nat.lt_succ_of_lt lt
  · have hv2 := hv
    rw [List.getElem?_toArray] at hv2
    obtain ⟨t, rfl⟩ := ints_nth ia _ v hv2
    have sz : its.toArray.size = its.length := List.size_toArray ..
    obtain ⟨b1, b2⟩ := argBest_lt (fun i => ns.getD i 0) (its.toArray.size - 1)
    have keep : ∀ b o, s.heap.get? b = some o → h'.get? b = some o := fun b o e => hk b o (fun z => by
      rw [List.mem_singleton.mp z] at e
      exact Nat.lt_irrefl _ (Heap.lt_size e)) (Heap.get?_push_of_some _ e)
    refine ⟨.int _, H, I.kept (t' := tk) keep, ⟨t, rfl⟩, q _ ?_ fun j hj => ?_⟩
    · exact PySem.getD_mem (by omega)
    · obtain ⟨i, hi, rfl⟩ := mem_getD hj
      exact b2 i (by omega)
theorem cr_mostT (calm : X.calm = true) : CallR X (.builtin "max") (rMostT X.K) := by
  intro pins s σ H vs us Q I r h
  obtain ⟨a, ns, rfl, ht, ne, q⟩ := h
  obtain ⟨its, rv, pl, _⟩ := I.tuple ht
  rw [Vals.ref1 r]
  have ia := rv.ints
  have lt : a < s.heap.objs.size := by obtain ⟨o, e, _⟩ := pl; exact Heap.lt_size e
  have ln : its.length = ns.length := by rw [← rv.length, List.length_map]
  have np : 0 < ns.length := List.length_pos_iff.mpr ne
  refine call_max_walk (wpAny_pyIter_tuple pl ?_)
  refine ⟨_, _, _, _, _, _, _, rfl, Walks.tuple (A := X.A.in1) (I.ok.hd calm) s.heap.objs.size a (Nat.ne_of_lt lt) its.toArray, ⟨⟨_, Heap.get?_push_size _ rfl, rfl, rfl⟩, pl.push _⟩, fun b hb => ?_, by rw [List.size_toArray]; omega,
    CmpOf.ints_gt (fun i => ns.getD i 0) fun i v hv => ints_nth ia i v (by simpa using hv), fun v h' tk hv hk => ?_⟩
  · rw [Heap.size_push]
    rcases List.mem_cons.mp hb with rfl | hb
    · exact Nat.lt_succ_self _
    · rw [List.mem_singleton.mp hb]; exact Nat.lt_succ_of_lt lt
  · have hv2 := hv
    rw [List.getElem?_toArray] at hv2
    obtain ⟨t, rfl⟩ := ints_nth ia _ v hv2
    have sz : its.toArray.size = its.length := List.size_toArray ..
    obtain ⟨b1, b2⟩ := argBest_gt (fun i => ns.getD i 0) (its.toArray.size - 1)
    have keep : ∀ b o, s.heap.get? b = some o → h'.get? b = some o := fun b o e => hk b o (fun z => by
      rw [List.mem_singleton.mp z] at e
      exact Nat.lt_irrefl _ (Heap.lt_size e)) (Heap.get?_push_of_some _ e)
    refine ⟨.int _, H, I.kept (t' := tk) keep, ⟨t, rfl⟩, q _ ?_ fun j hj => ?_⟩
    · exact PySem.getD_mem (by omega)
    · obtain ⟨i, hi, rfl⟩ := mem_getD hj
      exact b2 i (by omega)
end
theorem r_least2 {K : PySem.W.Frag} {H : Hp} {Q : VK} {a : Addr} {x y : Int} (h : SqT K H a [.int x, .int y]) (q : Q (.int (min x y)) H) : rLeastT K [.ref a] H Q :=
  ⟨a, [x, y], rfl, h, by simp, fun m hm hl => by
    have h1 := hl x (by simp)
    have h2 := hl y (by simp)
    have e : m = min x y := by
      rcases List.mem_cons.mp hm with rfl | hm
      · omega
      · rw [List.mem_singleton.mp hm] at h1 ⊢; omega
    rw [e]; exact q⟩
theorem r_most2 {K : PySem.W.Frag} {H : Hp} {Q : VK} {a : Addr} {x y : Int} (h : SqT K H a [.int x, .int y]) (q : Q (.int (max x y)) H) : rMostT K [.ref a] H Q :=
  ⟨a, [x, y], rfl, h, by simp, fun m hm hl => by
    have h1 := hl x (by simp)
    have h2 := hl y (by simp)
    have e : m = max x y := by
      rcases List.mem_cons.mp hm with rfl | hm
      · omega
      · rw [List.mem_singleton.mp hm] at h1 ⊢; omega
    rw [e]; exact q⟩
/-! ### a thing that is read from now on alone -/
def frzK (v : V) (H : Hp) (Q : VK) : Prop := ∃ d u, v = .ref d ∧ H d = some u ∧ Mut (some u) ∧ ∀ od, Q v (upd H d (.frz od u))
def tFrz (t : TE) : TE := fun σ H Q => t σ H fun v H1 => frzK v H1 Q
theorem pe_frz {X : Cx} {e : Expr} {t : TE} (h : PE X e t) : PE X e (tFrz t) := by
  refine ⟨fun pins s σ H Q I hw => ?_⟩
  refine thn (h.run pins s σ H _ I hw) fun v s1 ⟨x, H1, I1, r, d, u, ex, hd, mu, q⟩ => ?_
  obtain ⟨od, I2⟩ := I1.lock hd mu
  exact ⟨x, _, I2, r, q od⟩
section
variable {io : List Addr} {H0 F0 F H : Hp} {M L : List (Addr × Cel)} {K : PySem.W.Frag} {Q : VK} {QH : Hp → Prop} {a b : Addr} {o : HO}
theorem Sep.lock (S : Sep io H0 F0 F H M) (k : Nat) (hk : M[k]? = some (a, .is o)) (od : Obj) : ∃ F', Sep io H0 F0 F' (upd H a (.frz od o)) (M.eraseIdx k) ∧ Evl.Ex F F' ∧ F' a = some (.frz od o) := by
  have S := S.put k hk (.frz od o)
  obtain ⟨F', S', e, c⟩ := S.frz k (o := .frz od o) (List.getElem?_set_self (List.getElem?_eq_some_iff.mp hk).1)
  rw [List.eraseIdx_set_eq] at S'
  exact ⟨F', S', e, c⟩
theorem r_frz {t : TE} {σ : L2.St} (h : t σ H fun v H1 => frzK v H1 Q) : tFrz t σ H Q := h
theorem s_frz (S : Sep io H0 F0 F H M) (k : Nat) (hk : M[k]? = some (a, .is o)) (mu : Mut (some o)) (q : ∀ od F' H', Sep io H0 F0 F' H' (M.eraseIdx k) → Evl.Ex F F' → F' a = some (.frz od o) → Q (.ref a) H') : frzK (.ref a) H Q := by
  refine ⟨a, o, rfl, S.rdM k hk, mu, fun od => ?_⟩
  obtain ⟨F', S', e, c⟩ := S.lock k hk od
  exact q od F' _ S' e c
theorem r_break {D : Ends} {σ : L2.St} (h : D.bk σ H) : tBreak D σ H := h
/-! ### going over dicts -/
theorem s_forIt {g : TG} {tb : TS} {D : Ends} {σ : L2.St} {od : Obj} {kvs : List (Key × V)} (I : Nat → L2.St → Hp → List (Addr × Cel) → Prop) (S : Sep io H0 F0 F H M) (hd : F a = some (.frz od (.dK kvs))) (h0 : I 0 σ F M)
    (hb : ∀ i k v t σ' F1 F' H' M', kvs[i]? = some (k, v) → Sep io H0 F0 F' H' M' → Evl.Ex F F1 → Evl.Ex F1 F' → F' t = some (.tup [kV k, v]) → I i σ' F1 M' → Body io H0 F0 F I D g tb i (.ref t) σ' H')
    (hn : ∀ σ' F' H' M', Sep io H0 F0 F' H' M' → Evl.Ex F F' → I kvs.length σ' F' M' → D.nx σ' H') : ForW (Iti a od kvs) D g tb σ H := by
  refine for_it walk_items (LI io H0 F0 F I) ⟨F, M, S, Evl.Ex.refl _, h0⟩ ?_ ?_ ?_
  · rintro i σ' H' _ ⟨F', M', S', e, _⟩
    exact S'.rdC e hd
  · rintro i x σ' H' H'' hi ⟨F', M', S', e, h⟩ ⟨t, x1, x2, rfl, ht, rfl, e1, e2⟩
    obtain ⟨⟨k, v⟩, ek⟩ : ∃ p, kvs[i]? = some p := ⟨_, List.getElem?_eq_getElem hi⟩
    simp only [ek, Option.map_some, Option.some.injEq] at e1 e2
    subst e1 e2
    exact hb i k v t σ' F' _ _ M' ek (S'.newF ht _) e (Evl.Ex.new (S'.fnone ht)) upd_same h
  · rintro σ' H' ⟨F', M', S', e, h⟩
    exact hn σ' F' H' M' S' e h
def ikeysK (x : V) (H : Hp) (R : It → Hp → Prop) : Prop := ∃ d o, x = .ref d ∧ ((∃ kvs, H d = some (.frz o (.dK kvs)) ∧ R (Itk d o kvs) H) ∨ ∃ kvs, H d = some (.frz o (.dT kvs)) ∧ R (Itkt d o kvs) H)
theorem r_iKeys {td : TE} {σ : L2.St} {R : It → Hp → Prop} (h : td σ H fun x H1 => ikeysK x H1 R) : iKeys td σ H R := h
theorem s_ikeys {od : Obj} {kvs : List (Key × V)} {R : It → Hp → Prop} (hd : H b = some (.frz od (.dK kvs))) (q : R (Itk b od kvs) H) : ikeysK (.ref b) H R := ⟨b, od, rfl, .inl ⟨kvs, hd, q⟩⟩
theorem s_ikeysT {od : Obj} {kvs : List (List Key × V)} {R : It → Hp → Prop} (hd : H b = some (.frz od (.dT kvs))) (q : R (Itkt b od kvs) H) : ikeysK (.ref b) H R := ⟨b, od, rfl, .inr ⟨kvs, hd, q⟩⟩
def iitemsK (x : V) (H : Hp) (R : It → Hp → Prop) : Prop := ∃ d o kvs, x = .ref d ∧ H d = some (.frz o (.dK kvs)) ∧ R (Iti d o kvs) H
theorem r_iItems {td : TE} {σ : L2.St} {R : It → Hp → Prop} (h : td σ H fun x H1 => iitemsK x H1 R) : iItems td σ H R := h
theorem s_iitems {od : Obj} {kvs : List (Key × V)} {R : It → Hp → Prop} (hd : H b = some (.frz od (.dK kvs))) (q : R (Iti b od kvs) H) : iitemsK (.ref b) H R := ⟨b, od, kvs, rfl, hd, q⟩
theorem srcK {od : Obj} {kvs : List (Key × V)} (hd : F b = some (.frz od (.dK kvs))) : Src (Itk b od kvs) io H0 F0 F [] kvs (fun p x _ => x = kV p.1) :=
  ⟨_, _, walk_keys, fun F' H' M' S e _ => S.rdC e hd, fun i p x F' H' H'' M' hp S e _ y => by
    obtain ⟨rfl, k, v, e1, e2⟩ := y
    rw [hp] at e1
    cases e1
    exact ⟨F', S, Evl.Ex.refl _, e2⟩⟩
/-- a comprehension over keys that are tuples: told of the heap itself -/
theorem s_lcKT {od : Obj} {kvs : List (List Key × V)} {g : TG} {tt : TT} {te : TE} {vs : List Nat} {σ : L2.St} (I : Nat → List V → Hp → List (Addr × Cel) → Prop) (hd : F b = some (.frz od (.dT kvs))) (S : Sep io H0 F0 F H M) (h0 : I 0 [] F M)
    (hb : ∀ (i : Nat) (k : List Key) (v : V) q acc D F' H' M', kvs[i]? = some (k, v) → H' q = some (.tup (k.map kV)) → Sep io H0 F0 F' H' ((D, .is (.lst acc)) :: M') → Evl.Ex F F' → I i acc F' M' → g (.ref q) (wipe σ vs) H' fun σ2 H2 => wipe σ2 vs = wipe σ vs ∧ tt σ2 H2 fun b H3 =>
      if b = true then te σ2 H3 (PutK D (CI io H0 F0 F D I (i + 1))) else CI io H0 F0 F D I (i + 1) H3)
    (hn : ∀ D acc F' H' M', Sep io H0 F0 F' H' ((D, .is (.lst acc)) :: M') → Evl.Ex F F' → I kvs.length acc F' M' → Q (.ref D) H') : lcK (Itkt b od kvs) g tt te vs σ H Q := by
  intro D hD
  refine lc_it walk_keysT (fun i H' => CI io H0 F0 F D I i H') ⟨[], F, M, S.newM hD _, Evl.Ex.refl _, h0⟩ ?_ ?_ ?_
  · rintro i H' _ ⟨acc, F', M', S', e, h⟩
    exact S'.rdC e hd
  · rintro i x H' H'' hi ⟨acc, F', M', S', e, h⟩ ⟨rfl, k, v, q, e1, rfl, e3⟩
    exact hb i k v q acc D F' _ M' e1 e3 S' e h
  · rintro H' ⟨acc, F', M', S', e, h⟩
    exact hn D acc F' H' M' S' e h
/-! ### dicts written -/
def dputK (x y v : V) (H : Hp) (QH : Hp → Prop) : Prop := ∃ a H4, x = .ref a ∧ DPut H a y v H4 ∧ QH H4
theorem r_dput {td ty tv : TE} {D : Ends} {σ : L2.St} (h : tv σ H fun v H1 => td σ H1 fun x H2 => ty σ H2 fun y H3 => dputK x y v H3 (D.nx σ)) : sDPut td ty tv D σ H := h
theorem s_dputT {kvs : List (List Key × V)} {x y : Int} {t : Addr} {v : V} (S : Sep io H0 F0 F H M) (k : Nat) (hk : M[k]? = some (a, .is (.dT kvs))) (ht : F t = some (.tup [.int x, .int y])) (few : kvs.length < 100000)
    (q : ∀ H', Sep io H0 F0 F H' (M.set k (a, .is (.dT (putK kvs [.inl x, .inl y] v)))) → QH H') : dputK (.ref a) (.ref t) v H QH :=
  ⟨a, _, rfl, DPut.t (k := [.inl x, .inl y]) (S.rdM k hk) (S.fr _ _ ht) (Evl.sz_lt few), q _ (S.put k hk _)⟩
theorem s_dputK {kvs : List (Key × V)} {x : Int} {v : V} (S : Sep io H0 F0 F H M) (k : Nat) (hk : M[k]? = some (a, .is (.dK kvs))) (few : kvs.length < 100000)
    (q : ∀ H', Sep io H0 F0 F H' (M.set k (a, .is (.dK (putK kvs (.inl x) v)))) → QH H') : dputK (.ref a) (.int x) v H QH :=
  ⟨a, _, rfl, DPut.k (k := .inl x) (S.rdM k hk) (Evl.sz_lt few), q _ (S.put k hk _)⟩
/-! dicts read -/
def dgetK (x y : V) (H : Hp) (Q : VK) : Prop := ∃ a v, x = .ref a ∧ DGet H a y (some v) ∧ Q v H
theorem r_dget {td ty : TE} {σ : L2.St} (h : td σ H fun x H1 => ty σ H1 fun y H2 => dgetK x y H2 Q) : tDGet td ty σ H Q := h
theorem s_dget {kvs : List (Key × V)} {x : Int} {v : V} (h : Rd H a (.dK kvs)) (e : valV kvs (.inl x) = some v) (q : Q v H) : dgetK (.ref a) (.int x) H Q :=
  ⟨a, v, rfl, .inl ⟨kvs, .inl x, h, rfl, e.symm⟩, q⟩
def dinK (n : Bool) (x y : V) (H : Hp) (Q : VK) : Prop := ∃ a o, x = .ref a ∧ DGet H a y o ∧ Q (.bl (if n then !o.isSome else o.isSome)) H
theorem r_din {td ty : TE} {σ : L2.St} (h : ty σ H fun y H1 => td σ H1 fun x H2 => dinK false x y H2 Q) : tDIn ty td σ H Q := h
theorem r_dnotin {td ty : TE} {σ : L2.St} (h : ty σ H fun y H1 => td σ H1 fun x H2 => dinK true x y H2 Q) : tDNotIn ty td σ H Q := h
theorem s_din {kvs : List (Key × V)} {x : Int} (h : Rd H a (.dK kvs)) (q : Q (.bl (valV kvs (.inl x)).isSome) H) : dinK false (.ref a) (.int x) H Q :=
  ⟨a, _, rfl, .inl ⟨kvs, .inl x, h, rfl, rfl⟩, q⟩
theorem s_dnotin {kvs : List (Key × V)} {x : Int} (h : Rd H a (.dK kvs)) (q : Q (.bl (!(valV kvs (.inl x)).isSome)) H) : dinK true (.ref a) (.int x) H Q :=
  ⟨a, _, rfl, .inl ⟨kvs, .inl x, h, rfl, rfl⟩, q⟩
theorem s_dnewT (S : Sep io H0 F0 F H M) (q : ∀ d H', Sep io H0 F0 F H' ((d, .is (.dT [])) :: M) → Q (.ref d) H') {σ : L2.St} : tDNewT σ H Q := fun p hp => q p _ (S.newM hp _)
theorem s_dnewK (S : Sep io H0 F0 F H M) (q : ∀ d H', Sep io H0 F0 F H' ((d, .is (.dK [])) :: M) → Q (.ref d) H') {σ : L2.St} : tDNewK σ H Q := fun p hp => q p _ (S.newM hp _)
/-! ### dicts by comprehensions -/
theorem swaps_dc {kx vx : Expr} {gs : List Comprehension} {scope : Scope} {pos py : Pos} {y : Str} {l : Nat} {env : Env} (fn : env.scope.kind = .function) (loc : env.scope.names.lookup y = some .local) (line : (py.line == pos.line) = true)
    (none_ : (scope.names.any fun (n, k) => n == y && (k == .local || k == .cell)) = false) : swapsWith (.DictComp kx vx gs scope pos) (some (.Name y py)) l env = pure true := by
  have e1 : env.kindOf y = some .local := loc
  have e2 : env.blockKind = .function := by unfold Env.blockKind; rw [fn]; rfl
  unfold swapsWith
  simp only [e1, e2, none_, Expr.pos, line]
  rfl
section
variable {X : Cx}
/-- y = {k: v for ..}, y a local -/
theorem ps_asgDc {i : Nat} {y : Str} {py pos spos : Pos} {kx vx tg iter : Expr} {scope : Scope} {own : List (Str × Nat)} {wi : TI} {g : TG} {tt : TT} {tk tv : TE} (calm : X.calm = true) (nd : X.N.Nodup) (at_ : X.N[i]? = some y) (loc : X.env.scope.names.lookup y = some .local)
    (sw : swapsWith (.DictComp kx vx [⟨tg, iter, [], 0⟩] scope pos) (some (.Name y py)) spos.line X.env = pure true) (pi : PI X tg iter wi) (blk : BlkOk X.N X.env.scope scope own)
    (pg : ∀ (s : Shared) (H : Hp) (C : Addr) (cl : List (Str × Addr)) (fp : List Addr), PG (X.blk s H scope (compEnvC scope cl C X.env) fp) tg g)
    (pt : ∀ (s : Shared) (H : Hp) (C : Addr) (cl : List (Str × Addr)) (fp : List Addr), PTs (X.blk s H scope (compEnvC scope cl C X.env) fp) [] tt)
    (pk : ∀ (s : Shared) (H : Hp) (C : Addr) (cl : List (Str × Addr)) (fp : List Addr), PE (X.blk s H scope (compEnvC scope cl C X.env) fp) kx tk)
    (pv' : ∀ (s : Shared) (H : Hp) (C : Addr) (cl : List (Str × Addr)) (fp : List Addr), PE (X.blk s H scope (compEnvC scope cl C X.env) fp) vx tv) (fold : ∀ x, foldedSetIterable iter X.env x = pure x := by intro _; rfl) :
    PS X (.Assign [.Name y py] (.DictComp kx vx [⟨tg, iter, [], 0⟩] scope pos) spos) (tAsg (tDc wi g tt tk tv (own.map (·.2))) (gName i)) := by
  constructor
  intro pins s σ H D I h
  have h : tDc wi g tt tk tv (own.map (·.2)) σ H (fun x H1 => gName i x σ H1 D.nx) := h
  rw [exec_Assign_Name_used _ _ _ _ sw]
  refine wpAny_bind (wpAny_standAt (wpAny_bind ?_))
  show wpAny _ X.A (do
    let _ ← comprehension (.DictComp kx vx [⟨tg, iter, [], 0⟩] scope pos) scope X.env (firstIterPos [⟨tg, iter, [], 0⟩] pos) newDict false (eval iter X.env) (some (assign (.Name y py) X.env))) _ _ s
  refine wpAny_bind (thn (dc_core (Qf := fun _ s' => SP X pins D .next s') calm nd I pi blk pg pt pk pv' fold h fun D' C s' m H' J q hn fpo => ?_) fun _ s' z => wpAny_pure (wpAny_pure z))
  obtain ⟨g0, g1, g2, g3, g4, g5⟩ := fpo
  show wpAny _ _ (assign (.Name y py) X.env (.ref D')) _ _ _
  refine wpAny_assign_Name (store_ok2 (v := V.ref D') J nd at_ (.inl loc) rfl (fun s2 J2 ⟨a, but, wh⟩ => ⟨m, hn.sameBut but fun e => ?_, fun h3 but3 => ⟨_, H', J2.turned (t' := s2.toks) (fun b o hb e => (but3.2 b hb).trans e) g0 g1 g3 g4 g5, q⟩⟩) (.inr loc))
  rcases wh with z | z
  · exact g1 (e.trans z)
  · exact g4 y a z e.symm
end
def dcK (J : It) (g : TG) (tt : TT) (tk tv : TE) (vs : List Nat) (σ : L2.St) (H1 : Hp) (Q : VK) : Prop := ∀ D, H1 D = none → ∃ W : Nat → Nat → Hp → Prop, (∃ m, W 0 m (upd H1 D (.dK []))) ∧ ∀ i m H, W i m H →
  (J.stop i H ∧ Q (.ref D) H) ∨ (J.go i H ∧ ∃ Nx : Hp → Prop, (∀ H', Nx H' → ∃ m', m' < m ∧ W (i + 1) m' H') ∧ ∀ x H', J.yld i H x H' → g x (wipe σ vs) H' fun σ2 H2 => wipe σ2 vs = wipe σ vs ∧ tt σ2 H2 fun b H3 =>
    if b = true then tk σ2 H3 fun y H4 => tv σ2 H4 fun z H5 => ∃ kvs k, y = kV k ∧ H5 D = some (.dK kvs) ∧ kvs.length < sizeLine ∧ Nx (upd H5 D (.dK (putK kvs k z))) else Nx H3)
theorem s_dc {wi : TI} {g : TG} {tt : TT} {tk tv : TE} {vs : List Nat} {σ : L2.St} (h : wi σ H fun J H1 => dcK J g tt tk tv vs σ H1 Q) : tDc wi g tt tk tv vs σ H Q := h
def CD (io : List Addr) (H0 F0 F : Hp) (D : Addr) (I : Nat → List (Key × V) → Hp → List (Addr × Cel) → Prop) (i : Nat) (H : Hp) : Prop := ∃ kvs F' M', Sep io H0 F0 F' H ((D, .is (.dK kvs)) :: M') ∧ Evl.Ex F F' ∧ I i kvs F' M'
def PutD (D : Addr) (P : Hp → Prop) (y z : V) (H5 : Hp) : Prop := ∃ kvs k, y = kV k ∧ H5 D = some (.dK kvs) ∧ kvs.length < sizeLine ∧ P (upd H5 D (.dK (putK kvs k z)))
theorem CD.put {I : Nat → List (Key × V) → Hp → List (Addr × Cel) → Prop} {i : Nat} {D : Addr} {kvs : List (Key × V)} {F' H' : Hp} {M1 : List (Addr × Cel)} {x : Int} {z : V} (S : Sep io H0 F0 F' H' M1) (j : Nat) (hj : M1[j]? = some (D, .is (.dK kvs))) (e : Evl.Ex F F') (hl : kvs.length < 100000)
    (hp : ∀ H'', Sep io H0 F0 F' H'' (M1.set j (D, .is (.dK (putK kvs (.inl x) z)))) → CD io H0 F0 F D I (i + 1) H'') : PutD D (CD io H0 F0 F D I (i + 1)) (.int x) z H' :=
  ⟨kvs, .inl x, rfl, S.rdM j hj, Evl.sz_lt hl, hp _ (S.put j hj _)⟩
theorem s_dcI {α : Type} {J : It} {g : TG} {tt : TT} {tk tv : TE} {vs : List Nat} {σ : L2.St} {as : List α} {X : α → V → Hp → Prop} (src : Src J io H0 F0 F L as X) (I : Nat → List (Key × V) → Hp → List (Addr × Cel) → Prop) (S : Sep io H0 F0 F H M) (h0 : I 0 [] F M) (hL : ∀ i kvs F' M', I i kvs F' M' → ∀ m ∈ L, m ∈ M')
    (hb : ∀ (i : Nat) (a : α) x kvs D F1 F' H' M', as[i]? = some a → Sep io H0 F0 F' H' ((D, .is (.dK kvs)) :: M') → Evl.Ex F F1 → Evl.Ex F1 F' → X a x F' → I i kvs F1 M' → g x (wipe σ vs) H' fun σ2 H2 => wipe σ2 vs = wipe σ vs ∧ tt σ2 H2 fun b H3 =>
      if b = true then tk σ2 H3 fun y H4 => tv σ2 H4 (PutD D (CD io H0 F0 F D I (i + 1)) y) else CD io H0 F0 F D I (i + 1) H3)
    (hd : ∀ D kvs F' H' M', Sep io H0 F0 F' H' ((D, .is (.dK kvs)) :: M') → Evl.Ex F F' → I as.length kvs F' M' → Q (.ref D) H') : dcK J g tt tk tv vs σ H Q := by
  intro D hD
  obtain ⟨G, Y, w, s1, s2⟩ := src
  have gs : ∀ i H', CD io H0 F0 F D I i H' → G H' := by
    rintro i H' ⟨kvs, F', M', S', e, h⟩
    exact s1 F' H' _ S' e fun m hm => List.mem_cons_of_mem _ (hL i kvs F' M' h m hm)
  refine ⟨fun i m H' => m + i = as.length ∧ CD io H0 F0 F D I i H', ⟨as.length, rfl, [], F, M, S.newM hD _, Evl.Ex.refl _, h0⟩, ?_⟩
  rintro i m H' ⟨hm, c⟩
  have g0 := gs i H' c
  cases m with
  | zero =>
    have e : i = as.length := by omega
    subst e
    obtain ⟨kvs, F', M', S', e, h⟩ := c
    exact .inl ⟨w.stops H' g0, hd D kvs F' H' M' S' e h⟩
  | succ m =>
    have hi : i < as.length := by omega
    refine .inr ⟨w.goes i H' hi g0, fun H'' => CD io H0 F0 F D I (i + 1) H'', fun H'' q => ⟨m, Nat.lt_succ_self _, by omega, q⟩, fun x H'' y => ?_⟩
    obtain ⟨kvs, F', M', S', e, h⟩ := c
    obtain ⟨F'', S'', e2, hx⟩ := s2 i as[i] x F' H' H'' _ (List.getElem?_eq_getElem hi) S' e (fun m hm => List.mem_cons_of_mem _ (hL i kvs F' M' h m hm)) (w.yields i H' x H'' hi g0 y)
    exact hb i as[i] x kvs D F' F'' H'' M' (List.getElem?_eq_getElem hi) S'' e e2 hx h
/-- a list with a drawn place for the next -/
def rInsert : V → List V → Hp → VK → Prop := fun x vs H Q => ∃ (l : Addr) (xs : List V) (i : Int) (y : V), x = .ref l ∧ vs = [.int i, y] ∧ H l = some (.lst xs) ∧ xs.length < sizeLine ∧ 0 ≤ i ∧ i < 2 ^ 63 ∧ Q .non (upd H l (.lst (xs.take i.toNat ++ [y] ++ xs.drop i.toNat)))
theorem mt_ins {X : Cx} : MtR X "list.insert" rInsert := mt_insert
theorem s_insert {xs : List V} {y : V} {i : Int} (S : Sep io H0 F0 F H M) (k : Nat) (hk : M[k]? = some (a, .is (.lst xs))) (few : xs.length < 100000) (h0 : 0 ≤ i) (h1 : i < 2 ^ 63) (q : ∀ H', Sep io H0 F0 F H' (M.set k (a, .is (.lst (xs.take i.toNat ++ [y] ++ xs.drop i.toNat)))) → Q .non H') : rInsert (.ref a) [.int i, y] H Q :=
  ⟨a, xs, i, y, rfl, rfl, S.rdM k hk, Evl.sz_lt few, h0, h1, q _ (S.put k hk _)⟩
end
/-- the keys of a dict, each once, as they are put -/
theorem putK_keys {κ : Type} [DecidableEq κ] (kvs : List (κ × V)) (k : κ) (v : V) : ∀ p ∈ putK kvs k v, p.1 = k ∨ ∃ q ∈ kvs, q.1 = p.1 := by
  intro p hp
  unfold putK at hp
  split at hp
  · obtain ⟨q, hq, rfl⟩ := List.mem_map.mp hp
    refine .inr ⟨q, hq, ?_⟩
    split <;> rfl
  · rcases List.mem_append.mp hp with hp | hp
    · exact .inr ⟨p, hp, rfl⟩
    · rw [List.mem_singleton.mp hp]; exact .inl rfl
theorem u1 {k : Nat} {A : Around} (r : Room k A) : A.units + 1 < cLine := by have := r.units; omega
section
variable {io : List Addr} {H0 F0 F H : Hp} {M : List (Addr × Cel)} {K : PySem.W.Frag} {P : Program} {w : World} {Q : VK} {a : Addr}
theorem ties_keys {xs : List V} {ps : List (Int × Int)} (ht : DpAll K F xs (ps.map tieD)) : ∃ ks : List (Addr × List Int), xs = ks.map (fun p => V.ref p.1) ∧ ks.map (·.2) = ps.map (fun t => [t.1, t.2]) ∧ ∀ p ∈ ks, ∃ t : Int × Int, t ∈ ps ∧ p.2 = [t.1, t.2] ∧ SqT K F p.1 [.int t.1, .int t.2] := by
  induction ps generalizing xs with
  | nil => cases ht; exact ⟨[], rfl, rfl, fun p hp => by cases hp⟩
  | cons t r ih =>
    cases ht with
    | cons hx hr =>
      obtain ⟨b, rfl, hb⟩ := tieD_at hx
      obtain ⟨ks, i1, i2, i3⟩ := ih hr
      refine ⟨(b, [t.1, t.2]) :: ks, by rw [i1]; rfl, by rw [List.map_cons, List.map_cons, i2], fun p hp => ?_⟩
      rcases List.mem_cons.mp hp with rfl | hp
      · exact ⟨t, List.mem_cons_self, rfl, hb⟩
      · obtain ⟨u, g1, g2, g3⟩ := i3 p hp
        exact ⟨u, List.mem_cons_of_mem _ g1, g2, g3⟩
/-- set(xs), xs a list of pairs -/
theorem s_great {sq : Hp → Addr → List V → Prop} {xs : List V} {ps : List (Int × Int)} (S : Sep io H0 F0 F H M) (h : sq H a xs) (ht : DpAll K F xs (ps.map tieD)) (few : ps.length ≤ 4000)
    (k : ∀ (q : Addr) (L : List (Addr × List Int)) (F' H' : Hp), Sep io H0 F0 F' H' M → Evl.Ex F F' → F' q = some (SetGO P w q L) → (∀ p ∈ L, ∃ t : Int × Int, t ∈ ps ∧ p.2 = [t.1, t.2] ∧ SqT K F' p.1 [.int t.1, .int t.2]) → (∀ t ∈ ps, [t.1, t.2] ∈ L.map (·.2)) → Q (.ref q) H') : rGreat sq K P w [.ref a] H Q := by
  obtain ⟨ks, e1, e2, e3⟩ := ties_keys ht
  subst e1
  have kl : ks.length = ps.length := by rw [← List.length_map (f := fun p : Addr × List Int => p.2), e2, List.length_map]
  refine ⟨a, ks, rfl, h, fun p hp => ?_, by omega, fun L h1 h2 q hq => ?_⟩
  · obtain ⟨t, _, g2, g3⟩ := e3 p hp
    rw [g2]
    exact Evl.ex_t S.fr g3
  · refine k q L _ _ (S.newF hq _) (Evl.Ex.new (S.fnone hq)) upd_same (fun p hp => ?_) fun t ht => ?_
    · obtain ⟨t, g1, g2, g3⟩ := e3 p (h1 p hp)
      exact ⟨t, g1, g2, Evl.ex_t (Evl.Ex.new (S.fnone hq)) g3⟩
    · have m : [t.1, t.2] ∈ ks.map (·.2) := by rw [e2]; exact List.mem_map.mpr ⟨t, ht, rfl⟩
      obtain ⟨p, hp, e⟩ := List.mem_map.mp m
      rw [← e]
      exact h2 p hp
theorem lex_lt {x y x' y' : Int} (h : SrtO.lexB (x', y') (x, y) = false) (ne : ([x, y] : List Int) ≠ [x', y']) : Lx (x, y) (x', y') := by
  have z := SrtO.lexB_no.mp h
  simp only at z
  by_cases e : x = x'
  · subst e
    refine .inr ⟨rfl, ?_⟩
    have ne2 : y ≠ y' := fun q => ne (by rw [q])
    show y < y'
    omega
  · exact .inl (by show x < x'; omega)
/-- sorted(that set): the pairs, each once, rising -/
theorem s_sortGreat {ps : List (Int × Int)} {L : List (Addr × List Int)} (S : Sep io H0 F0 F H M) (h : F a = some (SetGO P w a L)) (h1 : ∀ p ∈ L, ∃ t : Int × Int, t ∈ ps ∧ p.2 = [t.1, t.2] ∧ SqT K F p.1 [.int t.1, .int t.2]) (h2 : ∀ t ∈ ps, [t.1, t.2] ∈ L.map (·.2))
    (k : ∀ (q : Addr) (ys : List V) (ts : List (Int × Int)) (H' : Hp), Sep io H0 F0 F H' ((q, .is (.lst ys)) :: M) → DpAll K F ys (ts.map tieD) → ts.Pairwise Lx → (∀ t, t ∈ ts ↔ t ∈ ps) → Q (.ref q) H') : rSortGreat K P w [.ref a] H Q := by
  refine ⟨a, L, rfl, S.fr _ _ h, fun p hp => ?_, fun N pm nd pw q hq => ?_⟩
  · obtain ⟨t, _, g2, g3⟩ := h1 p hp
    exact ⟨t.1, t.2, g2, Evl.ex_t S.fr g3⟩
  · have S' := S.newM hq (.lst (N.map fun q => V.ref q.1))
    let f : Addr × List Int → Int × Int := fun p => (p.2.getD 0 0, p.2.getD 1 0)
    have hf : ∀ p ∈ N, ∃ t : Int × Int, t ∈ ps ∧ p.2 = [t.1, t.2] ∧ SqT K F p.1 [.int t.1, .int t.2] ∧ f p = t := fun p hp' => by
      obtain ⟨t, g1, g2, g3⟩ := h1 p (pm.mem_iff.mp hp')
      refine ⟨t, g1, g2, g3, ?_⟩
      show (p.2.getD 0 0, p.2.getD 1 0) = t
      rw [g2]
      rfl
    refine k q _ (N.map f) _ S' ?_ ?_ fun t => ?_
    · clear pm nd pw S' hq
      induction N with
      | nil => exact .nil
      | cons p r ih =>
        obtain ⟨t, _, _, g3, g4⟩ := hf p List.mem_cons_self
        refine .cons ?_ (ih fun p hp => hf p (List.mem_cons_of_mem _ hp))
        rw [g4]
        exact .tup g3 (.cons (.int _) (.cons (.int _) .nil))
    · refine List.pairwise_map.mpr (List.Pairwise.imp_of_mem ?_ (List.Pairwise.and pw (List.pairwise_map.mp nd)))
      intro p r hp' hr' ⟨c, ne⟩
      obtain ⟨t, g1, g2, _, g4⟩ := hf p hp'
      obtain ⟨u, k1, k2, _, k4⟩ := hf r hr'
      rw [g4, k4]
      rw [g2, k2] at c ne
      exact lex_lt c ne
    · constructor
      · intro m
        obtain ⟨p, hp', e⟩ := List.mem_map.mp m
        obtain ⟨u, g1, _, _, g4⟩ := hf p hp'
        rw [← e, g4]
        exact g1
      · intro m
        obtain ⟨p, hp', e⟩ := List.mem_map.mp (h2 t m)
        refine List.mem_map.mpr ⟨p, pm.mem_iff.mpr hp', ?_⟩
        show (p.2.getD 0 0, p.2.getD 1 0) = t
        rw [e]
        rfl
/-! ### families of cells of one's own -/
def cellsOf (as : List (Addr × HO)) : List (Addr × Cel) := as.map fun p => (p.1, Cel.is p.2)
theorem cells_put {as : List (Addr × HO)} {i : Nat} {a : Addr} {o : HO} : (cellsOf as).set i (a, .is o) = cellsOf (as.set i (a, o)) := by
  unfold cellsOf
  rw [List.map_set]
theorem cells_at {as : List (Addr × HO)} {i : Nat} {a : Addr} {o : HO} (h : as[i]? = some (a, o)) : (cellsOf as)[i]? = some (a, .is o) := by
  unfold cellsOf
  rw [List.getElem?_map, h]
  rfl
theorem Sep.frzAll : ∀ {as : List (Addr × HO)} {F H : Hp}, Sep io H0 F0 F H (cellsOf as ++ M) → ∃ F', Sep io H0 F0 F' H M ∧ Evl.Ex F F' ∧ ∀ p ∈ as, F' p.1 = some p.2
  | [], F, H, S => ⟨F, S, Evl.Ex.refl _, fun p hp => by cases hp⟩
  | (a, o) :: as, F, H, S => by
    obtain ⟨F1, S1, e1, c1⟩ := S.frz 0 (a := a) (o := o) rfl
    obtain ⟨F2, S2, e2, c2⟩ := Sep.frzAll (as := as) S1
    refine ⟨F2, S2, e1.trans e2, fun p hp => ?_⟩
    rcases List.mem_cons.mp hp with rfl | hp
    · exact e2 _ _ c1
    · exact c2 p hp
/-- a call that tells a plain value may read all that stands -/
theorem r_callV {α : Type} {A : α → List V → Hp → Prop} {B : α → V → List (Addr × Cel) → Hp → Prop} {vs : List V} {E : XK} (S : Sep io H0 F0 F H M) (x : α) (h : A x vs H) (k : ∀ v N F' H', Sep io H0 F0 F H' M → Evl.Ex H H' → B x v N F' → Q v H') : SpF A B vs H Q E :=
  ⟨x, H, Evl.Ex.refl _, h, fun v N F' H' S' b => by
    have e : Evl.Ex H H' := S'.ex
    refine k v N F' H' ⟨fun a o g n => e a o (S.old a o g n), fun a g => S.nn a (S'.nn a g), S.gr, S.gn, S.fr.trans e, fun m hm => ⟨Cel.mono (S.own m hm).1 (Evl.Ex.refl _) (e _), (S.own m hm).2⟩, S.nd, S.nt⟩ e b⟩
end
/-! ### rounds of draws -/
/-- the houses of left that h is tied to, in the ties' order -/
def nbL (ties : List (Int × Int)) (left : List Int) (h : Int) : List Int :=
  ties.flatMap fun t => if t.1 ∈ left ∧ t.2 ∈ left then (if t.1 = h then [t.2] else if t.2 = h then [t.1] else []) else []
def TiedW (ties : List (Int × Int)) (h o : Int) : Prop := (h, o) ∈ ties ∨ (o, h) ∈ ties
abbrev UpT (ties : List (Int × Int)) : Prop := ∀ t ∈ ties, t.1 < t.2
theorem TiedW.symm {ties : List (Int × Int)} {h o : Int} (x : TiedW ties h o) : TiedW ties o h := Or.symm x
theorem TiedW.ne {ties : List (Int × Int)} (u : UpT ties) {h o : Int} (x : TiedW ties h o) : h ≠ o := by
  rcases x with x | x <;> have := u _ x <;> simp only at this <;> omega
theorem nbL_mem {ties : List (Int × Int)} (u : UpT ties) {left : List Int} {h o : Int} : o ∈ nbL ties left h ↔ h ∈ left ∧ o ∈ left ∧ TiedW ties h o := by
  unfold nbL TiedW
  rw [List.mem_flatMap]
  constructor
  · rintro ⟨⟨a, b⟩, ht, hx⟩
    have := u _ ht
    simp only at this hx
    split at hx
    · rename_i c
      split at hx
      · rename_i e
        rw [List.mem_singleton] at hx
        subst e hx
        exact ⟨c.1, c.2, .inl ht⟩
      · split at hx
        · rename_i e
          rw [List.mem_singleton] at hx
          subst e hx
          exact ⟨c.2, c.1, .inr ht⟩
        · cases hx
    · cases hx
  · rintro ⟨h1, h2, h3⟩
    rcases h3 with h3 | h3
    · refine ⟨_, h3, ?_⟩
      simp [h1, h2]
    · have := u _ h3
      refine ⟨_, h3, ?_⟩
      simp only at this
      have ne : o ≠ h := by omega
      simp [h1, h2, ne]
theorem nbL_snoc {ties : List (Int × Int)} {left : List Int} {h : Int} {t : Int × Int} : nbL (ties ++ [t]) left h = nbL ties left h ++ (if t.1 ∈ left ∧ t.2 ∈ left then (if t.1 = h then [t.2] else if t.2 = h then [t.1] else []) else []) := by
  unfold nbL
  rw [List.flatMap_append]
  simp
def leastOf (ties : List (Int × Int)) (left : List Int) (f : Int → Int) : List Int := left.filter fun h => (nbL ties left h).all fun o => decide (f h < f o)
def outBy (ties : List (Int × Int)) (left chosen : List Int) : List Int := left.filter fun h => (nbL ties left h).any fun o => decide (o ∈ chosen)
def behind (left chosen out : List Int) : List Int := left.filter fun h => !decide (h ∈ chosen ++ out)
def rowF (row : List Int) (h : Int) : Int := row.getD h.toNat 0
def runL (ties : List (Int × Int)) : List Int → List (List Int) → List (List Int × List Int) × List Int
  | left, [] => ([], left)
  | left, row :: rest => if left = [] then ([], left) else
    ((leastOf ties left (rowF row), outBy ties left (leastOf ties left (rowF row))) :: (runL ties (behind left (leastOf ties left (rowF row)) (outBy ties left (leastOf ties left (rowF row)))) rest).1,
     (runL ties (behind left (leastOf ties left (rowF row)) (outBy ties left (leastOf ties left (rowF row)))) rest).2)
theorem runL_nil {ties : List (Int × Int)} : ∀ ds : List (List Int), runL ties [] ds = ([], [])
  | [] => rfl
  | _ :: _ => by rw [runL, if_pos rfl]
/-- by lists of those tied, in any order -/
def lawSome (N : Int → List Int) (here : List Int) (f : Int → Int) : List Int := here.filter fun h => ((N h).filter fun o => decide (o ∈ here)).all fun o => decide (f h < f o)
def lawOut (N : Int → List Int) (here some' : List Int) : List Int := here.filter fun h => !decide (h ∈ some') && !((N h).filter fun o => decide (o ∈ some')).isEmpty
section
variable {ties : List (Int × Int)} {left here : List Int} {N : Int → List Int} {f : Int → Int}
theorem leastOf_mem (u : UpT ties) {h : Int} : h ∈ leastOf ties left f ↔ h ∈ left ∧ ∀ o ∈ left, TiedW ties h o → f h < f o := by
  unfold leastOf
  rw [List.mem_filter, List.all_eq_true]
  refine and_congr_right fun hl => ⟨fun z o h1 h2 => of_decide_eq_true (z o ((nbL_mem u).2 ⟨hl, h1, h2⟩)), fun z o ho => ?_⟩
  obtain ⟨_, a, b⟩ := (nbL_mem u).1 ho
  exact decide_eq_true (z o a b)
theorem outBy_mem (u : UpT ties) {chosen : List Int} {h : Int} : h ∈ outBy ties left chosen ↔ h ∈ left ∧ ∃ o ∈ left, TiedW ties h o ∧ o ∈ chosen := by
  unfold outBy
  rw [List.mem_filter, List.any_eq_true]
  refine and_congr_right fun hl => ⟨?_, ?_⟩
  · rintro ⟨o, ho, z⟩
    obtain ⟨_, a, b⟩ := (nbL_mem u).1 ho
    exact ⟨o, a, b, of_decide_eq_true z⟩
  · rintro ⟨o, a, b, c⟩
    exact ⟨o, (nbL_mem u).2 ⟨hl, a, b⟩, decide_eq_true c⟩
theorem leastOf_apart (u : UpT ties) {h o : Int} (h1 : h ∈ leastOf ties left f) (h2 : o ∈ leastOf ties left f) : ¬ TiedW ties h o := fun z => by
  obtain ⟨a1, a2⟩ := (leastOf_mem u).1 h1
  obtain ⟨b1, b2⟩ := (leastOf_mem u).1 h2
  have c1 := a2 o b1 z
  have c2 := b2 h a1 z.symm
  omega
theorem lawSome_eq (u : UpT ties) (hN : ∀ h ∈ here, ∀ o, o ∈ N h ↔ TiedW ties h o) : lawSome N here f = leastOf ties here f := by
  unfold lawSome leastOf
  refine List.filter_congr fun h hh => ?_
  rw [Bool.eq_iff_iff, List.all_eq_true, List.all_eq_true]
  refine ⟨fun z o ho => ?_, fun z o ho => ?_⟩
  · obtain ⟨_, a, b⟩ := (nbL_mem u).1 ho
    exact z o (List.mem_filter.mpr ⟨(hN h hh o).2 b, decide_eq_true a⟩)
  · obtain ⟨a, b⟩ := List.mem_filter.mp ho
    exact z o ((nbL_mem u).2 ⟨hh, of_decide_eq_true b, (hN h hh o).1 a⟩)
theorem lawOut_eq (u : UpT ties) (hN : ∀ h ∈ here, ∀ o, o ∈ N h ↔ TiedW ties h o) {c : List Int} (hc : ∀ o ∈ c, o ∈ here) (ha : ∀ h ∈ c, ∀ o ∈ c, ¬ TiedW ties h o) : lawOut N here c = outBy ties here c := by
  unfold lawOut outBy
  refine List.filter_congr fun h hh => ?_
  rw [Bool.eq_iff_iff, Bool.and_eq_true, List.any_eq_true]
  constructor
  · rintro ⟨_, z⟩
    cases e : (N h).filter (fun o => decide (o ∈ c)) with
    | nil => rw [e] at z; cases z
    | cons o r =>
      have m : o ∈ (N h).filter (fun o => decide (o ∈ c)) := by rw [e]; exact List.mem_cons_self
      obtain ⟨a, b⟩ := List.mem_filter.mp m
      have b := of_decide_eq_true b
      exact ⟨o, (nbL_mem u).2 ⟨hh, hc o b, (hN h hh o).1 a⟩, decide_eq_true b⟩
  · rintro ⟨o, ho, z⟩
    obtain ⟨_, a, b⟩ := (nbL_mem u).1 ho
    have z := of_decide_eq_true z
    refine ⟨?_, ?_⟩
    · rw [Bool.not_eq_true', decide_eq_false_iff_not]
      exact fun q => ha h q o z b
    · cases e : (N h).filter (fun o => decide (o ∈ c)) with
      | nil =>
        have m : o ∈ (N h).filter (fun o => decide (o ∈ c)) := List.mem_filter.mpr ⟨(hN h hh o).2 b, decide_eq_true z⟩
        rw [e] at m
        cases m
      | cons _ _ => rfl
theorem behind_sub {c o : List Int} : ∀ h ∈ behind here c o, h ∈ here := fun h hh => (List.mem_filter.mp hh).1
theorem leastOf_sub : ∀ h ∈ leastOf ties here f, h ∈ here := fun h hh => (List.mem_filter.mp hh).1
theorem outBy_sub {c : List Int} : ∀ h ∈ outBy ties here c, h ∈ here := fun h hh => (List.mem_filter.mp hh).1
theorem behind_len {c o : List Int} : (behind here c o).length ≤ here.length := List.length_filter_le _ _
theorem leastOf_len : (leastOf ties here f).length ≤ here.length := List.length_filter_le _ _
theorem outBy_len {c : List Int} : (outBy ties here c).length ≤ here.length := List.length_filter_le _ _
theorem behind_up {c o : List Int} (h : here.Pairwise (· < ·)) : (behind here c o).Pairwise (· < ·) := h.sublist List.filter_sublist
theorem leastOf_up (h : here.Pairwise (· < ·)) : (leastOf ties here f).Pairwise (· < ·) := h.sublist List.filter_sublist
theorem outBy_up {c : List Int} (h : here.Pairwise (· < ·)) : (outBy ties here c).Pairwise (· < ·) := h.sublist List.filter_sublist
end
/-! ### the dict of those left -/
def nearK (left : List Int) (as : List Addr) : List (Key × V) := List.zipWith (fun h a => (Sum.inl h, V.ref a)) left as
theorem nearK_get {left : List Int} {as : List Addr} {i : Nat} {h : Int} {a : Addr} (e1 : left[i]? = some h) (e2 : as[i]? = some a) : (nearK left as)[i]? = some (.inl h, .ref a) := by
  unfold nearK
  rw [List.getElem?_zipWith, e1, e2]
theorem nearK_len {left : List Int} {as : List Addr} (e : as.length = left.length) : (nearK left as).length = left.length := by
  unfold nearK
  rw [List.length_zipWith, e, Nat.min_self]
theorem nearK_val : ∀ {left : List Int} {as : List Addr} {i : Nat} {h : Int} {a : Addr}, left.Nodup → left[i]? = some h → as[i]? = some a → valV (nearK left as) (.inl h) = some (.ref a)
  | [], _, i, _, _, _, e, _ => by simp at e
  | _ :: _, [], i, _, _, _, _, e => by simp at e
  | x :: l, b :: as, 0, h, a, _, e1, e2 => by
    cases e1
    cases e2
    simp [nearK, valV]
  | x :: l, b :: as, i + 1, h, a, nd, e1, e2 => by
    have ih := nearK_val (i := i) (List.nodup_cons.mp nd).2 (by simpa using e1) (by simpa using e2)
    have ne : x ≠ h := fun z => (List.nodup_cons.mp nd).1 (by rw [z]; exact List.mem_of_getElem? (by simpa using e1))
    unfold nearK valV at ih ⊢
    rw [List.zipWith_cons_cons, List.find?_cons_of_neg (by simpa using ne)]
    exact ih
theorem nearK_none : ∀ {left : List Int} {as : List Addr} {h : Int}, h ∉ left → valV (nearK left as) (.inl h) = none
  | [], _, _, _ => rfl
  | _ :: _, [], _, _ => rfl
  | x :: l, b :: as, h, nm => by
    have ih := nearK_none (left := l) (as := as) (h := h) fun z => nm (List.mem_cons_of_mem _ z)
    have ne : x ≠ h := fun z => nm (by rw [z]; exact List.mem_cons_self)
    unfold nearK valV at ih ⊢
    rw [List.zipWith_cons_cons, List.find?_cons_of_neg (by simpa using ne)]
    exact ih
theorem nearK_some {left : List Int} {as : List Addr} (nd : left.Nodup) (e : as.length = left.length) {h : Int} : (valV (nearK left as) (.inl h)).isSome = decide (h ∈ left) := by
  by_cases m : h ∈ left
  · obtain ⟨i, hi⟩ := List.mem_iff_getElem?.mp m
    have lt : i < as.length := by rw [e]; exact (List.getElem?_eq_some_iff.mp hi).1
    rw [nearK_val nd hi (List.getElem?_eq_getElem lt), decide_eq_true m]
    rfl
  · rw [nearK_none m, decide_eq_false m]
    rfl
theorem nearK_put {left : List Int} {as : List Addr} {i : Nat} {h : Int} {a : Addr} (nd : left.Nodup) (hi : left[i]? = some h) (e : as.length = i) : putK (nearK (left.take i) as) (.inl h) (.ref a) = nearK (left.take (i + 1)) (as ++ [a]) := by
  have lt := (List.getElem?_eq_some_iff.mp hi).1
  have no : ∀ x ∈ left.take i, x ≠ h := fun x hx z => by
    obtain ⟨j, hj⟩ := List.mem_iff_getElem?.mp hx
    have lj := (List.getElem?_eq_some_iff.mp hj).1
    rw [List.length_take] at lj
    rw [List.getElem?_take_of_lt (by omega), z] at hj
    have := nd_ix' nd hi hj
    omega
  unfold putK
  rw [if_neg]
  · unfold nearK
    rw [take_snoc hi, List.zipWith_append (by rw [List.length_take, e]; omega)]
    rfl
  · rw [List.any_eq_true]
    rintro ⟨p, hp, z⟩
    unfold nearK at hp
    obtain ⟨j, hj⟩ := List.mem_iff_getElem?.mp hp
    rw [List.getElem?_zipWith] at hj
    cases q1 : (left.take i)[j]? with
    | none => rw [q1] at hj; simp at hj
    | some x =>
      cases q2 : as[j]? with
      | none => rw [q1, q2] at hj; simp at hj
      | some y =>
        rw [q1, q2] at hj
        cases hj
        have z := of_decide_eq_true z
        exact no x (List.mem_of_getElem? q1) (by injection z)
theorem nearK_inv {left : List Int} {as : List Addr} {i : Nat} {k : Key} {v : V} (h : (nearK left as)[i]? = some (k, v)) : ∃ x a, left[i]? = some x ∧ as[i]? = some a ∧ k = .inl x ∧ v = .ref a := by
  unfold nearK at h
  rw [List.getElem?_zipWith] at h
  cases q1 : left[i]? with
  | none => rw [q1] at h; simp at h
  | some x =>
    cases q2 : as[i]? with
    | none => rw [q1, q2] at h; simp at h
    | some y =>
      rw [q1, q2] at h
      cases h
      exact ⟨x, y, rfl, rfl, rfl, rfl⟩
theorem take_filter {α : Type} (l : List α) (f : α → Bool) {i : Nat} {x : α} (h : l[i]? = some x) : (l.take (i + 1)).filter f = (l.take i).filter f ++ (if f x = true then [x] else []) := by
  rw [take_snoc h, List.filter_append]
  congr 1
  rw [List.filter_cons, List.filter_nil]
/-- what near_left tells -/
def NearAt (F : Hp) (d : Addr) (ties : List (Int × Int)) (left : List Int) : Prop := ∃ od as, as.length = left.length ∧ F d = some (.frz od (.dK (nearK left as))) ∧ ∀ (i : Nat) h a, left[i]? = some h → as[i]? = some a → F a = some (.lst ((nbL ties left h).map V.int))
def NearNew (F : Hp) (d : Addr) (ties : List (Int × Int)) (left : List Int) (c : Addr) : Prop := d ≠ c ∧ ∃ od as, as.length = left.length ∧ F d = some (.frz od (.dK (nearK left as))) ∧ (∀ (i : Nat) h a, left[i]? = some h → as[i]? = some a → F a = some (.lst ((nbL ties left h).map V.int))) ∧ ∀ b ∈ as, b ≠ c
theorem NearNew.at' {F F' : Hp} {d c : Addr} {ties : List (Int × Int)} {left : List Int} (h : NearNew F d ties left c) (e : ∀ b, b ≠ c → F' b = F b) : NearAt F' d ties left := by
  obtain ⟨h0, od, as, h1, h2, h3, h4⟩ := h
  exact ⟨od, as, h1, by rw [e d h0]; exact h2, fun i h a x y => by rw [e a (h4 a (List.mem_of_getElem? y))]; exact h3 i h a x y⟩
theorem NearAt.ex {F F' : Hp} {d : Addr} {ties : List (Int × Int)} {left : List Int} (h : NearAt F d ties left) (e : Evl.Ex F F') : NearAt F' d ties left := by
  obtain ⟨od, as, h1, h2, h3⟩ := h
  exact ⟨od, as, h1, e _ _ h2, fun i h a x y => e _ _ (h3 i h a x y)⟩
section
variable {io : List Addr} {H0 F0 F H : Hp} {M N : List (Addr × Cel)} {Q : VK}
theorem Sep.perm (S : Sep io H0 F0 F H M) (p : N.Perm M) : Sep io H0 F0 F H N := ⟨S.old, S.nn, S.gr, S.gn, S.fr, fun m hm => S.own m (p.mem_iff.mp hm), (p.map _).nodup_iff.mpr S.nd, fun m hm => S.nt m (p.mem_iff.mp hm)⟩
theorem s_forN {g : TG} {tb : TS} {D : Ends} {σ : L2.St} {od : Obj} {d : Addr} {left : List Int} {as : List Addr} (I : Nat → L2.St → Hp → List (Addr × Cel) → Prop) (S : Sep io H0 F0 F H M) (la : as.length = left.length) (hd : F d = some (.frz od (.dK (nearK left as)))) (h0 : I 0 σ F M)
    (hb : ∀ (i : Nat) h a t σ' F1 F' H' M', left[i]? = some h → as[i]? = some a → Sep io H0 F0 F' H' M' → Evl.Ex F F1 → Evl.Ex F1 F' → F' t = some (.tup [.int h, .ref a]) → I i σ' F1 M' → Body io H0 F0 F I D g tb i (.ref t) σ' H')
    (hn : ∀ σ' F' H' M', Sep io H0 F0 F' H' M' → Evl.Ex F F' → I left.length σ' F' M' → D.nx σ' H') : ForW (Iti d od (nearK left as)) D g tb σ H := by
  refine s_forIt I S hd h0 (fun i ky v t σ' F1 F' H' M' e S' e1 e2 ct h => ?_) fun σ' F' H' M' S' e h => hn σ' F' H' M' S' e (by rw [nearK_len la] at h; exact h)
  obtain ⟨x, a, i1, i2, rfl, rfl⟩ := nearK_inv e
  exact hb i x a t σ' F1 F' H' M' i1 i2 S' e1 e2 ct h
theorem srcN {od : Obj} {d : Addr} {left : List Int} {as : List Addr} (la : as.length = left.length) (hd : F d = some (.frz od (.dK (nearK left as)))) : Src (Itk d od (nearK left as)) io H0 F0 F [] left (fun h x _ => x = .int h) := by
  refine ⟨_, _, nearK_len la ▸ walk_keys, fun F' H' M' S e _ => S.rdC e hd, fun i h x F' H' H'' M' hh S e _ y => ?_⟩
  obtain ⟨rfl, k, v, e1, rfl⟩ := y
  obtain ⟨z, a, i1, i2, rfl, rfl⟩ := nearK_inv e1
  rw [hh] at i1
  cases i1
  exact ⟨F', S, Evl.Ex.refl _, rfl⟩
/-- a call that reads one cell of one's own -/
theorem r_callL {α : Type} {A : α → List V → Hp → Prop} {B : α → V → List (Addr × Cel) → Hp → Prop} {vs : List V} {E : XK} {a : Addr} {o : HO} (S : Sep io H0 F0 F H M) (j : Nat) (hj : M[j]? = some (a, .is o)) (x : α) (hA : A x vs (upd F a o)) (np : ∀ v N F', B x v N F' → ∀ m ∈ N, ∃ o, m.2 = .is o)
    (k : ∀ v N F1 F' H', Sep io H0 F0 F' H' (N ++ M) → Evl.Ex F F' → (∀ b, b ≠ a → F' b = F1 b) → B x v N F1 → Q v H') : SpF A B vs H Q E := by
  obtain ⟨⟨g1, g2⟩, g3⟩ := S.own _ (mem_of_k hj)
  have fr1 : Evl.Ex (upd F a o) H := fun b u h => by
    by_cases e : b = a
    · subst e; rw [upd_same] at h; cases h; exact g1
    · rw [upd_ne e] at h; exact S.fr b u h
  refine ⟨x, upd F a o, fr1, hA, fun v N F1 H' S' b => ?_⟩
  have ex : Evl.Ex H H' := S'.ex
  have hF : Evl.Ex F (fun b => if b = a then none else F1 b) := fun b u h => by
    have e : b ≠ a := fun e => by rw [e] at h; rw [h] at g3; cases g3
    show (if b = a then none else F1 b) = some u
    rw [if_neg e]
    exact S'.gr b u (by rw [upd_ne e]; exact h)
  refine k v N F1 (fun b => if b = a then none else F1 b) H' ⟨fun b u h n => ex b u (S.old b u h n), fun b h => S.nn b (S'.nn b h), S.gr.trans hF, fun b h => ?_, fun b u h => ?_, fun m hm => ?_, ?_, fun m hm w e => (List.mem_append.mp hm).elim (fun q => S'.nt m q w e) fun q => S.nt m q w e⟩ hF (fun b e => if_neg e) b
  · by_cases e : b = a
    · exact absurd (if_pos e) h
    · rcases S'.gn b (fun z => h (by show (if b = a then none else F1 b) = none; rw [if_neg e]; exact z)) with z | z | ⟨xs, z⟩
      · rw [upd_ne e] at z
        rcases S.gn b z with y | y | ⟨xs, y⟩
        · exact .inl y
        · exact .inr (.inl y)
        · exact .inr (.inr ⟨xs, hF _ _ y⟩)
      · exact .inr (.inl (S.nn b z))
      · exact .inr (.inr ⟨xs, by show (if b = a then none else F1 b) = _; rw [if_neg e]; exact z⟩)
  · have h : (if b = a then none else F1 b) = some u := h
    by_cases e : b = a
    · rw [if_pos e] at h; cases h
    · rw [if_neg e] at h; exact S'.fr b u h
  · have off : ∀ z : Addr, F1 z = none → (if z = a then none else F1 z) = none := fun z hz => by by_cases q : z = a <;> simp [q, hz]
    rcases List.mem_append.mp hm with hm | hm
    · obtain ⟨h1, h2⟩ := S'.own m hm
      obtain ⟨u, eu⟩ := np v N F1 b m hm
      obtain ⟨z, c⟩ := m
      subst eu
      exact ⟨⟨h1.1, S.nn _ h1.2⟩, off z h2⟩
    · obtain ⟨h1, h2⟩ := S.own m hm
      refine ⟨Cel.mono h1 hF (ex _), ?_⟩
      show (if m.1 = a then none else F1 m.1) = none
      by_cases e : m.1 = a
      · exact if_pos e
      · rw [if_neg e]
        cases q : F1 m.1 with
        | none => rfl
        | some u =>
          rcases S'.gn m.1 (Hp.some_ne q) with z | z | ⟨xs, z⟩
          · rw [upd_ne e] at z; exact absurd h2 z
          · exact absurd z (Cel.nz h1)
          · exact (Cel.noTup h1 (S.nt m hm) (ex _) (S'.fr _ _ z)).elim
  · rw [List.map_append]
    refine List.nodup_append.mpr ⟨S'.nd, S.nd, ?_⟩
    intro y hy z hz e
    obtain ⟨m, hm, rfl⟩ := List.mem_map.mp hy
    obtain ⟨n, hn, rfl⟩ := List.mem_map.mp hz
    obtain ⟨h1, _⟩ := S'.own m hm
    obtain ⟨u, eu⟩ := np v N F1 b m hm
    obtain ⟨y, c⟩ := m
    subst eu
    exact Cel.nz (S.own n hn).1 (by rw [← e]; exact h1.2)
/-- a call that reads all that stands -/
theorem r_callW {α : Type} {A : α → List V → Hp → Prop} {B : α → V → List (Addr × Cel) → Hp → Prop} {vs : List V} {E : XK} (S : Sep io H0 F0 F H M) (x : α) (a : A x vs H) (np : ∀ v N F', B x v N F' → ∀ m ∈ N, ∃ o, m.2 = .is o)
    (k : ∀ v N F1 F' H', Sep io H0 F0 F' H' (N ++ M) → Evl.Ex F F' → B x v N F1 → Q v H') : SpF A B vs H Q E :=
  ⟨x, H, Evl.Ex.refl _, a, fun v N F1 H' S' b => by
    have ex : Evl.Ex H H' := S'.ex
    have hF : Evl.Ex F (fun a => if H a = none then F1 a else F a) := fun a o h => by
      show (if H a = none then F1 a else F a) = some o
      rw [if_neg (by rw [S.fr a o h]; exact fun z => nomatch z)]
      exact h
    refine k v N F1 (fun a => if H a = none then F1 a else F a) H' ⟨fun a o h n => ex a o (S.old a o h n), fun a h => S.nn a (S'.nn a h), S.gr.trans hF, fun a h => ?_, fun a o h => ?_, fun m hm => ?_, ?_, fun m hm w e => (List.mem_append.mp hm).elim (fun q => S'.nt m q w e) fun q => S.nt m q w e⟩ hF b
    · by_cases c : H a = none
      · exact .inr (.inl (S.nn a c))
      · rcases S.gn a fun z => h (by show (if H a = none then F1 a else F a) = none; rw [if_neg c]; exact z) with y | y | ⟨xs, y⟩
        · exact .inl y
        · exact .inr (.inl y)
        · exact .inr (.inr ⟨xs, hF _ _ y⟩)
    · have h : (if H a = none then F1 a else F a) = some o := h
      by_cases c : H a = none
      · rw [if_pos c] at h; exact S'.fr a o h
      · rw [if_neg c] at h; exact ex a o (S.fr a o h)
    · rcases List.mem_append.mp hm with hm | hm
      · obtain ⟨h1, h2⟩ := S'.own m hm
        obtain ⟨o, eo⟩ := np v N F1 b m hm
        obtain ⟨z, c⟩ := m
        subst eo
        refine ⟨⟨h1.1, S.nn _ h1.2⟩, ?_⟩
        show (if H z = none then F1 z else F z) = none
        rw [if_pos h1.2]
        exact h2
      · obtain ⟨h1, h2⟩ := S.own m hm
        refine ⟨Cel.mono h1 hF (ex _), ?_⟩
        show (if H m.1 = none then F1 m.1 else F m.1) = none
        rw [if_neg (Cel.nz h1)]
        exact h2
    · rw [List.map_append]
      refine List.nodup_append.mpr ⟨S'.nd, S.nd, ?_⟩
      intro y hy z hz e
      obtain ⟨m, hm, rfl⟩ := List.mem_map.mp hy
      obtain ⟨n, hn, rfl⟩ := List.mem_map.mp hz
      obtain ⟨h1, _⟩ := S'.own m hm
      obtain ⟨o, eo⟩ := np v N F1 b m hm
      obtain ⟨y, c⟩ := m
      subst eo
      exact Cel.nz (S.own n hn).1 (by rw [← e]; exact h1.2)⟩
end
/-! ### what run_by tells: a tuple, lists of one's own -/
def fam (as : List Addr) (ls : List (List Int)) : List (Addr × HO) := List.zipWith (fun a l => (a, HO.lst (l.map V.int))) as ls
theorem fam_snoc {as : List Addr} {ls : List (List Int)} {a : Addr} {l : List Int} (e : as.length = ls.length) : fam (as ++ [a]) (ls ++ [l]) = fam as ls ++ [(a, .lst (l.map V.int))] := by
  unfold fam
  rw [List.zipWith_append e]
  rfl
theorem fam_at {as : List Addr} {ls : List (List Int)} {i : Nat} {a : Addr} {l : List Int} (e1 : as[i]? = some a) (e2 : ls[i]? = some l) : (fam as ls)[i]? = some (a, .lst (l.map V.int)) := by
  unfold fam
  rw [List.getElem?_zipWith, e1, e2]
theorem fam_len {as : List Addr} {ls : List (List Int)} (e : as.length = ls.length) : (fam as ls).length = ls.length := by
  unfold fam
  rw [List.length_zipWith, e, Nat.min_self]
structure RunCells (F : Hp) (ts cs os : List Addr) (rs : List (List Int × List Int)) : Prop where
  lt : ts.length = rs.length
  lc : cs.length = rs.length
  lo : os.length = rs.length
  tup : ∀ (i : Nat) t c o, ts[i]? = some t → cs[i]? = some c → os[i]? = some o → F t = some (.tup [.ref c, .ref o])
def runM (cs os : List Addr) (rs : List (List Int × List Int)) : List (Addr × Cel) := cellsOf (fam cs (rs.map Prod.fst) ++ fam os (rs.map Prod.snd))
theorem RunCells.nil {F : Hp} : RunCells F [] [] [] [] := ⟨rfl, rfl, rfl, fun i t c o h => by simp at h⟩
theorem RunCells.ex {F F' : Hp} {ts cs os : List Addr} {rs : List (List Int × List Int)} (h : RunCells F ts cs os rs) (e : Evl.Ex F F') : RunCells F' ts cs os rs := ⟨h.lt, h.lc, h.lo, fun i t c o a b d => e _ _ (h.tup i t c o a b d)⟩
theorem snoc_at {α : Type} {l : List α} {x y : α} {i : Nat} (h : (l ++ [x])[i]? = some y) : (i < l.length ∧ l[i]? = some y) ∨ (i = l.length ∧ y = x) := by
  have li := (List.getElem?_eq_some_iff.mp h).1
  rw [List.length_append, List.length_singleton] at li
  by_cases c : i < l.length
  · rw [List.getElem?_append_left c] at h
    exact .inl ⟨c, h⟩
  · have e : i = l.length := by omega
    subst e
    rw [List.getElem?_append_right (Nat.le_refl _), Nat.sub_self] at h
    exact .inr ⟨rfl, (Option.some.inj h).symm⟩
theorem RunCells.snoc {F : Hp} {ts cs os : List Addr} {rs : List (List Int × List Int)} {t c o : Addr} {r : List Int × List Int} (h : RunCells F ts cs os rs) (e : F t = some (.tup [.ref c, .ref o])) : RunCells F (ts ++ [t]) (cs ++ [c]) (os ++ [o]) (rs ++ [r]) := by
  refine ⟨by simp [h.lt], by simp [h.lc], by simp [h.lo], fun i t' c' o' a b d => ?_⟩
  rcases snoc_at a with ⟨a1, a2⟩ | ⟨a1, a2⟩ <;> rcases snoc_at b with ⟨b1, b2⟩ | ⟨b1, b2⟩ <;> rcases snoc_at d with ⟨d1, d2⟩ | ⟨d1, d2⟩
  · exact h.tup i _ _ _ a2 b2 d2
  all_goals first | (have := h.lt; have := h.lc; have := h.lo; exfalso; omega) | (rw [a2, b2, d2]; exact e)
theorem runM_snoc {F : Hp} {ts cs os : List Addr} {rs : List (List Int × List Int)} (h : RunCells F ts cs os rs) {c o : Addr} {C O : List Int} (b r : Addr × Cel) :
    (b :: r :: runM (cs ++ [c]) (os ++ [o]) (rs ++ [(C, O)])).Perm (b :: (o, .is (.lst (O.map V.int))) :: (c, .is (.lst (C.map V.int))) :: r :: runM cs os rs) := by
  unfold runM
  rw [List.map_append, List.map_append, List.map_singleton, List.map_singleton, fam_snoc (by rw [h.lc, List.length_map]), fam_snoc (by rw [h.lo, List.length_map])]
  unfold cellsOf
  simp only [List.map_append, List.map_cons, List.map_nil]
  generalize List.map (fun p : Addr × HO => (p.1, Cel.is p.2)) (fam cs (List.map Prod.fst rs)) = A
  generalize List.map (fun p : Addr × HO => (p.1, Cel.is p.2)) (fam os (List.map Prod.snd rs)) = B
  generalize (c, Cel.is (HO.lst (List.map V.int C))) = x
  generalize (o, Cel.is (HO.lst (List.map V.int O))) = y
  refine List.Perm.cons _ ?_
  have h1 : (A ++ [x] ++ (B ++ [y])).Perm (y :: x :: (A ++ B)) := by
    rw [← List.append_assoc]
    refine (List.perm_append_singleton _ _).trans (List.Perm.cons _ ?_)
    rw [List.append_assoc]
    exact List.perm_middle
  exact (List.Perm.cons r h1).trans ((List.Perm.swap _ _ _).trans (List.Perm.cons _ (List.Perm.swap _ _ _)))
/-- the rows of a run from here on -/
theorem runL_step {ties : List (Int × Int)} {left : List Int} {row : List Int} {rest : List (List Int)} (ne : left ≠ []) : runL ties left (row :: rest) =
    ((leastOf ties left (rowF row), outBy ties left (leastOf ties left (rowF row))) :: (runL ties (behind left (leastOf ties left (rowF row)) (outBy ties left (leastOf ties left (rowF row)))) rest).1,
     (runL ties (behind left (leastOf ties left (rowF row)) (outBy ties left (leastOf ties left (rowF row)))) rest).2) := by
  rw [runL, if_neg ne]
def roundD (r : List Int × List Int) : PyData := .tuple [intsD r.1, intsD r.2]
def runD (r : List (List Int × List Int) × List Int) : PyData := .tuple [.list (r.1.map roundD), intsD r.2]
/-- rows of a run whose lists stay -/
structure RawRows (F : Hp) (ts cs os : List Addr) (rs : List (List Int × List Int)) : Prop extends RunCells F ts cs os rs where
  ca : ∀ (i : Nat) c r, cs[i]? = some c → rs[i]? = some r → F c = some (.lst (r.1.map V.int))
  oa : ∀ (i : Nat) o r, os[i]? = some o → rs[i]? = some r → F o = some (.lst (r.2.map V.int))
theorem RawRows.ex {F F' : Hp} {ts cs os : List Addr} {rs : List (List Int × List Int)} (h : RawRows F ts cs os rs) (e : Evl.Ex F F') : RawRows F' ts cs os rs := ⟨h.toRunCells.ex e, fun i c r a b => e _ _ (h.ca i c r a b), fun i c r a b => e _ _ (h.oa i c r a b)⟩
theorem RawRows.nil {F : Hp} : RawRows F [] [] [] [] := ⟨RunCells.nil, fun i c r a => by simp at a, fun i c r a => by simp at a⟩
theorem RawRows.snoc {F : Hp} {ts cs os : List Addr} {rs : List (List Int × List Int)} {t c o : Addr} {r : List Int × List Int} (h : RawRows F ts cs os rs) (e : F t = some (.tup [.ref c, .ref o])) (ec : F c = some (.lst (r.1.map V.int))) (eo : F o = some (.lst (r.2.map V.int))) : RawRows F (ts ++ [t]) (cs ++ [c]) (os ++ [o]) (rs ++ [r]) := by
  refine ⟨h.toRunCells.snoc e, fun i c' r' a b => ?_, fun i c' r' a b => ?_⟩
  · rcases snoc_at a with ⟨a1, a2⟩ | ⟨a1, a2⟩ <;> rcases snoc_at b with ⟨b1, b2⟩ | ⟨b1, b2⟩
    · exact h.ca i _ _ a2 b2
    all_goals first | (have := h.lc; exfalso; omega) | (rw [a2, b2]; exact ec)
  · rcases snoc_at a with ⟨a1, a2⟩ | ⟨a1, a2⟩ <;> rcases snoc_at b with ⟨b1, b2⟩ | ⟨b1, b2⟩
    · exact h.oa i _ _ a2 b2
    all_goals first | (have := h.lo; exfalso; omega) | (rw [a2, b2]; exact eo)
theorem RawRows.dp {K : PySem.W.Frag} {F : Hp} {ts cs os : List Addr} {rs : List (List Int × List Int)} (h : RawRows F ts cs os rs) : DpAll K F (ts.map V.ref) (rs.map roundD) := by
  refine dpAll_ix (by rw [List.length_map, List.length_map, h.lt]) fun i x d e1 e2 => ?_
  rw [List.getElem?_map] at e1 e2
  have l1 := h.lt
  have l2 := h.lc
  have l3 := h.lo
  cases q1 : ts[i]? with
  | none => rw [q1] at e1; cases e1
  | some t =>
    cases q2 : rs[i]? with
    | none => rw [q2] at e2; cases e2
    | some r =>
      rw [q1] at e1
      rw [q2] at e2
      cases e1
      cases e2
      have li := (List.getElem?_eq_some_iff.mp q2).1
      obtain ⟨c, q3⟩ : ∃ c, cs[i]? = some c := ⟨_, List.getElem?_eq_getElem (by omega)⟩
      obtain ⟨o, q4⟩ : ∃ o, os[i]? = some o := ⟨_, List.getElem?_eq_getElem (by omega)⟩
      exact .tup (SqT.of (h.tup i t c o q1 q3 q4)) (.cons (dp_intsD (SqL.of (h.ca i c r q3 q2))) (.cons (dp_intsD (SqL.of (h.oa i o r q4 q2))) .nil))
/-- a run as it is told, all of it staying -/
def RunRaw (F : Hp) (v : V) (rs : List (List Int × List Int)) (left : List Int) : Prop := ∃ T R L ts cs os, v = .ref T ∧ F T = some (.tup [.ref R, .ref L]) ∧ F R = some (.lst (ts.map V.ref)) ∧ F L = some (.lst (left.map V.int)) ∧ RawRows F ts cs os rs
theorem RunRaw.ex {F F' : Hp} {v : V} {rs : List (List Int × List Int)} {left : List Int} (h : RunRaw F v rs left) (e : Evl.Ex F F') : RunRaw F' v rs left := by
  obtain ⟨T, R, L, ts, cs, os, rfl, h1, h2, h3, h4⟩ := h
  exact ⟨T, R, L, ts, cs, os, rfl, e _ _ h1, e _ _ h2, e _ _ h3, h4.ex e⟩
theorem RunRaw.dp {K : PySem.W.Frag} {F : Hp} {v : V} {rs : List (List Int × List Int)} {left : List Int} (h : RunRaw F v rs left) : Dp K F v (runD (rs, left)) := by
  obtain ⟨T, R, L, ts, cs, os, rfl, h1, h2, h3, h4⟩ := h
  exact .tup (SqT.of h1) (.cons (.lst (SqL.of h2) h4.dp) (.cons (dp_intsD (SqL.of h3)) .nil))
/-- a run as it is told: lists of one's own -/
def RunAt (rs : List (List Int × List Int)) (left : List Int) (v : V) (N : List (Addr × Cel)) (F : Hp) : Prop := ∃ T R L ts cs os, v = .ref T ∧ F T = some (.tup [.ref R, .ref L]) ∧ RunCells F ts cs os rs ∧ N = (L, .is (.lst (left.map V.int))) :: (R, .is (.lst (ts.map V.ref))) :: runM cs os rs
theorem RunAt.ex {F F' : Hp} {rs : List (List Int × List Int)} {left : List Int} {v : V} {N : List (Addr × Cel)} (h : RunAt rs left v N F) (e : Evl.Ex F F') : RunAt rs left v N F' := by
  obtain ⟨T, R, L, ts, cs, os, rfl, h1, h2, rfl⟩ := h
  exact ⟨T, R, L, ts, cs, os, rfl, e _ _ h1, h2.ex e, rfl⟩
theorem fam_in {as : List Addr} {ls : List (List Int)} {i : Nat} {a : Addr} {l : List Int} (e1 : as[i]? = some a) (e2 : ls[i]? = some l) : (a, HO.lst (l.map V.int)) ∈ fam as ls := List.mem_of_getElem? (fam_at e1 e2)
section
variable {io : List Addr} {H0 F0 F H : Hp} {M N : List (Addr × Cel)}
/-- .. as it stands in the heap -/
theorem RunAt.raw {rs : List (List Int × List Int)} {left : List Int} {v : V} (h : RunAt rs left v N F) (S : Sep io H0 F0 F H (N ++ M)) : RunRaw H v rs left := by
  obtain ⟨T, R, L, ts, cs, os, rfl, h1, h2, rfl⟩ := h
  refine ⟨T, R, L, ts, cs, os, rfl, S.fr _ _ h1, S.rdM 1 rfl, S.rdM 0 rfl, h2.ex S.fr, fun i c r a b => ?_, fun i o r a b => ?_⟩
  · have m : (c, Cel.is (HO.lst (r.1.map V.int))) ∈ runM cs os rs := List.mem_map.mpr ⟨_, List.mem_append_left _ (fam_in a (by rw [List.getElem?_map, b]; rfl)), rfl⟩
    exact (S.own _ (List.mem_append_left _ (List.mem_cons_of_mem _ (List.mem_cons_of_mem _ m)))).1.1
  · have m : (o, Cel.is (HO.lst (r.2.map V.int))) ∈ runM cs os rs := List.mem_map.mpr ⟨_, List.mem_append_right _ (fam_in a (by rw [List.getElem?_map, b]; rfl)), rfl⟩
    exact (S.own _ (List.mem_append_left _ (List.mem_cons_of_mem _ (List.mem_cons_of_mem _ m)))).1.1
/-- .. from now on it stays -/
theorem RunAt.frz {rs : List (List Int × List Int)} {left : List Int} {v : V} (h : RunAt rs left v N F) (S : Sep io H0 F0 F H (N ++ M)) : ∃ F', Sep io H0 F0 F' H M ∧ Evl.Ex F F' ∧ RunRaw F' v rs left := by
  obtain ⟨T, R, L, ts, cs, os, rfl, h1, h2, rfl⟩ := h
  have S : Sep io H0 F0 F H (cellsOf ((L, HO.lst (left.map V.int)) :: (R, HO.lst (ts.map V.ref)) :: (fam cs (rs.map Prod.fst) ++ fam os (rs.map Prod.snd))) ++ M) := S
  obtain ⟨F', S', e, c⟩ := S.frzAll
  refine ⟨F', S', e, T, R, L, ts, cs, os, rfl, e _ _ h1, c (R, _) (List.mem_cons_of_mem _ List.mem_cons_self), c (L, _) List.mem_cons_self, h2.ex e, fun i c' r a b => ?_, fun i o r a b => ?_⟩
  · exact c (c', _) (List.mem_cons_of_mem _ (List.mem_cons_of_mem _ (List.mem_append_left _ (fam_in a (by rw [List.getElem?_map, b]; rfl)))))
  · exact c (o, _) (List.mem_cons_of_mem _ (List.mem_cons_of_mem _ (List.mem_append_right _ (fam_in a (by rw [List.getElem?_map, b]; rfl)))))
end
/-! ### small data -/
structure RunSmall (rs : List (List Int × List Int)) (left : List Int) : Prop where
  rows : rs.length ≤ 1000
  lists : ∀ r ∈ rs, r.1.length ≤ 1000 ∧ r.2.length ≤ 1000
  left' : left.length ≤ 1000
theorem depthAll_le {n : Nat} : ∀ {ds : List PyData}, (∀ d ∈ ds, d.depth ≤ n) → PyData.depthAll ds ≤ n
  | [], _ => Nat.zero_le _
  | d :: r, h => by
    rw [PyData.depthAll]
    exact Nat.max_le.mpr ⟨h d List.mem_cons_self, depthAll_le fun x hx => h x (List.mem_cons_of_mem _ hx)⟩
theorem wdAll_of : ∀ {ds : List PyData}, (∀ d ∈ ds, wd d = true) → wdAll ds = true
  | [], _ => rfl
  | d :: r, h => by
    rw [wdAll, h d List.mem_cons_self, wdAll_of fun x hx => h x (List.mem_cons_of_mem _ hx)]
    rfl
theorem ints_depth (ns : List Int) : (intsD ns).depth ≤ 1 := by
  unfold intsD
  rw [PyData.depth]
  refine Nat.succ_le_succ (depthAll_le fun d hd => ?_)
  obtain ⟨i, _, rfl⟩ := List.mem_map.mp hd
  exact Nat.le_refl _
theorem ints_wd {ns : List Int} (h : ns.length ≤ 1000) : wd (intsD ns) = true := by
  unfold intsD
  rw [wd, List.length_map, decide_eq_true (show ns.length ≤ 100000 by omega), wdAll_of fun d hd => ?_]
  · rfl
  · obtain ⟨i, _, rfl⟩ := List.mem_map.mp hd
    rfl
theorem round_depth (r : List Int × List Int) : (roundD r).depth ≤ 2 := by
  unfold roundD
  rw [PyData.depth]
  refine Nat.succ_le_succ (depthAll_le fun d hd => ?_)
  rcases List.mem_cons.mp hd with rfl | hd
  · exact ints_depth _
  · rw [List.mem_singleton.mp hd]; exact ints_depth _
theorem round_wd {r : List Int × List Int} (h : r.1.length ≤ 1000 ∧ r.2.length ≤ 1000) : wd (roundD r) = true := by
  unfold roundD
  rw [wd, wdAll_of fun d hd => ?_]
  · rfl
  · rcases List.mem_cons.mp hd with rfl | hd
    · exact ints_wd h.1
    · rw [List.mem_singleton.mp hd]; exact ints_wd h.2
theorem rounds_depth (rs : List (List Int × List Int)) : (PyData.list (rs.map roundD)).depth ≤ 3 := by
  rw [PyData.depth]
  refine Nat.succ_le_succ (depthAll_le fun d hd => ?_)
  obtain ⟨r, _, rfl⟩ := List.mem_map.mp hd
  exact round_depth r
theorem rounds_wd {rs : List (List Int × List Int)} (h : rs.length ≤ 1000) (hl : ∀ r ∈ rs, r.1.length ≤ 1000 ∧ r.2.length ≤ 1000) : wd (PyData.list (rs.map roundD)) = true := by
  rw [wd, List.length_map, decide_eq_true (show rs.length ≤ 100000 by omega), wdAll_of fun d hd => ?_]
  · rfl
  · obtain ⟨r, hr, rfl⟩ := List.mem_map.mp hd
    exact round_wd (hl r hr)
theorem run_depth (r : List (List Int × List Int) × List Int) : (runD r).depth ≤ 4 := by
  unfold runD
  rw [PyData.depth]
  refine Nat.succ_le_succ (depthAll_le fun d hd => ?_)
  rcases List.mem_cons.mp hd with rfl | hd
  · exact rounds_depth _
  · rw [List.mem_singleton.mp hd]; exact Nat.le_trans (ints_depth _) (by decide)
theorem run_wd {rs : List (List Int × List Int)} {left : List Int} (h : RunSmall rs left) : wd (runD (rs, left)) = true := by
  unfold runD
  rw [wd, wdAll_of fun d hd => ?_]
  · rfl
  · rcases List.mem_cons.mp hd with rfl | hd
    · exact rounds_wd h.rows h.lists
    · rw [List.mem_singleton.mp hd]; exact ints_wd h.left'
theorem runL_small {ties : List (Int × Int)} : ∀ {ds : List (List Int)} {left : List Int} {n : Nat}, left.length ≤ n → (∀ r ∈ (runL ties left ds).1, r.1.length ≤ n ∧ r.2.length ≤ n) ∧ (runL ties left ds).1.length ≤ ds.length ∧ (runL ties left ds).2.length ≤ n
  | [], left, n, h => ⟨fun r hr => (by cases hr), Nat.le_refl _, h⟩
  | row :: rest, left, n, h => by
    by_cases e : left = []
    · rw [runL, if_pos e]
      exact ⟨fun r hr => (by cases hr), Nat.zero_le _, h⟩
    · rw [runL_step e]
      obtain ⟨a, b, c⟩ := runL_small (ds := rest) (left := behind left (leastOf ties left (rowF row)) (outBy ties left (leastOf ties left (rowF row)))) (n := n) (Nat.le_trans behind_len h)
      refine ⟨fun r hr => ?_, Nat.succ_le_succ b, c⟩
      rcases List.mem_cons.mp hr with rfl | hr
      · exact ⟨Nat.le_trans leastOf_len h, Nat.le_trans outBy_len h⟩
      · exact a r hr
theorem runL_fits {ties : List (Int × Int)} {many : Int} (hm : many ≤ 60) {ds : List (List Int)} (hd : ds.length ≤ 500) : RunSmall (runL ties (rgI many) ds).1 (runL ties (rgI many) ds).2 := by
  obtain ⟨a, b, c⟩ := runL_small (ties := ties) (ds := ds) (left := rgI many) (n := 60) (by rw [rgI_len]; omega)
  exact ⟨by omega, fun r hr => by have := a r hr; omega, by omega⟩
theorem shaped_draws (ds : List (List Int)) : SeqAt.shaped (.list (ds.map intsD)) = true := by
  have h0 : ∀ l : List Int, PyData.canLayAll0 (l.map PyData.int) = true := fun l => by
    induction l with
    | nil => rfl
    | cons x r ih => simp [PyData.canLayAll0, PyData.canLay0, ih]
  have h1 : PyData.canLayAll0 (ds.map intsD) = true := by
    induction ds with
    | nil => rfl
    | cons x r ih =>
      have := h0 x
      simp [PyData.canLayAll0, PyData.canLay0, intsD, ih, this] at *
  have h2 : PyData.depthAll (ds.map intsD) ≤ 1 := depthAll_le fun d hd => by
    obtain ⟨x, _, rfl⟩ := List.mem_map.mp hd
    exact ints_depth x
  unfold SeqAt.shaped
  simp [PyData.canLay0, h1, PyData.depth]
  omega
/-! ### list times a number -/
def rRepN : R2 := fun x y H Q => ∃ l k xs, x = .ref l ∧ y = .int k ∧ H l = some (.lst xs) ∧ -(2 ^ 63) ≤ k ∧ k < 2 ^ 63 ∧ xs.length * k.toNat ≤ sizeLine ∧ newK H (.lst (List.replicate k.toNat xs).flatten) Q
theorem op_repN {X : Cx} : OpR X (binaryOp .Mult) rRepN := op_rep
theorem s_rep {H : Hp} {a : Addr} {xs : List V} {k : Int} {Q : VK} (h : H a = some (.lst xs)) (h0 : 0 ≤ k) (h1 : k ≤ 1000) (hl : xs.length * k.toNat ≤ 100000) (q : newK H (.lst (List.replicate k.toNat xs).flatten) Q) : rRepN (.ref a) (.int k) H Q :=
  ⟨a, k, xs, rfl, rfl, h, by omega, by omega, Nat.le_trans hl (by decide), q⟩
theorem rep_one {α : Type} (n : Nat) (x : α) : (List.replicate n [x]).flatten = List.replicate n x := by
  induction n with
  | zero => rfl
  | succ n ih => rw [List.replicate_succ, List.flatten_cons, ih, List.replicate_succ]; rfl
theorem WebOk.few {many : Int} {ties : List (Int × Int)} (W : WebOk many ties) : ties.length ≤ 4000 := by
  have h2 := W.hi
  have nd : (ties.map fun t => (t.1 * 60 + t.2).toNat).Nodup := by
    refine List.pairwise_map.mpr (List.Pairwise.imp_of_mem (fun {a b} ha hb h e => ?_) W.up)
    have oa := W.ok a ha
    have ob := W.ok b hb
    unfold Lx at h
    omega
  have := nat_nodup_len _ (List.range 4000) nd fun x hx => by
    obtain ⟨t, ht, rfl⟩ := List.mem_map.mp hx
    have := W.ok t ht
    rw [List.mem_range]
    omega
  rw [List.length_map, List.length_range] at this
  exact this
/-! ### lists of a run written to -/
section
variable {io : List Addr} {H0 F0 F H : Hp} {M X : List (Addr × Cel)} {ts cs os : List Addr} {rs : List (List Int × List Int)}
theorem runM_c (rc : RunCells F ts cs os rs) {i : Nat} {c : Addr} {r : List Int × List Int} (hc : cs[i]? = some c) (hr : rs[i]? = some r) : (runM cs os rs ++ X)[i]? = some (c, .is (.lst (r.1.map V.int))) := by
  have li := (List.getElem?_eq_some_iff.mp hr).1
  have fl : (fam cs (rs.map Prod.fst)).length = rs.length := by rw [fam_len (by rw [rc.lc, List.length_map]), List.length_map]
  unfold runM cellsOf
  rw [List.getElem?_append_left (by rw [List.length_map, List.length_append]; omega), List.getElem?_map, List.getElem?_append_left (by omega), fam_at hc (l := r.1) (by rw [List.getElem?_map, hr]; rfl)]
  rfl
theorem runM_o (rc : RunCells F ts cs os rs) {i : Nat} {o : Addr} {r : List Int × List Int} (ho : os[i]? = some o) (hr : rs[i]? = some r) : (runM cs os rs ++ X)[rs.length + i]? = some (o, .is (.lst (r.2.map V.int))) := by
  have li := (List.getElem?_eq_some_iff.mp hr).1
  have fl : (fam cs (rs.map Prod.fst)).length = rs.length := by rw [fam_len (by rw [rc.lc, List.length_map]), List.length_map]
  have fl2 : (fam os (rs.map Prod.snd)).length = rs.length := by rw [fam_len (by rw [rc.lo, List.length_map]), List.length_map]
  unfold runM cellsOf
  rw [List.getElem?_append_left (by rw [List.length_map, List.length_append]; omega), List.getElem?_map, List.getElem?_append_right (by omega), fl, Nat.add_sub_cancel_left, fam_at ho (l := r.2) (by rw [List.getElem?_map, hr]; rfl)]
  rfl
theorem fam_set {as : List Addr} {ls : List (List Int)} {i : Nat} {a : Addr} {l : List Int} (h : as[i]? = some a) : (fam as ls).set i (a, .lst (l.map V.int)) = fam as (ls.set i l) := by
  refine List.ext_getElem? fun n => ?_
  unfold fam
  rw [List.getElem?_zipWith]
  by_cases e : i = n
  · subst e
    by_cases c : i < ls.length
    · have la := (List.getElem?_eq_some_iff.mp h).1
      rw [List.getElem?_set_self (by rw [List.length_zipWith]; omega), List.getElem?_set_self c, h]
    · rw [List.getElem?_eq_none (by rw [List.length_set, List.length_zipWith]; omega), List.getElem?_eq_none (l := ls.set i l) (by rw [List.length_set]; omega), h]
  · rw [List.getElem?_set_ne e, List.getElem?_set_ne e, List.getElem?_zipWith]
theorem runM_set (rc : RunCells F ts cs os rs) {i : Nat} {c o : Addr} {C O : List Int} (hc : cs[i]? = some c) (ho : os[i]? = some o) (hi : i < rs.length) :
    ((runM cs os rs ++ X).set i (c, .is (.lst (C.map V.int)))).set (rs.length + i) (o, .is (.lst (O.map V.int))) = runM cs os (rs.set i (C, O)) ++ X := by
  have fl : (fam cs (rs.map Prod.fst)).length = rs.length := by rw [fam_len (by rw [rc.lc, List.length_map]), List.length_map]
  have fl2 : (fam os (rs.map Prod.snd)).length = rs.length := by rw [fam_len (by rw [rc.lo, List.length_map]), List.length_map]
  unfold runM
  rw [List.set_append_left _ _ (by unfold cellsOf; rw [List.length_map, List.length_append]; omega), cells_put, List.set_append_left _ _ (by unfold cellsOf; rw [List.length_map, List.length_set, List.length_append]; omega), cells_put,
    List.set_append_left _ _ (by omega), List.set_append_right _ _ (by rw [List.length_set]; omega), List.length_set, fl, Nat.add_sub_cancel_left, fam_set hc, fam_set ho, List.map_set, List.map_set]
theorem RunCells.as {rs' : List (List Int × List Int)} (h : RunCells F ts cs os rs) (e : rs'.length = rs.length) : RunCells F ts cs os rs' := ⟨by rw [h.lt, e], by rw [h.lc, e], by rw [h.lo, e], h.tup⟩
theorem rawRows_of (S : Sep io H0 F0 F H M) (rc : RunCells F ts cs os rs) (hm : ∀ m ∈ runM cs os rs, m ∈ M) : RawRows H ts cs os rs := by
  refine ⟨rc.ex S.fr, fun i c r a b => ?_, fun i o r a b => ?_⟩
  · have m : (c, Cel.is (HO.lst (r.1.map V.int))) ∈ runM cs os rs := List.mem_map.mpr ⟨_, List.mem_append_left _ (fam_in a (by rw [List.getElem?_map, b]; rfl)), rfl⟩
    exact (S.own _ (hm _ m)).1.1
  · have m : (o, Cel.is (HO.lst (r.2.map V.int))) ∈ runM cs os rs := List.mem_map.mpr ⟨_, List.mem_append_right _ (fam_in a (by rw [List.getElem?_map, b]; rfl)), rfl⟩
    exact (S.own _ (hm _ m)).1.1
end
def bentR (r : List Int × List Int) : List Int × List Int := (r.1 ++ [-1], r.2 ++ [-2])
def bentN (rs : List (List Int × List Int)) (i : Nat) : List (List Int × List Int) := (rs.take i).map bentR ++ rs.drop i
theorem bentN_len (rs : List (List Int × List Int)) (i : Nat) : (bentN rs i).length = rs.length := by
  unfold bentN
  rw [List.length_append, List.length_map, List.length_take, List.length_drop]
  omega
theorem bentN_at {rs : List (List Int × List Int)} {i : Nat} {r : List Int × List Int} (h : rs[i]? = some r) : (bentN rs i)[i]? = some r := by
  have li := (List.getElem?_eq_some_iff.mp h).1
  unfold bentN
  rw [List.getElem?_append_right (by rw [List.length_map, List.length_take]; omega), List.length_map, List.length_take, Nat.min_eq_left (by omega), Nat.sub_self, List.getElem?_drop]
  exact h
theorem bentN_set {rs : List (List Int × List Int)} {i : Nat} {r : List Int × List Int} (h : rs[i]? = some r) : (bentN rs i).set i (bentR r) = bentN rs (i + 1) := by
  have li := (List.getElem?_eq_some_iff.mp h).1
  unfold bentN
  rw [List.set_append_right _ _ (by rw [List.length_map, List.length_take]; omega), List.length_map, List.length_take, Nat.min_eq_left (by omega), Nat.sub_self, take_snoc h, List.map_append, List.append_assoc]
  congr 1
  have d : rs.drop i = r :: rs.drop (i + 1) := by
    rw [List.drop_eq_getElem_cons li]
    congr 1
    rw [List.getElem?_eq_getElem li] at h
    exact Option.some.inj h
  rw [d]
  rfl
theorem rise_ext : ∀ {a b : List Int}, a.Pairwise (· < ·) → b.Pairwise (· < ·) → (∀ x, x ∈ a ↔ x ∈ b) → a = b
  | [], [], _, _, _ => rfl
  | [], y :: b, _, _, h => absurd ((h y).2 List.mem_cons_self) (by simp)
  | x :: a, [], _, _, h => absurd ((h x).1 List.mem_cons_self) (by simp)
  | x :: a, y :: b, ha, hb, h => by
    obtain ⟨a1, a2⟩ := List.pairwise_cons.mp ha
    obtain ⟨b1, b2⟩ := List.pairwise_cons.mp hb
    have e : x = y := by
      rcases List.mem_cons.mp ((h x).1 List.mem_cons_self) with e | m
      · exact e
      · rcases List.mem_cons.mp ((h y).2 List.mem_cons_self) with e | n
        · exact e.symm
        · have := b1 x m
          have := a1 y n
          omega
    subst e
    rw [rise_ext a2 b2 fun z => ?_]
    constructor
    · intro m
      rcases List.mem_cons.mp ((h z).1 (List.mem_cons_of_mem _ m)) with e | n
      · have := a1 z m; omega
      · exact n
    · intro m
      rcases List.mem_cons.mp ((h z).2 (List.mem_cons_of_mem _ m)) with e | n
      · have := b1 z m; omega
      · exact n
/-! ### whether a run may be told -/
def mayB (ties : List (Int × Int)) (left c : List Int) : Bool := decide (c = left.filter fun h => decide (h ∈ c)) && left.all fun h => !(!decide (h ∈ c) && (nbL ties left h).isEmpty) && !(decide (h ∈ c) && (nbL ties left h).any fun o => decide (o ∈ c))
def isRunB (ties : List (Int × Int)) : List Int → List (List Int × List Int) → List Int → Bool
  | left, [], e => decide (left = e)
  | left, r :: rest, e => !left.isEmpty && mayB ties left r.1 && decide (r.2 = outBy ties left r.1) && isRunB ties (behind left r.1 r.2) rest e
def besideL (N : Int → List Int) (here : List Int) (h : Int) : List Int := (N h).filter fun o => decide (o ∈ here)
def metL (N : Int → List Int) (here c : List Int) (h : Int) : List Int := (besideL N here h).filter fun o => decide (o ∈ c)
/-- one house of a round, as the law goes through it -/
def lawHouse (N : Int → List Int) (here c o : List Int) (h : Int) : Bool :=
  !((decide (h ∈ c) && !(metL N here c h).isEmpty) || (!decide (h ∈ c) && (besideL N here h).isEmpty)) && (decide (h ∈ o) == (!decide (h ∈ c) && !(metL N here c h).isEmpty))
def lawRound (N : Int → List Int) (here c o : List Int) : Bool := !here.isEmpty && (c.filter fun h => !decide (h ∈ here)).isEmpty && here.all (lawHouse N here c o) && (o.filter fun h => !decide (h ∈ here)).isEmpty
def lawRunB (N : Int → List Int) : List Int → List (List Int × List Int) → List Int → Bool
  | here, [], e => decide (here = e)
  | here, r :: rest, e => lawRound N here r.1 r.2 && lawRunB N (behind here r.1 r.2) rest e
section
variable {ties : List (Int × Int)} {here c o : List Int} {N : Int → List Int}
theorem isEmpty_iff {α : Type} {l : List α} : l.isEmpty = true ↔ ∀ x, x ∉ l := by
  cases l with
  | nil => exact ⟨(fun _ x h => nomatch h), fun _ => rfl⟩
  | cons x r => exact ⟨(fun h => nomatch h), fun h => absurd List.mem_cons_self (h x)⟩
theorem notEmpty_iff {α : Type} {l : List α} : (!l.isEmpty) = true ↔ ∃ x, x ∈ l := by
  cases l with
  | nil => exact ⟨(fun h => nomatch h), fun ⟨x, h⟩ => nomatch h⟩
  | cons x r => exact ⟨fun _ => ⟨x, List.mem_cons_self⟩, fun _ => rfl⟩
theorem mayB_iff (u : UpT ties) (hh : here.Pairwise (· < ·)) (hc : c.Pairwise (· < ·)) : mayB ties here c = true ↔ (∀ h ∈ c, h ∈ here) ∧ (∀ h ∈ here, h ∉ c → ∃ x ∈ here, TiedW ties h x) ∧ ∀ h ∈ here, h ∈ c → ∀ x ∈ here, TiedW ties h x → x ∉ c := by
  unfold mayB
  rw [Bool.and_eq_true, decide_eq_true_eq, List.all_eq_true]
  constructor
  · rintro ⟨e, a⟩
    refine ⟨fun h m => ?_, fun h m n => ?_, fun h m n x mx t q => ?_⟩
    · rw [e] at m; exact (List.mem_filter.mp m).1
    · have := (Bool.and_eq_true _ _ ▸ a h m).1
      rw [decide_eq_false n] at this
      have z : (!(nbL ties here h).isEmpty) = true := by simpa using this
      obtain ⟨x, mx⟩ := notEmpty_iff.mp z
      obtain ⟨_, b, d⟩ := (nbL_mem u).1 mx
      exact ⟨x, b, d⟩
    · have := (Bool.and_eq_true _ _ ▸ a h m).2
      rw [decide_eq_true n, Bool.true_and, Bool.not_eq_true'] at this
      have := List.any_eq_false.mp this x ((nbL_mem u).2 ⟨m, mx, t⟩)
      exact this (decide_eq_true q)
  · rintro ⟨e, a, b⟩
    refine ⟨rise_ext hc (hh.sublist List.filter_sublist) fun x => ?_, fun h m => ?_⟩
    · rw [List.mem_filter, decide_eq_true_eq]
      exact ⟨fun m => ⟨e x m, m⟩, fun m => m.2⟩
    · by_cases n : h ∈ c
      · rw [decide_eq_true n]
        have : ((nbL ties here h).any fun o => decide (o ∈ c)) = false := List.any_eq_false.mpr fun x mx q => by
          obtain ⟨_, d, t⟩ := (nbL_mem u).1 mx
          exact b h m n x d t (of_decide_eq_true q)
        rw [this]
        rfl
      · rw [decide_eq_false n]
        obtain ⟨x, mx, t⟩ := a h m n
        have : (nbL ties here h).isEmpty = false := by
          cases q : nbL ties here h with
          | nil => have := (nbL_mem u).2 ⟨m, mx, t⟩; rw [q] at this; cases this
          | cons _ _ => rfl
        rw [this]
        rfl
theorem besideL_mem (hN : ∀ h ∈ here, ∀ x, x ∈ N h ↔ TiedW ties h x) {h x : Int} (hm : h ∈ here) : x ∈ besideL N here h ↔ x ∈ here ∧ TiedW ties h x := by
  unfold besideL
  rw [List.mem_filter, hN h hm, decide_eq_true_eq, and_comm]
theorem metL_mem (hN : ∀ h ∈ here, ∀ x, x ∈ N h ↔ TiedW ties h x) {h x : Int} (hm : h ∈ here) : x ∈ metL N here c h ↔ (x ∈ here ∧ TiedW ties h x) ∧ x ∈ c := by
  unfold metL
  rw [List.mem_filter, besideL_mem hN hm, decide_eq_true_eq]
theorem round_iff (u : UpT ties) (hN : ∀ h ∈ here, ∀ x, x ∈ N h ↔ TiedW ties h x) (hh : here.Pairwise (· < ·)) (hc : c.Pairwise (· < ·)) (ho : o.Pairwise (· < ·)) :
    (!here.isEmpty && mayB ties here c && decide (o = outBy ties here c)) = lawRound N here c o := by
  rw [Bool.eq_iff_iff]
  unfold lawRound
  rw [Bool.and_eq_true, Bool.and_eq_true, decide_eq_true_eq, Bool.and_eq_true, Bool.and_eq_true, Bool.and_eq_true, mayB_iff u hh hc, isEmpty_iff, isEmpty_iff, List.all_eq_true]
  have out_iff : o = outBy ties here c ↔ ∀ h, h ∈ o ↔ h ∈ here ∧ ∃ x ∈ here, TiedW ties h x ∧ x ∈ c := by
    constructor
    · intro e h
      rw [e, outBy_mem u]
    · intro e
      exact rise_ext ho (outBy_up hh) fun h => by rw [e, outBy_mem u]
  rw [out_iff]
  have met_ne : ∀ h ∈ here, ((!(metL N here c h).isEmpty) = true ↔ ∃ x ∈ here, TiedW ties h x ∧ x ∈ c) := fun h hm => by
    rw [notEmpty_iff]
    constructor
    · rintro ⟨x, m⟩
      obtain ⟨⟨a, b⟩, d⟩ := (metL_mem hN hm).1 m
      exact ⟨x, a, b, d⟩
    · rintro ⟨x, a, b, d⟩
      exact ⟨x, (metL_mem hN hm).2 ⟨⟨a, b⟩, d⟩⟩
  have bes_e : ∀ h ∈ here, ((besideL N here h).isEmpty = true ↔ ∀ x ∈ here, ¬ TiedW ties h x) := fun h hm => by
    rw [isEmpty_iff]
    exact ⟨fun z x m t => z x ((besideL_mem hN hm).2 ⟨m, t⟩), fun z x m => z x ((besideL_mem hN hm).1 m).1 ((besideL_mem hN hm).1 m).2⟩
  constructor
  · rintro ⟨⟨e0, e1, e2, e3⟩, e4⟩
    refine ⟨⟨⟨e0, fun x m => ?_⟩, fun h hm => ?_⟩, fun x m => ?_⟩
    · obtain ⟨a, b⟩ := List.mem_filter.mp m
      have := e1 x a
      simp [this] at b
    · have mn := met_ne h hm
      have be := bes_e h hm
      have q := e4 h
      have f1 : ¬ ((decide (h ∈ c) && !(metL N here c h).isEmpty) = true) := fun z => by
        rw [Bool.and_eq_true, decide_eq_true_eq, mn] at z
        obtain ⟨zc, x, a, b, d⟩ := z
        exact e3 h hm zc x a b d
      have f2 : ¬ ((!decide (h ∈ c) && (besideL N here h).isEmpty) = true) := fun z => by
        rw [Bool.and_eq_true, be, Bool.not_eq_true', decide_eq_false_iff_not] at z
        obtain ⟨x, a, b⟩ := e2 h hm z.1
        exact z.2 x a b
      have f3 : (decide (h ∈ o) = true) ↔ (!decide (h ∈ c) && !(metL N here c h).isEmpty) = true := by
        rw [decide_eq_true_eq, q, Bool.and_eq_true, mn, Bool.not_eq_true', decide_eq_false_iff_not]
        refine ⟨fun z => ⟨fun zc => ?_, z.2⟩, fun z => ⟨hm, z.2⟩⟩
        obtain ⟨x, a, b, d⟩ := z.2
        exact e3 h hm zc x a b d
      unfold lawHouse
      rw [Bool.eq_false_iff.mpr f1, Bool.eq_false_iff.mpr f2, Bool.eq_iff_iff.mpr f3]
      simp
    · obtain ⟨a, b⟩ := List.mem_filter.mp m
      have := ((e4 x).1 a).1
      simp [this] at b
  · rintro ⟨⟨⟨e0, e1⟩, e2⟩, e3⟩
    have sub : ∀ h ∈ c, h ∈ here := fun h m => by
      have := e1 h
      rw [List.mem_filter] at this
      by_cases q : h ∈ here
      · exact q
      · exact absurd ⟨m, by simp [q]⟩ this
    have sub2 : ∀ h ∈ o, h ∈ here := fun h m => by
      have := e3 h
      rw [List.mem_filter] at this
      by_cases q : h ∈ here
      · exact q
      · exact absurd ⟨m, by simp [q]⟩ this
    have parts : ∀ h ∈ here, ¬ ((decide (h ∈ c) && !(metL N here c h).isEmpty) = true) ∧ ¬ ((!decide (h ∈ c) && (besideL N here h).isEmpty) = true) ∧ ((decide (h ∈ o) = true) ↔ (!decide (h ∈ c) && !(metL N here c h).isEmpty) = true) := fun h hm => by
      have z := e2 h hm
      unfold lawHouse at z
      rw [Bool.and_eq_true, Bool.not_eq_true', Bool.or_eq_false_iff, beq_iff_eq] at z
      exact ⟨Bool.eq_false_iff.mp z.1.1, Bool.eq_false_iff.mp z.1.2, by rw [z.2]⟩
    have no : ∀ h ∈ here, h ∈ c → ∀ x ∈ here, TiedW ties h x → x ∉ c := fun h hm hc x mx t q => by
      refine (parts h hm).1 ?_
      rw [Bool.and_eq_true, decide_eq_true_eq, met_ne h hm]
      exact ⟨hc, x, mx, t, q⟩
    refine ⟨⟨e0, sub, fun h hm hc => ?_, no⟩, fun h => ?_⟩
    · refine Classical.byContradiction fun q => (parts h hm).2.1 ?_
      rw [Bool.and_eq_true, bes_e h hm, Bool.not_eq_true', decide_eq_false_iff_not]
      exact ⟨hc, fun x mx t => q ⟨x, mx, t⟩⟩
    · constructor
      · intro m
        have hm := sub2 h m
        have z := (parts h hm).2.2.1 (decide_eq_true m)
        rw [Bool.and_eq_true, met_ne h hm] at z
        exact ⟨hm, z.2⟩
      · rintro ⟨hm, z⟩
        refine of_decide_eq_true ((parts h hm).2.2.2 ?_)
        rw [Bool.and_eq_true, met_ne h hm, Bool.not_eq_true', decide_eq_false_iff_not]
        obtain ⟨x, mx, t, q⟩ := z
        exact ⟨fun hc => no h hm hc x mx t q, x, mx, t, q⟩
theorem isRun_law (u : UpT ties) {many : Int} (hN : ∀ h, 0 ≤ h → h < many → ∀ x, x ∈ N h ↔ TiedW ties h x) {e : List Int} : ∀ {rs : List (List Int × List Int)} {here : List Int}, here.Pairwise (· < ·) → (∀ h ∈ here, 0 ≤ h ∧ h < many) → (∀ r ∈ rs, r.1.Pairwise (· < ·) ∧ r.2.Pairwise (· < ·)) → isRunB ties here rs e = lawRunB N here rs e
  | [], _, _, _, _ => rfl
  | r :: rest, here, hh, hr, ho => by
    have o1 := ho r List.mem_cons_self
    rw [isRunB, lawRunB, round_iff u (fun h hm => hN h (hr h hm).1 (hr h hm).2) hh o1.1 o1.2, isRun_law u hN (rs := rest) (behind_up hh) (fun h hm => hr h (behind_sub h hm)) fun r hm => ho r (List.mem_cons_of_mem _ hm)]
/-- runs by draws -/
theorem isRun_run (u : UpT ties) : ∀ {ds : List (List Int)} {left : List Int}, left.Pairwise (· < ·) → isRunB ties left (runL ties left ds).1 (runL ties left ds).2 = true
  | [], _, _ => by rw [runL, isRunB]; exact decide_eq_true rfl
  | row :: rest, left, hl => by
    by_cases e : left = []
    · rw [runL, if_pos e, isRunB]; exact decide_eq_true rfl
    · rw [runL_step e, isRunB]
      simp only
      rw [isRun_run u (ds := rest) (behind_up hl), (mayB_iff u hl (leastOf_up hl)).mpr ⟨leastOf_sub, fun h hm hn => ?_, fun h hm hc x mx t q => leastOf_apart u hc q t⟩]
      · cases left with
        | nil => exact absurd rfl e
        | cons _ _ => simp
      · refine Classical.byContradiction fun q => hn ((leastOf_mem u).2 ⟨hm, fun x mx t => ?_⟩)
        exact absurd ⟨x, mx, t⟩ q
end
/-! ### rows of a run as values -/
def RowV (F : Hp) (x : V) (r : List Int × List Int) : Prop := ∃ t c o, x = .ref t ∧ F t = some (.tup [.ref c, .ref o]) ∧ F c = some (.lst (r.1.map V.int)) ∧ F o = some (.lst (r.2.map V.int))
def RowsV (F : Hp) : List V → List (List Int × List Int) → Prop
  | [], [] => True
  | x :: xs, r :: rs => RowV F x r ∧ RowsV F xs rs
  | _, _ => False
section
variable {F F' : Hp} {K : PySem.W.Frag}
theorem RowV.ex {x : V} {r : List Int × List Int} (h : RowV F x r) (e : Evl.Ex F F') : RowV F' x r := by
  obtain ⟨t, c, o, rfl, h1, h2, h3⟩ := h
  exact ⟨t, c, o, rfl, e _ _ h1, e _ _ h2, e _ _ h3⟩
theorem RowV.dp {x : V} {r : List Int × List Int} (h : RowV F x r) : Dp K F x (roundD r) := by
  obtain ⟨t, c, o, rfl, h1, h2, h3⟩ := h
  exact .tup (SqT.of h1) (.cons (dp_intsD (SqL.of h2)) (.cons (dp_intsD (SqL.of h3)) .nil))
theorem RowsV.ex (e : Evl.Ex F F') : ∀ {xs : List V} {rs : List (List Int × List Int)}, RowsV F xs rs → RowsV F' xs rs
  | [], [], _ => trivial
  | _ :: _, _ :: _, h => ⟨h.1.ex e, RowsV.ex e h.2⟩
  | [], _ :: _, h => h.elim
  | _ :: _, [], h => h.elim
theorem RowsV.dp : ∀ {xs : List V} {rs : List (List Int × List Int)}, RowsV F xs rs → DpAll K F xs (rs.map roundD)
  | [], [], _ => .nil
  | _ :: _, _ :: _, h => .cons h.1.dp (RowsV.dp h.2)
  | [], _ :: _, h => h.elim
  | _ :: _, [], h => h.elim
theorem RowsV.len : ∀ {xs : List V} {rs : List (List Int × List Int)}, RowsV F xs rs → xs.length = rs.length
  | [], [], _ => rfl
  | _ :: _, _ :: _, h => by rw [List.length_cons, List.length_cons, RowsV.len h.2]
  | [], _ :: _, h => h.elim
  | _ :: _, [], h => h.elim
theorem RowsV.get : ∀ {xs : List V} {rs : List (List Int × List Int)} {i : Nat} {r : List Int × List Int}, RowsV F xs rs → rs[i]? = some r → ∃ x, xs[i]? = some x ∧ RowV F x r
  | [], [], i, _, _, e => by simp at e
  | x :: _, _ :: _, 0, _, h, e => by cases e; exact ⟨x, rfl, h.1⟩
  | _ :: _, _ :: _, i + 1, _, h, e => by
    obtain ⟨x, e1, e2⟩ := RowsV.get (i := i) h.2 (by simpa using e)
    exact ⟨x, by simpa using e1, e2⟩
  | [], _ :: _, _, _, h, _ => h.elim
  | _ :: _, [], _, _, h, _ => h.elim
theorem RowsV.app : ∀ {xs ys : List V} {rs ss : List (List Int × List Int)}, RowsV F xs rs → RowsV F ys ss → RowsV F (xs ++ ys) (rs ++ ss)
  | [], _, [], _, _, h => h
  | _ :: _, _, _ :: _, _, a, h => ⟨a.1, RowsV.app a.2 h⟩
  | [], _, _ :: _, _, a, _ => a.elim
  | _ :: _, _, [], _, a, _ => a.elim
theorem RowsV.take : ∀ {xs : List V} {rs : List (List Int × List Int)} (n : Nat), RowsV F xs rs → RowsV F (xs.take n) (rs.take n)
  | _, _, 0, _ => by rw [List.take_zero, List.take_zero]; trivial
  | [], [], _ + 1, _ => trivial
  | _ :: _, _ :: _, n + 1, h => ⟨h.1, RowsV.take n h.2⟩
  | [], _ :: _, _, h => h.elim
  | _ :: _, [], _, h => h.elim
theorem RowsV.drop : ∀ {xs : List V} {rs : List (List Int × List Int)} (n : Nat), RowsV F xs rs → RowsV F (xs.drop n) (rs.drop n)
  | _, _, 0, h => h
  | [], [], _ + 1, _ => trivial
  | _ :: _, _ :: _, n + 1, h => RowsV.drop n h.2
  | [], _ :: _, _, h => h.elim
  | _ :: _, [], _, h => h.elim
theorem RowsV.rev : ∀ {xs : List V} {rs : List (List Int × List Int)}, RowsV F xs rs → RowsV F xs.reverse rs.reverse
  | [], [], _ => trivial
  | x :: xs, r :: rs, h => by
    rw [List.reverse_cons, List.reverse_cons]
    exact RowsV.app (RowsV.rev h.2) ⟨h.1, trivial⟩
  | [], _ :: _, h => h.elim
  | _ :: _, [], h => h.elim
theorem RowsV.rep {x : V} {r : List Int × List Int} (h : RowV F x r) : ∀ n : Nat, RowsV F (List.replicate n x) (List.replicate n r)
  | 0 => trivial
  | n + 1 => ⟨h, RowsV.rep h n⟩
theorem RawRows.vals {ts cs os : List Addr} {rs : List (List Int × List Int)} (h : RawRows F ts cs os rs) : RowsV F (ts.map V.ref) rs := by
  have lt := h.lt
  have lc := h.lc
  have lo := h.lo
  have key : ∀ n, n ≤ rs.length → RowsV F ((ts.take n).map V.ref) (rs.take n) := by
    intro n
    induction n with
    | zero => intro _; rw [List.take_zero, List.take_zero]; trivial
    | succ n ih =>
      intro hn
      have e1 := List.getElem?_eq_getElem (l := ts) (i := n) (by omega)
      have e2 := List.getElem?_eq_getElem (l := rs) (i := n) (by omega)
      have e3 := List.getElem?_eq_getElem (l := cs) (i := n) (by omega)
      have e4 := List.getElem?_eq_getElem (l := os) (i := n) (by omega)
      rw [take_snoc e1, take_snoc e2, List.map_append]
      exact RowsV.app (ih (by omega)) ⟨⟨_, _, _, rfl, h.tup n _ _ _ e1 e3 e4, h.ca n _ _ e3 e2, h.oa n _ _ e4 e2⟩, trivial⟩
  have := key rs.length (Nat.le_refl _)
  rw [List.take_length, ← lt, List.take_length] at this
  exact this
end
/-- a source of rows -/
theorem srcRows {io : List Addr} {H0 F0 F : Hp} {K : PySem.W.Frag} {b : Addr} {xs : List V} {rs : List (List Int × List Int)} (h : SqL K F b xs) (hv : RowsV F xs rs) : Src (Itl K b) io H0 F0 F [] rs (fun r x F' => RowV F' x r) := by
  refine ⟨_, _, hv.len ▸ walk_list (xs := xs), fun F' H' M' S e _ => S.rdL e h, fun i r x F' H' H'' M' hr S e _ y => ?_⟩
  obtain ⟨rfl, y⟩ := y
  obtain ⟨x', e1, e2⟩ := hv.get hr
  rw [e1] at y
  cases y
  exact ⟨F', S, Evl.Ex.refl _, e2.ex e⟩
/-- lists of houses of a run that is handed in -/
structure RowsOk (many : Int) (rs : List (List Int × List Int)) (left : List Int) : Prop where
  rows : ∀ r ∈ rs, SetOk many r.1 ∧ SetOk many r.2
  left' : SetOk many left
/-! ### len(set(xs)) of any list of ints: a number told by the ints -/
def cntI (ns : List Int) : Nat := (PyProof.Rows.firstMet (fun i => ns.getD i 0) ns.length).length
section
variable {X : Cx}
def tLenSetG (K : PySem.W.Frag) (ta : TE) : TE := fun σ H Q => ta σ H fun x H1 => ∃ (l : Addr) (ns : List Int), x = V.ref l ∧ SqL K H1 l (ns.map V.int) ∧ ns.length ≤ 4000 ∧ Q (.int (cntI ns)) H1
theorem pe_lenSetG {a : Expr} {ta : TE} {p p2 q pos : Pos} (hc : X.calm = true) (hg : Gl X "len") (hm : X.mg "len" = none) (hg2 : Gl X "set") (hm2 : X.mg "set" = none) (ha : PE X a ta)
    (na : starEach [a] X.env = (false, eval a X.env) :: starEach [] X.env := by rfl) : PE X (.Call (.Name "len" p) [.Call (.Name "set" p2) [a] [] q] [] pos) (tLenSetG X.K ta) := by
  refine ⟨fun pins s σ H Q I h => ?_⟩
  refine Call_ (ld_blt I hg hm PySem.boot_len ?_)
  refine PyProof.Rows.callWith_builtin1 (PyProof.Rows.args_cons ?_ rfl) rfl rfl
  refine Call_ (ld_blt I hg2 hm2 PyProof.Rows.boot_set ?_)
  refine PyProof.Rows.callWith_type1 (PyProof.Rows.args_cons (thn (ha.run pins s σ H _ I h) fun v s1 ⟨x, H1, I1, r1, q1⟩ => PyProof.Rows.args_nil ?_) na) na rfl
  obtain ⟨l, ns, rfl, hq, h1, q1⟩ := q1
  cases r1
  obtain ⟨its, r, pl, hz⟩ := I1.list hq
  have hl : its.toArray.size = ns.length := by rw [List.size_toArray, ← r.length, List.length_map]
  refine call_set_list (I1.ok.hd hc) pl.isList (ns := ns) (by simpa using r.ints) (by unfold scanBound; omega) fun h' tk hS hk => ?_
  rw [hl] at hS
  refine PyProof.Rows.args_nil ?_
  have le := PyProof.Rows.firstMet_length_le (fun i => ns.getD i 0) ns.length
  obtain ⟨o, es, ep, t, ho, hex, hd, _, _, _, hf, hn⟩ := hS
  have I2 : Inv X pins σ H1 { s1 with heap := h', toks := tk } := I1.kept fun b o e => hk b o (Heap.lt_size e) e
  refine call_len_set ho hex hd hf (by rw [hn]; omega) ⟨.int (cntI ns), H1, I2.tok _, ⟨_, by rw [hn]; rfl⟩, q1⟩
end
def housesL (ts : List (Int × Int)) : List Int := ts.flatMap fun t => [t.1, t.2]
theorem housesL_snoc {ts : List (Int × Int)} {i : Nat} {t : Int × Int} (h : ts[i]? = some t) : housesL (ts.take (i + 1)) = housesL (ts.take i) ++ [t.1, t.2] := by
  rw [take_snoc h]
  unfold housesL
  rw [List.flatMap_append]
  simp
theorem housesL_len (ts : List (Int × Int)) : (housesL ts).length = 2 * ts.length := by
  unfold housesL
  induction ts with
  | nil => rfl
  | cons t r ih => rw [List.flatMap_cons, List.length_append, ih, List.length_cons]; simp; omega
structure TieL (many : Int) (l : List (Int × Int)) : Prop where
  nd : l.Nodup
  ok : ∀ t ∈ l, 0 ≤ t.1 ∧ t.1 < t.2 ∧ t.2 < many
def pairs60 : List (Int × Int) := (List.range 60).flatMap fun (b : Nat) => (List.range b).map fun (a : Nat) => ((a : Int), (b : Int))
theorem TieL.len {many : Int} {l : List (Int × Int)} (h : TieL many l) (m : many ≤ 60) : l.length ≤ 1770 := by
  have e : pairs60.length = 1770 := by decide +kernel
  rw [← e]
  refine len_le_of_sub h.nd fun t ht => ?_
  obtain ⟨a, b, c⟩ := h.ok t ht
  unfold pairs60
  refine List.mem_flatMap.mpr ⟨t.2.toNat, List.mem_range.mpr (by omega), List.mem_map.mpr ⟨t.1.toNat, List.mem_range.mpr (by omega), ?_⟩⟩
  refine Prod.ext ?_ ?_ <;> simp <;> omega
theorem TieL.sub {many : Int} {l l' : List (Int × Int)} (h : TieL many l) (s : l'.Sublist l) : TieL many l' := ⟨h.nd.sublist s, fun t ht => h.ok t (s.subset ht)⟩
theorem TieL.perm {many : Int} {l l' : List (Int × Int)} (h : TieL many l) (s : l'.Perm l) : TieL many l' := ⟨s.nodup_iff.mpr h.nd, fun t ht => h.ok t (s.mem_iff.mp ht)⟩
section
variable {X : Cx}
/-- set(xs), xs a longer list of ints -/
def rSetN4 (K : PySem.W.Frag) (w : World) : List V → Hp → VK → Prop := fun vs H Q => ∃ (a : Addr) (ns : List Int), vs = [.ref a] ∧ SqL K H a (ns.map V.int) ∧ ns.length ≤ 4000 ∧
  ∀ (q : Addr) (n : Nat), H q = none → n ≤ ns.length → Q (.ref q) (upd H q (SetO w q (fun j => decide (j ∈ ns)) n))
theorem cr_setN4 (hc : X.calm = true) : CallR X (.type "set") (rSetN4 X.K X.w) := by
  intro pins s σ H vs us Q I r h
  obtain ⟨a, ns, rfl, hs, hl, q⟩ := h
  obtain ⟨its, rv, pl, hz⟩ := I.list hs
  rw [Vals.ref1 r]
  refine call_set_ofList ns (I.ok.hd hc) pl.isList (by simpa using rv.ints) (Nat.lt_of_le_of_lt (Nat.add_le_add_right hl 1) (by decide)) fun g tk n S hn kp => ?_
  exact ⟨.ref _, _, I.laid (t' := tk) kp (Nat.le_refl _) (setO_new S), rfl, q _ n I.fresh hn⟩
end
section
variable {io : List Addr} {H0 F0 F H : Hp} {M : List (Addr × Cel)} {K : PySem.W.Frag} {w : World} {Q : VK} {a : Addr} {ns : List Int}
theorem s_setN4 (S : Sep io H0 F0 F H M) (h : SqL K H a (ns.map V.int)) (hl : ns.length ≤ 4000) (k : ∀ (q : Addr) (n : Nat) (F' H' : Hp), n ≤ ns.length → Sep io H0 F0 F' H' M → Evl.Ex F F' → F' q = some (SetO w q (fun j => decide (j ∈ ns)) n) → Q (.ref q) H') : rSetN4 K w [.ref a] H Q :=
  ⟨a, ns, rfl, h, hl, fun q n hq hn => k q n _ _ hn (S.newF hq _) (Evl.Ex.new (S.fnone hq)) upd_same⟩
end
section
open HT

/-! ### t[::-1] of a tuple; a < b < c < d -/
theorem fm_congr {α β : Type} {f g : α → Option β} : ∀ {l : List α}, (∀ a ∈ l, f a = g a) → l.filterMap f = l.filterMap g
  | [], _ => rfl
  | a :: l, h => by rw [List.filterMap_cons, List.filterMap_cons, h a List.mem_cons_self, fm_congr (l := l) fun b hb => h b (List.mem_cons_of_mem _ hb)]
theorem adjust_rev (n : Nat) : Builtin.Slice.sliceAdjust none none (-1) (n : Int) = ((n : Int) - 1, -1) := rfl
theorem places_rev (n : Nat) : Builtin.Slice.slicePlaces ((n : Int) - 1) (-1) (-1) = n := by
  unfold Builtin.Slice.slicePlaces
  rw [if_neg (by decide)]
  by_cases h : (n : Int) - 1 > -1
  · rw [if_pos h]
    have : ((n : Int) - 1 - -1 - 1) / (- -1) + 1 = (n : Int) := by rw [show (- -1 : Int) = 1 by decide, Int.ediv_one]; omega
    rw [this]
    exact Int.toNat_natCast n
  · rw [if_neg h]
    have : n = 0 := by omega
    subst this
    rfl
section
variable {prog : Program} {w : World} {A : Around} {E : Value → Shared → Prop} {s : Shared}
theorem sliceApplied_rev {sl : Addr} {vl vu vs : Value} {n : Nat} {Q : Int × Int × Nat → Shared → Prop} (hs : s.heap.IsSliceOf sl vl vu vs) (pl : IsPart vl none) (pu : IsPart vu none) (ps : IsPart vs (some (-1)))
    (h : Q ((n : Int) - 1, -1, n) s) : wpAny (model prog w) A (Builtin.Slice.sliceApplied (.ref sl) (pure (n : Int))) Q E s := by
  obtain ⟨os, hos, hcs, hds⟩ := id hs
  unfold Builtin.Slice.sliceApplied Builtin.Slice.sliceFields
  refine wpAny_bind (wpAny_bind (wpAny_field hos hds (x := vl) rfl (wpAny_bind (wpAny_field hos hds (x := vu) rfl (wpAny_bind (wpAny_field hos hds (x := vs) rfl (wpAny_pure ?_)))))))
  refine wpAny_bind (slicePart_ ps ?_)
  show wpAny _ _ (if ((-1 : Int) == 0) = true then _ else _) _ _ s
  rw [if_neg (by decide)]
  refine wpAny_bind (slicePart_ pl (wpAny_bind (slicePart_ pu (wpAny_bind (wpAny_pure ?_)))))
  show wpAny _ _ (match Builtin.Slice.sliceAdjust none none (-1) (n : Int) with | (lo, hi) => pure (lo, (-1 : Int), Builtin.Slice.slicePlaces lo hi (-1))) _ _ s
  rw [adjust_rev n]
  show wpAny _ _ (pure ((n : Int) - 1, (-1 : Int), Builtin.Slice.slicePlaces ((n : Int) - 1) (-1) (-1))) _ _ s
  rw [places_rev]
  exact wpAny_pure h
theorem pick_rev (xs : Array Value) : ((List.range xs.size).filterMap fun (m : Nat) => xs[(((xs.size : Nat) : Int) - 1 + (m : Int) * (-1)).toNat]?).toArray = xs.toList.reverse.toArray := by
  congr 1
  have h : ∀ m ∈ List.range xs.size, xs[(((xs.size : Nat) : Int) - 1 + (m : Int) * (-1)).toNat]? = xs.toList.reverse[m]? := fun m hm => by
    have := List.mem_range.mp hm
    rw [show (((xs.size : Nat) : Int) - 1 + (m : Int) * (-1)).toNat = xs.size - 1 - m by omega, List.getElem?_reverse (by rw [Array.length_toList]; exact this), Array.length_toList, Array.getElem?_toList]
  rw [fm_congr h]
  have e : xs.size = xs.toList.reverse.length := by rw [List.length_reverse, Array.length_toList]
  rw [e]
  generalize xs.toList.reverse = l
  clear h e
  induction l with
  | nil => rfl
  | cons a r ih =>
    rw [List.length_cons, List.range_succ_eq_map, List.filterMap_cons, List.filterMap_map]
    simp only [List.getElem?_cons_zero]
    congr 1
theorem getItem_tuple_rev {t sl : Addr} {items : Array Value} {vl vu vs : Value} {Q : Value → Shared → Prop} (ht : IsTup s.heap t items) (hs : s.heap.IsSliceOf sl vl vu vs) (pl : IsPart vl none) (pu : IsPart vu none) (ps : IsPart vs (some (-1)))
    (h : Q (.ref s.heap.objs.size) { s with heap := s.heap.push { cls := .type "tuple", data := .seq items.toList.reverse.toArray } })
    (hsz : items.size ≤ sizeLine) : wpAny (model prog w) A (getItem (.ref t) (.ref sl)) Q E s := by
  have htake : sizeOk (.seq items.toList.reverse.toArray) := by
    show items.toList.reverse.toArray.size ≤ sizeLine
    rw [List.size_toArray, List.length_reverse, Array.length_toList]
    exact hsz
  obtain ⟨os, hos, hcs, hds⟩ := id hs
  have hTs : s.TypeIs (.ref sl) "slice" := ⟨os, hos, hcs⟩
  unfold getItem
  try with_reducible refine wpAny_holding ?_
  first | refine wpAny_bind (wpAny_pure ?_) | skip
  refine wpAny_bind (wpAny_sequenceKey ht.typeIs (by decide) ?_)
  refine wpAny_bind (wpAny_callSpecial?_slot (name := Str.ofString "__getitem__") ht.typeIs PyProof.Rows.slot_tuple_getitem
    (wpAny_call_entry PyProof.Rows.slot_tuple_getitem ht.typeIs entry_tuple_getitem ?_ (args_tuple_getitem _ _)))
  show wpAny _ _ (Builtin.Tuple.tupleItemsOf (.ref t) >>= _) _ _ s
  refine wpAny_bind (tupleItemsOf_ ht ?_)
  refine wpAny_bind (wpAny_typeOf hTs ?_)
  rw [if_pos (by decide)]
  refine wpAny_bind (sliceApplied_rev hs pl pu ps ?_)
  have hno : ¬ ((((items.size : Nat) : Int) - 1 == 0 && (-1 : Int) == 1 && items.size == items.size) = true) := by
    intro q
    rw [Bool.and_eq_true, Bool.and_eq_true] at q
    exact absurd q.1.2 (by decide)
  show wpAny _ _ (if ((((items.size : Nat) : Int) - 1 == 0 && (-1 : Int) == 1 && items.size == items.size) = true) then _ else _) _ _ s
  rw [if_neg hno, pick_rev]
  first
    | exact wpAny_bind (m := Builtin.Tuple.tupleExact _) (wpAny_newObj_type (wpAny_pure ⟨_, rfl, wpAny_pure h⟩) htake)
    | exact wpAny_bind (m := Builtin.Tuple.tupleExact _) (wpAny_newObj_type (wpAny_bind (wpAny_pure (wpAny_pure ⟨_, rfl, wpAny_pure h⟩))) htake)
    | exact wpAny_bind (wpAny_bind (m := Builtin.Tuple.tupleExact _) (wpAny_newObj_type (wpAny_pure (wpAny_pure ⟨_, rfl, wpAny_pure h⟩)) htake))
    | exact wpAny_bind (wpAny_bind (m := Builtin.Tuple.tupleExact _) (wpAny_newObj_type (wpAny_pure ⟨_, rfl, wpAny_pure h⟩) htake))
end
section
variable {X : Cx}
def tRevT (K : PySem.W.Frag) (te : TE) : TE := fun σ H Q => te σ H fun x H1 => ∃ a xs, x = .ref a ∧ SqT K H1 a xs ∧ newK H1 (.tup xs.reverse) Q
theorem pe_revT {e : Expr} {te : TE} {k : Nat} {p1 p2 p3 pos : Pos} (he : PE X e te) : PE X (.Subscript e (.Slice none none (some (.UnaryOp .USub (.Constant (.int 1) k p1) p2)) p3) pos) (tRevT X.K te) := by
  refine ⟨fun pins s σ H Q I h => ?_⟩
  refine Subscript_ (thn (he.run pins s σ H _ I h) fun v s1 ⟨x, H1, I1, r1, q1⟩ => ?_)
  obtain ⟨a, xs, ex, hx, q⟩ := q1
  subst ex
  cases r1
  have hst : PO X (some (.UnaryOp .USub (.Constant (.int 1) k p1) p2)) (tPart (tUn (rU fun i => .int (-i)) (tC (.int 1)))) := po_some (pe_un un_neg pe_int)
  refine wpAny_Slice (thn (po_none.run pins s1 σ H1 (fun o H2 => o = none ∧ H2 = H1) I1 ⟨rfl, rfl⟩) fun vl s2 ⟨l, H2, I2, pl, el, e2⟩ => ?_)
  subst el e2
  refine thn (po_none.run pins s2 σ H2 (fun o H3 => o = none ∧ H3 = H2) I2 ⟨rfl, rfl⟩) fun vu s3 ⟨u, H3, I3, pu, eu, e3⟩ => ?_
  subst eu e3
  refine thn (hst.run pins s3 σ H3 (fun o H4 => o = some (-1) ∧ H4 = H3) I3 ⟨1, rfl, -1, rfl, rfl, rfl⟩) fun vs s4 ⟨o, H4, I4, ps, eo, e4⟩ => ?_
  subst eo e4
  have I5 : Inv X pins σ H4 { s4 with heap := s4.heap.push { cls := .type "slice", data := .fields #[vl, vu, vs] } } := I4.kept (t' := s4.toks) fun b ob q => Heap.get?_push_of_some _ q
  obtain ⟨its, r, ht, hz⟩ := I5.tuple hx
  have hlen := r.length
  show wpAny (model X.prog X.w) X.A (subscriptTail e (.Slice none none (some (.UnaryOp .USub (.Constant (.int 1) k p1) p2)) p3) (.ref a) (.ref s4.heap.objs.size)) (EP X pins σ Q) X.xe { s4 with heap := s4.heap.push { cls := .type "slice", data := .fields #[vl, vu, vs] } }
  refine tail_any (ops := [.ref a, .ref s4.heap.objs.size]) ht.typeIs (PyProof.Rows.slot_tuple_getitem.lookup) ?_ (by with_unfolding_all rfl)
  refine getItem_tuple_rev ht (Heap.IsSliceOf.new _ vl vu vs) pl pu ps ?_ (by rw [List.size_toArray]; omega)
  refine ⟨.ref _, _, I5.laid (t' := s4.toks) (o := .tup xs.reverse) (fun b ob q => Heap.get?_push_of_some _ q) (Nat.le_refl _) ?_, rfl, q _ (I5.hok.fresh (Nat.le_refl _))⟩
  exact ⟨by rw [List.length_reverse]; exact hz, _, r.reverse, IsTup.new _ _⟩
def tChain3 (r1 r2 r3 : R2) (ta tb tc td : TE) : TE := fun σ H Q => ta σ H fun x H1 => tb σ H1 fun y H2 => r1 x y H2 fun z H3 => ∃ k, z = .bl k ∧
  (if k = true then tc σ H3 fun w' H4 => r2 y w' H4 fun z' H5 => ∃ k', z' = .bl k' ∧ (if k' = true then td σ H5 fun u' H6 => r3 w' u' H6 Q else Q (.bl false) H5) else Q (.bl false) H3)
theorem pe_chain3 {a b c d : Expr} {ta tb tc td : TE} {pos : Pos} {o1 o2 o3 : CmpOp} {r1 r2 r3 : R2} (h1 : OpR X (compareOp o1) r1) (h2 : OpR X (compareOp o2) r2) (h3 : OpR X (compareOp o3) r3) (ha : PE X a ta) (hb : PE X b tb) (hc : PE X c tc) (hd : PE X d td)
    (hm : lastMarks [o1, o2, o3] [b, c, d] = false := by with_unfolding_all rfl) : PE X (.Compare a [o1, o2, o3] [b, c, d] pos) (tChain3 r1 r2 r3 ta tb tc td) := by
  refine ⟨fun pins s σ H Q I h => ?_⟩
  refine Compare_chain (thn (ha.run pins s σ H _ I h) fun v s1 ⟨x, H1, I1, q1r, q1⟩ => chain_link (thn (hb.run pins s1 σ H1 _ I1 q1) fun u s2 ⟨y, H2, I2, q2r, q2⟩ =>
    thn (h1 pins s2 σ H2 x y v u _ I2 q1r q2r q2) fun dd s3 ⟨z, H3, I3, q3r, k, e, q3⟩ => ?_)) hm
  subst e
  cases q3r
  refine wpAny_truthy_bool ?_
  cases k with
  | false => exact ite_ff ⟨.bl false, H3, I3, rfl, q3⟩
  | true =>
    refine ite_tt (chain_link (thn (hc.run pins s3 σ H3 _ I3 q3) fun w' s4 ⟨z', H4, I4, q4r, q4⟩ => thn (h2 pins s4 σ H4 y z' u w' _ I4 q2r q4r q4) fun dd s5 ⟨z5, H5, I5, q5r, k', e, q5⟩ => ?_))
    subst e
    cases q5r
    refine wpAny_truthy_bool ?_
    cases k' with
    | false => exact ite_ff ⟨.bl false, H5, I5, rfl, q5⟩
    | true => exact ite_tt (chain_last (thn (hd.run pins s5 σ H5 _ I5 q5) fun u' s6 ⟨z6, H6, I6, q6r, q6⟩ => h3 pins s6 σ H6 z' z6 w' u' Q I6 q4r q6r q6))
end

end
/-! ### the pairs of combinations(range(n), 2), as a list -/
def rowC (n i : Nat) : List (Nat × Nat) := (List.range' (i + 1) (n - i - 1)).map fun j => (i, j)
def pairsR (n : Nat) : List (Nat × Nat) := (List.range' 0 n).flatMap (rowC n)
def restC (n : Nat) (p : Nat × Nat) : List (Nat × Nat) := (List.range' p.2 (n - p.2)).map (fun j => (p.1, j)) ++ (List.range' (p.1 + 1) (n - p.1 - 1)).flatMap (rowC n)
theorem range'_cons {a m : Nat} (h : 0 < m) : List.range' a m = a :: List.range' (a + 1) (m - 1) := by
  obtain ⟨k, rfl⟩ : ∃ k, m = k + 1 := ⟨m - 1, by omega⟩
  rw [List.range'_succ]
  rfl
theorem restC_step {n : Nat} {p : Nat × Nat} (h1 : p.1 < p.2) (h2 : p.2 < n) : restC n p = p :: (match nextC n p with | none => [] | some q => restC n q) := by
  obtain ⟨i, j⟩ := p
  simp only at h1 h2
  unfold restC nextC
  simp only
  rw [range'_cons (show 0 < n - j by omega), List.map_cons, List.cons_append]
  congr 1
  by_cases a : j + 1 < n
  · rw [if_pos a]
    simp only
    rw [show n - j - 1 = n - (j + 1) by omega]
  · rw [if_neg a, show n - j - 1 = 0 by omega]
    by_cases b : i + 2 < n
    · rw [if_pos b]
      simp only
      rw [range'_cons (show 0 < n - i - 1 by omega), List.flatMap_cons]
      show [] ++ _ = _
      rw [List.nil_append]
      rfl
    · rw [if_neg b]
      have e : n - i - 1 = 1 := by omega
      rw [e]
      show [] ++ (rowC n (i + 1) ++ []) = []
      unfold rowC
      rw [show n - (i + 1) - 1 = 0 by omega]
      rfl
theorem pairsR_drop (n : Nat) : ∀ k, (pairsR n).drop k = match atC n k with | none => [] | some p => restC n p
  | 0 => by
    unfold atC
    by_cases h : 2 ≤ n
    · rw [if_pos h]
      unfold pairsR restC
      simp only
      rw [range'_cons (show 0 < n by omega), List.flatMap_cons]
      show rowC n 0 ++ _ = _
      unfold rowC
      rw [show n - 0 - 1 = n - 1 by omega]
    · rw [if_neg h]
      unfold pairsR
      have : n = 0 ∨ n = 1 := by omega
      rcases this with rfl | rfl
      · rfl
      · rfl
  | k + 1 => by
    have ih := pairsR_drop n k
    rw [show (pairsR n).drop (k + 1) = ((pairsR n).drop k).drop 1 by rw [List.drop_drop], ih]
    show _ = match (atC n k).bind (nextC n) with | none => [] | some p => restC n p
    cases q : atC n k with
    | none => rfl
    | some p =>
      have ok := atC_ok q
      simp only
      rw [restC_step ok.1 ok.2]
      rfl
theorem atC_pairsR (n k : Nat) : atC n k = (pairsR n)[k]? := by
  rw [← List.head?_drop, pairsR_drop]
  cases q : atC n k with
  | none => rfl
  | some p =>
    have ok := atC_ok q
    simp only
    rw [restC_step ok.1 ok.2]
    rfl
def pairI (p : Nat × Nat) : Int × Int := ((p.1 : Int), (p.2 : Int))
def pairsI (n : Nat) : List (Int × Int) := (pairsR n).map pairI
theorem pairsR_mem {n : Nat} {p : Nat × Nat} : p ∈ pairsR n ↔ p.1 < p.2 ∧ p.2 < n := by
  obtain ⟨i, j⟩ := p
  unfold pairsR rowC
  simp only [List.mem_flatMap, List.mem_map, List.mem_range'_1, Prod.mk.injEq]
  constructor
  · rintro ⟨a, _, b, _, rfl, rfl⟩
    omega
  · intro h
    exact ⟨i, by omega, j, by omega, rfl, rfl⟩
theorem pairsI_mem {n : Nat} {t : Int × Int} : t ∈ pairsI n ↔ 0 ≤ t.1 ∧ t.1 < t.2 ∧ t.2 < (n : Int) := by
  unfold pairsI
  rw [List.mem_map]
  constructor
  · rintro ⟨p, hp, rfl⟩
    have := pairsR_mem.mp hp
    unfold pairI
    simp only
    omega
  · intro h
    refine ⟨(t.1.toNat, t.2.toNat), pairsR_mem.mpr ⟨by simp only; omega, by simp only; omega⟩, ?_⟩
    unfold pairI
    refine Prod.ext ?_ ?_
    · simp only; omega
    · simp only; omega
theorem flat_lx {L : List Nat} (n : Nat) (h : L.Pairwise (· < ·)) : (L.flatMap (rowC n)).Pairwise fun a b : Nat × Nat => a.1 < b.1 ∨ (a.1 = b.1 ∧ a.2 < b.2) := by
  induction L with
  | nil => exact .nil
  | cons i r ih =>
    rw [List.flatMap_cons]
    have h := List.pairwise_cons.mp h
    refine List.pairwise_append.mpr ⟨?_, ih h.2, ?_⟩
    · unfold rowC
      refine List.Pairwise.map _ (fun a b (q : a < b) => .inr ⟨rfl, q⟩) (List.pairwise_lt_range' (s := i + 1) (n := n - i - 1))
    · intro a ha b hb
      obtain ⟨x, hx, hb⟩ := List.mem_flatMap.mp hb
      unfold rowC at ha hb
      obtain ⟨_, _, rfl⟩ := List.mem_map.mp ha
      obtain ⟨_, _, rfl⟩ := List.mem_map.mp hb
      exact .inl (h.1 x hx)
theorem pairsI_up (n : Nat) : (pairsI n).Pairwise Lx := by
  unfold pairsI
  refine List.Pairwise.map _ (fun a b h => ?_) (flat_lx n (List.pairwise_lt_range' (s := 0) (n := n)))
  unfold Lx pairI
  simp only
  omega
theorem flat_len (n : Nat) (L : List Nat) (h : ∀ i ∈ L, i < n) : (L.flatMap (rowC n)).length ≤ L.length * n := by
  induction L with
  | nil => simp
  | cons i r ih =>
    rw [List.flatMap_cons, List.length_append, List.length_cons, Nat.succ_mul]
    have := ih fun j hj => h j (List.mem_cons_of_mem _ hj)
    have e : (rowC n i).length = n - i - 1 := by unfold rowC; rw [List.length_map, List.length_range']
    omega
theorem pairsI_len (n : Nat) : (pairsI n).length ≤ n * n := by
  unfold pairsI pairsR
  rw [List.length_map]
  have := flat_len n (List.range' 0 n) fun i hi => by rw [List.mem_range'_1] at hi; omega
  rw [List.length_range'] at this
  exact this
section
variable {io : List Addr} {H0 F0 F : Hp}
theorem srcC {n : Nat} : Src (ItCm n) io H0 F0 F [] (pairsI n) (fun p x F' => ∃ t, x = .ref t ∧ F' t = some (.tup [.int p.1, .int p.2])) := by
  have hl : (pairsI n).length = (pairsR n).length := List.length_map _
  refine ⟨fun _ => True, fun k H v H' => ∃ T p, v = .ref T ∧ H T = none ∧ atC n k = some p ∧ H' = upd H T (.tup [.int (p.1 : Int), .int (p.2 : Int)]), ⟨fun i H hi _ => ?_, fun H _ => ?_, fun i H x H' hi _ y => y⟩, fun _ _ _ _ _ _ => trivial, fun i a x F' H' H'' M' ha S e _ y => ?_⟩
  · show (atC n i).isSome = true
    rw [atC_pairsR, List.getElem?_eq_getElem (by omega)]
    rfl
  · show atC n _ = none
    rw [atC_pairsR]
    exact List.getElem?_eq_none (by omega)
  · obtain ⟨T, p, rfl, hT, hp, rfl⟩ := y
    rw [atC_pairsR] at hp
    unfold pairsI at ha
    rw [List.getElem?_map, hp] at ha
    cases ha
    exact ⟨_, S.newF hT _, Evl.Ex.new (S.fnone hT), T, rfl, upd_same⟩
end
theorem r_inT2 {K : PySem.W.Frag} {H : Hp} {Q : VK} {p : Addr} {x y a : Int} (h : SqT K H p [.int x, .int y]) (q : Q (.bl (decide (a ∈ [x, y]))) H) : rIn K false (.int a) (.ref p) H Q :=
  ⟨p, [x, y].map V.int, rfl, .inr h, rfl, flat_int _, by rw [if_neg (by decide), inV_int]; exact q⟩
theorem inR2 (a x y : Int) : (if false = true then !inV (.int a) [V.int x, V.int y] else inV (.int a) [V.int x, V.int y]) = decide (a ∈ [x, y]) := by
  have := inV_int a [x, y]
  rw [if_neg (by decide)]
  exact this
theorem r_chain {σ : L2.St} {H : Hp} {Q : VK} {r r' : R2} {ta tb tc : TE} (h : ta σ H fun x H1 => tb σ H1 fun y H2 => r x y H2 fun z H3 => ∃ k, z = .bl k ∧ (if k = true then tc σ H3 fun w' H4 => r' y w' H4 Q else Q (.bl false) H3)) : tChain r r' ta tb tc σ H Q := h
/-! ### the web of ties -/
def touchP (t u : Int × Int) : Bool := decide (t.1 ∈ [u.1, u.2]) || decide (t.2 ∈ [u.1, u.2])
def touchAt (ties : List (Int × Int)) (p : Int × Int) : Bool := touchP (ties.getD p.1.toNat (0, 0)) (ties.getD p.2.toNat (0, 0))
def touchesOf (ties : List (Int × Int)) : List (Int × Int) := (pairsI ties.length).filter (touchAt ties)
theorem touches_ok {ties : List (Int × Int)} (h1 : 1 ≤ ties.length) (h2 : ties.length ≤ 60) : WebOk (ties.length : Int) (touchesOf ties) :=
  ⟨by omega, by omega, fun t ht => by
    have := pairsI_mem.mp (List.mem_filter.mp ht).1
    omega, (pairsI_up _).sublist List.filter_sublist⟩
theorem tie_nth {K : PySem.W.Frag} {F : Hp} {ws : List V} {ties : List (Int × Int)} {j : Int} (h : DpAll K F ws (ties.map tieD)) (h0 : 0 ≤ j) (h1 : j < (ties.length : Int)) : ∃ x t, atI ws j = some x ∧ ties.getD j.toNat (0, 0) = t ∧ Dp K F x (tieD t) := by
  have wl := (dpAll_get h).1
  rw [List.length_map] at wl
  have lt : j.toNat < ws.length := by omega
  obtain ⟨d, e1, e2⟩ := (dpAll_get h).2 j.toNat ws[j.toNat] (List.getElem?_eq_getElem lt)
  have lt2 : j.toNat < ties.length := by omega
  rw [List.getElem?_map, List.getElem?_eq_getElem lt2] at e1
  cases e1
  exact ⟨ws[j.toNat], ties[j.toNat], atI_of h0 (List.getElem?_eq_getElem lt), by rw [List.getD_eq_getElem?_getD, List.getElem?_eq_getElem lt2]; rfl, e2⟩
theorem picked_range {many : Int} {ties : List (Int × Int)} {names : List Int} {j : Int} (h : j ∈ pickedOf many ties names) : 0 ≤ j ∧ j < many := (picked_mem.mp h).1
theorem picked_few {many : Int} {ties : List (Int × Int)} {names : List Int} (W : WebOk many ties) : (pickedOf many ties names).length ≤ 60 := by
  have := List.length_filter_le (fun h => (rowOf many ties names h).1) (rgI many)
  rw [rgI_len] at this
  have := W.hi
  unfold pickedOf
  omega
theorem r_iComb {f : L2.St → Hp → (Int → Int → Hp → Prop) → Prop} {σ : L2.St} {H : Hp} {R : It → Hp → Prop} (h : f σ H fun a b H1 => RgOk a b ∧ a = 0 ∧ R (ItCm b.toNat) H1) : iComb f σ H R := h
/-! ### pairings by names -/
def pairB (ts : List (Int × Int)) : Bool := decide ((cntI (housesL ts) : Int) = ((housesL ts).length : Int))
def fullB (ties ts : List (Int × Int)) : Bool := pairB ts && ties.all fun t => decide (t.1 ∈ housesL ts) || decide (t.2 ∈ housesL ts)
def pairOfN (ties : List (Int × Int)) (names : List Int) : List (Int × Int) := (pickedOf (ties.length : Int) (touchesOf ties) names).map fun j => ties.getD j.toNat (0, 0)
theorem touchP_iff {t u : Int × Int} : touchP t u = true ↔ t.1 = u.1 ∨ t.1 = u.2 ∨ t.2 = u.1 ∨ t.2 = u.2 := by
  unfold touchP
  simp [or_assoc]
theorem touchP_sym (t u : Int × Int) : touchP t u = touchP u t := by
  rw [Bool.eq_iff_iff, touchP_iff, touchP_iff]
  omega
theorem touchP_self (t : Int × Int) : touchP t t = true := touchP_iff.mpr (.inl rfl)
section
variable {ties : List (Int × Int)} {names : List Int} {many : Int}
theorem touch_nbr (h1 : 1 ≤ ties.length) (h2 : ties.length ≤ 60) {j o : Int} (hj : 0 ≤ j ∧ j < (ties.length : Int)) (ho : 0 ≤ o ∧ o < (ties.length : Int)) : o ∈ nbr (touchesOf ties) j ↔ j ≠ o ∧ touchAt ties (j, o) = true := by
  rw [nbr_iff (touches_ok h1 h2)]
  unfold touchesOf
  rw [List.mem_filter, List.mem_filter, pairsI_mem, pairsI_mem]
  have e : touchAt ties (o, j) = touchAt ties (j, o) := by unfold touchAt; exact touchP_sym _ _
  rw [e]
  simp only
  constructor
  · rintro (⟨a, b⟩ | ⟨a, b⟩)
    · exact ⟨by omega, b⟩
    · exact ⟨by omega, b⟩
  · rintro ⟨a, b⟩
    rcases (show j < o ∨ o < j by omega) with q | q
    · exact .inl ⟨by omega, b⟩
    · exact .inr ⟨by omega, b⟩
/-- no two that are picked touch -/
theorem pick_apart (h1 : 1 ≤ ties.length) (h2 : ties.length ≤ 60) (N : NamesOk (ties.length : Int) names) {j o : Int} (hj : j ∈ pickedOf (ties.length : Int) (touchesOf ties) names) (ho : o ∈ pickedOf (ties.length : Int) (touchesOf ties) names) (ne : j ≠ o) : touchAt ties (j, o) = false := by
  rw [Bool.eq_false_iff]
  intro c
  have hj := picked_mem.mp hj
  have ho := picked_mem.mp ho
  have := picked_free (touches_ok h1 h2) N hj.1 ((touch_nbr h1 h2 hj.1 ho.1).mpr ⟨ne, c⟩) hj.2
  rw [this] at ho
  cases ho.2
/-- each tie touches one that is picked -/
theorem pick_near (h1 : 1 ≤ ties.length) (h2 : ties.length ≤ 60) {j : Int} (hj : 0 ≤ j ∧ j < (ties.length : Int)) : ∃ o ∈ pickedOf (ties.length : Int) (touchesOf ties) names, touchAt ties (j, o) = true := by
  cases c : (rowOf (ties.length : Int) (touchesOf ties) names j).1 with
  | true => exact ⟨j, picked_mem.mpr ⟨hj, c⟩, by unfold touchAt; exact touchP_self _⟩
  | false =>
    obtain ⟨o, ho, co⟩ := picked_near (touches_ok h1 h2) hj c
    have ho' := (List.mem_filter.mp ho).1
    have r := nbr_range (touches_ok h1 h2) ho'
    exact ⟨o, picked_mem.mpr ⟨r, co⟩, ((touch_nbr h1 h2 hj r).mp ho').2⟩
theorem mem_housesL {x : Int} {ts : List (Int × Int)} : x ∈ housesL ts ↔ ∃ t ∈ ts, x = t.1 ∨ x = t.2 := by
  unfold housesL
  rw [List.mem_flatMap]
  constructor
  · rintro ⟨t, ht, m⟩
    exact ⟨t, ht, by simpa using m⟩
  · rintro ⟨t, ht, m⟩
    exact ⟨t, ht, by simpa using m⟩
theorem touch_houses {t : Int × Int} {ts : List (Int × Int)} : (decide (t.1 ∈ housesL ts) || decide (t.2 ∈ housesL ts)) = true ↔ ∃ u ∈ ts, touchP t u = true := by
  rw [Bool.or_eq_true, decide_eq_true_eq, decide_eq_true_eq, mem_housesL, mem_housesL]
  constructor
  · rintro (⟨u, hu, q⟩ | ⟨u, hu, q⟩)
    · exact ⟨u, hu, touchP_iff.mpr (by omega)⟩
    · exact ⟨u, hu, touchP_iff.mpr (by omega)⟩
  · rintro ⟨u, hu, q⟩
    have := touchP_iff.mp q
    rcases this with z | z | z | z
    · exact .inl ⟨u, hu, .inl z⟩
    · exact .inl ⟨u, hu, .inr z⟩
    · exact .inr ⟨u, hu, .inl z⟩
    · exact .inr ⟨u, hu, .inr z⟩
/-- houses of a list of ties, no two of which touch -/
theorem houses_nodup {ts : List (Int × Int)} (ne : ∀ t ∈ ts, t.1 ≠ t.2) (h : ts.Pairwise fun t u => touchP t u = false) : (housesL ts).Nodup := by
  induction ts with
  | nil => exact .nil
  | cons t r ih =>
    have h := List.pairwise_cons.mp h
    have e : housesL (t :: r) = [t.1, t.2] ++ housesL r := by unfold housesL; rw [List.flatMap_cons]
    rw [e]
    refine List.nodup_append.mpr ⟨by have := ne t List.mem_cons_self; simp; exact this, ih (fun u hu => ne u (List.mem_cons_of_mem _ hu)) h.2, fun a ha b hb z => ?_⟩
    subst z
    obtain ⟨u, hu, q⟩ := mem_housesL.mp hb
    have c := h.1 u hu
    rw [Bool.eq_false_iff] at c
    refine c (touchP_iff.mpr ?_)
    have ha : a = t.1 ∨ a = t.2 := by simpa using ha
    omega
theorem touch_of_nodup {ts : List (Int × Int)} (h : (housesL ts).Nodup) : ts.Pairwise fun t u => touchP t u = false := by
  induction ts with
  | nil => exact .nil
  | cons t r ih =>
    have e : housesL (t :: r) = [t.1, t.2] ++ housesL r := by unfold housesL; rw [List.flatMap_cons]
    rw [e] at h
    have h := List.nodup_append.mp h
    refine List.pairwise_cons.mpr ⟨fun u hu => ?_, ih h.2.1⟩
    rw [Bool.eq_false_iff]
    intro c
    have m1 : u.1 ∈ housesL r := mem_housesL.mpr ⟨u, hu, .inl rfl⟩
    have m2 : u.2 ∈ housesL r := mem_housesL.mpr ⟨u, hu, .inr rfl⟩
    have d := h.2.2
    rcases touchP_iff.mp c with z | z | z | z
    · exact d t.1 (by simp) u.1 m1 z
    · exact d t.1 (by simp) u.2 m2 z
    · exact d t.2 (by simp) u.1 m1 z
    · exact d t.2 (by simp) u.2 m2 z
theorem dedup_len : ∀ (l acc : List Int), (l.foldl PyProof.Rows.step_dedup acc).length ≤ acc.length + l.length ∧ ((l.foldl PyProof.Rows.step_dedup acc).length = acc.length + l.length ↔ l.Nodup ∧ ∀ x ∈ l, x ∉ acc)
  | [], acc => ⟨Nat.le_refl _, by simp⟩
  | x :: r, acc => by
    rw [List.foldl_cons, List.length_cons]
    by_cases h : x ∈ acc
    · have e : PyProof.Rows.step_dedup acc x = acc := by
        unfold PyProof.Rows.step_dedup
        rw [if_pos (List.any_eq_true.mpr ⟨x, h, by simp⟩)]
      obtain ⟨a, b⟩ := dedup_len r acc
      rw [e]
      refine ⟨by omega, ⟨fun z => by omega, fun z => absurd h (z.2 x List.mem_cons_self)⟩⟩
    · have e : PyProof.Rows.step_dedup acc x = acc ++ [x] := by
        unfold PyProof.Rows.step_dedup
        rw [if_neg (fun q => by
          obtain ⟨y, hy, z⟩ := List.any_eq_true.mp q
          rw [beq_iff_eq] at z
          exact h (z ▸ hy))]
      obtain ⟨a, b⟩ := dedup_len r (acc ++ [x])
      rw [e]
      rw [List.length_append, List.length_singleton] at a b
      refine ⟨by omega, ?_⟩
      rw [show acc.length + (r.length + 1) = acc.length + 1 + r.length by omega, b, List.nodup_cons]
      constructor
      · rintro ⟨n, m⟩
        refine ⟨⟨fun z => m x z (by simp), n⟩, fun y hy q => ?_⟩
        rcases List.mem_cons.mp hy with rfl | hy
        · exact h q
        · exact m y hy (List.mem_append_left _ q)
      · rintro ⟨⟨n1, n⟩, m⟩
        refine ⟨n, fun y hy q => ?_⟩
        rcases List.mem_append.mp q with q | q
        · exact m y (List.mem_cons_of_mem _ hy) q
        · rw [List.mem_singleton] at q
          subst q
          exact n1 hy
theorem cntI_full (ns : List Int) : cntI ns = ns.length ↔ ns.Nodup := by
  have e : (List.range ns.length).map (fun i => ns.getD i 0) = ns := by
    refine List.ext_getElem? fun i => ?_
    rw [List.getElem?_map]
    by_cases h : i < ns.length
    · rw [List.getElem?_range h, List.getElem?_eq_getElem h]
      show some (ns.getD i 0) = _
      rw [List.getD_eq_getElem?_getD, List.getElem?_eq_getElem h]
      rfl
    · rw [List.getElem?_eq_none (by rw [List.length_range]; omega), List.getElem?_eq_none (by omega)]
      rfl
  unfold cntI PyProof.Rows.firstMet
  rw [e]
  have := (dedup_len ns []).2
  rw [List.length_nil, Nat.zero_add] at this
  rw [this]
  simp
theorem pairB_iff {ts : List (Int × Int)} : pairB ts = true ↔ (housesL ts).Nodup := by
  unfold pairB
  rw [decide_eq_true_eq, ← cntI_full]
  omega
structure TiesOk (ties : List (Int × Int)) : Prop where
  lo : 1 ≤ ties.length
  hi : ties.length ≤ 60
  nd : ties.Nodup
  ne : ∀ t ∈ ties, t.1 ≠ t.2
theorem WebOk.tiesOk (W : WebOk many ties) (h1 : 1 ≤ ties.length) (h2 : ties.length ≤ 60) : TiesOk ties :=
  ⟨h1, h2, W.up.imp fun h e => by subst e; unfold Lx at h; omega, fun t ht => by have := W.ok t ht; omega⟩
theorem getD_mem {j : Int} (hj : 0 ≤ j ∧ j < (ties.length : Int)) : ties.getD j.toNat (0, 0) ∈ ties ∧ ties[j.toNat]? = some (ties.getD j.toNat (0, 0)) := by
  have lt : j.toNat < ties.length := by omega
  have e : ties[j.toNat]? = some (ties.getD j.toNat (0, 0)) := by
    rw [List.getD_eq_getElem?_getD, List.getElem?_eq_getElem lt]
    rfl
  exact ⟨List.mem_of_getElem? e, e⟩
theorem pairOfN_mem {t : Int × Int} : t ∈ pairOfN ties names ↔ ∃ j ∈ pickedOf (ties.length : Int) (touchesOf ties) names, ties.getD j.toNat (0, 0) = t := List.mem_map
theorem pairOfN_sub {t : Int × Int} (h : t ∈ pairOfN ties names) : t ∈ ties := by
  obtain ⟨j, hj, rfl⟩ := pairOfN_mem.mp h
  exact (getD_mem (picked_range hj)).1
theorem pairOfN_apart (O : TiesOk ties) (N : NamesOk (ties.length : Int) names) : (pairOfN ties names).Pairwise fun t u => touchP t u = false := by
  unfold pairOfN
  refine List.pairwise_map.mpr (List.Pairwise.imp_of_mem (R := fun a b => a < b) ?_ ((rgI_up _).filter _))
  intro a b ha hb lt
  exact pick_apart O.lo O.hi N ha hb (by omega)
theorem pairOfN_near (O : TiesOk ties) {t : Int × Int} (h : t ∈ ties) : ∃ u ∈ pairOfN ties names, touchP t u = true := by
  obtain ⟨i, hi⟩ := List.mem_iff_getElem?.mp h
  have lt := (List.getElem?_eq_some_iff.mp hi).1
  obtain ⟨o, ho, c⟩ := pick_near (names := names) O.lo O.hi (j := (i : Int)) ⟨by omega, by omega⟩
  refine ⟨_, pairOfN_mem.mpr ⟨o, ho, rfl⟩, ?_⟩
  unfold touchAt at c
  have e : ties.getD i (0, 0) = t := by rw [List.getD_eq_getElem?_getD, hi]; rfl
  simp only [Int.toNat_natCast] at c
  rw [e] at c
  exact c
theorem pairOfN_pair (O : TiesOk ties) (N : NamesOk (ties.length : Int) names) : pairB (pairOfN ties names) = true :=
  pairB_iff.mpr (houses_nodup (fun t ht => O.ne t (pairOfN_sub ht)) (pairOfN_apart O N))
theorem pairOfN_full (O : TiesOk ties) (N : NamesOk (ties.length : Int) names) : fullB ties (pairOfN ties names) = true := by
  unfold fullB
  rw [pairOfN_pair O N, Bool.true_and, List.all_eq_true]
  intro t ht
  exact touch_houses.mpr (pairOfN_near O ht)
/-- some of them are a pairing -/
theorem pairB_sub {ts us : List (Int × Int)} (h : pairB ts = true) (ne : ∀ t ∈ ts, t.1 ≠ t.2) (s : us.Sublist ts) : pairB us = true :=
  pairB_iff.mpr (houses_nodup (fun t ht => ne t (s.subset ht)) ((touch_of_nodup (pairB_iff.mp h)).sublist s))
/-- all but one are not full -/
theorem without_full {ts : List (Int × Int)} (O : TiesOk ties) (hs : ∀ t ∈ ts, t ∈ ties) (h : pairB ts = true) {t : Int × Int} (ht : t ∈ ts) : fullB ties (ts.filter fun u => !decide (u = t)) = false := by
  unfold fullB
  rw [Bool.and_eq_false_iff]
  refine .inr ?_
  rw [Bool.eq_false_iff]
  intro c
  rw [List.all_eq_true] at c
  obtain ⟨u, hu, z⟩ := touch_houses.mp (c t (hs t ht))
  have hu := List.mem_filter.mp hu
  have ne : u ≠ t := by simpa using hu.2
  have pw := touch_of_nodup (pairB_iff.mp h)
  have key : ∀ {l : List (Int × Int)}, (l.Pairwise fun t u => touchP t u = false) → t ∈ l → u ∈ l → touchP t u = false := by
    intro l
    induction l with
    | nil => intro _ h; cases h
    | cons x r ih =>
      intro pw h1 h2
      have pw := List.pairwise_cons.mp pw
      rcases List.mem_cons.mp h1 with e1 | h1
      · rcases List.mem_cons.mp h2 with e2 | h2
        · exact absurd (e2.trans e1.symm) ne
        · rw [e1]; exact pw.1 u h2
      · rcases List.mem_cons.mp h2 with e2 | h2
        · rw [e2, touchP_sym]; exact pw.1 t h1
        · exact ih pw.2 h1 h2
  rw [key pw ht hu.1] at z
  cases z
/-- one more that isn't in it is no pairing -/
theorem more_pair {ts us : List (Int × Int)} {t : Int × Int} (hn : t ∉ ts) (near : ∃ u ∈ ts, touchP t u = true) (pe : us.Perm (ts ++ [t])) : pairB us = false := by
  rw [Bool.eq_false_iff]
  intro c
  have pw := touch_of_nodup (pairB_iff.mp c)
  obtain ⟨u, hu, z⟩ := near
  have pw2 : (ts ++ [t]).Pairwise fun t u => touchP t u = false := pe.pairwise_iff (fun {a b} h => by rw [touchP_sym]; exact h) |>.mp pw
  have := (List.pairwise_append.mp pw2).2.2 u hu t (by simp)
  rw [touchP_sym, z] at this
  cases this
/-- of two full pairings none has less than half as many ties -/
theorem pair_half {ts us : List (Int × Int)} (h1 : pairB ts = true) (near : ∀ t ∈ ts, ∃ u ∈ us, touchP t u = true) : ts.length ≤ 2 * us.length := by
  have pw := touch_of_nodup (pairB_iff.mp h1)
  have hh : ∀ t ∈ ts, ((if t.1 ∈ housesL us then t.1 else t.2) ∈ housesL us) := fun t ht => by
    have := touch_houses.mpr (near t ht)
    rw [Bool.or_eq_true, decide_eq_true_eq, decide_eq_true_eq] at this
    split
    · assumption
    · rcases this with q | q
      · contradiction
      · exact q
  have nd : (ts.map fun t => if t.1 ∈ housesL us then t.1 else t.2).Nodup := by
    refine List.pairwise_map.mpr (pw.imp fun {t u} c e => ?_)
    rw [Bool.eq_false_iff] at c
    refine c (touchP_iff.mpr ?_)
    by_cases a : t.1 ∈ housesL us <;> by_cases b : u.1 ∈ housesL us <;> simp only [a, b, if_true, if_false] at e <;> omega
  have := len_le_of_sub nd (m := housesL us) fun x hx => by
    obtain ⟨t, ht, rfl⟩ := List.mem_map.mp hx
    exact hh t ht
  rw [List.length_map, housesL_len] at this
  exact this
end
/-! ### ties as data: ==, in, index, sorted -/
theorem eqv_tie (a b : Int × Int) : PyData.eqv (tieD a) (tieD b) = decide (a = b) := by
  obtain ⟨a1, a2⟩ := a
  obtain ⟨b1, b2⟩ := b
  rw [Bool.eq_iff_iff]
  simp [tieD, PyData.eqv, PyData.eqvAll, Prod.ext_iff]
theorem shaped_tie (t : Int × Int) : SeqAt.shaped (tieD t) = true := by
  simp [SeqAt.shaped, tieD, PyData.canLay0, PyData.canLayAll0, PyData.depth, PyData.depthAll]
theorem shaped_tiesD (ts : List (Int × Int)) : SeqAt.shaped (.list (ts.map tieD)) = true := by
  have h1 : PyData.canLayAll0 (ts.map tieD) = true := by
    induction ts with
    | nil => rfl
    | cons x r ih => simp [PyData.canLayAll0, PyData.canLay0, tieD, ih]
  have h2 : PyData.depthAll (ts.map tieD) ≤ 1 := by
    clear h1
    induction ts with
    | nil => simp [PyData.depthAll]
    | cons x r ih =>
      rw [List.map_cons, PyData.depthAll]
      have : (tieD x).depth = 1 := by simp [tieD, PyData.depth, PyData.depthAll]
      omega
  unfold SeqAt.shaped
  simp [PyData.canLay0, h1, PyData.depth]
  omega
section
variable {K : PySem.W.Frag} {H : Hp} {Q : VK} {x y : V} {t u : Int × Int} {ts : List (Int × Int)} {a : Addr} {xs : List V}
theorem r_neTie (h : Dp K H x (tieD t)) (g : Dp K H y (tieD u)) (q : Q (.bl (!decide (t = u))) H) : rNeD K x y H Q :=
  ⟨_, _, h, g, shaped_tie t, shaped_tie u, by rw [eqv_tie]; exact q⟩
theorem any_tie (ts : List (Int × Int)) (t : Int × Int) : ((ts.map tieD).any fun z => PyData.eqv z (tieD t)) = decide (t ∈ ts) := by
  rw [List.any_map, Bool.eq_iff_iff, List.any_eq_true, decide_eq_true_eq]
  constructor
  · rintro ⟨u, hu, q⟩
    have q : PyData.eqv (tieD u) (tieD t) = true := q
    rw [eqv_tie, decide_eq_true_eq] at q
    exact q ▸ hu
  · intro h
    exact ⟨t, h, by show PyData.eqv (tieD t) (tieD t) = true; rw [eqv_tie]; simp⟩
theorem r_notInTies (h : Dp K H x (tieD t)) (g : SqL K H a xs) (gd : DpAll K H xs (ts.map tieD)) (q : Q (.bl (!decide (t ∈ ts))) H) : rNotInD K x (.ref a) H Q :=
  ⟨_, _, h, .lst g gd, shaped_tie t, shaped_tiesD ts, by rw [any_tie]; exact q⟩
theorem r_inTies (h : Dp K H x (tieD t)) (g : SqL K H a xs) (gd : DpAll K H xs (ts.map tieD)) (q : Q (.bl (decide (t ∈ ts))) H) : rInD K x (.ref a) H Q :=
  ⟨_, _, h, .lst g gd, shaped_tie t, shaped_tiesD ts, by rw [any_tie]; exact q⟩
theorem r_indexTie {j : Nat} (nd : ts.Nodup) (h : Dp K H x (tieD t)) (g : SqL K H a xs) (gd : DpAll K H xs (ts.map tieD)) (hj : ts[j]? = some t) (q : Q (.int (j : Nat)) H) : rIndexD K (.ref a) [x] H Q :=
  ⟨a, x, tieD t, ts.map tieD, j, tieD t, rfl, rfl, .lst g gd, h, shaped_tiesD ts, shaped_tie t, by rw [List.getElem?_map, hj]; rfl, by rw [eqv_tie]; simp, fun m z hm hz => by
    rw [List.getElem?_map] at hz
    cases e : ts[m]? with
    | none => rw [e] at hz; cases hz
    | some v =>
      rw [e] at hz
      cases hz
      rw [eqv_tie, decide_eq_false_iff_not]
      intro z
      subst z
      exact absurd (nd_ix' nd e hj) (by omega), q⟩
theorem tieL_web {many : Int} {ties : List (Int × Int)} (W : WebOk many ties) : TieL many ties := ⟨W.up.imp fun h e => by subst e; unfold Lx at h; omega, W.ok⟩
theorem tups_small {F : Hp} {many : Int} {xs : List V} {l : List (Int × Int)} (h : DpAll K F xs (l.map tieD)) (ok : ∀ t ∈ l, 0 ≤ t.1 ∧ t.1 < t.2 ∧ t.2 < many) (m60 : many ≤ 60) : ∀ x ∈ xs, ∃ ns, TupI K F x ns ∧ ns.length = 2 ∧ TS.Bd 64 ns := fun x hx => by
  obtain ⟨i, hi⟩ := List.mem_iff_getElem?.mp hx
  obtain ⟨d, h1, h2⟩ := (dpAll_get h).2 i x hi
  rw [List.getElem?_map] at h1
  cases e : l[i]? with
  | none => rw [e] at h1; cases h1
  | some t =>
    rw [e] at h1
    cases h1
    obtain ⟨a, rfl, st⟩ := tieD_at h2
    have := ok t (List.mem_of_getElem? e)
    refine ⟨[t.1, t.2], ⟨a, rfl, st⟩, rfl, fun m hm => ?_⟩
    rcases List.mem_cons.mp hm with rfl | hm
    · omega
    · rw [List.mem_singleton.mp hm]; omega
theorem dpAll_permT {F : Hp} {xs ys : List V} (h : xs.Perm ys) : ∀ {l : List (Int × Int)}, DpAll K F xs (l.map tieD) → ∃ l' : List (Int × Int), l'.Perm l ∧ DpAll K F ys (l'.map tieD) := by
  induction h with
  | nil => intro l h; exact ⟨l, .refl _, h⟩
  | cons x _ ih =>
    intro l h
    cases l with
    | nil => cases h
    | cons t r =>
      cases h with
      | cons a b =>
        obtain ⟨l', p, q⟩ := ih b
        exact ⟨t :: l', p.cons t, .cons a q⟩
  | swap x y _ =>
    intro l h
    cases l with
    | nil => cases h
    | cons t r =>
      cases h with
      | cons a b =>
        cases r with
        | nil => cases b
        | cons u r =>
          cases b with
          | cons b c => exact ⟨u :: t :: r, .swap .., .cons b (.cons a c)⟩
  | trans _ _ ih1 ih2 =>
    intro l h
    obtain ⟨l', p, q⟩ := ih1 h
    obtain ⟨l'', p2, q2⟩ := ih2 q
    exact ⟨l'', p2.trans p, q2⟩
end
section
variable {ties : List (Int × Int)} {names : List Int} {many : Int}
theorem pairOfN_nd (O : TiesOk ties) (N : NamesOk (ties.length : Int) names) : (pairOfN ties names).Nodup :=
  (pairOfN_apart O N).imp fun {t u} h e => by
    subst e
    rw [touchP_self] at h
    cases h
theorem pairOfN_len (O : TiesOk ties) : (pairOfN ties names).length ≤ 60 := by
  unfold pairOfN
  rw [List.length_map]
  exact picked_few (touches_ok O.lo O.hi)
theorem pairOfN_tieL (W : WebOk many ties) (O : TiesOk ties) (N : NamesOk (ties.length : Int) names) : TieL many (pairOfN ties names) :=
  ⟨pairOfN_nd O N, fun t ht => W.ok t (pairOfN_sub ht)⟩
theorem NamesOk.map_at (N : NamesOk (ties.length : Int) names) : names.length = ties.length := by have := N.len; omega
/-- the tie of the least name is picked -/
theorem least_picked (O : TiesOk ties) (N : NamesOk (ties.length : Int) names) {j : Nat} {m : Int} (hj : names[j]? = some m) (hm : ∀ y ∈ names, m ≤ y) {t : Int × Int} (ht : ties[j]? = some t) : t ∈ pairOfN ties names := by
  have lt := (List.getElem?_eq_some_iff.mp ht).1
  refine pairOfN_mem.mpr ⟨(j : Int), picked_mem.mpr ⟨⟨by omega, by omega⟩, ?_⟩, ?_⟩
  · rw [least_first (touches_ok O.lo O.hi) ⟨by omega, by omega⟩ fun o o0 o1 => ?_]
    have e : nmAt names (j : Int) = m := by
      unfold nmAt
      rw [Int.toNat_natCast, List.getD_eq_getElem?_getD, hj]
      rfl
    rw [e]
    have hl := N.len
    have : names[o.toNat]? = some (nmAt names o) := by
      unfold nmAt
      rw [List.getD_eq_getElem?_getD, List.getElem?_eq_getElem (by omega)]
      rfl
    exact hm _ (List.mem_of_getElem? this)
  · rw [Int.toNat_natCast, List.getD_eq_getElem?_getD, ht]
    rfl
end
section
variable {io : List Addr} {H0 F0 F H : Hp} {M : List (Addr × Cel)} {K : PySem.W.Frag} {Q : VK} {a b : Addr} {xs ys : List V}
/-- a part of a tuple that stays -/
theorem s_cutT {lo hi : Option Int} (S : Sep io H0 F0 F H M) (h : SqT K F a xs) (k : ∀ (u : Addr) (F' H' : Hp), Sep io H0 F0 F' H' M → Evl.Ex F F' → SqT K F' u (cutV xs lo hi) → Q (.ref u) H') : rSlA K (.ref a) lo hi H Q := by
  refine ⟨a, xs, rfl, Evl.ex_t S.fr h, fun w => ?_, fun _ => s_new S fun u F' H' S' e c => k u F' H' S' e (SqT.of c)⟩
  refine k a F H S (Evl.Ex.refl _) ?_
  have : cutV xs lo hi = xs := by
    unfold cutV
    rw [w.1, w.2, List.drop_zero, Nat.sub_zero, List.take_length]
  rw [this]
  exact h
/-- two tuples that stay, one behind the other -/
theorem s_catA (S : Sep io H0 F0 F H M) (ha : SqT K F a xs) (hb : SqT K F b ys) (hz : xs.length + ys.length ≤ 100000) (k : ∀ (u : Addr) (F' H' : Hp), Sep io H0 F0 F' H' M → Evl.Ex F F' → SqT K F' u (xs ++ ys) → Q (.ref u) H') : rCatTG K (.ref a) (.ref b) H Q := by
  refine s_catT (Evl.ex_t S.fr ha) (Evl.ex_t S.fr hb) hz (fun e => ?_) (fun _ e => ?_) (fun _ _ => s_new S fun u F' H' S' e c => k u F' H' S' e (SqT.of c))
  · subst e
    exact k b F H S (Evl.Ex.refl _) hb
  · subst e
    refine k a F H S (Evl.Ex.refl _) ?_
    rw [List.append_nil]
    exact ha
/-- a tuple against the empty one -/
theorem r_neEmptyT {ts : List (Int × Int)} {x y : V} (h : Dp K H x (.tuple (ts.map tieD))) (g : SqT K H b []) (q : Q (.bl (!decide (ts = []))) H) : rNeD K x (.ref b) H Q := by
  refine ⟨_, .tuple [], h, .tup g .nil, ?_, by decide +kernel, ?_⟩
  · have := shaped_tiesD ts
    unfold SeqAt.shaped at this ⊢
    simpa [PyData.canLay0, PyData.depth] using this
  · have e : PyData.eqv (.tuple (ts.map tieD)) (.tuple []) = decide (ts = []) := by
      cases ts <;> simp [PyData.eqv, PyData.eqvAll]
    rw [e]
    exact q
end
/-! ### two loops, one within the other, over the pairs below n -/
def preI (n i : Nat) : List (Int × Int) := ((List.range' 0 i).flatMap (rowC n)).map pairI
def preJ (n i j : Nat) : List (Int × Int) := preI n i ++ ((rowC n i).take j).map pairI
theorem preI_zero (n : Nat) : preI n 0 = [] := rfl
theorem preI_all (n : Nat) : preI n n = pairsI n := rfl
theorem preJ_zero (n i : Nat) : preJ n i 0 = preI n i := by unfold preJ; rw [List.take_zero, List.map_nil, List.append_nil]
theorem rowC_len (n i : Nat) : (rowC n i).length = n - i - 1 := by unfold rowC; rw [List.length_map, List.length_range']
theorem preJ_snoc {n i j : Nat} (h : j < n - i - 1) : preJ n i (j + 1) = preJ n i j ++ [((i : Int), (((i + 1 + j : Nat)) : Int))] := by
  unfold preJ
  have e : (rowC n i)[j]? = some (i, i + 1 + j) := by
    unfold rowC
    rw [List.getElem?_map, List.getElem?_range' h]
    simp
  rw [take_snoc e, List.map_append, ← List.append_assoc]
  rfl
theorem preJ_end (n i : Nat) : preJ n i (n - i - 1) = preI n (i + 1) := by
  unfold preJ preI
  rw [← rowC_len, List.take_length]
  have : List.range' 0 (i + 1) = List.range' 0 i ++ [i] := by
    rw [List.range'_append_1 |>.symm]
    simp
  rw [this, List.flatMap_append, List.map_append]
  simp
theorem preI_len (n i : Nat) (h : i ≤ n) : (preI n i).length ≤ i * n := by
  unfold preI
  rw [List.length_map]
  have := flat_len n (List.range' 0 i) fun j hj => by rw [List.mem_range'_1] at hj; omega
  rw [List.length_range'] at this
  exact this
theorem preJ_len (n i j : Nat) (h : i ≤ n) : (preJ n i j).length ≤ i * n + n := by
  have := preI_len n i h
  unfold preJ
  rw [List.length_append, List.length_map, List.length_take, rowC_len]
  omega
/-- the law's own look -/
def touchB (t u : Int × Int) : Bool := decide (t.1 = u.1) || (decide (t.1 = u.2) || (decide (t.2 = u.1) || decide (t.2 = u.2)))
theorem touchB_eq (t u : Int × Int) : touchB t u = touchP t u := by
  rw [Bool.eq_iff_iff, touchP_iff]
  unfold touchB
  simp [or_assoc]
section
variable {io : List Addr} {H0 F0 F H : Hp} {M : List (Addr × Cel)} {K : PySem.W.Frag} {Q : VK} {a b : Addr} {xs ys : List V}
theorem s_ext (S : Sep io H0 F0 F H M) (k : Nat) (hk : M[k]? = some (a, .is (.lst xs))) (hb : H b = some (.lst ys)) (hz : xs.length + ys.length ≤ 100000) (q : ∀ H', Sep io H0 F0 F H' (M.set k (a, .is (.lst (xs ++ ys)))) → Q .non H') : rExtend (.ref a) [.ref b] H Q :=
  ⟨a, b, xs, ys, rfl, rfl, S.rdM k hk, hb, by rw [sizeLine_eq]; omega, q _ (S.put k hk _)⟩
end
section
open PySem.W (EachIs AllAlike Sortable dataLe)
/-! ### sorted(xs), xs a list of data, of any length -/
def rSortD (K : PySem.W.Frag) : List V → Hp → VK → Prop := fun vs H Q => ∃ (a : Addr) (xs : List V) (ds : List PyData), vs = [V.ref a] ∧ SqL K H a xs ∧ DpAll K H xs ds ∧ AllAlike ds ∧ Sortable ds ∧ (∀ d ∈ ds, d.depth ≤ 60) ∧
  ∀ zs : List (V × PyData), zs.Perm (xs.zip ds) → zs.map (·.2) = ds.mergeSort (dataLe false id) → newK H (.lst (zs.map (·.1))) Q
section
variable {X : Cx} {pins : List (Addr × Obj)} {σ : L2.St} {H : Hp} {s : Shared}
theorem each_zipD (I : Inv X pins σ H s) : ∀ {xs : List V} {ds : List PyData} {us : List Value}, DpAll X.K H xs ds → Vals xs us → EachIs (fun (v : Value) (b : V × PyData) => RelV b.1 v ∧ Dp X.K H b.1 b.2) us (xs.zip ds) ∧ EachIs (fun (v : Value) (b : V × PyData) => ∃ as, Reads s.heap v b.2 as) us (xs.zip ds) ∧ (xs.zip ds).map (·.2) = ds ∧ (xs.zip ds).map (·.1) = xs
  | _, _, _, .nil, r => by cases r; exact ⟨.nil, .nil, rfl, rfl⟩
  | _, _, _, .cons h t, r => by
    cases r with
    | cons r rr =>
      obtain ⟨a, b, c, d⟩ := each_zipD I t rr
      exact ⟨.cons ⟨r, h⟩ a, .cons (Dp.reads I _ _ _ h r) b, by rw [List.zip_cons_cons, List.map_cons, c], by rw [List.zip_cons_cons, List.map_cons, d]⟩
theorem each_back : ∀ {us : List Value} {bs : List (V × PyData)}, EachIs (fun (v : Value) (b : V × PyData) => RelV b.1 v ∧ Dp X.K H b.1 b.2) us bs → Vals (bs.map (·.1)) us ∧ DpAll X.K H (bs.map (·.1)) (bs.map (·.2))
  | _, _, .nil => ⟨.nil, .nil⟩
  | _, _, .cons h t => by
    obtain ⟨a, b⟩ := each_back t
    exact ⟨.cons h.1 a, .cons h.2 b⟩
theorem cr_sortedD (hu : X.A.units + 65 < cLine) : CallR X (.builtin "sorted") (rSortD X.K) := by
  intro pins s σ H vs us Q I r h
  obtain ⟨a, xs, ds, rfl, hs, hd, hal, hk, hdp, q⟩ := h
  obtain ⟨its, rv, hl, hz⟩ := I.list hs
  obtain ⟨u, rfl, ru⟩ := vals1 r
  obtain rfl : u = Value.ref a := ru
  obtain ⟨z1, z2, z3, z4⟩ := each_zipD I hd rv
  have len : (xs.zip ds).length = xs.length := by rw [← List.length_map (f := fun b : V × PyData => b.1), z4]
  refine PySem.W.sorted_data (enc := fun b : V × PyData => b.2) (bs := xs.zip ds) (R := fun (v : Value) (b : V × PyData) => RelV b.1 v ∧ Dp X.K H b.1 b.2) hl.isList z1 z2 (by rw [z3]; exact hal) (by rw [z3]; exact hk) (by rw [len]; exact hz) (fun b hb => ?_) fun out ho eo => ?_
  · have : b.2 ∈ ds := by rw [← z3]; exact List.mem_map_of_mem hb
    have := hdp _ this
    omega
  · obtain ⟨g1, g2⟩ := each_back eo
    have em : ((xs.zip ds).mergeSort (dataLe false fun b : V × PyData => b.2)).map (·.2) = ds.mergeSort (dataLe false id) := by
      rw [PySem.W.sort_maps (r := dataLe false fun b : V × PyData => b.2) (s := dataLe false id) (fun b : V × PyData => b.2) (fun _ _ _ _ => rfl), z3]
    have pm0 := List.mergeSort_perm (xs.zip ds) (dataLe false fun b : V × PyData => b.2)
    have pm := pm0.map (·.1)
    rw [z4] at pm
    generalize hzs : (xs.zip ds).mergeSort (dataLe false fun b : V × PyData => b.2) = zs at *
    obtain ⟨c, hc⟩ := PyProof.Rows.sortedAll_at s.heap its out.toArray
    have yl : (zs.map (·.1)).length ≤ sizeLine := by rw [pm.length_eq]; exact hz
    refine ⟨.ref (s.heap.objs.size + 1), upd H (s.heap.objs.size + 1) (.lst (zs.map (·.1))), I.laid (t' := s.toks) (fun b o => PyProof.Rows.sortedAll_old) (Nat.le_succ _) ⟨yl, out, c, g1, hc⟩, rfl, q zs pm0 em _ (I.hok.fresh (Nat.le_succ _))⟩
end
/-! pairs of ints -/
theorem alike_tie (t u : Int × Int) : PySem.W.alike (tieD t) (tieD u) = true := by simp [tieD, PySem.W.alike, PySem.W.alikeAll]
theorem tieD_depth (t : Int × Int) : (tieD t).depth = 1 := by simp [tieD, PyData.depth, PyData.depthAll]
theorem sort_ties {ps : List (Int × Int)} (nd : ps.Nodup) : ∃ ps' : List (Int × Int), ps'.Perm ps ∧ ps'.Pairwise Lx ∧ (ps.map tieD).mergeSort (dataLe false id) = ps'.map tieD := by
  refine ⟨ps.mergeSort (dataLe false tieD), List.mergeSort_perm _ _, ?_, ?_⟩
  · have e : (dataLe false tieD : Int × Int → Int × Int → Bool) = fun p q => decide (p.1 < q.1 ∨ (p.1 = q.1 ∧ p.2 ≤ q.2)) := PySem.W.dataLe_ii (fun p : Int × Int => p.1) (fun p => p.2)
    have h1 : (ps.mergeSort (dataLe false tieD)).Pairwise fun a b => dataLe false tieD a b = true := PySem.W.sort_pairwise (PySem.W.sortLe_total _ _ _) ps
    have h2 : (ps.mergeSort (dataLe false tieD)).Pairwise fun a b => a ≠ b := (List.mergeSort_perm ps (dataLe false tieD)).nodup_iff.mpr nd
    refine (h1.and h2).imp fun {a b} h => ?_
    have q := h.1
    rw [e] at q
    have q := of_decide_eq_true q
    have n : ¬ (a.1 = b.1 ∧ a.2 = b.2) := fun z => h.2 (Prod.ext z.1 z.2)
    unfold Lx
    omega
  · exact (PySem.W.sort_maps (r := dataLe false tieD) (s := dataLe false id) tieD (fun _ _ _ _ => rfl)).symm
section
variable {io : List Addr} {H0 F0 F H : Hp} {M : List (Addr × Cel)} {K : PySem.W.Frag} {Q : VK} {a : Addr} {xs : List V} {ps : List (Int × Int)}
theorem dpAll_zip : ∀ {xs : List V} {ds : List PyData}, DpAll K F xs ds → ∀ b ∈ xs.zip ds, Dp K F b.1 b.2
  | _, _, .nil, b, h => by cases h
  | _, _, .cons h t, b, m => by
    rcases List.mem_cons.mp m with rfl | m
    · exact h
    · exact dpAll_zip t b m
theorem dpAll_of : ∀ {zs : List (V × PyData)}, (∀ b ∈ zs, Dp K F b.1 b.2) → DpAll K F (zs.map (·.1)) (zs.map (·.2))
  | [], _ => .nil
  | b :: r, h => .cons (h b List.mem_cons_self) (dpAll_of fun c hc => h c (List.mem_cons_of_mem _ hc))
/-- sorted, any data: what was known of the things is known of them in their new order -/
theorem s_sortD {ds : List PyData} (S : Sep io H0 F0 F H M) (hs : SqL K H a xs) (hd : DpAll K F xs ds) (al : AllAlike ds) (so : Sortable ds) (dp : ∀ d ∈ ds, d.depth ≤ 60) (k : ∀ ys, DpAll K F ys (ds.mergeSort (dataLe false id)) → ys.Perm xs → newK H (.lst ys) Q) : rSortD K [.ref a] H Q := by
  refine ⟨a, xs, ds, rfl, hs, DpAll.ex S.fr _ _ hd, al, so, dp, fun zs pe e => k _ ?_ ?_⟩
  · rw [← e]
    exact dpAll_of fun b hb => dpAll_zip hd b (pe.mem_iff.mp hb)
  · have := pe.map (·.1)
    rw [List.map_fst_zip (by rw [(dpAll_get hd).1]; exact Nat.le_refl _)] at this
    exact this
theorem s_sortTies (S : Sep io H0 F0 F H M) (hs : SqL K H a xs) (hd : DpAll K F xs (ps.map tieD)) (nd : ps.Nodup) (k : ∀ (ys : List V) (ps' : List (Int × Int)), ps'.Perm ps → ps'.Pairwise Lx → DpAll K F ys (ps'.map tieD) → newK H (.lst ys) Q) : rSortD K [.ref a] H Q := by
  obtain ⟨ps', h1, h2, h3⟩ := sort_ties nd
  refine s_sortD S hs hd (AllAlike.of alike_tie) (Sortable.tuples fun t => ⟨_, _, rfl⟩) (fun d hd => ?_) fun ys h _ => ?_
  · obtain ⟨t, _, rfl⟩ := List.mem_map.mp hd
    rw [tieD_depth]
    omega
  · rw [h3] at h
    exact k ys ps' h1 h2 h
end

end
section
variable {P : Program} {w : World} {A : Around} {E : Value → Shared → Prop} {s : Shared} {a : Addr} {S : Int → Bool} {n : Nat}
theorem ints_of_all : ∀ {vs : List Value}, (∀ v ∈ vs, ∃ i t, v = .int i t) → IntsAre vs (vs.map SrtO.iv)
  | [], _ => .nil
  | v :: vs, h => by
    obtain ⟨i, t, rfl⟩ := h v List.mem_cons_self
    exact .cons i t (ints_of_all fun x m => h x (List.mem_cons_of_mem _ m))
theorem sorted_setI (R : SetR w s.heap a S n) (calm : A.handled = none) (mo : n ≤ 4000) {Q : Value → Shared → Prop}
    (out : ∀ s' p (ys : Array Value) (c : Nat) (ns : List Int), (∀ b o, s.heap.get? b = some o → s'.heap.get? b = some o) → s'.gens = s.gens → s'.os = s.os → s.heap.objs.size ≤ p →
      s'.heap.get? p = some (seqObj "list" ys c) → IntsAre ys.toList ns → ns.Pairwise (· < ·) → (∀ k, k ∈ ns ↔ S k = true) → ns.length = n → Q (.ref p) s') :
    wpAny (model P w) A (call (.builtin "sorted") [.ref a]) Q E s := by
  obtain ⟨o, es, ep, t, ho, ex, hd, good, nd, mem, few, fit, en, ris, led⟩ := R
  refine Calls.call_function_entry kind_sorted plain_sorted entry_sorted (args_sorted1 _) ?_
  unfold Builtin.«sorted»
  refine wpAny_bind (m := checkCount "sorted" 1 1 _) (wpAny_pure ?_)
  refine wpAny_bind (collect_set (A := A.in1) calm ⟨o, ho, ex.1, hd⟩ fit few ris led fun s1 vs keep1 grew g1 o1 perm => ?_)
  have lv : vs.length = n := by rw [perm.length_eq, List.length_map, ← en, Array.length_toList]
  have nl : vs.length ≤ sizeLine := by rw [sizeLine_eq]; omega
  have allI : ∀ v ∈ vs, ∃ i t, v = Value.int i t := fun v m => by
    obtain ⟨e, he, rfl⟩ := List.mem_map.mp (perm.mem_iff.mp m)
    obtain ⟨i, t, e1, _⟩ := good e he
    exact ⟨i, t, e1⟩
  have are := ints_of_all allI
  have ivs : (vs.map SrtO.iv).Perm (es.toList.map keyOf) := by
    have := perm.map SrtO.iv
    rw [List.map_map] at this
    have e : es.toList.map (SrtO.iv ∘ fun x => x.2) = es.toList.map keyOf := List.map_congr_left fun x m => by
      obtain ⟨i, t, e1, _⟩ := good x m
      show SrtO.iv x.2 = keyOf x
      unfold keyOf
      rw [e1]
      rfl
    rw [e] at this
    exact this
  refine wpAny_bind (wpAny_newList ?_ nl)
  obtain ⟨h2, eh2⟩ : ∃ h2, s1.heap.push (seqObj "list" vs.toArray 0) = h2 := ⟨_, rfl⟩
  have atL : h2.get? s1.heap.objs.size = some (seqObj "list" vs.toArray 0) := by rw [← eh2]; exact Heap.get?_push_size _ rfl
  have keep2 : ∀ b o, s.heap.get? b = some o → h2.get? b = some o := fun b o e => by rw [← eh2]; exact Heap.get?_push_of_some _ (keep1 b o e)
  show wpAny _ _ _ _ _ { s1 with heap := s1.heap.push (seqObj "list" vs.toArray 0) }
  rw [eh2]
  refine wpAny_bind (wpAny_holding (wpAny_call_entry slot_list_sort ⟨_, atL, rfl⟩ entry_list_sort
    (SrtO.list_sort_ord (s := { s1 with heap := h2 }) SrtO.swo_int atL nl (fun two2 => SrtO.ints_sortable are two2) fun ys srt stb => ⟨_, rfl, ?_⟩) (args_list_sort _)))
  obtain ⟨z1, z2, z3⟩ := SrtO.ints_out are srt stb
  obtain ⟨c, hc⟩ := sortedHeap_at (vs := vs) (out := ys.toArray) atL
  have pm := z2.trans ivs
  have ndo : (ys.map SrtO.iv).Nodup := pm.nodup_iff.mpr nd
  refine wpAny_pure ⟨_, rfl, out _ s1.heap.objs.size _ c (ys.map SrtO.iv) (fun b u e => ?_) g1 o1 grew hc (by simpa using z1) ?_ (fun k => ?_) ?_⟩
  · have lt := Heap.lt_size (keep1 b u e)
    show (sortedHeap h2 s1.heap.objs.size _ _).get? b = some u
    rw [sortedHeap_old (Nat.ne_of_lt lt) (by rw [← eh2, size_push']; exact Nat.lt_succ_of_lt lt)]
    exact keep2 b u e
  · refine List.Pairwise.imp₂ (R := (· ≤ ·)) (S := (· ≠ ·)) (fun a b h1 h2 => by omega) z3 ndo
  · rw [pm.mem_iff, mem]
  · rw [pm.length_eq, List.length_map, ← en, Array.length_toList]
end
def rSortSetI (w : World) : List V → Hp → VK → Prop := fun vs H Q => ∃ (a : Addr) (S : Int → Bool) (n : Nat), vs = [V.ref a] ∧ H a = some (SetO w a S n) ∧ n ≤ 4000 ∧ ∀ (ns : List Int), ns.Pairwise (· < ·) → (∀ k : Int, k ∈ ns ↔ S k = true) → ns.length = n → newK H (.lst (ns.map V.int)) Q
section
variable {X : Cx}
theorem vals_of_ints : ∀ {vs : List Value} {ns : List Int}, IntsAre vs ns → Vals (ns.map V.int) vs
  | _, _, .nil => .nil
  | _, _, .cons n t r => .cons ⟨t, rfl⟩ (vals_of_ints r)
theorem cr_sortSetI (calm : X.calm = true) : CallR X (.builtin "sorted") (rSortSetI X.w) := by
  intro pins s σ H vs us Q I r h
  obtain ⟨a, S, n, rfl, ha, mo, q⟩ := h
  have R : SetR X.w s.heap a S n := (I.hok a _ ha).1
  rw [Vals.ref1 r]
  refine sorted_setI R (I.ok.hd calm) mo fun s' p ys c ns k g o hp hg out up mem ln => ?_
  have hn : H p = none := I.hok.fresh hp
  have J : Inv X pins σ (upd H p (.lst (ns.map V.int))) { s with heap := s'.heap, gens := s'.gens, drawn := s'.drawn, toks := s'.toks } :=
    I.call (ch := []) (Un.laid k hp hn) (I.hok.laid k hp ⟨by rw [List.length_map, sizeLine_eq]; omega, ys.toList, c, vals_of_ints out, hg⟩) (by rw [g]; exact I.bare) (fun _ z => nomatch z)
  have e : s' = { s with heap := s'.heap, gens := s'.gens, drawn := s'.drawn, toks := s'.toks } := by
    obtain ⟨_, _, _, _, _⟩ := s'
    cases o
    rfl
  rw [e]
  exact ⟨.ref p, _, J, rfl, q ns up mem ln p hn⟩
end
/-! ### [e for a in xs for n in numbers], numbers one list of ints throughout -/
def lc2K (J : It) (g : TG) (tt : TT) (wi1 : TI) (g1 : TG) (tt1 : TT) (te : TE) (vs vs1 : List Nat) (σ : L2.St) (H1 : Hp) (Q : VK) : Prop := ∀ D, H1 D = none → ∃ W : Nat → Nat → Hp → Prop, (∃ m, W 0 m (upd H1 D (.lst []))) ∧ ∀ i m H, W i m H →
  (J.stop i H ∧ Q (.ref D) H) ∨ (J.go i H ∧ ∃ Nx : Hp → Prop, (∀ H', Nx H' → ∃ m', m' < m ∧ W (i + 1) m' H') ∧ ∀ x H', J.yld i H x H' → g x (wipe σ vs) H' fun σ2 H2 => wipe σ2 vs = wipe σ vs ∧ tt σ2 H2 fun b H3 =>
    if b = true then wi1 σ2 H3 fun J1 H4 => ∃ W1 : Nat → Nat → Hp → Prop, (∃ m, W1 0 m H4) ∧ ∀ j k H, W1 j k H →
      (J1.stop j H ∧ Nx H) ∨ (J1.go j H ∧ ∃ Nx1 : Hp → Prop, (∀ H', Nx1 H' → ∃ k', k' < k ∧ W1 (j + 1) k' H') ∧ ∀ x H', J1.yld j H x H' → g1 x (wipe σ2 vs1) H' fun σ3 H5 => wipe σ3 vs1 = wipe σ2 vs1 ∧ tt1 σ3 H5 fun b H6 =>
        if b = true then te σ3 H6 fun y H7 => ∃ acc, H7 D = some (.lst acc) ∧ acc.length < sizeLine ∧ Nx1 (upd H7 D (.lst (acc ++ [y]))) else Nx1 H6)
    else Nx H3)
section
variable {io : List Addr} {H0 F0 F H : Hp} {M L : List (Addr × Cel)} {K : PySem.W.Frag} {Q : VK} {α : Type} {as : List α} {X : α → V → Hp → Prop} {J : It} {σ : L2.St} {vs vs1 : List Nat} {nq : Addr} {ns : List Int}
theorem s_lc2 {wi : TI} {g : TG} {tt : TT} {wi1 : TI} {g1 : TG} {tt1 : TT} {te : TE} (h : wi σ H fun J H1 => lc2K J g tt wi1 g1 tt1 te vs vs1 σ H1 Q) : tLc2 wi g tt wi1 g1 tt1 te vs vs1 σ H Q := h
theorem s_lc2N {j j1 v : Nat} {te : TE} (src : Src J io H0 F0 F L as X) (gg : α → Int → List Int) (S : Sep io H0 F0 F H M) (hL : ∀ m ∈ L, m ∈ M) (hn : F nq = some (.lst (ns.map V.int))) (few : as.length * ns.length ≤ 40000)
    (hv : ∀ x, ((wipe σ vs).set j (some x))[v]? = some (some (.ref nq))) (hw : ∀ x, wipe ((wipe σ vs).set j (some x)) vs = wipe σ vs)
    (hw1 : ∀ x y, wipe ((wipe ((wipe σ vs).set j (some x)) vs1).set j1 (some y)) vs1 = wipe ((wipe σ vs).set j (some x)) vs1)
    (he : ∀ (a : α) (x : V) (n : Int) (F1 F' H' : Hp) (M' : List (Addr × Cel)) (Q' : VK), a ∈ as → n ∈ ns → Sep io H0 F0 F' H' M' → Evl.Ex F F1 → Evl.Ex F1 F' → X a x F1 → (∀ q F'' H'', Sep io H0 F0 F'' H'' M' → Evl.Ex F' F'' → F'' q = some (.lst ((gg a n).map V.int)) → Q' (.ref q) H'') → te ((wipe ((wipe σ vs).set j (some x)) vs1).set j1 (some (.int n))) H' Q')
    (hd : ∀ D qs F' H', Sep io H0 F0 F' H' ((D, .is (.lst (qs.map V.ref))) :: M) → Evl.Ex F F' → LstsAt F' qs (as.flatMap fun a => ns.map (gg a)) → Q (.ref D) H') :
    lc2K J (gName j) tYes (iList K (tVar v)) (gName j1) tYes te vs vs1 σ H Q := by
  intro D hD
  obtain ⟨G, Y, w, s1, s2⟩ := src
  have lens : ∀ (i jn : Nat) (a : α), i ≤ as.length → i < as.length → jn ≤ ns.length → (((as.take i).flatMap fun a => ns.map (gg a)) ++ (ns.take jn).map (gg a)).length < 100000 := fun i jn a hi hi2 hj => by
    rw [List.length_append, List.length_flatMap, List.length_map, List.length_take]
    have e : ((as.take i).map fun a => (ns.map (gg a)).length) = (as.take i).map fun _ => ns.length := List.map_congr_left fun a _ => List.length_map ..
    rw [e, List.map_const', List.sum_replicate_nat, List.length_take, Nat.min_eq_left hi, Nat.min_eq_left hj]
    have : i * ns.length ≤ as.length * ns.length := Nat.mul_le_mul_right _ hi
    have : 1 * ns.length ≤ as.length * ns.length := Nat.mul_le_mul_right _ (by omega)
    omega
  refine ⟨fun i m H' => m + i = as.length ∧ ∃ (acc : List Addr) (F' : Hp), Sep io H0 F0 F' H' ((D, .is (.lst (acc.map V.ref))) :: M) ∧ Evl.Ex F F' ∧ LstsAt F' acc ((as.take i).flatMap fun a => ns.map (gg a)), ⟨as.length, rfl, [], F, S.newM hD _, Evl.Ex.refl _, .nil⟩, ?_⟩
  rintro i m H1 ⟨hm, acc, F1, S1, e1, d1⟩
  have g0 : G H1 := s1 F1 H1 _ S1 e1 fun m hm => List.mem_cons_of_mem _ (hL m hm)
  cases m with
  | zero =>
    have e : i = as.length := by omega
    subst e
    rw [List.take_length] at d1
    exact .inl ⟨w.stops H1 g0, hd D acc F1 H1 S1 e1 d1⟩
  | succ m =>
    have hi : i < as.length := by omega
    refine .inr ⟨w.goes i H1 hi g0, fun H' => ∃ (acc : List Addr) (F' : Hp), Sep io H0 F0 F' H' ((D, .is (.lst (acc.map V.ref))) :: M) ∧ Evl.Ex F F' ∧ LstsAt F' acc ((as.take (i + 1)).flatMap fun a => ns.map (gg a)), fun H' p => ⟨m, Nat.lt_succ_self _, by omega, p⟩, fun x H2 y => ?_⟩
    have ei := List.getElem?_eq_getElem hi
    generalize as[i] = a at ei
    obtain ⟨F2, S2, e2, hx⟩ := s2 i a x F1 H1 H2 _ ei S1 e1 (fun m hm => List.mem_cons_of_mem _ (hL m hm)) (w.yields i H1 x H2 hi g0 y)
    refine ⟨hw x, r_yes (iteT ?_)⟩
    refine ⟨.ref nq, hv x, nq, rfl, ⟨_, SqL.of (S2.fr _ _ ((e1.trans e2) _ _ hn))⟩, ?_⟩
    have wl := walk_list (K := K) (a := nq) (xs := ns.map V.int)
    rw [List.length_map] at wl
    refine ⟨fun jn k H' => k + jn = ns.length ∧ ∃ (acc : List Addr) (F' : Hp), Sep io H0 F0 F' H' ((D, .is (.lst (acc.map V.ref))) :: M) ∧ Evl.Ex F2 F' ∧ LstsAt F' acc (((as.take i).flatMap fun a => ns.map (gg a)) ++ (ns.take jn).map (gg a)), ⟨ns.length, rfl, acc, F2, S2, Evl.Ex.refl _, by rw [List.take_zero, List.map_nil, List.append_nil]; exact d1.ex e2⟩, ?_⟩
    rintro jn k H3 ⟨hk, acc3, F3, S3, e3, d3⟩
    have gn : SqL K H3 nq (ns.map V.int) := SqL.of (S3.fr _ _ ((e1.trans (e2.trans e3)) _ _ hn))
    cases k with
    | zero =>
      have e : jn = ns.length := by omega
      subst e
      refine .inl ⟨wl.stops H3 gn, acc3, F3, S3, e1.trans (e2.trans e3), ?_⟩
      rw [List.take_length] at d3
      rw [take_snoc ei, List.flatMap_append, List.flatMap_cons, List.flatMap_nil, List.append_nil]
      exact d3
    | succ k =>
      have hj : jn < ns.length := by omega
      refine .inr ⟨wl.goes jn H3 hj gn, fun H' => ∃ (acc : List Addr) (F' : Hp), Sep io H0 F0 F' H' ((D, .is (.lst (acc.map V.ref))) :: M) ∧ Evl.Ex F2 F' ∧ LstsAt F' acc (((as.take i).flatMap fun a => ns.map (gg a)) ++ (ns.take (jn + 1)).map (gg a)), fun H' p => ⟨k, Nat.lt_succ_self _, by omega, p⟩, fun z H4 y4 => ?_⟩
      obtain ⟨rfl, hz⟩ := wl.yields jn H3 z H4 hj gn y4
      have ej := List.getElem?_eq_getElem hj
      generalize ns[jn] = n at ej
      rw [List.getElem?_map, ej] at hz
      cases hz
      refine ⟨hw1 x _, r_yes (iteT ?_)⟩
      refine he a x n F2 F3 _ _ _ (List.mem_of_getElem? ei) (List.mem_of_getElem? ej) S3 (e1.trans e2) e3 hx fun yv F5 H5 S5 e5 dy => ?_
      have la := d3.len
      refine ⟨acc3.map V.ref, S5.rdM 0 rfl, Evl.sz_lt (by rw [List.length_map, la]; exact lens i jn a (by omega) hi (by omega)), acc3 ++ [yv], F5, by rw [List.map_append]; exact S5.put 0 rfl _, e3.trans e5, ?_⟩
      rw [take_snoc ej, List.map_append, ← List.append_assoc]
      exact LstsAt.snoc dy (d3.ex e5)
theorem LstsAt.at' {F : Hp} : ∀ {qs : List Addr} {ss : List (List Int)} {i : Nat} {s : List Int}, LstsAt F qs ss → ss[i]? = some s → ∃ q, qs[i]? = some q ∧ F q = some (.lst (s.map V.int))
  | _, _, i, _, .nil, h => by simp at h
  | _, _, 0, s, .cons h r, e => by cases (Option.some.inj e); exact ⟨_, rfl, h⟩
  | _, _, i + 1, s, .cons _ r, e => by
    obtain ⟨q, h1, h2⟩ := LstsAt.at' (i := i) r (by simpa using e)
    exact ⟨q, by simpa using h1, h2⟩
theorem srcLs {b : Addr} {qs : List Addr} {ss : List (List Int)} (h : SqL K F b (qs.map V.ref)) (hl : LstsAt F qs ss) : Src (Itl K b) io H0 F0 F [] ss (fun s x F' => ∃ q, x = .ref q ∧ F' q = some (.lst (s.map V.int))) := by
  have ll := hl.len
  refine ⟨_, _, (show (qs.map V.ref).length = ss.length by rw [List.length_map]; exact ll) ▸ walk_list (xs := qs.map V.ref), fun F' H' M' S e _ => S.rdL e h, fun i a x F' H' H'' M' ha S e _ y => ?_⟩
  obtain ⟨rfl, y⟩ := y
  obtain ⟨q, h1, h2⟩ := hl.at' ha
  rw [List.getElem?_map, h1] at y
  cases y
  exact ⟨F', S, Evl.Ex.refl _, q, rfl, e _ _ h2⟩
end
/-! ### set(t), t a tuple of whole numbers -/
section
variable {P : Program} {w : World} {A : Around} {E : Value → Shared → Prop} {s : Shared}
set_option maxHeartbeats 9000000 in
theorem call_set_ofTup {a : Addr} {its : Array Value} (ks : List Int) {Q : Value → Shared → Prop} (calm : A.handled = none) (isl : IsTup s.heap a its) (are : IntsAre its.toList ks) (few : ks.length + 1 < scanBound)
    (out : ∀ (g : Heap) (tk n : Nat), SetR w g s.heap.objs.size (fun j => decide (j ∈ ks)) n → n ≤ ks.length → (∀ b o, s.heap.get? b = some o → g.get? b = some o) → Q (.ref s.heap.objs.size) { s with heap := g, toks := tk }) :
    wpAny (model P w) A (call (.type "set") [.ref a]) Q E s := by
  have size_is : its.size = ks.length := by
    have z := IntsAre.length are
    rwa [Array.length_toList] at z
  have cs := F.called_set
  obtain ⟨m1, m2, m3⟩ := cs.mro
  have made := cs.made
  have subs := cs.sub
  have nty := cs.notType
  have can := cs.canCreate
  have tcall := F.typeCall_set_1 (.ref a)
  refine wpAny_call (codeAny_of_tree ?_)
  show wpAny _ _ (callAny (Value.type "set") _) _ _ _
  refine wpAny_pure ⟨Code.quiet_builtin _ (by decide +kernel), codeAny_builtin F.entry_type_call ?_⟩
  rw [Around.under_plain (weight_type_call_type "set" [.ref a] []) rfl]
  repeat (any_goals (first | wp_step | assumption))
  refine codeAny_mono (code_set_led1 (.ref a) (E := E) (Q₁ := fun v s1 => v = .ref s.heap.objs.size ∧ s1 = { s with heap := s.heap.push (emptyS w) }) ⟨rfl, rfl⟩) fun res s1 got => ?_
  cases res with
  | error _ => exact got
  | ok flow =>
    cases flow with
    | ret v =>
      obtain ⟨rfl, rfl⟩ := got
      have at0 : (s.heap.push (emptyS w)).get? s.heap.objs.size = some (emptyS w) := Heap.get?_push_size _ rfl
      have ty0 : Shared.TypeIs { s with heap := s.heap.push (emptyS w) } (.ref s.heap.objs.size) "set" := ⟨_, at0, rfl⟩
      have ini1 := cs.init.lookup
      have ini2 := cs.init.bind (.ref s.heap.objs.size)
      repeat (any_goals (first | wp_step | assumption))
      refine codeAny_mono (codeAny_call_builtin (R := wants (fun r s2 => r = .none ∧ ∃ g tk n, s2 = { s with heap := g, toks := tk } ∧ SetR w g s.heap.objs.size (fun j => decide (j ∈ ks)) n ∧ n ≤ ks.length ∧ (∀ b o, s.heap.get? b = some o → g.get? b = some o)) E) cs.init.plain F.entry_set_init (check_set_init_1 ty0 ?_)) fun res2 s2 got2 => ?_
      · obtain ⟨ob, hob, hcl, n0, hdt⟩ := isl
        obtain ⟨k1, k2, k3, k4⟩ := ob
        simp only at hcl hdt
        subst hcl hdt
        have under : a < s.heap.objs.size := Heap.lt_size hob
        have hob2 : (s.heap.push (emptyS w)).get? a = some { cls := .type "tuple", dict := k2, data := .seq its n0, slots := k4 } := Heap.get?_push_of_some _ hob
        have t1 := F.sub_tuple_set
        have t2 := F.sub_tuple_frozenset
        have t3 : (Value.type "tuple" == Value.type "dict") = false := by decide
        have isl2 : (s.heap.push (emptyS w)).IsTuple a its := ⟨_, hob2, rfl, n0, rfl⟩
        unfold Builtin.«set.__init__» noKeywords Builtin.Frozenset.updateFrom
        generalize hit : pyIter = iter
        wp_walk
        subst hit
        refine wpAny_pyIter_tuple isl2 (wpAny_bind (wpAny_runValue ?_))
        have calm3 : A.in1.in1.in1.handled = none := by simp [calm]
        have apart : a ≠ (s.heap.push (emptyS w)).objs.size := by
          rw [Heap.size_push]
          exact Nat.ne_of_lt (Nat.lt_succ_of_lt under)
        have notin : s.heap.objs.size ∉ [(s.heap.push (emptyS w)).objs.size, a] := by
          intro m
          rw [Heap.size_push] at m
          rcases List.mem_cons.mp m with m | m
          · exact absurd m (Nat.ne_of_lt (Nat.lt_succ_self _))
          · exact absurd (List.mem_singleton.mp m) (Nat.ne_of_gt under)
        have vals : ∀ (i : Nat) (v : Value), its[i]? = some v → ∃ k t, ks[i]? = some k ∧ v = .int k t := fun i v hv => by
          have lt : i < ks.length := size_is ▸ (Array.getElem?_eq_some_iff.mp hv).1
          obtain ⟨t, e⟩ := IntsAre.int_at are i v (by rw [Array.getElem?_toList]; exact hv)
          rw [List.getD_eq_getElem?_getD, List.getElem?_eq_getElem lt] at e
          exact ⟨ks[i], t, List.getElem?_eq_getElem lt, e⟩
        refine set_update_ints (Walks.tuple calm3 _ a apart its).toS s.heap.objs.size notin ks size_is few vals (its.size - 0) 0 _ (by omega) (Nat.zero_le _) ⟨⟨_, Heap.get?_push_size _ rfl, rfl, rfl⟩, isl2.push _⟩ ?first ?last
        case first => exact ⟨0, Nat.le_refl 0, setR_new_at (Heap.get?_push_of_some _ at0)⟩
        case last =>
          intro s3 n3 moved le3 set3
          obtain ⟨g3, e1, e2, tk3, e3⟩ := s3
          have q1 : e1 = s.gens := moved.gens
          have q2 : e2 = s.drawn := moved.drawn
          have q3 : e3 = s.os := moved.os
          subst q1 q2 q3
          rw [size_is] at le3
          refine wpAny_pure (wpAny_pure ⟨rfl, g3, tk3, n3, rfl, set3, le3, fun b o e => ?_⟩)
          have under2 : b < s.heap.objs.size := Heap.lt_size e
          refine moved.heap b o (fun m => ?_) (Heap.get?_push_of_some _ (Heap.get?_push_of_some _ e))
          rcases List.mem_cons.mp m with m | m
          · exact absurd m (Nat.ne_of_lt under2)
          · have m := List.mem_singleton.mp m
            rw [Heap.size_push] at m
            exact absurd m (Nat.ne_of_lt (Nat.lt_succ_of_lt under2))
      · cases res2 with
        | error _ => exact got2
        | ok flow2 =>
          cases flow2 with
          | ret _ =>
            obtain ⟨rfl, g, tk, n, rfl, y1, y2, y3⟩ := got2
            repeat (any_goals (first | wp_step | assumption))
            exact out _ _ _ y1 y2 y3
          | _ => exact got2.elim
    | _ => exact got.elim
end
section
variable {X : Cx}
def rSetOfTi (K : PySem.W.Frag) (w : World) : List V → Hp → VK → Prop := fun vs H Q => ∃ (a : Addr) (ns : List Int), vs = [.ref a] ∧ SqT K H a (ns.map V.int) ∧ ns.length ≤ 1000 ∧
  ∀ (q : Addr) (n : Nat), H q = none → n ≤ ns.length → Q (.ref q) (upd H q (SetO w q (fun j => decide (j ∈ ns)) n))
theorem cr_setTi (hc : X.calm = true) : CallR X (.type "set") (rSetOfTi X.K X.w) := by
  intro pins s σ H vs us Q I r h
  obtain ⟨a, ns, rfl, hs, hl, q⟩ := h
  obtain ⟨its, rv, pl, hz⟩ := I.tuple hs
  rw [Vals.ref1 r]
  refine call_set_ofTup ns (I.ok.hd hc) pl (by simpa using rv.ints) (Nat.lt_of_le_of_lt (Nat.add_le_add_right hl 1) (by decide)) fun g tk n S hn kp => ?_
  exact ⟨.ref _, _, I.laid (t' := tk) kp (Nat.le_refl _) (setO_new S), rfl, q _ n I.fresh hn⟩
theorem s_setTi {io : List Addr} {H0 F0 F H : Hp} {M : List (Addr × Cel)} {K : PySem.W.Frag} {w : World} {Q : VK} {a : Addr} {ns : List Int} (S : Sep io H0 F0 F H M) (h : SqT K H a (ns.map V.int)) (hl : ns.length ≤ 1000) (k : ∀ (q : Addr) (n : Nat) (F' H' : Hp), n ≤ ns.length → Sep io H0 F0 F' H' M → Evl.Ex F F' → F' q = some (SetO w q (fun j => decide (j ∈ ns)) n) → Q (.ref q) H') : rSetOfTi K w [.ref a] H Q :=
  ⟨a, ns, rfl, h, hl, fun q n hq hn => k q n _ _ hn (S.newF hq _) (Evl.Ex.new (S.fnone hq)) upd_same⟩
end
/-! ### counting rows of draws -/
def asg (g : Int → Int) (h x : Int) : Int → Int := fun k => if k = h then x else g k
/-- in how many ways the houses hs may draw, by the choices C, so that P holds -/
def NF : List Int → (Int → List Int) → (Int → Int) → ((Int → Int) → Bool) → Int
  | [], _, g, P => if P g then 1 else 0
  | h :: hs, C, g, P => ((C h).map fun x => NF hs C (asg g h x) P).sum
/-- P hangs on the houses of S alone -/
def OnlyS (S : List Int) (P : (Int → Int) → Bool) : Prop := ∀ g g', (∀ k ∈ S, g k = g' k) → P g = P g'
theorem NF_congr {S : List Int} {P : (Int → Int) → Bool} (hP : OnlyS S P) : ∀ (hs : List Int) (C : Int → List Int) (g g' : Int → Int), (∀ k ∈ S, k ∉ hs → g k = g' k) → NF hs C g P = NF hs C g' P
  | [], C, g, g', h => by
    rw [NF, NF, hP g g' fun k hk => h k hk (by simp)]
  | a :: hs, C, g, g', h => by
    rw [NF, NF]
    congr 1
    refine List.map_congr_left fun x _ => ?_
    refine NF_congr hP hs C _ _ fun k hk hn => ?_
    unfold asg
    by_cases e : k = a
    · rw [if_pos e, if_pos e]
    · rw [if_neg e, if_neg e]
      exact h k hk fun z => (List.mem_cons.mp z).elim e hn
theorem sum_const (l : List Int) (c : Int) : (l.map fun _ => c).sum = (l.length : Int) * c := by
  induction l with
  | nil => simp
  | cons x r ih =>
    rw [List.map_cons, List.sum_cons, ih, List.length_cons]
    push_cast
    rw [Int.add_mul]
    omega
/-- the factor of the houses that it doesn't hang on -/
def facS (S : List Int) (C : Int → List Int) (hs : List Int) : Int := hs.foldr (fun h r => if h ∈ S then r else ((C h).length : Int) * r) 1
theorem NF_filter {S : List Int} {P : (Int → Int) → Bool} (hP : OnlyS S P) : ∀ (hs : List Int) (C : Int → List Int) (g : Int → Int), NF hs C g P = facS S C hs * NF (hs.filter fun h => decide (h ∈ S)) C g P
  | [], C, g => by
    show NF [] C g P = 1 * NF [] C g P
    rw [Int.one_mul]
  | a :: hs, C, g => by
    by_cases ha : a ∈ S
    · rw [List.filter_cons, if_pos (decide_eq_true ha), NF, NF]
      have : facS S C (a :: hs) = facS S C hs := by unfold facS; rw [List.foldr_cons, if_pos ha]
      rw [this]
      have e : ((C a).map fun x => NF hs C (asg g a x) P) = (C a).map fun x => facS S C hs * NF (hs.filter fun h => decide (h ∈ S)) C (asg g a x) P := List.map_congr_left fun x _ => NF_filter hP hs C _
      rw [e]
      generalize C a = l
      induction l with
      | nil => simp
      | cons x r ih =>
        rw [List.map_cons, List.sum_cons, List.map_cons, List.sum_cons, ih, Int.mul_add]
    · rw [List.filter_cons, if_neg (by simpa using ha), NF]
      have e : ((C a).map fun x => NF hs C (asg g a x) P) = (C a).map fun _ => NF hs C g P := List.map_congr_left fun x _ => NF_congr hP hs C _ _ fun k hk _ => by
        unfold asg
        exact if_neg fun z : k = a => ha (z ▸ hk)
      rw [e, sum_const, NF_filter hP hs C g]
      have : facS S C (a :: hs) = ((C a).length : Int) * facS S C hs := by unfold facS; rw [List.foldr_cons, if_neg ha]
      rw [this, Int.mul_assoc]
theorem NF_choices {S : List Int} {P : (Int → Int) → Bool} {C C' : Int → List Int} : ∀ (hs : List Int) (g : Int → Int), (∀ h ∈ hs, C h = C' h) → NF hs C g P = NF hs C' g P
  | [], g, _ => by rw [NF, NF]
  | a :: hs, g, h => by
    rw [NF, NF, h a List.mem_cons_self]
    congr 1
    exact List.map_congr_left fun x _ => NF_choices (S := S) hs _ fun k hk => h k (List.mem_cons_of_mem _ hk)
/-! rows as lists -/
/-- a row's numbers, by a list of houses -/
def gRow (hs : List Int) (row : List Int) : Int → Int := fun h => row.getD (hs.idxOf h) 0
theorem gRow_snoc {hs row : List Int} {a x : Int} (hn : hs.Nodup) (hl : hs[row.length]? = some a) : gRow hs (row ++ [x]) = asg (gRow hs row) a x := by
  funext k
  obtain ⟨lt, ea⟩ := List.getElem?_eq_some_iff.mp hl
  unfold gRow asg
  by_cases e : k = a
  · rw [if_pos e, e, ← ea, hn.idxOf_getElem, List.getD_eq_getElem?_getD, List.getElem?_append_right (by omega)]
    simp
  · rw [if_neg e]
    have ne : hs.idxOf k ≠ row.length := fun z => by
      have : k ∈ hs := by
        rw [← List.idxOf_lt_length_iff]
        omega
      have g := List.getElem_idxOf (List.idxOf_lt_length_iff.mpr this)
      apply e
      rw [← g, ← ea]
      congr 1
    show (row ++ [x]).getD (hs.idxOf k) 0 = row.getD (hs.idxOf k) 0
    rw [List.getD_eq_getElem?_getD, List.getD_eq_getElem?_getD]
    by_cases q : hs.idxOf k < row.length
    · rw [List.getElem?_append_left q]
    · rw [List.getElem?_eq_none (by rw [List.length_append, List.length_singleton]; omega), List.getElem?_eq_none (by omega)]
/-- all rows of some choices, made house by house -/
def rowsC (C : Int → List Int) (hs : List Int) : List (List Int) := hs.foldl (fun rows h => rows.flatMap fun row => (C h).map fun x => row ++ [x]) [[]]
def cntR {α : Type} (p : α → Bool) (l : List α) : Int := ((l.filter p).length : Int)
theorem cntR_cons {α : Type} (p : α → Bool) (x : α) (r : List α) : cntR p (x :: r) = (if p x then 1 else 0) + cntR p r := by
  unfold cntR
  rw [List.filter_cons]
  cases p x
  · simp
  · simp
    omega
theorem cntR_sum {α : Type} (p : α → Bool) : ∀ l : List α, cntR p l = (l.map fun x => if p x then (1 : Int) else 0).sum
  | [] => rfl
  | x :: r => by rw [cntR_cons, List.map_cons, List.sum_cons, cntR_sum p r]
theorem sum_app (a b : List Int) : (a ++ b).sum = a.sum + b.sum := by
  induction a with
  | nil => simp
  | cons x r ih => rw [List.cons_append, List.sum_cons, List.sum_cons, ih, Int.add_assoc]
theorem sum_flat {α : Type} (f : α → List Int) : ∀ l : List α, (l.flatMap f).sum = (l.map fun x => (f x).sum).sum
  | [] => rfl
  | x :: r => by rw [List.flatMap_cons, sum_app, List.map_cons, List.sum_cons, sum_flat f r]
theorem rowsC_len (C : Int → List Int) : ∀ (hs : List Int) (rows : List (List Int)) (n : Nat), (∀ r ∈ rows, r.length = n) → ∀ r ∈ hs.foldl (fun rows h => rows.flatMap fun row => (C h).map fun x => row ++ [x]) rows, r.length = n + hs.length
  | [], rows, n, h => by simpa using h
  | a :: hs, rows, n, h => by
    intro r hr
    have := rowsC_len C hs _ (n + 1) (fun r' hr' => by
      obtain ⟨row, h1, h2⟩ := List.mem_flatMap.mp hr'
      obtain ⟨x, h3, rfl⟩ := List.mem_map.mp h2
      rw [List.length_append, h row h1]
      rfl) r hr
    rw [List.length_cons]
    omega
theorem rows_NF {P : (Int → Int) → Bool} {C : Int → List Int} {all : List Int} (hn : all.Nodup) : ∀ (rest : List Int) (done : List Int) (rows : List (List Int)), done ++ rest = all → (∀ r ∈ rows, r.length = done.length) →
    cntR (fun r => P (gRow all r)) (rest.foldl (fun rows h => rows.flatMap fun row => (C h).map fun x => row ++ [x]) rows) = (rows.map fun r => NF rest C (gRow all r) P).sum
  | [], done, rows, _, _ => by
    rw [List.foldl_nil, cntR_sum]
    rfl
  | a :: rest, done, rows, e, hl => by
    rw [List.foldl_cons, rows_NF hn rest (done ++ [a]) _ (by rw [List.append_assoc]; exact e) fun r hr => by
      obtain ⟨row, h1, h2⟩ := List.mem_flatMap.mp hr
      obtain ⟨x, h3, rfl⟩ := List.mem_map.mp h2
      rw [List.length_append, List.length_append, hl row h1]
      rfl]
    rw [List.map_flatMap, sum_flat]
    congr 1
    refine List.map_congr_left fun row hr => ?_
    rw [List.map_map, NF]
    congr 1
    refine List.map_congr_left fun x _ => ?_
    show NF rest C (gRow all (row ++ [x])) P = _
    rw [gRow_snoc hn]
    rw [← e, hl row hr, List.getElem?_append_right (Nat.le_refl _)]
    simp
theorem cnt_rows {P : (Int → Int) → Bool} {C : Int → List Int} {all : List Int} (hn : all.Nodup) : cntR (fun r => P (gRow all r)) (rowsC C all) = NF all C (gRow all []) P := by
  unfold rowsC
  rw [rows_NF (P := P) (C := C) hn all [] [[]] rfl (fun r hr => by rw [List.mem_singleton.mp hr])]
  simp
/-! ### tallies -/
section
variable {κ : Type} [DecidableEq κ]
def getA (ws : List (κ × Int)) (k : κ) : Int := ((ws.find? fun p => decide (p.1 = k)).map (·.2)).getD 0
def hasA (ws : List (κ × Int)) (k : κ) : Bool := ws.any fun p => decide (p.1 = k)
def addA (ws : List (κ × Int)) (k : κ) (c : Int) : List (κ × Int) :=
  if hasA ws k = true then ws.map (fun p => if p.1 = k then (p.1, getA ws k + c) else p) else ws ++ [(k, getA ws k + c)]
def tally (xs : List (κ × Int)) : List (κ × Int) := xs.foldl (fun ws p => addA ws p.1 p.2) []
theorem getA_nil (k : κ) : getA ([] : List (κ × Int)) k = 0 := rfl
theorem getA_cons (p : κ × Int) (r : List (κ × Int)) (k : κ) : getA (p :: r) k = if p.1 = k then p.2 else getA r k := by
  unfold getA
  rw [List.find?_cons]
  by_cases e : p.1 = k <;> simp [e]
theorem hasA_cons (p : κ × Int) (r : List (κ × Int)) (k : κ) : hasA (p :: r) k = (decide (p.1 = k) || hasA r k) := by
  unfold hasA
  rw [List.any_cons]
theorem getA_not : ∀ (ws : List (κ × Int)) (k : κ), hasA ws k = false → getA ws k = 0
  | [], k, _ => rfl
  | p :: r, k, h => by
    rw [hasA_cons, Bool.or_eq_false_iff, decide_eq_false_iff_not] at h
    rw [getA_cons, if_neg h.1, getA_not r k h.2]
theorem getA_app (ws : List (κ × Int)) (k k' : κ) (c : Int) : getA (ws ++ [(k, c)]) k' = if hasA ws k' = true then getA ws k' else if k = k' then c else 0 := by
  induction ws with
  | nil => rw [List.nil_append, getA_cons]; rfl
  | cons p r ih =>
    rw [List.cons_append, getA_cons, ih, getA_cons, hasA_cons]
    by_cases e : p.1 = k' <;> simp [e]
theorem getA_map (ws : List (κ × Int)) (k k' : κ) (v : Int) : getA (ws.map fun p => if p.1 = k then (p.1, v) else p) k' = if hasA ws k' = true then (if k = k' then v else getA ws k') else 0 := by
  induction ws with
  | nil => rfl
  | cons p r ih =>
    have h1 : (if p.1 = k then (p.1, v) else p).1 = p.1 := by split <;> rfl
    have h2 : (if p.1 = k then (p.1, v) else p).2 = if p.1 = k then v else p.2 := by split <;> rfl
    rw [List.map_cons, getA_cons, h1, h2, ih, getA_cons, hasA_cons]
    by_cases e2 : p.1 = k'
    · subst e2
      by_cases e : p.1 = k
      · simp [e]
      · simp [e, Ne.symm e]
    · simp [e2]
theorem getA_add (ws : List (κ × Int)) (k k' : κ) (c : Int) : getA (addA ws k c) k' = getA ws k' + if k = k' then c else 0 := by
  unfold addA
  by_cases h : hasA ws k = true
  · rw [if_pos h, getA_map]
    by_cases e : k = k'
    · subst e
      rw [if_pos h, if_pos rfl, if_pos rfl]
    · rw [if_neg e, if_neg e, Int.add_zero]
      by_cases h2 : hasA ws k' = true
      · rw [if_pos h2]
      · rw [if_neg h2, getA_not ws k' (by simpa using h2)]
  · rw [if_neg h, getA_app]
    by_cases e : k = k'
    · subst e
      rw [if_neg h, if_pos rfl, if_pos rfl]
    · rw [if_neg e, if_neg e, Int.add_zero]
      by_cases h2 : hasA ws k' = true
      · rw [if_pos h2]
      · rw [if_neg h2, getA_not ws k' (by simpa using h2)]
def sumA (ws : List (κ × Int)) : Int := (ws.map (·.2)).sum
def NdK (ws : List (κ × Int)) : Prop := (ws.map (·.1)).Nodup
theorem sumA_map {ws : List (κ × Int)} {k : κ} {v : Int} (nd : NdK ws) (h : hasA ws k = true) : sumA (ws.map fun p => if p.1 = k then (p.1, v) else p) = sumA ws - getA ws k + v := by
  induction ws with
  | nil => cases h
  | cons p r ih =>
    have nd' := List.nodup_cons.mp nd
    unfold sumA at *
    rw [List.map_cons, List.map_cons, List.sum_cons, List.map_cons, List.sum_cons, getA_cons]
    by_cases e : p.1 = k
    · rw [if_pos e, if_pos e]
      have same : (r.map fun q => if q.1 = k then (q.1, v) else q) = r := by
        conv => rhs; rw [← List.map_id r]
        refine List.map_congr_left fun q hq => ?_
        rw [if_neg fun z : q.1 = k => nd'.1 (by show p.1 ∈ _; rw [e, ← z]; exact List.mem_map_of_mem hq)]
        rfl
      rw [same]
      simp only
      omega
    · rw [if_neg e, if_neg e]
      rw [hasA_cons, decide_eq_false e, Bool.false_or] at h
      have := ih nd'.2 h
      omega
theorem sumA_add {ws : List (κ × Int)} {k : κ} {c : Int} (nd : NdK ws) : sumA (addA ws k c) = sumA ws + c := by
  unfold addA
  by_cases h : hasA ws k = true
  · rw [if_pos h, sumA_map nd h]
    omega
  · rw [if_neg h, getA_not ws k (by simpa using h)]
    unfold sumA
    rw [List.map_append, sum_app]
    simp
theorem keys_add (ws : List (κ × Int)) (k : κ) (c : Int) : (addA ws k c).map (·.1) = if hasA ws k = true then ws.map (·.1) else ws.map (·.1) ++ [k] := by
  unfold addA
  by_cases h : hasA ws k = true
  · rw [if_pos h, if_pos h, List.map_map]
    refine List.map_congr_left fun p _ => ?_
    show (if p.1 = k then (p.1, getA ws k + c) else p).1 = p.1
    split <;> rfl
  · rw [if_neg h, if_neg h, List.map_append]
    rfl
theorem hasA_mem {ws : List (κ × Int)} {k : κ} : hasA ws k = true ↔ k ∈ ws.map (·.1) := by
  unfold hasA
  rw [List.any_eq_true, List.mem_map]
  exact ⟨fun ⟨p, h, e⟩ => ⟨p, h, of_decide_eq_true e⟩, fun ⟨p, h, e⟩ => ⟨p, h, decide_eq_true e⟩⟩
theorem nd_add {ws : List (κ × Int)} {k : κ} {c : Int} (nd : NdK ws) : NdK (addA ws k c) := by
  unfold NdK
  rw [keys_add]
  split
  · exact nd
  · rename_i h
    refine List.nodup_append.mpr ⟨nd, by simp, fun x hx y hy e => ?_⟩
    rw [List.mem_singleton] at hy
    subst hy e
    exact h (hasA_mem.mpr hx)
theorem tally_snoc (xs : List (κ × Int)) (p : κ × Int) : tally (xs ++ [p]) = addA (tally xs) p.1 p.2 := by
  unfold tally
  rw [List.foldl_append]
  rfl
theorem tally_spec (xs : List (κ × Int)) : NdK (tally xs) ∧ (∀ k, getA (tally xs) k = (xs.map fun p => if p.1 = k then p.2 else 0).sum) ∧ sumA (tally xs) = (xs.map (·.2)).sum ∧ ∀ k, k ∈ (tally xs).map (·.1) ↔ k ∈ xs.map (·.1) := by
  have key : ∀ (ys : List (κ × Int)) (ws : List (κ × Int)), NdK ws → NdK (ys.foldl (fun ws p => addA ws p.1 p.2) ws) ∧ (∀ k, getA (ys.foldl (fun ws p => addA ws p.1 p.2) ws) k = getA ws k + (ys.map fun p => if p.1 = k then p.2 else 0).sum) ∧ sumA (ys.foldl (fun ws p => addA ws p.1 p.2) ws) = sumA ws + (ys.map (·.2)).sum ∧ ∀ k, k ∈ (ys.foldl (fun ws p => addA ws p.1 p.2) ws).map (·.1) ↔ k ∈ ws.map (·.1) ∨ k ∈ ys.map (·.1) := by
    intro ys
    induction ys with
    | nil => intro ws nd; exact ⟨nd, fun k => by simp, by simp, fun k => by simp⟩
    | cons p r ih =>
      intro ws nd
      obtain ⟨a, b, c, d⟩ := ih (addA ws p.1 p.2) (nd_add nd)
      refine ⟨a, fun k => ?_, ?_, fun k => ?_⟩
      · rw [List.foldl_cons, b k, getA_add, List.map_cons, List.sum_cons]
        omega
      · rw [List.foldl_cons, c, sumA_add nd, List.map_cons, List.sum_cons]
        omega
      · rw [List.foldl_cons, d k, keys_add, List.map_cons, List.mem_cons]
        split
        · rename_i h
          have := hasA_mem.mp h
          constructor
          · rintro (z | z)
            · exact .inl z
            · exact .inr (.inr z)
          · rintro (z | z | z)
            · exact .inl z
            · exact .inl (z ▸ this)
            · exact .inr z
        · rw [List.mem_append, List.mem_singleton]
          constructor
          · rintro ((z | z) | z)
            · exact .inl z
            · exact .inr (.inl z)
            · exact .inr (.inr z)
          · rintro (z | z | z)
            · exact .inl (.inl z)
            · exact .inl (.inr z)
            · exact .inr z
  obtain ⟨a, b, c, d⟩ := key xs [] List.nodup_nil
  exact ⟨a, fun k => by rw [show tally xs = xs.foldl (fun ws p => addA ws p.1 p.2) [] from rfl, b k, getA_nil, Int.zero_add], by rw [show tally xs = xs.foldl (fun ws p => addA ws p.1 p.2) [] from rfl, c]; simp [sumA], fun k => by rw [show tally xs = xs.foldl (fun ws p => addA ws p.1 p.2) [] from rfl, d k]; simp⟩
end
/-! ### dicts whose keys are tuples of whole numbers -/
def keyL (ns : List Int) : List Key := ns.map Sum.inl
theorem keyL_kV (ns : List Int) : (keyL ns).map kV = ns.map V.int := by
  unfold keyL
  rw [List.map_map]
  rfl
theorem keyL_inj {a b : List Int} : keyL a = keyL b ↔ a = b := by
  unfold keyL
  exact ⟨fun h => List.map_inj_right (fun x y e => by cases e; rfl) |>.mp h, fun h => by rw [h]⟩
section
variable {α : Type}
def dictK (f : α → V) (ws : List (List Int × α)) : List (List Key × V) := ws.map fun p => (keyL p.1, f p.2)
theorem dictK_val (f : α → V) : ∀ (ws : List (List Int × α)) (k : List Int), valV (dictK f ws) (keyL k) = ((ws.find? fun p => decide (p.1 = k)).map fun p => f p.2)
  | [], k => rfl
  | p :: r, k => by
    have ih := dictK_val f r k
    unfold dictK valV at *
    rw [List.map_cons, List.find?_cons, List.find?_cons]
    by_cases e : p.1 = k
    · have : decide (keyL p.1 = keyL k) = true := decide_eq_true (by rw [e])
      simp [e, this]
    · have : decide (keyL p.1 = keyL k) = false := decide_eq_false fun z => e (keyL_inj.mp z)
      simp only [this, decide_eq_false e]
      exact ih
theorem dictK_any (f : α → V) (ws : List (List Int × α)) (k : List Int) : ((dictK f ws).any fun kv => decide (kv.1 = keyL k)) = ws.any fun p => decide (p.1 = k) := by
  unfold dictK
  rw [List.any_map]
  congr 1
  funext p
  show decide (keyL p.1 = keyL k) = decide (p.1 = k)
  rw [decide_eq_decide]
  exact keyL_inj
def putA (ws : List (List Int × α)) (k : List Int) (v : α) : List (List Int × α) := if (ws.any fun p => decide (p.1 = k)) = true then ws.map (fun p => if p.1 = k then (p.1, v) else p) else ws ++ [(k, v)]
theorem dictK_put (f : α → V) (ws : List (List Int × α)) (k : List Int) (v : α) : putK (dictK f ws) (keyL k) (f v) = dictK f (putA ws k v) := by
  unfold putK putA
  rw [dictK_any]
  split
  · unfold dictK
    rw [List.map_map, List.map_map]
    refine List.map_congr_left fun p _ => ?_
    show (if keyL p.1 = keyL k then (keyL p.1, f v) else (keyL p.1, f p.2)) = (keyL (if p.1 = k then (p.1, v) else p).1, f (if p.1 = k then (p.1, v) else p).2)
    by_cases e : p.1 = k
    · rw [if_pos (by rw [e]), if_pos e]
    · rw [if_neg fun z => e (keyL_inj.mp z), if_neg e]
  · unfold dictK
    rw [List.map_append]
    rfl
end
abbrev waysK (ws : List (List Int × Int)) : List (List Key × V) := dictK V.int ws
theorem ways_get (ws : List (List Int × Int)) (k : List Int) : (valV (waysK ws) (keyL k)).getD (.int 0) = .int (getA ws k) := by
  rw [dictK_val]
  unfold getA
  cases ws.find? fun p => decide (p.1 = k) <;> rfl
theorem ways_add (ws : List (List Int × Int)) (k : List Int) (c : Int) : putK (waysK ws) (keyL k) (.int (getA ws k + c)) = waysK (addA ws k c) := by
  rw [dictK_put]
  rfl
section
variable {io : List Addr} {H0 F0 F H : Hp} {M L : List (Addr × Cel)} {K : PySem.W.Frag} {Q : VK} {QH : Hp → Prop} {a b d t : Addr} {o : HO} {α : Type} {f : α → V} {ws : List (List Int × α)} {kvs : List (List Key × V)}
theorem s_dputL {k : List Int} {v : V} (S : Sep io H0 F0 F H M) (j : Nat) (hk : M[j]? = some (a, .is (.dT kvs))) (ht : F t = some (.tup (k.map V.int))) (few : kvs.length < 100000)
    (q : ∀ H', Sep io H0 F0 F H' (M.set j (a, .is (.dT (putK kvs (keyL k) v)))) → QH H') : dputK (.ref a) (.ref t) v H QH :=
  ⟨a, _, rfl, DPut.t (k := keyL k) (S.rdM j hk) (by rw [keyL_kV]; exact S.fr _ _ ht) (Evl.sz_lt few), q _ (S.put j hk _)⟩
theorem dgetL {k : List Int} (hd : Rd H a (.dT (dictK f ws))) (ht : H t = some (.tup (k.map V.int))) : DGet H a (.ref t) (valV (dictK f ws) (keyL k)) :=
  .inr ⟨_, keyL k, t, hd, rfl, by rw [keyL_kV]; exact ht, rfl⟩
theorem rd_frz {od : Obj} (h : H a = some (.frz od o)) : Rd H a o := .inr ⟨od, h⟩
/-- d.items() -/
theorem walk_pairs {od : Obj} : Walk (Itp a od kvs) kvs.length (fun H => H a = some (.frz od (.dT kvs))) (fun i H y H' => ∃ t ks x q, kvs[i]? = some (ks, x) ∧ H q = some (.tup (ks.map kV)) ∧ y = .ref t ∧ H t = none ∧ H' = upd H t (.tup [.ref q, x])) :=
  ⟨fun i H hi g => ⟨g, hi⟩, fun H g => ⟨g, Nat.le_refl _⟩, fun i H v H' hi _ y => y⟩
theorem srcP2 {od : Obj} (hd : F a = some (.frz od (.dT (dictK f ws)))) : Src (Itp a od (dictK f ws)) io H0 F0 F [] ws (fun p x F' => ∃ t q, x = .ref t ∧ F' t = some (.tup [.ref q, f p.2]) ∧ F' q = some (.tup (p.1.map V.int))) := by
  have hl : (dictK f ws).length = ws.length := List.length_map ..
  refine ⟨_, _, hl ▸ walk_pairs, fun F' H' M' S e _ => S.rdC e hd, fun i p x F' H' H'' M' hp S e _ y => ?_⟩
  obtain ⟨t, ks, v, q, e1, e2, rfl, ht, rfl⟩ := y
  unfold dictK at e1
  rw [List.getElem?_map, hp] at e1
  cases e1
  rw [keyL_kV] at e2
  obtain ⟨F1, S1, x1, c1⟩ := S.adopt e2
  exact ⟨_, S1.newF ht _, x1.trans (Evl.Ex.new (S1.fnone ht)), t, q, rfl, upd_same, Evl.Ex.new (S1.fnone ht) _ _ c1⟩
def iprK (x : V) (H : Hp) (R : It → Hp → Prop) : Prop := ∃ d o kvs, x = .ref d ∧ H d = some (.frz o (.dT kvs)) ∧ R (Itp d o kvs) H
theorem r_iPairs {td : TE} {σ : L2.St} {R : It → Hp → Prop} (h : td σ H fun x H1 => iprK x H1 R) : iPairs td σ H R := h
theorem s_ipr {od : Obj} {R : It → Hp → Prop} (hd : H a = some (.frz od (.dT kvs))) (q : R (Itp a od kvs) H) : iprK (.ref a) H R := ⟨a, od, kvs, rfl, hd, q⟩
/-- for k in d -/
theorem srcKT {od : Obj} (hd : F a = some (.frz od (.dT (dictK f ws)))) : Src (Itkt a od (dictK f ws)) io H0 F0 F [] ws (fun p x F' => ∃ q, x = .ref q ∧ F' q = some (.tup (p.1.map V.int))) := by
  have hl : (dictK f ws).length = ws.length := List.length_map ..
  refine ⟨_, _, hl ▸ walk_keysT, fun F' H' M' S e _ => S.rdC e hd, fun i p x F' H' H'' M' hp S e _ y => ?_⟩
  obtain ⟨rfl, ks, v, q, e1, rfl, e2⟩ := y
  unfold dictK at e1
  rw [List.getElem?_map, hp] at e1
  cases e1
  rw [keyL_kV] at e2
  obtain ⟨F1, S1, x1, c1⟩ := S.adopt e2
  exact ⟨F1, S1, x1, q, rfl, c1⟩
/-- views, their sum, their list -/
def vwK (g : Addr → Addr → HO) (x : V) (H : Hp) (Q : VK) : Prop := ∃ d kvs, x = .ref d ∧ Rd H d (.dT kvs) ∧ ∀ p, H p = none → Q (.ref p) (upd H p (g p d))
theorem r_view {g : Addr → Addr → HO} {td : TE} {σ : L2.St} (h : td σ H fun x H1 => vwK g x H1 Q) : tView g td σ H Q := h
theorem s_view {g : Addr → Addr → HO} (S : Sep io H0 F0 F H M) (hd : Rd H d (.dT kvs)) (k : ∀ p F' H', Sep io H0 F0 F' H' M → Evl.Ex F F' → F' p = some (g p d) → Q (.ref p) H') : vwK g (.ref d) H Q :=
  ⟨d, kvs, rfl, hd, fun p hp => k p _ _ (S.newF hp _) (Evl.Ex.new (S.fnone hp)) upd_same⟩
theorem s_sumV {ns : List Int} {p : Addr} (hp : H p = some (valsO p d)) (hd : Rd H d (.dT kvs)) (hv : kvs.map Prod.snd = ns.map V.int) (q : Q (.int ns.sum) H) : rSumV [.ref p] H Q := ⟨p, d, kvs, ns, rfl, hp, hd, hv, q⟩
theorem ways_vals (ws : List (List Int × Int)) : (waysK ws).map Prod.snd = (ws.map (·.2)).map V.int := by
  unfold waysK dictK
  rw [List.map_map, List.map_map]
  rfl
/-- the tuples of the keys stand at bs -/
def KeysAt (F : Hp) (ws : List (List Int × α)) (bs : List Addr) : Prop := Paired (fun (p : List Int × α) b => F b = some (.tup (p.1.map V.int))) ws bs
theorem KeysAt.ex {F F' : Hp} (e : Evl.Ex F F') : ∀ {ws : List (List Int × α)} {bs : List Addr}, KeysAt F ws bs → KeysAt F' ws bs
  | _, _, .nil => .nil
  | _, _, .cons h r => .cons (e _ _ h) (KeysAt.ex e r)
theorem KeysAt.get {F : Hp} : ∀ {ws : List (List Int × α)} {bs : List Addr} {i : Nat} {p : List Int × α}, KeysAt F ws bs → ws[i]? = some p → ∃ b, bs[i]? = some b ∧ F b = some (.tup (p.1.map V.int))
  | _, _, i, _, .nil, h => by simp at h
  | _, _, 0, p, .cons h r, e => by cases (Option.some.inj e); exact ⟨_, rfl, h⟩
  | _, _, i + 1, p, .cons _ r, e => by
    obtain ⟨b, h1, h2⟩ := KeysAt.get (i := i) r (by simpa using e)
    exact ⟨b, by simpa using h1, h2⟩
theorem KeysAt.len {F : Hp} : ∀ {ws : List (List Int × α)} {bs : List Addr}, KeysAt F ws bs → bs.length = ws.length
  | _, _, .nil => rfl
  | _, _, .cons _ r => by rw [List.length_cons, List.length_cons, KeysAt.len r]
theorem Sep.adoptK : ∀ {ws : List (List Int × α)} {bs : List Addr} {F : Hp}, Sep io H0 F0 F H M → IsKeys H (dictK f ws) bs → ∃ F', Sep io H0 F0 F' H M ∧ Evl.Ex F F' ∧ KeysAt F' ws bs
  | [], _, F, S, .nil => ⟨F, S, Evl.Ex.refl _, .nil⟩
  | p :: ws, b :: bs, F, S, .cons h r => by
    have h2 : H b = some (.tup (p.1.map V.int)) := by rw [← keyL_kV]; exact h
    obtain ⟨F1, S1, e1, c1⟩ := S.adopt h2
    obtain ⟨F2, S2, e2, c2⟩ := Sep.adoptK (ws := ws) S1 r
    exact ⟨F2, S2, e1.trans e2, .cons (e2 _ _ c1) c2⟩
theorem s_listK {p : Addr} (S : Sep io H0 F0 F H M) (hp : H p = some (keysO p d)) (hd : Rd H d (.dT (dictK f ws))) (k : ∀ q bs F' H', Sep io H0 F0 F' H' ((q, .is (.lst (bs.map V.ref))) :: M) → Evl.Ex F F' → KeysAt F' ws bs → Q (.ref q) H') : rListK [.ref p] H Q :=
  ⟨p, d, _, rfl, hp, hd, fun q bs hq ks => by
    obtain ⟨F1, S1, e1, c1⟩ := S.adoptK ks
    exact k q bs F1 _ (S1.newM hq _) e1 c1⟩
def rListD : List V → Hp → VK → Prop := fun xs H Q => ∃ d kvs, xs = [V.ref d] ∧ Rd H d (.dT kvs) ∧ ∀ p bs, H p = none → IsKeys H kvs bs → Q (.ref p) (upd H p (.lst (bs.map V.ref)))
theorem cr_listD {X : Cx} (hc : X.calm = true) : CallR X (.type "list") rListD := call_list_dT hc
theorem s_listD (S : Sep io H0 F0 F H M) (hd : Rd H d (.dT (dictK f ws))) (k : ∀ q bs F' H', Sep io H0 F0 F' H' ((q, .is (.lst (bs.map V.ref))) :: M) → Evl.Ex F F' → KeysAt F' ws bs → Q (.ref q) H') : rListD [.ref d] H Q :=
  ⟨d, _, rfl, hd, fun q bs hq ks => by
    obtain ⟨F1, S1, e1, c1⟩ := S.adoptK ks
    exact k q bs F1 _ (S1.newM hq _) e1 c1⟩
theorem r_dget1 {td ty : TE} {σ : L2.St} (h : td σ H fun x H1 => ∃ a, x = .ref a ∧ IsD H1 a ∧ ty σ H1 fun y H2 => ∃ o, DGet H2 a y o ∧ Q (o.getD .non) H2) : tDGet1 td ty σ H Q := h
theorem r_dget2 {td ty tx : TE} {σ : L2.St} (h : td σ H fun x H1 => ∃ a, x = .ref a ∧ IsD H1 a ∧ ty σ H1 fun y H2 => tx σ H2 fun z H3 => ∃ o, DGet H3 a y o ∧ Q (o.getD z) H3) : tDGet2 td ty tx σ H Q := h
/-- what a dict tells, from now on alone -/
def WaysAt (F : Hp) (d : Addr) (ws : List (List Int × Int)) : Prop := ∃ od, F d = some (.frz od (.dT (waysK ws)))
theorem WaysAt.ex {F F' : Hp} {ws : List (List Int × Int)} (h : WaysAt F d ws) (e : Evl.Ex F F') : WaysAt F' d ws := by
  obtain ⟨od, h⟩ := h
  exact ⟨od, e _ _ h⟩
theorem WaysAt.rd {ws : List (List Int × Int)} (h : WaysAt F d ws) (S : Sep io H0 F0 F H M) : Rd H d (.dT (waysK ws)) := by
  obtain ⟨od, h⟩ := h
  exact rd_frz (S.fr _ _ h)
end
/-! ### fractions in lowest terms, of numbers of up to 8000 bits -/
def Big8 (i : Int) : Prop := i.natAbs < 2 ^ 8000
def gOf (f : Int × Int) : Int := ((Nat.gcd f.1.natAbs f.2.natAbs : Nat) : Int)
def lowF (f : Int × Int) : Int × Int := (f.1 / gOf f, f.2 / gOf f)
theorem gcd_step {a b : Int} (ha : 0 ≤ a) (hb : 0 < b) : Nat.gcd b.natAbs (a % b).natAbs = Nat.gcd a.natAbs b.natAbs := by
  obtain ⟨m, rfl⟩ := Int.eq_ofNat_of_zero_le ha
  obtain ⟨n, rfl⟩ := Int.eq_ofNat_of_zero_le (Int.le_of_lt hb)
  have e : ((m : Int) % (n : Int)).natAbs = m % n := by rw [← Int.natCast_emod]; rfl
  rw [e, Int.natAbs_natCast, Int.natAbs_natCast, Nat.gcd_comm m n, Nat.gcd_rec n m, Nat.gcd_comm]
theorem gOf_div {f : Int × Int} (h : 0 < f.2) (b : Big8 f.2) : 0 < gOf f ∧ (gOf f).natAbs.log2 < 9000 := by
  have p : 0 < f.2.natAbs := by omega
  have g1 : 0 < Nat.gcd f.1.natAbs f.2.natAbs := Nat.gcd_pos_of_pos_right _ p
  have g2 : Nat.gcd f.1.natAbs f.2.natAbs ≤ f.2.natAbs := Nat.gcd_le_right _ p
  unfold gOf Big8 at *
  refine ⟨by omega, ?_⟩
  rw [Int.natAbs_natCast]
  have h9 := PySem.Flt.log2_lt_of (by decide : 0 < 8000) (Nat.lt_of_le_of_lt g2 b)
  exact Nat.lt_trans h9 (by decide)
structure FrLow (f : Int × Int) : Prop where
  one : 0 ≤ f.1
  two : 0 < f.2
  cop : Nat.gcd f.1.natAbs f.2.natAbs = 1
theorem lowF_ok {f : Int × Int} (h1 : 0 ≤ f.1) (h2 : 0 < f.2) : FrLow (lowF f) := by
  obtain ⟨a, b⟩ := f
  obtain ⟨m, rfl⟩ := Int.eq_ofNat_of_zero_le h1
  obtain ⟨n, rfl⟩ := Int.eq_ofNat_of_zero_le (Int.le_of_lt h2)
  have np : 0 < n := by simp only at h2; omega
  have gp : 0 < Nat.gcd m n := Nat.gcd_pos_of_pos_right m np
  have gl : Nat.gcd m n ≤ n := Nat.gcd_le_right m np
  have e1 : (m : Int) / ((Nat.gcd m n : Nat) : Int) = ((m / Nat.gcd m n : Nat) : Int) := (Int.natCast_ediv _ _).symm
  have e2 : (n : Int) / ((Nat.gcd m n : Nat) : Int) = ((n / Nat.gcd m n : Nat) : Int) := (Int.natCast_ediv _ _).symm
  have p2 : 0 < n / Nat.gcd m n := Nat.div_pos gl gp
  unfold lowF gOf
  simp only [Int.natAbs_natCast]
  rw [e1, e2]
  exact ⟨Int.natCast_nonneg _, by show 0 < ((n / Nat.gcd m n : Nat) : Int); omega, Nat.gcd_div_gcd_div_gcd_of_pos_right np⟩
theorem lowF_scale {K a b : Int} (hK : 0 < K) : lowF (K * a, K * b) = lowF (a, b) := by
  unfold lowF gOf
  simp only
  have e : ((Nat.gcd (K * a).natAbs (K * b).natAbs : Nat) : Int) = K * ((Nat.gcd a.natAbs b.natAbs : Nat) : Int) := by
    rw [Int.natAbs_mul, Int.natAbs_mul, Nat.gcd_mul_left]
    push_cast
    rw [Int.natAbs_of_nonneg (Int.le_of_lt hK)]
  rw [e, Int.mul_ediv_mul_of_pos _ _ hK, Int.mul_ediv_mul_of_pos _ _ hK]
section
variable {κ : Type} [DecidableEq κ]
def sumW (F : κ → Int) (ws : List (κ × Int)) : Int := (ws.map fun p => F p.1 * p.2).sum
theorem sumW_map {F : κ → Int} {ws : List (κ × Int)} {k : κ} {v : Int} (nd : NdK ws) (h : hasA ws k = true) : sumW F (ws.map fun p => if p.1 = k then (p.1, v) else p) = sumW F ws - F k * getA ws k + F k * v := by
  induction ws with
  | nil => cases h
  | cons p r ih =>
    have nd' := List.nodup_cons.mp nd
    unfold sumW at *
    rw [List.map_cons, List.map_cons, List.sum_cons, List.map_cons, List.sum_cons, getA_cons]
    by_cases e : p.1 = k
    · rw [if_pos e, if_pos e]
      have same : (r.map fun q => if q.1 = k then (q.1, v) else q) = r := by
        conv => rhs; rw [← List.map_id r]
        refine List.map_congr_left fun q hq => ?_
        rw [if_neg fun z : q.1 = k => nd'.1 (by show p.1 ∈ _; rw [e, ← z]; exact List.mem_map_of_mem hq)]
        rfl
      rw [same]
      simp only [e]
      omega
    · rw [if_neg e, if_neg e]
      rw [hasA_cons, decide_eq_false e, Bool.false_or] at h
      have := ih nd'.2 h
      omega
theorem sumW_add {F : κ → Int} {ws : List (κ × Int)} {k : κ} {c : Int} (nd : NdK ws) : sumW F (addA ws k c) = sumW F ws + F k * c := by
  unfold addA
  by_cases h : hasA ws k = true
  · rw [if_pos h, sumW_map nd h, Int.mul_add]
    omega
  · rw [if_neg h, getA_not ws k (by simpa using h)]
    unfold sumW
    rw [List.map_append, sum_app]
    simp
theorem tally_W (F : κ → Int) (xs : List (κ × Int)) : sumW F (tally xs) = (xs.map fun p => F p.1 * p.2).sum := by
  have key : ∀ (ys : List (κ × Int)) (ws : List (κ × Int)), NdK ws → sumW F (ys.foldl (fun ws p => addA ws p.1 p.2) ws) = sumW F ws + (ys.map fun p => F p.1 * p.2).sum := by
    intro ys
    induction ys with
    | nil => intro ws _; simp
    | cons p r ih =>
      intro ws nd
      rw [List.foldl_cons, ih _ (nd_add nd), sumW_add nd, List.map_cons, List.sum_cons]
      omega
  have := key xs [] List.nodup_nil
  rw [show sumW F ([] : List (κ × Int)) = 0 from rfl, Int.zero_add] at this
  exact this
end
/-! ### a round by draws -/
section
variable {many : Int} {ties : List (Int × Int)} {here : List Int}
/-- those left that are tied to one left -/
def connL (ties : List (Int × Int)) (here : List Int) : List Int := here.filter fun h => !(nbL ties here h).isEmpty
def leftG (ties : List (Int × Int)) (here : List Int) (g : Int → Int) : List Int := behind here (leastOf ties here g) (outBy ties here (leastOf ties here g))
theorem conn_mem (u : UpT ties) {h : Int} : h ∈ connL ties here ↔ nbL ties here h ≠ [] := by
  unfold connL
  rw [List.mem_filter]
  constructor
  · rintro ⟨_, h2⟩ e
    rw [e] at h2
    cases h2
  · intro hn
    refine ⟨?_, by cases e : nbL ties here h with | nil => exact absurd e hn | cons _ _ => rfl⟩
    cases e : nbL ties here h with
    | nil => exact absurd e hn
    | cons o r => exact ((nbL_mem u).mp (by rw [e]; exact List.mem_cons_self)).1
theorem nbL_conn (u : UpT ties) {h o : Int} (ho : o ∈ nbL ties here h) : h ∈ connL ties here ∧ o ∈ connL ties here := by
  have m := (nbL_mem u).mp ho
  refine ⟨(conn_mem u).mpr fun e => (by rw [e] at ho; cases ho), (conn_mem u).mpr fun e => ?_⟩
  have : h ∈ nbL ties here o := (nbL_mem u).mpr ⟨m.2.1, m.1, m.2.2.symm⟩
  rw [e] at this
  cases this
theorem least_only (u : UpT ties) {g g' : Int → Int} (hg : ∀ k ∈ connL ties here, g k = g' k) : leastOf ties here g = leastOf ties here g' := by
  unfold leastOf
  refine List.filter_congr fun h hh => ?_
  rw [Bool.eq_iff_iff, List.all_eq_true, List.all_eq_true]
  have key : ∀ o ∈ nbL ties here h, decide (g h < g o) = decide (g' h < g' o) := fun o ho => by
    obtain ⟨c1, c2⟩ := nbL_conn u ho
    rw [hg h c1, hg o c2]
  exact ⟨fun z o ho => by rw [← key o ho]; exact z o ho, fun z o ho => by rw [key o ho]; exact z o ho⟩
theorem left_only (u : UpT ties) (k : List Int) : OnlyS (connL ties here) fun g => decide (leftG ties here g = k) := fun g g' hg => by
  show decide (leftG ties here g = k) = decide (leftG ties here g' = k)
  unfold leftG
  rw [least_only u hg]
/-- the choices: those tied to one left draw any number, the others nought -/
def chC (ties : List (Int × Int)) (here : List Int) (sides : Int) : Int → List Int := fun h => if (nbL ties here h).isEmpty = true then [0] else rgI sides
theorem sorted_same : ∀ {a b : List Int}, a.Pairwise (· < ·) → b.Pairwise (· < ·) → (∀ x, x ∈ a ↔ x ∈ b) → a = b
  | [], [], _, _, _ => rfl
  | [], y :: b, _, _, h => absurd ((h y).mpr List.mem_cons_self) (by simp)
  | x :: a, [], _, _, h => absurd ((h x).mp List.mem_cons_self) (by simp)
  | x :: a, y :: b, ha, hb, h => by
    obtain ⟨a1, a2⟩ := List.pairwise_cons.mp ha
    obtain ⟨b1, b2⟩ := List.pairwise_cons.mp hb
    have e : x = y := by
      rcases List.mem_cons.mp ((h x).mp List.mem_cons_self) with q | q
      · exact q
      · rcases List.mem_cons.mp ((h y).mpr List.mem_cons_self) with q2 | q2
        · exact q2.symm
        · have := b1 x q
          have := a1 y q2
          omega
    subst e
    congr 1
    refine sorted_same a2 b2 fun z => ⟨fun hz => ?_, fun hz => ?_⟩
    · have := a1 z hz
      rcases List.mem_cons.mp ((h z).mp (List.mem_cons_of_mem _ hz)) with q | q
      · omega
      · exact q
    · have := b1 z hz
      rcases List.mem_cons.mp ((h z).mpr (List.mem_cons_of_mem _ hz)) with q | q
      · omega
      · exact q
theorem len_split {α : Type} (p : α → Bool) : ∀ l : List α, l.length = (l.filter p).length + (l.filter fun x => !p x).length
  | [] => rfl
  | x :: r => by
    have := len_split p r
    rw [List.filter_cons, List.filter_cons, List.length_cons]
    cases p x
    · simp
      omega
    · simp
      omega
theorem fac_pow {S : List Int} {C : Int → List Int} {m : Int} : ∀ (hs : List Int), (∀ h ∈ hs, h ∉ S → ((C h).length : Int) = m) → facS S C hs = m ^ (hs.filter fun h => !decide (h ∈ S)).length
  | [], _ => by
    show (1 : Int) = m ^ 0
    rw [Int.pow_zero]
  | a :: hs, h => by
    have ih := fac_pow hs fun x hx => h x (List.mem_cons_of_mem _ hx)
    unfold facS at *
    rw [List.foldr_cons, List.filter_cons]
    by_cases e : a ∈ S
    · rw [if_pos e, ih]
      simp [e]
    · rw [if_neg e, ih, h a List.mem_cons_self e]
      simp [e, Int.pow_succ, Int.mul_comm]
theorem gRow_rg {row : List Int} {h : Int} (h0 : 0 ≤ h) (h1 : h < many) : gRow (rgI many) row h = rowF row h := by
  unfold gRow rowF
  congr 1
  have hi : h.toNat < (rgI many).length := by rw [rgI_len]; omega
  have e : (rgI many)[h.toNat] = h := by
    have := rgI_get (n := many) (i := h.toNat) (by omega)
    rw [List.getElem?_eq_getElem hi] at this
    have := Option.some.inj this
    omega
  have := (rgI_nd many).idxOf_getElem (i := h.toNat) (h := hi)
  rw [e] at this
  exact this
/-- how many rows of draws of all houses choose so that k is left: those tied to no one left as often as they may draw -/
theorem ways_cnt {sides : Int} {P : (Int → Int) → Bool} (u : UpT ties) (hs : 0 ≤ sides) (up : here.Pairwise (· < ·)) (sub : ∀ h ∈ here, 0 ≤ h ∧ h < many) (m0 : 0 ≤ many) (hP : OnlyS (connL ties here) P) :
    sides ^ ((rgI many).filter fun h => (nbL ties here h).isEmpty).length * cntR (fun r => P (rowF r)) (rowsC (chC ties here sides) (rgI many))
      = sides ^ (many.toNat - here.length) * cntR (fun r => P (gRow here r)) (rowsC (fun _ => rgI sides) here) := by
  have cm : ∀ h, h ∈ connL ties here ↔ nbL ties here h ≠ [] := fun h => conn_mem u
  have em : ∀ h, (nbL ties here h).isEmpty = !decide (h ∈ connL ties here) := fun h => by
    cases e : nbL ties here h with
    | nil => rw [decide_eq_false fun z => (cm h).mp z e]; rfl
    | cons x r => rw [decide_eq_true ((cm h).mpr (by rw [e]; exact List.cons_ne_nil _ _))]; rfl
  have csub : ∀ h ∈ connL ties here, h ∈ here := fun h hh => (List.mem_filter.mp hh).1
  have e1 : (fun r => P (rowF r)) = fun r => P (gRow (rgI many) r) := by
    funext r
    refine hP _ _ fun h hh => ?_
    have := sub h (csub h hh)
    exact (gRow_rg this.1 this.2).symm
  have n1 : here.Nodup := up.imp fun q => Int.ne_of_lt q
  rw [e1, cnt_rows (P := P) (rgI_nd many), cnt_rows (P := P) n1, NF_filter hP (rgI many), NF_filter hP here]
  have f1 : facS (connL ties here) (chC ties here sides) (rgI many) = 1 ^ ((rgI many).filter fun h => !decide (h ∈ connL ties here)).length := fac_pow _ fun h _ hn => by
    unfold chC
    rw [if_pos (by rw [em, decide_eq_false hn]; rfl)]
    rfl
  have f2 : facS (connL ties here) (fun _ => rgI sides) here = sides ^ (here.filter fun h => !decide (h ∈ connL ties here)).length := fac_pow _ fun h _ hn => by
    rw [rgI_len]
    omega
  have same : ((rgI many).filter fun h => decide (h ∈ connL ties here)) = here.filter fun h => decide (h ∈ connL ties here) := sorted_same ((rgI_up many).filter _) (up.filter _) fun x => by
    rw [List.mem_filter, List.mem_filter]
    constructor
    · rintro ⟨_, z⟩
      exact ⟨csub x (of_decide_eq_true z), z⟩
    · rintro ⟨z, y⟩
      exact ⟨rgI_mem.mpr (sub x z), y⟩
  rw [f1, f2, same, Int.one_pow, Int.one_mul]
  have eN : NF (here.filter fun h => decide (h ∈ connL ties here)) (chC ties here sides) (gRow (rgI many) []) P = NF (here.filter fun h => decide (h ∈ connL ties here)) (fun _ => rgI sides) (gRow here []) P := by
    rw [NF_choices (S := []) (C := chC ties here sides) (C' := fun _ => rgI sides) _ _ fun h hh => by
      unfold chC
      rw [if_neg (by rw [em, (List.mem_filter.mp hh).2]; decide)]]
    refine NF_congr hP _ _ _ _ fun h hh hn => absurd (List.mem_filter.mpr ⟨csub h hh, decide_eq_true hh⟩) hn
  rw [eN, ← Int.mul_assoc, ← Int.pow_add]
  congr 2
  have en : ((rgI many).filter fun h => (nbL ties here h).isEmpty) = (rgI many).filter fun h => !decide (h ∈ connL ties here) := List.filter_congr fun h _ => em h
  rw [en]
  have c1 := len_split (fun h => decide (h ∈ connL ties here)) (rgI many)
  have c2 := len_split (fun h => decide (h ∈ connL ties here)) here
  rw [same, rgI_len] at c1
  have hl : here.length ≤ many.toNat := by
    have := len_le_of_sub (l := here) (m := rgI many) n1 fun x hx => rgI_mem.mpr (sub x hx)
    rwa [rgI_len] at this
  omega
end
/-! ### tuples of numbers, in a list -/
def TupL (F : Hp) (cs : List Addr) (ts : List (List Int)) : Prop := Paired (fun c (s : List Int) => F c = some (.tup (s.map V.int))) cs ts
section
variable {F F' : Hp} {cs ds : List Addr} {ts us : List (List Int)}
theorem TupL.ex (h : TupL F cs ts) (e : Evl.Ex F F') : TupL F' cs ts := by
  induction h with
  | nil => exact .nil
  | cons h r ih => exact .cons (e _ _ h) ih
theorem TupL.app (h : TupL F cs ts) (g : TupL F ds us) : TupL F (cs ++ ds) (ts ++ us) := by
  induction h with
  | nil => exact g
  | cons h r ih => exact .cons h ih
theorem TupL.snoc {c : Addr} {s : List Int} (h : TupL F cs ts) (g : F c = some (.tup (s.map V.int))) : TupL F (cs ++ [c]) (ts ++ [s]) := h.app (.cons g .nil)
theorem TupL.len (h : TupL F cs ts) : cs.length = ts.length := by
  induction h with
  | nil => rfl
  | cons h r ih => rw [List.length_cons, List.length_cons, ih]
theorem TupL.at' (h : TupL F cs ts) : ∀ {i : Nat} {s : List Int}, ts[i]? = some s → ∃ c, cs[i]? = some c ∧ F c = some (.tup (s.map V.int)) := by
  induction h with
  | nil => intro i s e; simp at e
  | cons h r ih =>
    intro i s e
    cases i with
    | zero => cases e; exact ⟨_, rfl, h⟩
    | succ i => exact ih (i := i) (by simpa using e)
theorem TupL.drop (h : TupL F cs ts) : ∀ n : Nat, TupL F (cs.drop n) (ts.drop n) := by
  induction h with
  | nil => intro n; simp; exact .nil
  | cons h r ih =>
    intro n
    cases n with
    | zero => exact .cons h r
    | succ n => exact ih n
theorem TupL.take (h : TupL F cs ts) : ∀ n : Nat, TupL F (cs.take n) (ts.take n) := by
  induction h with
  | nil => intro n; simp; exact .nil
  | cons h r ih =>
    intro n
    cases n with
    | zero => exact .nil
    | succ n => exact .cons h (ih n)
theorem KeysAt.tupL {α : Type} : ∀ {ws : List (List Int × α)} {bs : List Addr}, KeysAt F ws bs → TupL F bs (ws.map (·.1)) := by
  intro ws bs h
  induction h with
  | nil => exact .nil
  | cons h r ih => exact .cons h ih
theorem srcTs {io : List Addr} {H0 : Hp} {K : PySem.W.Frag} {F0 : Hp} {b : Addr} (h : SqL K F b (cs.map V.ref)) (hl : TupL F cs ts) : Src (Itl K b) io H0 F0 F [] ts (fun s x F' => ∃ q, x = .ref q ∧ F' q = some (.tup (s.map V.int))) := by
  have ll := hl.len
  refine ⟨_, _, (show (cs.map V.ref).length = ts.length by rw [List.length_map]; exact ll) ▸ walk_list (xs := cs.map V.ref), fun F' H' M' S e _ => S.rdL e h, fun i a x F' H' H'' M' ha S e _ y => ?_⟩
  obtain ⟨rfl, y⟩ := y
  obtain ⟨q, h1, h2⟩ := hl.at' ha
  rw [List.getElem?_map, h1] at y
  cases y
  exact ⟨F', S, Evl.Ex.refl _, q, rfl, e _ _ h2⟩
end
/-! ### the same share, of all draws and of those left alone -/
theorem rowsK_eq {L : List Int} : ∀ (a b : List Int) (rows : List (List Int)), a.length = b.length → a.foldl (fun rows h => rows.flatMap fun row => (fun _ : Int => L) h |>.map fun x => row ++ [x]) rows = b.foldl (fun rows h => rows.flatMap fun row => (fun _ : Int => L) h |>.map fun x => row ++ [x]) rows
  | [], [], rows, _ => rfl
  | x :: a, y :: b, rows, h => by
    rw [List.foldl_cons, List.foldl_cons]
    exact rowsK_eq a b _ (by simpa using h)
  | [], _ :: _, _, h => by cases h
  | _ :: _, [], _, h => by cases h
/-! ### enumerate of a tuple -/
def IteT (K : PySem.W.Frag) (b : Addr) : It :=
  ⟨fun i H => ∃ (ys : List V) (y : V), SqT K H b ys ∧ ys[i]? = some y,
    fun i H v H' => ∃ T y, v = .ref T ∧ H T = none ∧ H' = upd H T (.tup [.int (i : Nat), y]) ∧ ∀ ys, SqT K H b ys → ys[i]? = some y,
    fun i H => ∃ ys : List V, SqT K H b ys ∧ ys.length = i⟩
def EnSt (e it b : Addr) (i : Nat) (h : Heap) : Prop := (∃ old, IsEnum h e it ((i : Nat) : Int) old) ∧ h.IsTupleIter it b i ∧ e ≠ it ∧ b ≠ it ∧ e ≠ b
theorem turn_enT {P : Program} {w : World} {K : PySem.W.Frag} {elts : List Expr} {kk : Nat} {tpos : Pos} (b e it : Addr) :
    Turn P w K (.Tuple elts kk tpos) (IteT K b) [e, it] e (EnSt e it b) where
  mem := List.mem_cons_self
  obj := fun i h st c hc => by
    obtain ⟨⟨old, s1⟩, ⟨o2, e2, _, d2⟩, _⟩ := st
    simp only [List.mem_cons, List.not_mem_nil, or_false] at hc
    rcases hc with rfl | rfl
    · exact ⟨_, s1, fun v q => nomatch q⟩
    · exact ⟨o2, e2, fun v q => by rw [d2] at q; cases q⟩
  keep := fun i h h' st k => by
    obtain ⟨⟨old, s1⟩, s2, s3⟩ := st
    exact ⟨⟨old, k e (by simp) _ s1⟩, s2.at fun o q => k it (by simp) o q, s3⟩
  item := by
    intro X hP hw hK hc i pins s σ H E I hf st hg
    subst hP hw hK
    obtain ⟨⟨old, s1⟩, s2, ne1, ne2, ne3⟩ := st
    obtain ⟨ys, y, q1, ey⟩ := hg
    obtain ⟨ws, r2, l2, _⟩ := I.tuple q1
    obtain ⟨v, hv, rv⟩ := r2.get ey
    have hv' : ws.toArray[i]? = some v := by simpa using hv
    have elt : e < s.heap.objs.size := Heap.lt_size s1
    have ilt : it < s.heap.objs.size := by obtain ⟨_, q, _⟩ := s2; exact Heap.lt_size q
    have d2 := Draws.tuple (prog := X.prog) (w := X.w) (A := X.A.in1) (I.ok.hd hc) it b ne2 ws.toArray
    refine wpAny_pyNext_enum_itemD d2 s1 ⟨s2, l2⟩ (by have := (List.getElem?_eq_some_iff.mp hv).1; simpa using this) ne1 (by simp [ne1, ne3]) fun x2 h' tk p2 g1 g2 g3 g4 g5 => ?_
    obtain rfl : v = x2 := by rw [hv'] at p2; exact Option.some.inj p2
    refine ⟨_, rfl, wpAny_letOwnedTupleGo_enum (s := { s with heap := h', toks := tk + 1 }) g1 fun h2 g8 sb => ?_⟩
    have tup : h2.get? s.heap.objs.size = some { cls := .type "tuple", data := .seq #[.int i tk, v] } := (sb.2 _ (Nat.ne_of_gt elt)).trans g3
    have good : ObjOk X.prog X.w (upd H s.heap.objs.size (.tup [.int (i : Nat), y])) h2 s.heap.objs.size (.tup [.int (i : Nat), y]) := ⟨by show 2 ≤ sizeLine; decide, [.int i tk, v], .cons ⟨_, rfl⟩ (.cons rv .nil), ⟨_, tup, rfl, _, rfl⟩⟩
    have kept : ∀ c o, c ∉ [e, it] → s.heap.get? c = some o → h2.get? c = some o := fun c o hb q => by
      simp only [List.mem_cons, List.not_mem_nil, or_false, not_or] at hb
      exact (sb.2 c hb.1).trans (g5 c o hb.1 hb.2 q)
    have J : Inv X pins σ (upd H s.heap.objs.size (.tup [.int (i : Nat), y])) { s with heap := h2, toks := tk + 1 } := I.turnedNew (t' := tk + 1) (ch := [e, it]) (fun c o hb q => kept c o hb q) hf (Nat.le_refl _) good
    refine ⟨.ref s.heap.objs.size, _, J, rfl, ⟨_, y, rfl, I.hok.fresh (Nat.le_refl _), rfl, fun l hl => by rw [I.tuple_inj hl q1]; exact ey⟩, ⟨⟨v, ?_⟩, ?_, ne1, ne2, ne3⟩, fun c hcm => ?_⟩
    · have ei : ((i + 1 : Nat) : Int) = (i : Int) + 1 := by omega
      rw [ei]
      exact g8
    · exact g2.1.at fun o q => (sb.2 _ (Ne.symm ne1)).trans q
    · have lt : c < s.heap.objs.size := by
        simp only [List.mem_cons, List.not_mem_nil, or_false] at hcm
        rcases hcm with rfl | rfl
        · exact elt
        · exact ilt
      rw [upd_ne (Nat.ne_of_lt lt)]
      exact (hf c hcm).1
  done := by
    intro X hP hw hK hc i pins s σ H E I hf st hg
    subst hP hw hK
    obtain ⟨⟨old, s1⟩, s2, ne1, ne2, ne3⟩ := st
    obtain ⟨ys, q1, hend⟩ := hg
    obtain ⟨ws, r2, l2, _⟩ := I.tuple q1
    have n2 := r2.length
    have d2 := Draws.tuple (prog := X.prog) (w := X.w) (A := X.A.in1) (I.ok.hd hc) it b ne2 ws.toArray
    have en : ws.toArray.size = i := by rw [List.size_toArray]; omega
    refine wpAny_pyNext_enum_endD d2 s1 (by rw [en]; exact ⟨s2, l2⟩) fun h' hk => ?_
    exact ⟨rfl, I.turnedL (t' := s.toks) (ch := [e, it]) (fun c o hb q => by
      simp only [List.mem_cons, List.not_mem_nil, or_false, not_or] at hb
      exact hk c o hb.2 q) hf⟩
  self := fun A i s Q E st h => by
    obtain ⟨⟨old, s1⟩, _⟩ := st
    exact wpAny_pyIter_enum s1 h
section
variable {prog : Program} {w : World} {A : Around} {E : Value → Shared → Prop} {s : Shared}
abbrev enTHp (h : Heap) (t : Addr) : Heap := (h.push { cls := .type "tuple_iterator", data := .fields #[.ref t, .int 0 0] }).push { cls := .type "enumerate", data := .fields #[.none, .bool false, .ref h.objs.size, rawInt 0, .none, .none] }
set_option maxHeartbeats 4000000 in
theorem enT_new (t : Addr) (ys : Array Value) :
    Meets (Builtin.«enumerate.__new__» ⟨[.type "enumerate", .ref t], []⟩) (fun _ R s => s.heap.IsTuple t ys ∧ R (.ok (.ret (.ref (s.heap.objs.size + 1)))) { s with heap := enTHp s.heap t }) :=
  .of_wp fun prog w A R s h => by
    obtain ⟨hp, g, d, tk, os⟩ := s
    obtain ⟨a1, h⟩ := h
    have sub := sub_enumerate
    have b1 : Heap.IsTuple (Shared.heap ⟨hp, g, d, tk, os⟩) t ys := a1
    have fin : R (.ok (.ret (.ref (hp.push { cls := .type "tuple_iterator", data := .fields #[.ref t, .int 0 0] }).objs.size))) ⟨enTHp hp t, g, d, tk, os⟩ := by
      rw [Heap.size_push]
      exact h
    wp_walk using wpAny_pyIter_tuple b1
    refine wpAny_stack_any fun st => wpAny_pure ?_
    split
    · rename_i c _ _ _ _ _
      cases (c == Value.type "enumerate") <;>
      · wp_walk using wpAny_pyIter_tuple b1
        exact ⟨_, rfl, fin⟩
    · wp_walk using wpAny_pyIter_tuple b1
      exact ⟨_, rfl, fin⟩
theorem call_enT {t : Addr} {ys : Array Value} {Q : Value → Shared → Prop} (ht : s.heap.IsTuple t ys)
    (h : EnSt (s.heap.objs.size + 1) s.heap.objs.size t 0 (enTHp s.heap t) → (∀ c o, s.heap.get? c = some o → (enTHp s.heap t).get? c = some o) → Q (.ref (s.heap.objs.size + 1)) { s with heap := enTHp s.heap t }) :
    wpAny (model prog w) A (call (.type "enumerate") [.ref t]) Q E s := by
  refine callType_new F.called_enumerate (by decide) (F.typeCall_enumerate_1 _) (F.newCall_enumerate_1 _) (fun obj => F.args_object_init_2 obj _) F.entry_enumerate_new (enT_new t ys) ⟨ht, ?_⟩
  have tlt : t < s.heap.objs.size := by obtain ⟨_, q, _⟩ := ht; exact Heap.lt_size q
  have at4 : ∀ (h : Heap) (o : Obj) (n : Nat), h.objs.size = n → o.isFreed = false → (h.push o).get? n = some o := fun h o n e f => by rw [← e]; exact Heap.get?_push_size _ f
  have up : ∀ (h : Heap) (o x : Obj) (c : Addr), h.get? c = some x → (h.push o).get? c = some x := fun h o x c e => Heap.get?_push_of_some _ e
  have e1 : IsEnum (enTHp s.heap t) (s.heap.objs.size + 1) s.heap.objs.size ((0 : Nat) : Int) .none := at4 _ _ _ (by simp only [Heap.size_push]) rfl
  have fin : EnSt (s.heap.objs.size + 1) s.heap.objs.size t 0 (enTHp s.heap t) := by
    refine ⟨⟨.none, e1⟩, ⟨_, up _ _ _ _ (at4 _ _ _ rfl rfl), rfl, rfl⟩, Nat.succ_ne_self _, Nat.ne_of_lt tlt, ?_⟩
    intro z
    rw [← z] at tlt
    exact absurd tlt (Nat.not_lt.mpr (Nat.le_succ _))
  exact ⟨⟨_, e1, rfl⟩, h fin fun c o e => up _ _ _ _ (up _ _ _ _ e)⟩
end
def iEnT (K : PySem.W.Frag) (ta : TA) : TI := fun σ H R => ta σ H fun vs H1 => ∃ b ys, vs = [.ref b] ∧ SqT K H1 b ys ∧ R (IteT K b) H1
theorem r_iEnT {K : PySem.W.Frag} {ta : TA} {σ : List (Option V)} {H : Hp} {R : It → Hp → Prop} (h : ta σ H fun vs H1 => ∃ b ys, vs = [.ref b] ∧ SqT K H1 b ys ∧ R (IteT K b) H1) : iEnT K ta σ H R := h
theorem pi_enT {X : Cx} {e : Expr} {ta : TA} {p pos tpos : Pos} {elts : List Expr} {kk : Nat} (hg : Gl X "enumerate") (hm : X.mg "enumerate" = none) (ha : PA X [e] ta)
    (st1 : starEach [e] X.env = [(false, eval e X.env)] := by rfl) : PI X (.Tuple elts kk tpos) (.Call (.Name "enumerate" p) [e] [] pos) (iEnT X.K ta) := by
  refine ⟨fun pins s σ H R I h => ?_⟩
  refine Call_ (ld_blt I hg hm PyProof.Rows.boot_enumerate (PyProof.Rows.callWith_type1 (thn (ha.run pos pins s σ H _ I h) fun us s1 hh => ?_) st1 rfl))
  obtain ⟨vs, H1, I1, r1, b, ys, ex, q1, q⟩ := hh
  subst ex
  match us, r1 with
  | [_], .cons rb .nil =>
    cases rb
    obtain ⟨u2, v2, l2, _⟩ := I1.tuple q1
    refine call_enT l2 fun st hk => wpAny_pyIter_enum st.1.choose_spec ?_
    have I2 : Inv X pins σ H1 { s1 with heap := enTHp s1.heap b } := I1.kept (t' := s1.toks) hk
    refine ⟨s1.heap.objs.size + 1, [s1.heap.objs.size + 1, s1.heap.objs.size], _, _, H1, rfl, I2, turn_enT b (s1.heap.objs.size + 1) s1.heap.objs.size, st, fun c hcm => ?_, q⟩
    have fr : ∀ c : Nat, s1.heap.objs.size ≤ c → FpOk X pins H1 c := fun c hle => I1.fpOk hle (I1.hok.fresh hle)
    simp only [List.mem_cons, List.not_mem_nil, or_false] at hcm
    rcases hcm with rfl | rfl
    · exact fr _ (Nat.le_succ _)
    · exact fr _ (Nat.le_refl _)
section
variable {io : List Addr} {H0 F0 F : Hp} {K : PySem.W.Frag} {b : Addr} {ys : List V}
theorem walk_enT : Walk (IteT K b) ys.length (fun H => SqT K H b ys) (fun i H v H' => ∃ T x, v = .ref T ∧ H T = none ∧ H' = upd H T (.tup [.int (i : Nat), x]) ∧ ys[i]? = some x) :=
  ⟨fun i H hi q => ⟨ys, ys[i], q, List.getElem?_eq_getElem hi⟩, fun H q => ⟨ys, q, rfl⟩, fun i H v H' hi q y => by
    obtain ⟨T, x, e1, e2, e3, e4⟩ := y
    exact ⟨T, x, e1, e2, e3, e4 ys q⟩⟩
theorem srcET (h : SqT K F b ys) : Src (IteT K b) io H0 F0 F [] ys.zipIdx (fun a x F' => ∃ t, x = .ref t ∧ F' t = some (.tup [.int (a.2 : Int), a.1])) := by
  refine ⟨_, _, by rw [List.length_zipIdx]; exact walk_enT, fun F' H' M' S e _ => S.rdT e h, fun i a x F' H' H'' M' ha S e _ y => ?_⟩
  obtain ⟨t, x1, rfl, ht, rfl, e1⟩ := y
  obtain ⟨a1, a2⟩ := a
  rw [List.getElem?_zipIdx, e1] at ha
  cases ha
  exact ⟨_, S.newF ht _, Evl.Ex.new (S.fnone ht), t, rfl, by rw [Nat.zero_add]; exact upd_same⟩
end
theorem r_iSeq {K : PySem.W.Frag} {te : TE} {σ : L2.St} {H : Hp} {R : It → Hp → Prop} (h : te σ H fun x H1 => ∃ a, x = .ref a ∧ (((∃ xs, SqL K H1 a xs) ∧ R (Itl K a) H1) ∨ ((∃ xs, SqT K H1 a xs) ∧ R (Itt K a) H1))) : iSeq K te σ H R := h
/-- a list or a tuple -/
def SqE (K : PySem.W.Frag) (F : Hp) (a : Addr) (xs : List V) : Prop := SqL K F a xs ∨ SqT K F a xs
theorem exE {K : PySem.W.Frag} {F F' : Hp} {a : Addr} {xs : List V} (e : Evl.Ex F F') (h : SqE K F a xs) : SqE K F' a xs := h.imp (Evl.ex_l e) (Evl.ex_t e)
theorem srcIT {K : PySem.W.Frag} {io : List Addr} {H0 F0 F : Hp} {b : Addr} {ns : List Int} (h : SqT K F b (ns.map V.int)) : Src (Itt K b) io H0 F0 F [] ns (fun a x _ => x = .int a) := (srcVT h).map
theorem forSeq {K : PySem.W.Frag} {io : List Addr} {H0 F0 F H : Hp} {M : List (Addr × Cel)} {u : Addr} {ns : List Int} {R : It → Hp → Prop} (S : Sep io H0 F0 F H M) (h : SqE K F u (ns.map V.int)) (k : ∀ J, Src J io H0 F0 F [] ns (fun a x _ => x = .int a) → R J H) :
    ((∃ xs, SqL K H u xs) ∧ R (Itl K u) H) ∨ ((∃ xs, SqT K H u xs) ∧ R (Itt K u) H) := by
  rcases h with h | h
  · exact .inl ⟨⟨_, Evl.ex_l S.fr h⟩, k _ (srcI h)⟩
  · exact .inr ⟨⟨_, Evl.ex_t S.fr h⟩, k _ (srcIT h)⟩
theorem forSeqW {K : PySem.W.Frag} {io : List Addr} {H0 F0 F H : Hp} {M : List (Addr × Cel)} {u : Addr} {ns : List Int} {g : TG} {tb : TS} {D : Ends} {σ : L2.St} (S : Sep io H0 F0 F H M) (h : SqE K F u (ns.map V.int)) (k : ∀ J, Src J io H0 F0 F [] ns (fun a x _ => x = .int a) → ForW J D g tb σ H) :
    ((∃ xs, SqL K H u xs) ∧ ForW (Itl K u) D g tb σ H) ∨ ((∃ xs, SqT K H u xs) ∧ ForW (Itt K u) D g tb σ H) := forSeq (R := fun J H => ForW J D g tb σ H) S h k
/-! ### all sets of some houses -/
def subs : List Int → List (List Int)
  | [] => [[]]
  | x :: r => (subs r).map (fun s => x :: s) ++ subs r
theorem subs_len : ∀ l : List Int, (subs l).length = 2 ^ l.length
  | [] => rfl
  | x :: r => by
    rw [subs, List.length_append, List.length_map, subs_len r, List.length_cons, Nat.pow_succ]
    omega
theorem subs_mem : ∀ {l s : List Int}, s ∈ subs l ↔ s.Sublist l
  | [], s => by
    rw [subs, List.mem_singleton, List.sublist_nil]
  | x :: r, s => by
    rw [subs, List.mem_append, List.mem_map, List.sublist_cons_iff]
    constructor
    · rintro (⟨t, ht, rfl⟩ | h)
      · exact .inr ⟨t, rfl, subs_mem.mp ht⟩
      · exact .inl (subs_mem.mp h)
    · rintro (h | ⟨t, rfl, ht⟩)
      · exact .inr (subs_mem.mpr h)
      · exact .inl ⟨t, subs_mem.mpr ht, rfl⟩
theorem subs_nd : ∀ {l : List Int}, l.Nodup → (subs l).Nodup
  | [], _ => by decide
  | x :: r, h => by
    obtain ⟨h1, h2⟩ := List.nodup_cons.mp h
    rw [subs, List.nodup_append]
    refine ⟨?_, subs_nd h2, ?_⟩
    · refine List.Pairwise.map _ (fun a b q z => q ?_) (subs_nd h2)
      exact (List.cons.inj z).2
    · intro a ha b hb e
      obtain ⟨t, _, rfl⟩ := List.mem_map.mp ha
      exact h1 ((subs_mem.mp hb).subset (by rw [← e]; exact List.mem_cons_self))
theorem perm_sum {a b : List Int} (h : a.Perm b) : a.sum = b.sum := by
  induction h with
  | nil => rfl
  | cons x _ ih => rw [List.sum_cons, List.sum_cons, ih]
  | swap x y l => rw [List.sum_cons, List.sum_cons, List.sum_cons, List.sum_cons]; omega
  | trans _ _ i1 i2 => exact i1.trans i2
section
variable {κ : Type} [DecidableEq κ]
theorem sum_zero {f : κ → Int} : ∀ {l : List κ}, (∀ x ∈ l, f x = 0) → (l.map f).sum = 0
  | [], _ => rfl
  | x :: r, h => by rw [List.map_cons, List.sum_cons, h x List.mem_cons_self, sum_zero fun y hy => h y (List.mem_cons_of_mem _ hy)]; rfl
theorem sum_part (f : κ → Int) (p : κ → Bool) : ∀ l : List κ, (l.map f).sum = ((l.filter p).map f).sum + ((l.filter fun x => !p x).map f).sum
  | [] => rfl
  | x :: r => by
    rw [List.map_cons, List.sum_cons, sum_part f p r, List.filter_cons, List.filter_cons]
    cases p x
    · simp; omega
    · simp; omega
theorem sumU_sub {ks U : List κ} (nk : ks.Nodup) (sub : ∀ k ∈ ks, k ∈ U) (nu : U.Nodup) (g : κ → Int) (zero : ∀ S ∈ U, S ∉ ks → g S = 0) : (ks.map g).sum = (U.map g).sum := by
  rw [sum_part g (fun S => decide (S ∈ ks)) U, sum_zero (l := U.filter fun S => !decide (S ∈ ks)) fun S hS => ?_, Int.add_zero]
  · refine perm_sum (List.Perm.map g ?_)
    refine (List.perm_ext_iff_of_nodup nk (nu.sublist List.filter_sublist)).mpr fun a => ?_
    rw [List.mem_filter]
    exact ⟨fun h => ⟨sub a h, decide_eq_true h⟩, fun h => of_decide_eq_true h.2⟩
  · obtain ⟨h1, h2⟩ := List.mem_filter.mp hS
    exact zero S h1 (by simpa using h2)
theorem hasA_iff {ws : List (κ × Int)} {k : κ} : hasA ws k = true ↔ k ∈ ws.map (·.1) := by
  unfold hasA
  rw [List.any_eq_true, List.mem_map]
  exact ⟨fun ⟨p, h1, h2⟩ => ⟨p, h1, of_decide_eq_true h2⟩, fun ⟨p, h1, h2⟩ => ⟨p, h1, decide_eq_true h2⟩⟩
theorem getA_out {ws : List (κ × Int)} {k : κ} (h : k ∉ ws.map (·.1)) : getA ws k = 0 := by
  refine getA_not ws k ?_
  cases e : hasA ws k with
  | false => rfl
  | true => exact absurd (hasA_iff.mp e) h
theorem getA_in : ∀ {ws : List (κ × Int)} {p : κ × Int}, NdK ws → p ∈ ws → getA ws p.1 = p.2
  | q :: r, p, nd, h => by
    have nd' := List.nodup_cons.mp nd
    rw [getA_cons]
    rcases List.mem_cons.mp h with e | h
    · subst e; rw [if_pos rfl]
    · rw [if_neg fun z : q.1 = p.1 => nd'.1 (by show q.1 ∈ _; rw [z]; exact List.mem_map_of_mem h)]
      exact getA_in nd'.2 h
theorem sumU_get {ws : List (κ × Int)} {U : List κ} (nd : NdK ws) (sub : ∀ p ∈ ws, p.1 ∈ U) (nu : U.Nodup) (φ : κ → Int) : (ws.map fun p => p.2 * φ p.1).sum = (U.map fun S => getA ws S * φ S).sum := by
  have e : (ws.map fun p => p.2 * φ p.1) = (ws.map (·.1)).map fun S => getA ws S * φ S := by
    rw [List.map_map]
    refine List.map_congr_left fun p hp => ?_
    show p.2 * φ p.1 = getA ws p.1 * φ p.1
    rw [getA_in nd hp]
  rw [e]
  refine sumU_sub nd (fun k hk => ?_) nu _ fun S _ hS => by rw [getA_out hS, Int.zero_mul]
  obtain ⟨p, hp, rfl⟩ := List.mem_map.mp hk
  exact sub p hp
theorem get_sum : ∀ {ws : List (κ × Int)} {k : κ}, NdK ws → (ws.map fun p => if p.1 = k then p.2 else 0).sum = getA ws k
  | [], k, _ => rfl
  | p :: r, k, nd => by
    have nd' := List.nodup_cons.mp nd
    rw [List.map_cons, List.sum_cons, getA_cons, get_sum nd'.2]
    by_cases e : p.1 = k
    · rw [if_pos e, if_pos e, getA_out (by rw [← e]; exact nd'.1)]
      omega
    · rw [if_neg e, if_neg e]
      omega
end
/-! ### fractions -/
theorem lowF_eq {a b c d : Int} (hb : 0 < b) (hd : 0 < d) (h : a * d = c * b) : lowF (a, b) = lowF (c, d) := by
  rw [← lowF_scale (K := d) (a := a) (b := b) hd, ← lowF_scale (K := b) (a := c) (b := d) hb, Int.mul_comm d a, h, Int.mul_comm c b, Int.mul_comm d b]
def topS (i : Nat) : Stmt := PySem.Challenge.pw_fullapart_k33_none_left_behind_rounds.main.body.getD i (.Pass ⟨0, 0, 0, 0⟩)
abbrev s_near_left : Stmt := topS 2
abbrev s_least_of : Stmt := topS 3
abbrev s_out_by : Stmt := topS 4
abbrev s_left_behind : Stmt := topS 5
abbrev s_fraction_of : Stmt := topS 7
abbrev s_rows_of_draws : Stmt := topS 9
abbrev s_chosen_ways : Stmt := topS 10
abbrev s_ways_from : Stmt := topS 11
abbrev s_all_ways : Stmt := topS 12
abbrev s_ways_behind : Stmt := topS 13
abbrev s_chance_behind : Stmt := topS 14
abbrev s__law_blend : Stmt := topS 16
abbrev s__law_pot : Stmt := topS 17
abbrev s__law_pick : Stmt := topS 18
abbrev s__law_same : Stmt := topS 19
abbrev s__law_web : Stmt := topS 20
abbrev s__law_beside : Stmt := topS 21
abbrev s__law_lowest : Stmt := topS 22
abbrev s__law_draws : Stmt := topS 23
abbrev s__law_behind : Stmt := topS 24
abbrev s__law_moves : Stmt := topS 25
abbrev s__law_all_moves : Stmt := topS 26
abbrev s__law_due : Stmt := topS 27
abbrev s_law : Stmt := topS 28
theorem sc_near_left : FnScope ["web", "left", "near", "one", "other", "house"] ["web", "left"] (defScope s_near_left) := ⟨rfl, rfl, rfl, by decide +kernel, rfl, by decide +kernel, by decide +kernel⟩
theorem sc_least_of : FnScope ["near", "numbers", "least", "house", "others", "other"] ["near", "numbers"] (defScope s_least_of) := ⟨rfl, rfl, rfl, by decide +kernel, rfl, by decide +kernel, by decide +kernel⟩
theorem sc_out_by : FnScope ["near", "chosen", "inside", "out", "house", "others", "other"] ["near", "chosen"] (defScope s_out_by) := ⟨rfl, rfl, rfl, by decide +kernel, rfl, by decide +kernel, by decide +kernel⟩
theorem sc_left_behind : FnScope ["near", "chosen", "out", "decided", "house"] ["near", "chosen", "out"] (defScope s_left_behind) := ⟨rfl, rfl, rfl, by decide +kernel, rfl, by decide +kernel, by decide +kernel⟩
theorem sc_fraction_of : FnScope ["over", "under", "common"] ["over", "under"] (defScope s_fraction_of) := ⟨rfl, rfl, rfl, by decide +kernel, rfl, by decide +kernel, by decide +kernel⟩
theorem sc_rows_of_draws : FnScope ["web", "sides", "near", "rows", "house", "numbers", "row", "number"] ["web", "sides", "near"] (defScope s_rows_of_draws) := ⟨rfl, rfl, rfl, by decide +kernel, rfl, by decide +kernel, by decide +kernel⟩
theorem sc_chosen_ways : FnScope ["near", "rows", "ways", "numbers", "chosen"] ["near", "rows"] (defScope s_chosen_ways) := ⟨rfl, rfl, rfl, by decide +kernel, rfl, by decide +kernel, by decide +kernel⟩
theorem sc_ways_from : FnScope ["web", "sides", "here", "near", "alike", "house", "ways", "chosen", "count", "picked", "there"] ["web", "sides", "here"] (defScope s_ways_from) := ⟨rfl, rfl, rfl, by decide +kernel, rfl, by decide +kernel, by decide +kernel⟩
theorem sc_all_ways : FnScope ["web", "sides", "ways", "waiting", "here"] ["web", "sides"] (defScope s_all_ways) := ⟨rfl, rfl, rfl, by decide +kernel, rfl, by decide +kernel, by decide +kernel⟩
theorem sc_ways_behind : FnScope ["ways", "counts", "behind", "here", "count", "there", "more"] ["ways", "counts"] (defScope s_ways_behind) := ⟨rfl, rfl, rfl, by decide +kernel, rfl, by decide +kernel, by decide +kernel⟩
theorem sc_chance_behind : FnScope ["web", "sides", "rounds", "ways", "total", "counts", "under", "_"] ["web", "sides", "rounds"] (defScope s_chance_behind) := ⟨rfl, rfl, rfl, by decide +kernel, rfl, by decide +kernel, by decide +kernel⟩
theorem sc__law_blend : FnScope ["cell", "at", "one", "two", "three"] ["cell", "at"] (defScope s__law_blend) := ⟨rfl, rfl, rfl, by decide +kernel, rfl, by decide +kernel, by decide +kernel⟩
theorem sc__law_pot : FnScope ["script", "cells", "k", "cell"] ["script"] (defScope s__law_pot) := ⟨rfl, rfl, rfl, by decide +kernel, rfl, by decide +kernel, by decide +kernel⟩
theorem sc__law_pick : FnScope ["pot", "upto", "at", "cell", "found"] ["pot", "upto"] (defScope s__law_pick) := ⟨rfl, rfl, rfl, by decide +kernel, rfl, by decide +kernel, by decide +kernel⟩
theorem sc__law_same : FnScope ["found", "due", "one", "other"] ["found", "due"] (defScope s__law_same) := ⟨rfl, rfl, rfl, by decide +kernel, rfl, by decide +kernel, by decide +kernel⟩
theorem sc__law_web : FnScope ["pot", "most", "many", "way", "share", "order", "places", "ties", "one", "other", "here", "there", "drawn", "k"] ["pot", "most"] (defScope s__law_web) := ⟨rfl, rfl, rfl, by decide +kernel, rfl, by decide +kernel, by decide +kernel⟩
theorem sc__law_beside : FnScope ["web", "found", "one", "other", "house", "some"] ["web"] (defScope s__law_beside) := ⟨rfl, rfl, rfl, by decide +kernel, rfl, by decide +kernel, by decide +kernel⟩
theorem sc__law_lowest : FnScope ["over", "under", "one", "other"] ["over", "under"] (defScope s__law_lowest) := ⟨rfl, rfl, rfl, by decide +kernel, rfl, by decide +kernel, by decide +kernel⟩
theorem sc__law_draws : FnScope ["many", "sides", "found", "turn", "longer", "row", "number"] ["many", "sides"] (defScope s__law_draws) := ⟨rfl, rfl, rfl, by decide +kernel, rfl, by decide +kernel, by decide +kernel⟩
theorem sc__law_behind : FnScope ["beside", "houses", "drawn", "chosen", "at", "house", "rest", "found", "k", "other"] ["beside", "houses", "drawn"] (defScope s__law_behind) := ⟨rfl, rfl, rfl, by decide +kernel, rfl, by decide +kernel, by decide +kernel⟩
theorem sc__law_moves : FnScope ["web", "sides", "houses", "beside", "found", "drawn", "rest"] ["web", "sides", "houses"] (defScope s__law_moves) := ⟨rfl, rfl, rfl, by decide +kernel, rfl, by decide +kernel, by decide +kernel⟩
theorem sc__law_all_moves : FnScope ["web", "sides", "first", "found", "waiting", "here"] ["web", "sides"] (defScope s__law_all_moves) := ⟨rfl, rfl, rfl, by decide +kernel, rfl, by decide +kernel, by decide +kernel⟩
theorem sc__law_due : FnScope ["web", "sides", "rounds", "moves", "shares", "turn", "fresh", "here", "rows", "there", "one", "over", "under", "wide"] ["web", "sides", "rounds"] (defScope s__law_due) := ⟨rfl, rfl, rfl, by decide +kernel, rfl, by decide +kernel, by decide +kernel⟩
theorem sc_law : FnScope ["script", "pot", "web", "sides", "rounds"] ["script"] (defScope s_law) := ⟨rfl, rfl, rfl, by decide +kernel, rfl, by decide +kernel, by decide +kernel⟩
structure Env (K : PySem.W.Frag) (mg : Str → Option Value) where
  a_near_left : Addr
  fd_near_left : FuncData
  F_near_left : Fun K "near_left" "near_left" s_near_left a_near_left fd_near_left
  b_near_left : Binds K fd_near_left ["web", "left"] []
  g_near_left : mg "near_left" = some (.ref a_near_left)
  a_least_of : Addr
  fd_least_of : FuncData
  F_least_of : Fun K "least_of" "least_of" s_least_of a_least_of fd_least_of
  b_least_of : Binds K fd_least_of ["near", "numbers"] []
  g_least_of : mg "least_of" = some (.ref a_least_of)
  a_out_by : Addr
  fd_out_by : FuncData
  F_out_by : Fun K "out_by" "out_by" s_out_by a_out_by fd_out_by
  b_out_by : Binds K fd_out_by ["near", "chosen"] []
  g_out_by : mg "out_by" = some (.ref a_out_by)
  a_left_behind : Addr
  fd_left_behind : FuncData
  F_left_behind : Fun K "left_behind" "left_behind" s_left_behind a_left_behind fd_left_behind
  b_left_behind : Binds K fd_left_behind ["near", "chosen", "out"] []
  g_left_behind : mg "left_behind" = some (.ref a_left_behind)
  a_fraction_of : Addr
  fd_fraction_of : FuncData
  F_fraction_of : Fun K "fraction_of" "fraction_of" s_fraction_of a_fraction_of fd_fraction_of
  b_fraction_of : Binds K fd_fraction_of ["over", "under"] []
  g_fraction_of : mg "fraction_of" = some (.ref a_fraction_of)
  a_rows_of_draws : Addr
  fd_rows_of_draws : FuncData
  F_rows_of_draws : Fun K "rows_of_draws" "rows_of_draws" s_rows_of_draws a_rows_of_draws fd_rows_of_draws
  b_rows_of_draws : Binds K fd_rows_of_draws ["web", "sides", "near"] []
  g_rows_of_draws : mg "rows_of_draws" = some (.ref a_rows_of_draws)
  a_chosen_ways : Addr
  fd_chosen_ways : FuncData
  F_chosen_ways : Fun K "chosen_ways" "chosen_ways" s_chosen_ways a_chosen_ways fd_chosen_ways
  b_chosen_ways : Binds K fd_chosen_ways ["near", "rows"] []
  g_chosen_ways : mg "chosen_ways" = some (.ref a_chosen_ways)
  a_ways_from : Addr
  fd_ways_from : FuncData
  F_ways_from : Fun K "ways_from" "ways_from" s_ways_from a_ways_from fd_ways_from
  b_ways_from : Binds K fd_ways_from ["web", "sides", "here"] []
  g_ways_from : mg "ways_from" = some (.ref a_ways_from)
  a_all_ways : Addr
  fd_all_ways : FuncData
  F_all_ways : Fun K "all_ways" "all_ways" s_all_ways a_all_ways fd_all_ways
  b_all_ways : Binds K fd_all_ways ["web", "sides"] []
  g_all_ways : mg "all_ways" = some (.ref a_all_ways)
  a_ways_behind : Addr
  fd_ways_behind : FuncData
  F_ways_behind : Fun K "ways_behind" "ways_behind" s_ways_behind a_ways_behind fd_ways_behind
  b_ways_behind : Binds K fd_ways_behind ["ways", "counts"] []
  g_ways_behind : mg "ways_behind" = some (.ref a_ways_behind)
  a_chance_behind : Addr
  fd_chance_behind : FuncData
  F_chance_behind : Fun K "chance_behind" "chance_behind" s_chance_behind a_chance_behind fd_chance_behind
  b_chance_behind : Binds K fd_chance_behind ["web", "sides", "rounds"] []
  g_chance_behind : mg "chance_behind" = some (.ref a_chance_behind)
  a__law_blend : Addr
  fd__law_blend : FuncData
  F__law_blend : Fun K "_law_blend" "_law_blend" s__law_blend a__law_blend fd__law_blend
  b__law_blend : Binds K fd__law_blend ["cell", "at"] []
  g__law_blend : mg "_law_blend" = some (.ref a__law_blend)
  a__law_pot : Addr
  fd__law_pot : FuncData
  F__law_pot : Fun K "_law_pot" "_law_pot" s__law_pot a__law_pot fd__law_pot
  b__law_pot : Binds K fd__law_pot ["script"] []
  g__law_pot : mg "_law_pot" = some (.ref a__law_pot)
  a__law_pick : Addr
  fd__law_pick : FuncData
  F__law_pick : Fun K "_law_pick" "_law_pick" s__law_pick a__law_pick fd__law_pick
  b__law_pick : Binds K fd__law_pick ["pot", "upto"] []
  g__law_pick : mg "_law_pick" = some (.ref a__law_pick)
  a__law_same : Addr
  fd__law_same : FuncData
  F__law_same : Fun K "_law_same" "_law_same" s__law_same a__law_same fd__law_same
  b__law_same : Binds K fd__law_same ["found", "due"] []
  g__law_same : mg "_law_same" = some (.ref a__law_same)
  a__law_web : Addr
  fd__law_web : FuncData
  F__law_web : Fun K "_law_web" "_law_web" s__law_web a__law_web fd__law_web
  b__law_web : Binds K fd__law_web ["pot", "most"] []
  g__law_web : mg "_law_web" = some (.ref a__law_web)
  a__law_beside : Addr
  fd__law_beside : FuncData
  F__law_beside : Fun K "_law_beside" "_law_beside" s__law_beside a__law_beside fd__law_beside
  b__law_beside : Binds K fd__law_beside ["web"] []
  g__law_beside : mg "_law_beside" = some (.ref a__law_beside)
  a__law_lowest : Addr
  fd__law_lowest : FuncData
  F__law_lowest : Fun K "_law_lowest" "_law_lowest" s__law_lowest a__law_lowest fd__law_lowest
  b__law_lowest : Binds K fd__law_lowest ["over", "under"] []
  g__law_lowest : mg "_law_lowest" = some (.ref a__law_lowest)
  a__law_draws : Addr
  fd__law_draws : FuncData
  F__law_draws : Fun K "_law_draws" "_law_draws" s__law_draws a__law_draws fd__law_draws
  b__law_draws : Binds K fd__law_draws ["many", "sides"] []
  g__law_draws : mg "_law_draws" = some (.ref a__law_draws)
  a__law_behind : Addr
  fd__law_behind : FuncData
  F__law_behind : Fun K "_law_behind" "_law_behind" s__law_behind a__law_behind fd__law_behind
  b__law_behind : Binds K fd__law_behind ["beside", "houses", "drawn"] []
  g__law_behind : mg "_law_behind" = some (.ref a__law_behind)
  a__law_moves : Addr
  fd__law_moves : FuncData
  F__law_moves : Fun K "_law_moves" "_law_moves" s__law_moves a__law_moves fd__law_moves
  b__law_moves : Binds K fd__law_moves ["web", "sides", "houses"] []
  g__law_moves : mg "_law_moves" = some (.ref a__law_moves)
  a__law_all_moves : Addr
  fd__law_all_moves : FuncData
  F__law_all_moves : Fun K "_law_all_moves" "_law_all_moves" s__law_all_moves a__law_all_moves fd__law_all_moves
  b__law_all_moves : Binds K fd__law_all_moves ["web", "sides"] []
  g__law_all_moves : mg "_law_all_moves" = some (.ref a__law_all_moves)
  a__law_due : Addr
  fd__law_due : FuncData
  F__law_due : Fun K "_law_due" "_law_due" s__law_due a__law_due fd__law_due
  b__law_due : Binds K fd__law_due ["web", "sides", "rounds"] []
  g__law_due : mg "_law_due" = some (.ref a__law_due)
  g_gcd : mg "gcd" = some (.builtin "math.gcd")
  n_set : mg "set" = none
  n_range : mg "range" = none
  n_max : mg "max" = none
  n_sum : mg "sum" = none
  n_list : mg "list" = none
  n_enumerate : mg "enumerate" = none
  n_tuple : mg "tuple" = none
  n_all : mg "all" = none
  n_any : mg "any" = none
  n_isinstance : mg "isinstance" = none
  n_bool : mg "bool" = none
  n_int : mg "int" = none
  n_str : mg "str" = none
  n_len : mg "len" = none
  n_sorted : mg "sorted" = none
  n_zip : mg "zip" = none
  n_min : mg "min" = none
section
local macro_rules | `(tactic| walk_at "ex") => `(tactic| first | exact Evl.Ex.refl _ | assumption | ((refine' Evl.Ex.trans ?x ?y); (case y => assumption); (case x => walk_at "ex")))
local macro_rules | `(tactic| walk_at "hc") => `(tactic| first
  | assumption
  | ((refine' Sep.rdM ?S 0 ?k); (case S => assumption); (case k => exact rfl)) | ((refine' Sep.rdM ?S 1 ?k); (case S => assumption); (case k => exact rfl)) | ((refine' Sep.rdM ?S 2 ?k); (case S => assumption); (case k => exact rfl)) | ((refine' Sep.rdM ?S 3 ?k); (case S => assumption); (case k => exact rfl)) | ((refine' Sep.rdM ?S 4 ?k); (case S => assumption); (case k => exact rfl))
  | ((refine' Sep.rdC ?S ?e ?h); (case S => assumption); (case h => assumption); (case e => walk_at "ex")))
local macro_rules | `(tactic| walk_at "hl") => `(tactic| first
  | assumption
  | ((refine' SqL.of (Sep.rdM ?S 0 ?k)); (case S => assumption); (case k => exact rfl)) | ((refine' SqL.of (Sep.rdM ?S 1 ?k)); (case S => assumption); (case k => exact rfl)) | ((refine' SqL.of (Sep.rdM ?S 2 ?k)); (case S => assumption); (case k => exact rfl)) | ((refine' SqL.of (Sep.rdM ?S 3 ?k)); (case S => assumption); (case k => exact rfl)) | ((refine' SqL.of (Sep.rdM ?S 4 ?k)); (case S => assumption); (case k => exact rfl))
  | ((refine' Sep.rdL ?S ?e ?h); (case S => assumption); (case h => assumption); (case e => walk_at "ex"))
  | ((refine' Sep.rdT ?S ?e ?h); (case S => assumption); (case h => assumption); (case e => walk_at "ex"))
  | ((refine' SqL.of (Sep.rdC ?S ?e ?h)); (case S => assumption); (case h => assumption); (case e => walk_at "ex"))
  | ((refine' SqT.of (Sep.rdC ?S ?e ?h)); (case S => assumption); (case h => assumption); (case e => walk_at "ex"))
  | ((refine' SqL.of ?h); (case h => assumption)) | ((refine' SqT.of ?h); (case h => assumption))
  | ((refine' Evl.ex_l ?e ?h); (case h => assumption); (case e => walk_at "ex")) | ((refine' Evl.ex_t ?e ?h); (case h => assumption); (case e => walk_at "ex"))
  | ((refine' SqL.of (?e _ _ ?h)); (case h => assumption); (case e => walk_at "ex")) | ((refine' SqT.of (?e _ _ ?h)); (case h => assumption); (case e => walk_at "ex")))
local macro_rules | `(tactic| walk_at "hs") => `(tactic| walk_at "hc")
local macro_rules | `(tactic| walk_at "dp") => `(tactic| first
  | assumption
  | ((refine' Sep.rdD ?S ?e ?h); (case S => assumption); (case h => assumption); (case e => walk_at "ex"))
  | ((refine' Dp.ex ?e _ _ ?h); (case h => assumption); (case e => walk_at "ex"))
  | ((refine' DpAll.ex ?e _ _ ?h); (case h => assumption); (case e => walk_at "ex"))
  | (refine' dp_intsD ?h; (case h => walk_at "hl")))
local macro_rules | `(tactic| walk_at "rd1") => `(tactic| (first
  | (with_reducible refine r_seq ?_)
  | (with_reducible refine r_asg ?_)
  | (with_reducible refine r_asgG ?_)
  | (with_reducible refine r_par ?_)
  | (with_reducible refine r_if ?_)
  | (with_reducible refine r_ret ?_)
  | (with_reducible refine r_drop ?_)
  | (with_reducible refine r_next ?_)
  | ((with_reducible refine' r_var ?hx ?_); (case hx => exact rfl))
  | (with_reducible refine r_c ?_)
  | (with_reducible refine r_op ?_)
  | (with_reducible refine r_un ?_)
  | (with_reducible refine r_I0 ?_)
  | ((with_reducible refine' r_I ?_ ?_); (· first | (show (0 : Int) < _; omega) | exact Or.inr ⟨by omega, by omega⟩ | exact Or.inl ⟨by omega, by omega⟩ | exact ⟨by omega, by omega, by decide⟩))
  | (with_reducible refine r_U ?_)
  | (with_reducible refine r_test ?_)
  | (with_reducible refine r_B ?_)
  | (with_reducible refine r_bl ?_)
  | (with_reducible refine r_eqI ?_)
  | (with_reducible refine r_neI ?_)
  | ((with_reducible refine' r_eq ?_ ?_); (· exact rfl))
  | ((with_reducible refine' r_ne ?_ ?_); (· exact rfl))
  | (with_reducible refine r_nil ?_)
  | (with_reducible refine r_cons ?_)
  | (with_reducible refine s_tup ?_)
  | (with_reducible refine s_lst ?_)
  | (with_reducible refine r_call ?_)
  | (with_reducible refine r_cb ?_)
  | (with_reducible refine r_and ?_)
  | (with_reducible refine r_or ?_)
  | (with_reducible refine r_not ?_)
  | (with_reducible refine r_andV ?_)
  | (with_reducible refine r_orV ?_)
  | (with_reducible refine r_notV ?_)
  | (with_reducible refine r_ifE ?_)
  | (with_reducible refine r_gSub ?_)
  | (with_reducible refine r_sadd ?_)
  | (with_reducible refine s_lstRg ?_)
  | (with_reducible refine r_rg1 ?_)
  | (with_reducible refine r_min2 ?_)
  | (with_reducible refine r_par2 ?_)
  | (with_reducible refine r_partI ?_)
  | (with_reducible refine s_lc ?_)
  | (with_reducible refine s_dc ?_)
  | (with_reducible refine r_yes ?_)
  | (with_reducible refine r_iZipA ?_)
  | (with_reducible refine r_isN ?_)
  | (with_reducible refine r_for ?_)
  | (with_reducible refine r_iList ?_)
  | (with_reducible refine r_iTup ?_)
  | (with_reducible refine r_iRng1 ?_)
  | (with_reducible refine r_iRng2 ?_)
  | (with_reducible refine r_iEnum ?_)
  | (with_reducible refine r_iZip ?_)
  | (with_reducible refine r_gName ?_)
  | (with_reducible refine r_isNV ?_)
  | (with_reducible refine r_notNV ?_)
  | (with_reducible refine r_bm ?_)
  | (with_reducible refine r_bm0 ?_)
  | (with_reducible refine r_sl ?_)
  | (with_reducible refine r_noPart ?_)
  | (with_reducible refine r_part ?_)
  | (with_reducible refine r_chain ?_)
  | (with_reducible refine r_iKeys ?_)
  | (with_reducible refine r_iItems ?_)
  | (with_reducible refine r_frz ?_)
  | (with_reducible refine r_dput ?_)
  | (with_reducible refine r_dget ?_)
  | (with_reducible refine r_din ?_)
  | (with_reducible refine r_dnotin ?_)
  | (with_reducible refine r_break ?_)
  | ((with_reducible refine' r_sIn ?h ?_); (case h => walk_at "hs"))
  | ((with_reducible refine' r_sNotIn ?h ?_); (case h => walk_at "hs"))
  | ((with_reducible refine' r_inI ?h ?_); (case h => walk_at "hl"))
  | ((with_reducible refine' r_notInI ?h ?_); (case h => walk_at "hl"))
  | ((with_reducible refine' r_eqNil ?h ?g ?_); (case h => walk_at "hl"); (case g => walk_at "hl"))
  | ((with_reducible refine' r_neNil ?h ?g ?_); (case h => walk_at "hl"); (case g => walk_at "hl"))
  | ((with_reducible refine' iteRT ?hh ?_); (case hh => exact rfl))
  | ((with_reducible refine' iteRF ?hh ?_); (case hh => exact rfl))
  | ((with_reducible refine' r_isiT ?ty ?hk ?_); (case ty => (first | assumption | exact tyx_L (by assumption) | exact tyx_T (by assumption) | exact .base (.non) | exact .base (.bl _) | exact .base (.int _) | exact .base (.str _) | exact tyx_L (by walk_at "hl") | exact tyx_T (by walk_at "hl"))); (case hk => decide +kernel))
  | ((with_reducible refine' r_isiF ?ty ?hk ?_); (case ty => (first | assumption | exact tyx_L (by assumption) | exact tyx_T (by assumption) | exact .base (.non) | exact .base (.bl _) | exact .base (.int _) | exact .base (.str _) | exact tyx_L (by walk_at "hl") | exact tyx_T (by walk_at "hl"))); (case hk => decide +kernel))
  | ((with_reducible refine' r_gTup2 ?hn ?hs ?_); (case hn => exact rfl); (case hs => walk_at "hl"))
  | ((with_reducible refine' s_list ?hl ?_); (case hl => first | exact Or.inl (by walk_at "hl") | exact Or.inr (by walk_at "hl")))
  | ((with_reducible refine' s_tupN ?hl ?_); (case hl => walk_at "hl"))
  | ((with_reducible refine' s_sortN ?hl ?_); (case hl => walk_at "hl"))
  | ((refine' ⟨_, _, rfl, ?hl, ?_⟩); (case hl => first | exact Or.inl (by walk_at "hl") | exact Or.inr (by walk_at "hl")))
  | ((with_reducible refine' r_ixL ?hl ?ha ?_); (case hl => walk_at "hl"); (case ha => first | exact rfl | assumption))
  | ((with_reducible refine' r_ixT ?hl ?ha ?_); (case hl => walk_at "hl"); (case ha => first | exact rfl | assumption))))
local macro_rules | `(tactic| walk_at "rd") => `(tactic| repeat (walk_at "rd1"))

section
variable {P : Program} {w : World} {K : PySem.W.Frag} {mg : Str → Option Value} {base : Heap}

def A_nleft (K : PySem.W.Frag) : (Int × List (Int × Int) × List Int × Addr) → List V → Hp → Prop := fun | (many, ties, left, a), vs, F => ∃ v, vs = [v, .ref a] ∧ Dp K F v (webD many ties) ∧ UpT ties ∧ F a = some (.tup (left.map V.int)) ∧ left.Nodup ∧ left.length ≤ 60 ∧ ties.length ≤ 4000
def B_nleft : (Int × List (Int × Int) × List Int × Addr) → V → List (Addr × Cel) → Hp → Prop := fun | (_, ties, left, a), v, N, F => N = [] ∧ ∃ d, v = .ref d ∧ NearNew F d ties left a
/-- the lists of those left, ties ts gone through -/
def zipC (ts : List (Int × Int)) (left : List Int) (as : List Addr) : List (Addr × HO) := List.zipWith (fun a h => (a, HO.lst ((nbL ts left h).map V.int))) as left
theorem zipC_at {ts : List (Int × Int)} {left : List Int} {as : List Addr} {i : Nat} {h : Int} {a : Addr} (e1 : as[i]? = some a) (e2 : left[i]? = some h) : (zipC ts left as)[i]? = some (a, HO.lst ((nbL ts left h).map V.int)) := by
  unfold zipC
  rw [List.getElem?_zipWith, e1, e2]
theorem nbL_le (ts : List (Int × Int)) (left : List Int) (h : Int) : (nbL ts left h).length ≤ ts.length := by
  induction ts with
  | nil => exact Nat.le_refl _
  | cons t r ih =>
    unfold nbL at ih ⊢
    rw [List.flatMap_cons, List.length_append, List.length_cons]
    have : (if t.1 ∈ left ∧ t.2 ∈ left then (if t.1 = h then [t.2] else if t.2 = h then [t.1] else []) else ([] : List Int)).length ≤ 1 := by
      split
      · split
        · exact Nat.le_refl _
        · split
          · exact Nat.le_refl _
          · exact Nat.zero_le _
      · exact Nat.zero_le _
    omega
theorem zipC_skip {ts : List (Int × Int)} {left : List Int} {as : List Addr} {t : Int × Int} (c : ¬ (t.1 ∈ left ∧ t.2 ∈ left)) : zipC (ts ++ [t]) left as = zipC ts left as := by
  unfold zipC
  congr 1
  funext a h
  rw [nbL_snoc, if_neg c, List.append_nil]
theorem zipC_tie {ts : List (Int × Int)} {left : List Int} {as : List Addr} {t : Int × Int} {i j : Nat} {a b : Addr} (nd : left.Nodup) (lt : t.1 < t.2) (i1 : left[i]? = some t.1) (i2 : as[i]? = some a) (j1 : left[j]? = some t.2) (j2 : as[j]? = some b) :
    ((zipC ts left as).set i (a, .lst ((nbL ts left t.1 ++ [t.2]).map V.int))).set j (b, .lst ((nbL ts left t.2 ++ [t.1]).map V.int)) = zipC (ts ++ [t]) left as := by
  have m1 := List.mem_of_getElem? i1
  have m2 := List.mem_of_getElem? j1
  have ij : i ≠ j := fun e => by rw [e, j1] at i1; have := Option.some.inj i1; omega
  refine List.ext_getElem? fun n => ?_
  unfold zipC
  by_cases c2 : j = n
  · subst c2
    have l2 := (List.getElem?_eq_some_iff.mp j2).1
    have l1 := (List.getElem?_eq_some_iff.mp j1).1
    rw [List.getElem?_set_self (by rw [List.length_set, List.length_zipWith]; omega), List.getElem?_zipWith, j2, j1]
    have ne : t.1 ≠ t.2 := by omega
    simp [nbL_snoc, m1, m2, ne]
  · rw [List.getElem?_set_ne c2]
    by_cases c1 : i = n
    · subst c1
      have l2 := (List.getElem?_eq_some_iff.mp i2).1
      have l1 := (List.getElem?_eq_some_iff.mp i1).1
      rw [List.getElem?_set_self (by rw [List.length_zipWith]; omega), List.getElem?_zipWith, i2, i1]
      simp [nbL_snoc, m1, m2]
    · rw [List.getElem?_set_ne c1, List.getElem?_zipWith, List.getElem?_zipWith]
      cases q1 : as[n]? with
      | none => rfl
      | some x =>
        cases q2 : left[n]? with
        | none => rfl
        | some h =>
          have n1 : t.1 ≠ h := fun e => c1 (nd_ix' nd (by rw [e]; exact q2) i1).symm
          have n2 : t.2 ≠ h := fun e => c2 (nd_ix' nd (by rw [e]; exact q2) j1).symm
          simp only [nbL_snoc]
          rw [if_pos ⟨m1, m2⟩, if_neg n1, if_neg n2, List.append_nil]
theorem zipC_nil {left : List Int} {as : List Addr} (e : as.length = left.length) : zipC [] left as = as.map fun a => (a, HO.lst []) := by
  refine List.ext_getElem? fun n => ?_
  unfold zipC
  rw [List.getElem?_zipWith, List.getElem?_map]
  by_cases c : n < as.length
  · rw [List.getElem?_eq_getElem c, List.getElem?_eq_getElem (by omega)]
    rfl
  · rw [List.getElem?_eq_none (by omega)]
    rfl
theorem ok_near_left (T : Env K mg) : FnOk P w K mg base CX0 1 T.a_near_left T.fd_near_left ["web", "left"] (SpF (A_nleft K) B_nleft) := by
  have nd := sc_near_left.nd
  refine T.F_near_left.ok sc_near_left (fun vs H Q E h => ?_) (fun cdv A outer s H vs Q E hr h => ?_)
  · obtain ⟨⟨_, _, _, _⟩, F, _, ⟨v, rfl, _⟩, _⟩ := h
    rfl
  · obtain ⟨⟨many, ties, left, a⟩, F, fr, ⟨v, rfl, hv, ut, ha0, nd0, hl, ht⟩, k⟩ := h
    have ha : SqT K F a (left.map V.int) := SqT.of ha0
    obtain ⟨wa, wb, ws, rfl, s1, s2, s3⟩ := webD_at hv
    have S := Sep.start0 fr
    refine ⟨_, (pss_cons (ps_asgDc (i := 2) (own := [("house", 5)]) (g := gName 5) (tt := tYes) (tk := (tVar 5)) (tv := (tLst tNil)) rfl nd rfl rfl (swaps_dc rfl rfl rfl (by decide +kernel)) (pi_tup (pv 1)) (blkOk_by (N := ["web", "left", "near", "one", "other", "house"]) (sc := defScope s_near_left) (by decide +kernel)) (fun _ _ _ _ _ => (pg_name (i := 5) nd rfl (.inl rfl))) (fun _ _ _ _ _ => pts_nil) (fun _ _ _ _ _ => (pv 5)) (fun _ _ _ _ _ => (pe_lst pa_nil)))
      (pss_cons (ps_for PassesOwn.never rfl (pi_tup (pe_ix ix_tup (pv 0) pe_int (fun _ _ => rfl))) (pg_tup rfl (pgs_cons (pg_name (i := 3) nd rfl (.inl rfl)) (pgs_cons (pg_name (i := 4) nd rfl (.inl rfl)) pgs_nil))) (pss_one (ps_if (PW.pt (pw_and (pt_cmp (pc_din (u1 hr) (pv 3) (pv 2))) (pw_and1 (pt_cmp (pc_din (u1 hr) (pv 4) (pv 2)))))) (pss_cons (ps_expr (pe_bm PySem.F.plainAttrs_list PySem.F.slot_list_append PySem.F.type_list_append mt_append (pe_dget (u1 hr) (pv 2) (pv 3) (fun _ _ => rfl)) (pa_cons (pv 4) pa_nil)))
      (pss_one (ps_expr (pe_bm PySem.F.plainAttrs_list PySem.F.slot_list_append PySem.F.type_list_append mt_append (pe_dget (u1 hr) (pv 2) (pv 4) (fun _ _ => rfl)) (pa_cons (pv 3) pa_nil))))) pss_nil)))
      (pss_one (ps_ret (pe_frz (pv 2)))))), ?_⟩
    walk_at "rd"
    refine ⟨a, rfl, ⟨_, by walk_at "hl"⟩, ?_⟩
    refine s_dcI (srcIT (K := K) ha) (fun i kvs F' M' => ∃ as : List Addr, as.length = i ∧ kvs = nearK (left.take i) as ∧ M' = cellsOf (as.map fun a => (a, HO.lst []))) S ⟨[], rfl, by rw [List.take_zero]; rfl, rfl⟩ (fun _ _ _ _ _ m hm => by cases hm) ?_ ?_
    · rintro i h x kvs D F1 F2 H2 M' hi S e1 e2 ex ⟨as, a1, rfl, rfl⟩
      subst ex
      have li := (List.getElem?_eq_some_iff.mp hi).1
      walk_at "rd"
      refine ⟨rfl, ?_⟩
      walk_at "rd"
      refine ⟨Nat.zero_le _, s_own S fun q H3 S => ?_⟩
      refine CD.put S 1 rfl (by walk_at "ex") (by unfold nearK; rw [List.length_zipWith]; omega) fun H4 S => ?_
      rw [nearK_put nd0 hi a1] at S
      refine ⟨_, _, _, S.perm (N := (D, .is (.dK (nearK (left.take (i + 1)) (as ++ [q])))) :: cellsOf ((as ++ [q]).map fun a => (a, HO.lst []))) ?_, by walk_at "ex", as ++ [q], by rw [List.length_append, a1]; rfl, rfl, rfl⟩
      show (_ :: cellsOf ((as ++ [q]).map fun a => (a, HO.lst []))).Perm ((q, .is (.lst [])) :: (D, .is (.dK (nearK (left.take (i + 1)) (as ++ [q])))) :: cellsOf (as.map fun a => (a, HO.lst [])))
      refine (List.Perm.cons _ ?_).trans (List.Perm.swap _ _ _)
      rw [List.map_append]
      unfold cellsOf
      rw [List.map_append]
      exact List.perm_append_comm
    · rintro D kvs F1 H1 M' S e1 ⟨as, a1, rfl, rfl⟩
      rw [List.take_length] at S
      rw [← zipC_nil a1] at S
      walk_at "rd"
      refine ⟨wb, rfl, ⟨ws, by walk_at "hl"⟩, ?_⟩
      refine s_for (fun i σ' F' M' => ∃ x3 x4 : Option V, σ' = [some (.ref wa), some (.ref a), some (.ref D), x3, x4, none] ∧ M' = (D, .is (.dK (nearK left as))) :: cellsOf (zipC (ties.take i) left as)) (srcDT (as := ties) (da := tieD) (Evl.ex_t e1 s2) (DpAll.ex e1 _ _ s3)) S ⟨none, none, rfl, by rw [List.take_zero]⟩ (fun _ _ _ _ _ m hm => by cases hm) ?_ ?_
      · rintro i t x σ' F2 F3 H3 M' et S e2 e3 hx ⟨x3, x4, rfl, rfl⟩
        obtain ⟨ta, rfl, st⟩ := tieD_at hx
        have tm := List.mem_of_getElem? et
        have lt := ut t tm
        have li := (List.getElem?_eq_some_iff.mp et).1
        walk_at "rd"
        refine s_din (.inl (S.rdM 0 rfl)) ?_
        walk_at "rd"
        rw [nearK_some nd0 a1]
        refine iteB (fun c1 => ?_) (fun c1 => ?_)
        · walk_at "rd"
          refine s_din (.inl (S.rdM 0 rfl)) ?_
          walk_at "rd"
          rw [nearK_some nd0 a1]
          refine iteB (fun c2 => ?_) (fun c2 => ?_)
          · have c1 := of_decide_eq_true c1
            have c2 := of_decide_eq_true c2
            obtain ⟨p1, hp1⟩ := List.mem_iff_getElem?.mp c1
            obtain ⟨p2, hp2⟩ := List.mem_iff_getElem?.mp c2
            have l1 := (List.getElem?_eq_some_iff.mp hp1).1
            have l2 := (List.getElem?_eq_some_iff.mp hp2).1
            obtain ⟨b1, hb1⟩ : ∃ b, as[p1]? = some b := ⟨_, List.getElem?_eq_getElem (by omega)⟩
            obtain ⟨b2, hb2⟩ : ∃ b, as[p2]? = some b := ⟨_, List.getElem?_eq_getElem (by omega)⟩
            have n1 := nbL_le (ties.take i) left t.1
            have n2 := nbL_le (ties.take i) left t.2
            rw [List.length_take] at n1 n2
            have ne : p1 ≠ p2 := fun e => by rw [e, hp2] at hp1; have := Option.some.inj hp1; omega
            walk_at "rd"
            refine s_dget (.inl (S.rdM 0 rfl)) (nearK_val nd0 hp1 hb1) ?_
            walk_at "rd"
            refine ⟨tyL (SqL.of (S.rdM (p1 + 1) (cells_at (zipC_at hb1 hp1)))), ?_⟩
            walk_at "rd"
            refine s_app S (p1 + 1) (cells_at (zipC_at hb1 hp1)) (by rw [List.length_map]; omega) fun H4 S => ?_
            rw [List.set_cons_succ, cells_put] at S
            walk_at "rd"
            refine s_dget (.inl (S.rdM 0 rfl)) (nearK_val nd0 hp2 hb2) ?_
            walk_at "rd"
            have cz := cells_at (show ((zipC (ties.take i) left as).set p1 (b1, .lst ((nbL (ties.take i) left t.1).map V.int ++ [.int t.2])))[p2]? = _ by rw [List.getElem?_set_ne ne]; exact zipC_at hb2 hp2)
            refine ⟨tyL (SqL.of (S.rdM (p2 + 1) cz)), ?_⟩
            walk_at "rd"
            refine s_app S (p2 + 1) cz (by rw [List.length_map]; omega) fun H5 S => ?_
            rw [List.set_cons_succ, cells_put] at S
            refine ⟨_, _, S, by walk_at "ex", _, _, rfl, ?_⟩
            have z := zipC_tie (ts := ties.take i) nd0 lt hp1 hb1 hp2 hb2
            rw [List.map_append, List.map_append] at z
            rw [take_snoc et, ← z]
            rfl
          · walk_at "rd"
            refine ⟨_, _, S, by walk_at "ex", _, _, rfl, ?_⟩
            rw [take_snoc et, zipC_skip fun z => of_decide_eq_false c2 z.2]
        · walk_at "rd"
          refine ⟨_, _, S, by walk_at "ex", _, _, rfl, ?_⟩
          rw [take_snoc et, zipC_skip fun z => of_decide_eq_false c1 z.1]
      · rintro σ' F2 H2 M' S e2 ⟨x3, x4, rfl, rfl⟩
        rw [List.take_length] at S
        have ca := (e1.trans e2) _ _ ha0
        have off : ∀ m ∈ ((D, Cel.is (.dK (nearK left as))) :: cellsOf (zipC ties left as)), m.1 ≠ a := fun m hm e => by
          have := (S.own m hm).2
          rw [e, ca] at this
          cases this
        have oD := off _ List.mem_cons_self
        have oA : ∀ b ∈ as, b ≠ a := fun b hb => by
          obtain ⟨i, hi⟩ := List.mem_iff_getElem?.mp hb
          have li := (List.getElem?_eq_some_iff.mp hi).1
          exact off (b, _) (List.mem_cons_of_mem _ (List.mem_of_getElem? (cells_at (zipC_at hi (List.getElem?_eq_getElem (show i < left.length by omega))))))
        walk_at "rd"
        refine s_frz S 0 rfl trivial fun od F3 H3 S e3 cd => ?_
        have S : Sep [] H F F3 H3 (cellsOf (zipC ties left as) ++ []) := by rw [List.append_nil]; exact S
        obtain ⟨F4, S, e4, c4⟩ := S.frzAll
        refine k _ [] _ _ S ⟨rfl, D, rfl, oD, od, as, a1, e4 _ _ cd, fun i h a x y => c4 (a, _) (List.mem_of_getElem? (zipC_at y x)), oA⟩

end

end
section
local macro_rules | `(tactic| walk_at "ex") => `(tactic| first | exact Evl.Ex.refl _ | assumption | ((refine' Evl.Ex.trans ?x ?y); (case y => assumption); (case x => walk_at "ex")))
local macro_rules | `(tactic| walk_at "hc") => `(tactic| first
  | assumption
  | ((refine' Sep.rdM ?S 0 ?k); (case S => assumption); (case k => exact rfl)) | ((refine' Sep.rdM ?S 1 ?k); (case S => assumption); (case k => exact rfl)) | ((refine' Sep.rdM ?S 2 ?k); (case S => assumption); (case k => exact rfl)) | ((refine' Sep.rdM ?S 3 ?k); (case S => assumption); (case k => exact rfl)) | ((refine' Sep.rdM ?S 4 ?k); (case S => assumption); (case k => exact rfl))
  | ((refine' Sep.rdC ?S ?e ?h); (case S => assumption); (case h => assumption); (case e => walk_at "ex")))
local macro_rules | `(tactic| walk_at "hl") => `(tactic| first
  | assumption
  | ((refine' SqL.of (Sep.rdM ?S 0 ?k)); (case S => assumption); (case k => exact rfl)) | ((refine' SqL.of (Sep.rdM ?S 1 ?k)); (case S => assumption); (case k => exact rfl)) | ((refine' SqL.of (Sep.rdM ?S 2 ?k)); (case S => assumption); (case k => exact rfl)) | ((refine' SqL.of (Sep.rdM ?S 3 ?k)); (case S => assumption); (case k => exact rfl)) | ((refine' SqL.of (Sep.rdM ?S 4 ?k)); (case S => assumption); (case k => exact rfl))
  | ((refine' Sep.rdL ?S ?e ?h); (case S => assumption); (case h => assumption); (case e => walk_at "ex"))
  | ((refine' Sep.rdT ?S ?e ?h); (case S => assumption); (case h => assumption); (case e => walk_at "ex"))
  | ((refine' SqL.of (Sep.rdC ?S ?e ?h)); (case S => assumption); (case h => assumption); (case e => walk_at "ex"))
  | ((refine' SqT.of (Sep.rdC ?S ?e ?h)); (case S => assumption); (case h => assumption); (case e => walk_at "ex"))
  | ((refine' SqL.of ?h); (case h => assumption)) | ((refine' SqT.of ?h); (case h => assumption))
  | ((refine' Evl.ex_l ?e ?h); (case h => assumption); (case e => walk_at "ex")) | ((refine' Evl.ex_t ?e ?h); (case h => assumption); (case e => walk_at "ex"))
  | ((refine' SqL.of (?e _ _ ?h)); (case h => assumption); (case e => walk_at "ex")) | ((refine' SqT.of (?e _ _ ?h)); (case h => assumption); (case e => walk_at "ex")))
local macro_rules | `(tactic| walk_at "hs") => `(tactic| walk_at "hc")
local macro_rules | `(tactic| walk_at "dp") => `(tactic| first
  | assumption
  | ((refine' Sep.rdD ?S ?e ?h); (case S => assumption); (case h => assumption); (case e => walk_at "ex"))
  | ((refine' Dp.ex ?e _ _ ?h); (case h => assumption); (case e => walk_at "ex"))
  | ((refine' DpAll.ex ?e _ _ ?h); (case h => assumption); (case e => walk_at "ex"))
  | (refine' dp_intsD ?h; (case h => walk_at "hl")))
local macro_rules | `(tactic| walk_at "rd1") => `(tactic| (first
  | (with_reducible refine r_seq ?_)
  | (with_reducible refine r_asg ?_)
  | (with_reducible refine r_asgG ?_)
  | (with_reducible refine r_par ?_)
  | (with_reducible refine r_if ?_)
  | (with_reducible refine r_ret ?_)
  | (with_reducible refine r_drop ?_)
  | (with_reducible refine r_next ?_)
  | ((with_reducible refine' r_var ?hx ?_); (case hx => exact rfl))
  | (with_reducible refine r_c ?_)
  | (with_reducible refine r_op ?_)
  | (with_reducible refine r_un ?_)
  | (with_reducible refine r_I0 ?_)
  | ((with_reducible refine' r_I ?_ ?_); (· first | (show (0 : Int) < _; omega) | exact Or.inr ⟨by omega, by omega⟩ | exact Or.inl ⟨by omega, by omega⟩ | exact ⟨by omega, by omega, by decide⟩))
  | (with_reducible refine r_U ?_)
  | (with_reducible refine r_test ?_)
  | (with_reducible refine r_B ?_)
  | (with_reducible refine r_bl ?_)
  | (with_reducible refine r_eqI ?_)
  | (with_reducible refine r_neI ?_)
  | ((with_reducible refine' r_eq ?_ ?_); (· exact rfl))
  | ((with_reducible refine' r_ne ?_ ?_); (· exact rfl))
  | (with_reducible refine r_nil ?_)
  | (with_reducible refine r_cons ?_)
  | (with_reducible refine s_tup ?_)
  | (with_reducible refine s_lst ?_)
  | (with_reducible refine r_call ?_)
  | (with_reducible refine r_cb ?_)
  | (with_reducible refine r_and ?_)
  | (with_reducible refine r_or ?_)
  | (with_reducible refine r_not ?_)
  | (with_reducible refine r_andV ?_)
  | (with_reducible refine r_orV ?_)
  | (with_reducible refine r_notV ?_)
  | (with_reducible refine r_ifE ?_)
  | (with_reducible refine r_gSub ?_)
  | (with_reducible refine r_sadd ?_)
  | (with_reducible refine s_lstRg ?_)
  | (with_reducible refine r_rg1 ?_)
  | (with_reducible refine r_min2 ?_)
  | (with_reducible refine r_par2 ?_)
  | (with_reducible refine r_partI ?_)
  | (with_reducible refine s_lc ?_)
  | (with_reducible refine s_dc ?_)
  | (with_reducible refine r_yes ?_)
  | (with_reducible refine r_iZipA ?_)
  | (with_reducible refine r_isN ?_)
  | (with_reducible refine r_for ?_)
  | (with_reducible refine r_iList ?_)
  | (with_reducible refine r_iTup ?_)
  | (with_reducible refine r_iRng1 ?_)
  | (with_reducible refine r_iRng2 ?_)
  | (with_reducible refine r_iEnum ?_)
  | (with_reducible refine r_iZip ?_)
  | (with_reducible refine r_gName ?_)
  | (with_reducible refine r_isNV ?_)
  | (with_reducible refine r_notNV ?_)
  | (with_reducible refine r_bm ?_)
  | (with_reducible refine r_bm0 ?_)
  | (with_reducible refine r_sl ?_)
  | (with_reducible refine r_noPart ?_)
  | (with_reducible refine r_part ?_)
  | (with_reducible refine r_chain ?_)
  | (with_reducible refine r_iKeys ?_)
  | (with_reducible refine r_iItems ?_)
  | (with_reducible refine r_frz ?_)
  | (with_reducible refine r_dput ?_)
  | (with_reducible refine r_dget ?_)
  | (with_reducible refine r_din ?_)
  | (with_reducible refine r_dnotin ?_)
  | (with_reducible refine r_break ?_)
  | ((with_reducible refine' r_sIn ?h ?_); (case h => walk_at "hs"))
  | ((with_reducible refine' r_sNotIn ?h ?_); (case h => walk_at "hs"))
  | ((with_reducible refine' r_inI ?h ?_); (case h => walk_at "hl"))
  | ((with_reducible refine' r_notInI ?h ?_); (case h => walk_at "hl"))
  | ((with_reducible refine' r_eqNil ?h ?g ?_); (case h => walk_at "hl"); (case g => walk_at "hl"))
  | ((with_reducible refine' r_neNil ?h ?g ?_); (case h => walk_at "hl"); (case g => walk_at "hl"))
  | ((with_reducible refine' iteRT ?hh ?_); (case hh => exact rfl))
  | ((with_reducible refine' iteRF ?hh ?_); (case hh => exact rfl))
  | ((with_reducible refine' r_isiT ?ty ?hk ?_); (case ty => (first | assumption | exact tyx_L (by assumption) | exact tyx_T (by assumption) | exact .base (.non) | exact .base (.bl _) | exact .base (.int _) | exact .base (.str _) | exact tyx_L (by walk_at "hl") | exact tyx_T (by walk_at "hl"))); (case hk => decide +kernel))
  | ((with_reducible refine' r_isiF ?ty ?hk ?_); (case ty => (first | assumption | exact tyx_L (by assumption) | exact tyx_T (by assumption) | exact .base (.non) | exact .base (.bl _) | exact .base (.int _) | exact .base (.str _) | exact tyx_L (by walk_at "hl") | exact tyx_T (by walk_at "hl"))); (case hk => decide +kernel))
  | ((with_reducible refine' r_gTup2 ?hn ?hs ?_); (case hn => exact rfl); (case hs => walk_at "hl"))
  | ((with_reducible refine' s_list ?hl ?_); (case hl => first | exact Or.inl (by walk_at "hl") | exact Or.inr (by walk_at "hl")))
  | ((with_reducible refine' s_tupN ?hl ?_); (case hl => walk_at "hl"))
  | ((with_reducible refine' s_sortN ?hl ?_); (case hl => walk_at "hl"))
  | ((refine' ⟨_, _, rfl, ?hl, ?_⟩); (case hl => first | exact Or.inl (by walk_at "hl") | exact Or.inr (by walk_at "hl")))
  | ((with_reducible refine' r_ixL ?hl ?ha ?_); (case hl => walk_at "hl"); (case ha => first | exact rfl | assumption))
  | ((with_reducible refine' r_ixT ?hl ?ha ?_); (case hl => walk_at "hl"); (case ha => first | exact rfl | assumption))))
local macro_rules | `(tactic| walk_at "rd") => `(tactic| repeat (walk_at "rd1"))

section
variable {P : Program} {w : World} {K : PySem.W.Frag} {mg : Str → Option Value} {base : Heap}

abbrev Small60 (ties : List (Int × Int)) (left : List Int) : Prop := UpT ties ∧ left.length ≤ 60 ∧ ties.length ≤ 4000
def A_least (K : PySem.W.Frag) : (List (Int × Int) × List Int × List Int) → List V → Hp → Prop := fun | (ties, left, row), vs, F => ∃ d r, vs = [.ref d, .ref r] ∧ NearAt F d ties left ∧ SqL K F r (row.map V.int) ∧ Small60 ties left ∧ ∀ h ∈ left, 0 ≤ h ∧ h < (row.length : Int)
def B_ints {α : Type} (f : α → List Int) : α → V → List (Addr × Cel) → Hp → Prop := fun x v N _ => ∃ q, v = .ref q ∧ N = [(q, .is (.lst ((f x).map V.int)))]
abbrev B_least : (List (Int × Int) × List Int × List Int) → V → List (Addr × Cel) → Hp → Prop := B_ints fun | (ties, left, row) => leastOf ties left (rowF row)
theorem ok_least_of (T : Env K mg) : FnOk P w K mg base CX0 1 T.a_least_of T.fd_least_of ["near", "numbers"] (SpF (A_least K) B_least) := by
  have nd := sc_least_of.nd
  refine T.F_least_of.ok sc_least_of (fun vs H Q E h => ?_) (fun cdv A outer s H vs Q E hr h => ?_)
  · obtain ⟨⟨_, _, _⟩, F, _, ⟨d, r, rfl, _⟩, _⟩ := h
    rfl
  · obtain ⟨⟨ties, left, row⟩, F, fr, ⟨d, r, rfl, ⟨od, as, la, cd, cl⟩, hr', ⟨ut, hl, ht⟩, hb⟩, k⟩ := h
    have S := Sep.start0 fr
    refine ⟨_, (pss_cons (ps_set (i := 2) nd rfl (.inl rfl) (pe_lst pa_nil))
      (pss_cons (ps_for PassesOwn.never rfl (pi_items (pv 0)) (pg_tup rfl (pgs_cons (pg_name (i := 3) nd rfl (.inr rfl)) (pgs_cons (pg_name (i := 4) nd rfl (.inl rfl)) pgs_nil))) (pss_one (ps_if (pt_val (pe_callB (id := "all") (cr_all rfl) (by rfl) T.n_all (by decide +kernel) (pa_cons (pe_lc (own := [("other", 5)]) (g := gName 5) (tt := tYes) (te := (tOp (rI0 fun i j => .bl (decide (i < j))) (tOp (rIxL K) (tVar 1) (tVar 3)) (tOp (rIxL K) (tVar 1) (tVar 5)))) rfl nd (pi_list (pv 4)) (blkOk_by (N := ["near", "numbers", "least", "house", "others", "other"]) (sc := defScope s_least_of) (by decide +kernel)) (fun _ _ _ _ _ => (pg_name (i := 5) nd rfl (.inl rfl))) (fun _ _ _ _ _ => pts_nil) (fun _ _ _ _ _ => (pe_cmpR op_lt (pe_ix ix_list (pv 1) (pv 3) (fun _ _ => rfl)) (pe_ix ix_list (pv 1) (pv 5) (fun _ _ => rfl)) (nomark _)))) pa_nil))) (pss_one (ps_expr (pe_bm PySem.F.plainAttrs_list PySem.F.slot_list_append PySem.F.type_list_append mt_append (pv 2) (pa_cons (pv 3) pa_nil)))) pss_nil)))
      (pss_one (ps_ret (pv 2))))), ?_⟩
    walk_at "rd"
    refine ⟨Nat.zero_le _, s_own S fun q H1 S => ?_⟩
    walk_at "rd"
    refine s_iitems (by walk_at "hc") ?_
    refine s_forN (fun i σ' F' M' => ∃ x3 x4 : Option V, σ' = [some (.ref d), some (.ref r), some (.ref q), x3, x4, none] ∧ M' = [(q, .is (.lst (((left.take i).filter fun h => (nbL ties left h).all fun o => decide (rowF row h < rowF row o)).map V.int)))]) S la cd ⟨none, none, rfl, rfl⟩ ?_ ?_
    · rintro i h a t σ' F1 F2 H2 M' i1 i2 S e1 e2 ct ⟨x3, x4, rfl, rfl⟩
      have hm := List.mem_of_getElem? i1
      have hh := hb h hm
      have ca := cl i h a i1 i2
      have nl := nbL_le ties left h
      have ai : atI (row.map V.int) h = some (.int (rowF row h)) := atI_int hh.1 hh.2
      have fl := List.length_filter_le (fun h => (nbL ties left h).all fun o => decide (rowF row h < rowF row o)) (left.take i)
      rw [List.length_take] at fl
      walk_at "rd"
      refine ⟨a, rfl, ⟨_, by walk_at "hl"⟩, ?_⟩
      refine s_lcV (srcI (K := K) (ns := nbL ties left h) (SqL.of ((e1.trans e2) _ _ ca))) (fun _ => true) (fun o => .bl (decide (rowF row h < rowF row o))) S (by omega) (fun m hm => by cases hm) ?_ ?_
      · rintro j o x acc D F3 H3 vt S e3 rfl
        have om := ((nbL_mem ut).1 (List.mem_of_getElem? vt.at')).2.1
        have oo := hb o om
        have ao : atI (row.map V.int) o = some (.int (rowF row o)) := atI_int oo.1 oo.2
        walk_at "rd"
        refine ⟨rfl, ?_⟩
        walk_at "rd"
        exact vt.put S (by walk_at "ex") rfl rfl
      · intro D F3 H3 S e3
        rw [List.filter_eq_self.mpr (fun _ _ => rfl)] at S
        walk_at "rd"
        refine ⟨D, (nbL ties left h).map fun o => decide (rowF row h < rowF row o), rfl, by rw [List.map_map]; exact SqL.of (S.rdM 0 rfl), ?_⟩
        walk_at "rd"
        rw [List.all_map, show (nbL ties left h).all (id ∘ fun o => decide (rowF row h < rowF row o)) = (nbL ties left h).all fun o => decide (rowF row h < rowF row o) from rfl]
        have S := S.drop 0
        refine iteB (fun c => ?_) (fun c => ?_)
        · walk_at "rd"
          refine ⟨tyL (by walk_at "hl"), ?_⟩
          walk_at "rd"
          refine s_app S 0 rfl (by rw [List.length_map]; omega) fun H4 S => ?_
          refine ⟨_, _, S, by walk_at "ex", _, _, rfl, ?_⟩
          rw [take_filter _ _ i1, if_pos c, List.map_append]
          rfl
        · walk_at "rd"
          refine ⟨_, _, S, by walk_at "ex", _, _, rfl, ?_⟩
          rw [take_filter _ _ i1, if_neg (by rw [c]; decide), List.append_nil]
          rfl
    · rintro σ' F1 H2 M' S e1 ⟨x3, x4, rfl, rfl⟩
      rw [List.take_length] at S
      walk_at "rd"
      exact k _ _ _ _ S ⟨q, rfl, rfl⟩
def A_out (K : PySem.W.Frag) : (List (Int × Int) × List Int × List Int) → List V → Hp → Prop := fun | (ties, left, c), vs, F => ∃ d r, vs = [.ref d, .ref r] ∧ NearAt F d ties left ∧ SqL K F r (c.map V.int) ∧ Small60 ties left ∧ c.length ≤ 1000
abbrev B_out : (List (Int × Int) × List Int × List Int) → V → List (Addr × Cel) → Hp → Prop := B_ints fun | (ties, left, c) => outBy ties left c
theorem ok_out_by (T : Env K mg) : FnOk P w K mg base CX0 1 T.a_out_by T.fd_out_by ["near", "chosen"] (SpF (A_out K) B_out) := by
  have nd := sc_out_by.nd
  refine T.F_out_by.ok sc_out_by (fun vs H Q E h => ?_) (fun cdv A outer s H vs Q E hr h => ?_)
  · obtain ⟨⟨_, _, _⟩, F, _, ⟨d, r, rfl, _⟩, _⟩ := h
    rfl
  · obtain ⟨⟨ties, left, c⟩, F, fr, ⟨d, r, rfl, ⟨od, as, la, cd, cl⟩, hr', ⟨ut, hl, ht⟩, hc⟩, k⟩ := h
    have S := Sep.start0 fr
    refine ⟨_, (pss_cons (ps_set (i := 2) nd rfl (.inr rfl) (pe_callTy (cr_setN rfl) (by rfl) T.n_set (by decide +kernel) (pa_cons (pv 1) pa_nil)))
      (pss_cons (ps_set (i := 3) nd rfl (.inl rfl) (pe_lst pa_nil))
      (pss_cons (ps_for PassesOwn.never rfl (pi_items (pv 0)) (pg_tup rfl (pgs_cons (pg_name (i := 4) nd rfl (.inl rfl)) (pgs_cons (pg_name (i := 5) nd rfl (.inl rfl)) pgs_nil))) (pss_one (ps_if (pt_val (pe_callB (id := "any") (cr_any rfl) (by rfl) T.n_any (by decide +kernel) (pa_cons (pe_lc (own := [("other", 6)]) (g := gName 6) (tt := tYes) (te := (tOp (rSIn w) (tVar 6) (tVar 2))) rfl nd (pi_list (pv 5)) (blkOk_by (N := ["near", "chosen", "inside", "out", "house", "others", "other"]) (sc := defScope s_out_by) (by decide +kernel)) (fun _ _ _ _ _ => (pg_name (i := 6) nd rfl (.inl rfl))) (fun _ _ _ _ _ => pts_nil) (fun _ _ _ _ _ => (pe_cmpR or_sin (pv 6) (pv 2) rfl))) pa_nil))) (pss_one (ps_expr (pe_bm PySem.F.plainAttrs_list PySem.F.slot_list_append PySem.F.type_list_append mt_append (pv 3) (pa_cons (pv 4) pa_nil)))) pss_nil)))
      (pss_one (ps_ret (pv 3)))))), ?_⟩
    walk_at "rd"
    refine s_setN (w := w) S (by walk_at "hl") (by omega) fun ins n F1 H1 hn S e1 ci => ?_
    walk_at "rd"
    refine ⟨Nat.zero_le _, s_own S fun q H2 S => ?_⟩
    walk_at "rd"
    have cd := e1 _ _ cd
    refine s_iitems (by walk_at "hc") ?_
    refine s_forN (fun i σ' F' M' => ∃ x4 x5 : Option V, σ' = [some (.ref d), some (.ref r), some (.ref ins), some (.ref q), x4, x5, none] ∧ M' = [(q, .is (.lst (((left.take i).filter fun h => (nbL ties left h).any fun o => decide (o ∈ c)).map V.int)))]) S la cd ⟨none, none, rfl, rfl⟩ ?_ ?_
    · rintro i h a t σ' F2 F3 H3 M' i1 i2 S e2 e3 ct ⟨x3, x4, rfl, rfl⟩
      have ca := cl i h a i1 i2
      have nl := nbL_le ties left h
      have fl := List.length_filter_le (fun h => (nbL ties left h).any fun o => decide (o ∈ c)) (left.take i)
      rw [List.length_take] at fl
      walk_at "rd"
      refine ⟨a, rfl, ⟨_, by walk_at "hl"⟩, ?_⟩
      refine s_lcV (srcI (K := K) (ns := nbL ties left h) (SqL.of ((e1.trans (e2.trans e3)) _ _ ca))) (fun _ => true) (fun o => .bl (decide (o ∈ c))) S (by omega) (fun m hm => by cases hm) ?_ ?_
      · rintro j o x acc D F4 H4 vt S e4 rfl
        walk_at "rd"
        refine ⟨rfl, ?_⟩
        walk_at "rd"
        exact vt.put S (by walk_at "ex") rfl rfl
      · intro D F4 H4 S e4
        rw [List.filter_eq_self.mpr (fun _ _ => rfl)] at S
        walk_at "rd"
        refine ⟨D, (nbL ties left h).map fun o => decide (o ∈ c), rfl, by rw [List.map_map]; exact SqL.of (S.rdM 0 rfl), ?_⟩
        walk_at "rd"
        rw [List.any_map, show (nbL ties left h).any (id ∘ fun o => decide (o ∈ c)) = (nbL ties left h).any fun o => decide (o ∈ c) from rfl]
        have S := S.drop 0
        refine iteB (fun cc => ?_) (fun cc => ?_)
        · walk_at "rd"
          refine ⟨tyL (by walk_at "hl"), ?_⟩
          walk_at "rd"
          refine s_app S 0 rfl (by rw [List.length_map]; omega) fun H5 S => ?_
          refine ⟨_, _, S, by walk_at "ex", _, _, rfl, ?_⟩
          rw [take_filter _ _ i1, if_pos cc, List.map_append]
          rfl
        · walk_at "rd"
          refine ⟨_, _, S, by walk_at "ex", _, _, rfl, ?_⟩
          rw [take_filter _ _ i1, if_neg (by rw [cc]; decide), List.append_nil]
          rfl
    · rintro σ' F2 H3 M' S e2 ⟨x3, x4, rfl, rfl⟩
      rw [List.take_length] at S
      walk_at "rd"
      exact k _ _ _ _ S ⟨q, rfl, rfl⟩
def A_behind (K : PySem.W.Frag) : (List (Int × Int) × List Int × List Int × List Int) → List V → Hp → Prop := fun | (ties, left, c, o), vs, F => ∃ d p q, vs = [.ref d, .ref p, .ref q] ∧ NearAt F d ties left ∧ F p = some (.lst (c.map V.int)) ∧ F q = some (.lst (o.map V.int)) ∧ left.length ≤ 60 ∧ c.length ≤ 400 ∧ o.length ≤ 400
abbrev B_behind : (List (Int × Int) × List Int × List Int × List Int) → V → List (Addr × Cel) → Hp → Prop := B_ints fun | (_, left, c, o) => behind left c o
theorem ok_left_behind (T : Env K mg) : FnOk P w K mg base CX0 1 T.a_left_behind T.fd_left_behind ["near", "chosen", "out"] (SpF (A_behind K) B_behind) := by
  have nd := sc_left_behind.nd
  refine T.F_left_behind.ok sc_left_behind (fun vs H Q E h => ?_) (fun cdv A outer s H vs Q E hr h => ?_)
  · obtain ⟨⟨_, _, _, _⟩, F, _, ⟨d, p, q, rfl, _⟩, _⟩ := h
    rfl
  · obtain ⟨⟨ties, left, c, o⟩, F, fr, ⟨d, p, q, rfl, ⟨od, as, la, cd, cl⟩, hp, hq, hl, hc, ho⟩, k⟩ := h
    have S := Sep.start0 fr
    refine ⟨_, (pss_cons (ps_set (i := 3) nd rfl (.inr rfl) (pe_callTy (cr_setN rfl) (by rfl) T.n_set (by decide +kernel) (pa_cons (pe_op op_cat (pv 1) (pv 2)) pa_nil)))
      (pss_one (ps_ret (pe_lc (own := [("house", 4)]) (g := gName 4) (tt := (tTest (tOp (rSNotIn w) (tVar 4) (tVar 3)))) (te := (tVar 4)) rfl nd (pi_keys (pv 0)) (blkOk_by (N := ["near", "chosen", "out", "decided", "house"]) (sc := defScope s_left_behind) (by decide +kernel)) (fun _ _ _ _ _ => (pg_name (i := 4) nd rfl (.inl rfl))) (fun _ _ _ _ _ => pts_one (pt_cmpR or_snotin (pv 4) (pv 3) rfl)) (fun _ _ _ _ _ => (pv 4)))))), ?_⟩
    walk_at "rd"
    refine s_cat (S.fr _ _ hp) (S.fr _ _ hq) (by rw [List.length_map, List.length_map]; omega) ?_
    refine s_new S fun z F1 H1 S e1 cz => ?_
    rw [← List.map_append] at cz
    walk_at "rd"
    refine s_setN (w := w) S (by walk_at "hl") (by rw [List.length_append]; omega) fun ins n F2 H2 hn S e2 ci => ?_
    walk_at "rd"
    refine s_ikeys (by walk_at "hc") ?_
    refine s_lcV (srcN la ((e1.trans e2) _ _ cd)) (fun h => !decide (h ∈ c ++ o)) (fun h => .int h) S (by omega) (fun m hm => by cases hm) ?_ ?_
    · rintro j h x acc D F3 H3 vt S e3 rfl
      walk_at "rd"
      refine ⟨rfl, ?_⟩
      walk_at "rd"
      refine iteB (fun cc => ?_) (fun cc => ?_)
      · walk_at "rd"
        exact vt.put S (by walk_at "ex") cc rfl
      · exact vt.skip S (by walk_at "ex") cc
    · intro D F3 H3 S e3
      exact k _ _ _ _ S ⟨D, rfl, rfl⟩
def drawsD (ds : List (List Int)) : PyData := .list (ds.map intsD)
def A_runby (K : PySem.W.Frag) : (Int × List (Int × Int) × List (List Int)) → List V → Hp → Prop := fun | (many, ties, ds), vs, F => ∃ v u, vs = [v, u] ∧ Dp K F v (webD many ties) ∧ WebOk many ties ∧ ties.length ≤ 4000 ∧ Dp K F u (drawsD ds) ∧ (∀ row ∈ ds, (row.length : Int) = many) ∧ ds.length ≤ 200
def B_runby : (Int × List (Int × Int) × List (List Int)) → V → List (Addr × Cel) → Hp → Prop := fun | (many, ties, ds), v, N, F => RunAt (runL ties (rgI many) ds).1 (runL ties (rgI many) ds).2 v N F
theorem np_one {α : Type} {f : α → List Int} (x : α) : ∀ v N F', B_ints f x v N F' → ∀ m ∈ N, ∃ o, m.2 = Cel.is o := by
  rintro v N F' ⟨q, _, rfl⟩ m hm
  rw [List.mem_singleton.mp hm]
  exact ⟨_, rfl⟩
end

end
section
local macro_rules | `(tactic| walk_at "ex") => `(tactic| first | exact Evl.Ex.refl _ | assumption | ((refine' Evl.Ex.trans ?x ?y); (case y => assumption); (case x => walk_at "ex")))
local macro_rules | `(tactic| walk_at "hc") => `(tactic| first
  | assumption
  | ((refine' Sep.rdM ?S 0 ?k); (case S => assumption); (case k => exact rfl)) | ((refine' Sep.rdM ?S 1 ?k); (case S => assumption); (case k => exact rfl)) | ((refine' Sep.rdM ?S 2 ?k); (case S => assumption); (case k => exact rfl)) | ((refine' Sep.rdM ?S 3 ?k); (case S => assumption); (case k => exact rfl)) | ((refine' Sep.rdM ?S 4 ?k); (case S => assumption); (case k => exact rfl))
  | ((refine' Sep.rdC ?S ?e ?h); (case S => assumption); (case h => assumption); (case e => walk_at "ex")))
local macro_rules | `(tactic| walk_at "hl") => `(tactic| first
  | assumption
  | ((refine' SqL.of (Sep.rdM ?S 0 ?k)); (case S => assumption); (case k => exact rfl)) | ((refine' SqL.of (Sep.rdM ?S 1 ?k)); (case S => assumption); (case k => exact rfl)) | ((refine' SqL.of (Sep.rdM ?S 2 ?k)); (case S => assumption); (case k => exact rfl)) | ((refine' SqL.of (Sep.rdM ?S 3 ?k)); (case S => assumption); (case k => exact rfl)) | ((refine' SqL.of (Sep.rdM ?S 4 ?k)); (case S => assumption); (case k => exact rfl))
  | ((refine' Sep.rdL ?S ?e ?h); (case S => assumption); (case h => assumption); (case e => walk_at "ex"))
  | ((refine' Sep.rdT ?S ?e ?h); (case S => assumption); (case h => assumption); (case e => walk_at "ex"))
  | ((refine' SqL.of (Sep.rdC ?S ?e ?h)); (case S => assumption); (case h => assumption); (case e => walk_at "ex"))
  | ((refine' SqT.of (Sep.rdC ?S ?e ?h)); (case S => assumption); (case h => assumption); (case e => walk_at "ex"))
  | ((refine' SqL.of ?h); (case h => assumption)) | ((refine' SqT.of ?h); (case h => assumption))
  | ((refine' Evl.ex_l ?e ?h); (case h => assumption); (case e => walk_at "ex")) | ((refine' Evl.ex_t ?e ?h); (case h => assumption); (case e => walk_at "ex"))
  | ((refine' SqL.of (?e _ _ ?h)); (case h => assumption); (case e => walk_at "ex")) | ((refine' SqT.of (?e _ _ ?h)); (case h => assumption); (case e => walk_at "ex")))
local macro_rules | `(tactic| walk_at "hs") => `(tactic| walk_at "hc")
local macro_rules | `(tactic| walk_at "dp") => `(tactic| first
  | assumption
  | ((refine' Sep.rdD ?S ?e ?h); (case S => assumption); (case h => assumption); (case e => walk_at "ex"))
  | ((refine' Dp.ex ?e _ _ ?h); (case h => assumption); (case e => walk_at "ex"))
  | ((refine' DpAll.ex ?e _ _ ?h); (case h => assumption); (case e => walk_at "ex"))
  | (refine' dp_intsD ?h; (case h => walk_at "hl")))
local macro_rules | `(tactic| walk_at "rd1") => `(tactic| (first
  | (with_reducible refine r_seq ?_)
  | (with_reducible refine r_asg ?_)
  | (with_reducible refine r_asgG ?_)
  | (with_reducible refine r_par ?_)
  | (with_reducible refine r_if ?_)
  | (with_reducible refine r_ret ?_)
  | (with_reducible refine r_drop ?_)
  | (with_reducible refine r_next ?_)
  | ((with_reducible refine' r_var ?hx ?_); (case hx => exact rfl))
  | (with_reducible refine r_c ?_)
  | (with_reducible refine r_op ?_)
  | (with_reducible refine r_un ?_)
  | (with_reducible refine r_I0 ?_)
  | ((with_reducible refine' r_I ?_ ?_); (· first | (show (0 : Int) < _; omega) | exact Or.inr ⟨by omega, by omega⟩ | exact Or.inl ⟨by omega, by omega⟩ | exact ⟨by omega, by omega, by decide⟩))
  | (with_reducible refine r_U ?_)
  | (with_reducible refine r_test ?_)
  | (with_reducible refine r_B ?_)
  | (with_reducible refine r_bl ?_)
  | (with_reducible refine r_eqI ?_)
  | (with_reducible refine r_neI ?_)
  | ((with_reducible refine' r_eq ?_ ?_); (· exact rfl))
  | ((with_reducible refine' r_ne ?_ ?_); (· exact rfl))
  | (with_reducible refine r_nil ?_)
  | (with_reducible refine r_cons ?_)
  | (with_reducible refine s_tup ?_)
  | (with_reducible refine s_lst ?_)
  | (with_reducible refine r_call ?_)
  | (with_reducible refine r_cb ?_)
  | (with_reducible refine r_and ?_)
  | (with_reducible refine r_or ?_)
  | (with_reducible refine r_not ?_)
  | (with_reducible refine r_andV ?_)
  | (with_reducible refine r_orV ?_)
  | (with_reducible refine r_notV ?_)
  | (with_reducible refine r_ifE ?_)
  | (with_reducible refine r_gSub ?_)
  | (with_reducible refine r_sadd ?_)
  | (with_reducible refine s_lstRg ?_)
  | (with_reducible refine r_rg1 ?_)
  | (with_reducible refine r_min2 ?_)
  | (with_reducible refine r_par2 ?_)
  | (with_reducible refine r_partI ?_)
  | (with_reducible refine s_lc ?_)
  | (with_reducible refine s_dc ?_)
  | (with_reducible refine r_yes ?_)
  | (with_reducible refine r_iZipA ?_)
  | (with_reducible refine r_isN ?_)
  | (with_reducible refine r_for ?_)
  | (with_reducible refine r_iList ?_)
  | (with_reducible refine r_iTup ?_)
  | (with_reducible refine r_iRng1 ?_)
  | (with_reducible refine r_iRng2 ?_)
  | (with_reducible refine r_iEnum ?_)
  | (with_reducible refine r_iZip ?_)
  | (with_reducible refine r_gName ?_)
  | (with_reducible refine r_isNV ?_)
  | (with_reducible refine r_notNV ?_)
  | (with_reducible refine r_bm ?_)
  | (with_reducible refine r_bm0 ?_)
  | (with_reducible refine r_sl ?_)
  | (with_reducible refine r_noPart ?_)
  | (with_reducible refine r_part ?_)
  | (with_reducible refine r_chain ?_)
  | (with_reducible refine r_iKeys ?_)
  | (with_reducible refine r_iItems ?_)
  | (with_reducible refine r_frz ?_)
  | (with_reducible refine r_dput ?_)
  | (with_reducible refine r_dget ?_)
  | (with_reducible refine r_din ?_)
  | (with_reducible refine r_dnotin ?_)
  | (with_reducible refine r_break ?_)
  | ((with_reducible refine' r_sIn ?h ?_); (case h => walk_at "hs"))
  | ((with_reducible refine' r_sNotIn ?h ?_); (case h => walk_at "hs"))
  | ((with_reducible refine' r_inI ?h ?_); (case h => walk_at "hl"))
  | ((with_reducible refine' r_notInI ?h ?_); (case h => walk_at "hl"))
  | ((with_reducible refine' r_eqNil ?h ?g ?_); (case h => walk_at "hl"); (case g => walk_at "hl"))
  | ((with_reducible refine' r_neNil ?h ?g ?_); (case h => walk_at "hl"); (case g => walk_at "hl"))
  | ((with_reducible refine' iteRT ?hh ?_); (case hh => exact rfl))
  | ((with_reducible refine' iteRF ?hh ?_); (case hh => exact rfl))
  | ((with_reducible refine' r_isiT ?ty ?hk ?_); (case ty => (first | assumption | exact tyx_L (by assumption) | exact tyx_T (by assumption) | exact .base (.non) | exact .base (.bl _) | exact .base (.int _) | exact .base (.str _) | exact tyx_L (by walk_at "hl") | exact tyx_T (by walk_at "hl"))); (case hk => decide +kernel))
  | ((with_reducible refine' r_isiF ?ty ?hk ?_); (case ty => (first | assumption | exact tyx_L (by assumption) | exact tyx_T (by assumption) | exact .base (.non) | exact .base (.bl _) | exact .base (.int _) | exact .base (.str _) | exact tyx_L (by walk_at "hl") | exact tyx_T (by walk_at "hl"))); (case hk => decide +kernel))
  | ((with_reducible refine' r_gTup2 ?hn ?hs ?_); (case hn => exact rfl); (case hs => walk_at "hl"))
  | ((with_reducible refine' s_list ?hl ?_); (case hl => first | exact Or.inl (by walk_at "hl") | exact Or.inr (by walk_at "hl")))
  | ((with_reducible refine' s_tupN ?hl ?_); (case hl => walk_at "hl"))
  | ((with_reducible refine' s_sortN ?hl ?_); (case hl => walk_at "hl"))
  | ((refine' ⟨_, _, rfl, ?hl, ?_⟩); (case hl => first | exact Or.inl (by walk_at "hl") | exact Or.inr (by walk_at "hl")))
  | ((with_reducible refine' r_ixL ?hl ?ha ?_); (case hl => walk_at "hl"); (case ha => first | exact rfl | assumption))
  | ((with_reducible refine' r_ixT ?hl ?ha ?_); (case hl => walk_at "hl"); (case ha => first | exact rfl | assumption))))
local macro_rules | `(tactic| walk_at "rd") => `(tactic| repeat (walk_at "rd1"))

section
variable {P : Program} {w : World} {K : PySem.W.Frag} {mg : Str → Option Value} {base : Heap}

def A_fx : (Int × Int) → List V → Hp → Prop := fun f vs _ => vs = [.int f.1, .int f.2] ∧ 0 < f.2 ∧ Big8 f.2
def B_fx (K : PySem.W.Frag) : (Int × Int) → V → List (Addr × Cel) → Hp → Prop := fun f v N F => N = [] ∧ Dp K F v (tieD (lowF f))
theorem ok_fraction_of (T : Env K mg) : FnOk P w K mg base CX0 1 T.a_fraction_of T.fd_fraction_of ["over", "under"] (SpF A_fx (B_fx K)) := by
  have nd := sc_fraction_of.nd
  refine T.F_fraction_of.ok sc_fraction_of (fun vs H Q E h => ?_) (fun cdv A outer s H vs Q E hr h => ?_)
  · obtain ⟨_, F, _, ⟨rfl, _⟩, _⟩ := h
    rfl
  · obtain ⟨f, F, fr, ⟨rfl, h2, h3⟩, k⟩ := h
    have S := Sep.start0 fr
    have gd := gOf_div h2 h3
    refine ⟨_, (pss_cons (ps_set (i := 2) nd rfl (.inl rfl) (pe_callBfun cr_gcd (by rfl) T.g_gcd (pa_cons (pv 0) (pa_cons (pv 1) pa_nil))))
      (pss_one (ps_ret (pe_tup (pa_cons (pe_op op_fdivW (pv 0) (pv 2)) (pa_cons (pe_op op_fdivW (pv 1) (pv 2)) pa_nil)))))), ?_⟩
    walk_at "rd"
    refine ⟨f.1, f.2, rfl, ?_⟩
    walk_at "rd"
    refine ⟨_, _, rfl, rfl, gd, ?_⟩
    walk_at "rd"
    refine ⟨_, _, rfl, rfl, gd, ?_⟩
    walk_at "rd"
    refine ⟨by show 2 ≤ sizeLine; decide, s_new S fun q F1 H1 S e1 c1 => ?_⟩
    exact k _ [] _ _ S ⟨rfl, .tup (SqT.of c1) (.cons (.int _) (.cons (.int _) .nil))⟩
def A_lfx : (Int × Int) → List V → Hp → Prop := fun f vs _ => vs = [.int f.1, .int f.2] ∧ 0 ≤ f.1 ∧ 0 < f.2 ∧ Big8 f.2
theorem ok_l_lowest (T : Env K mg) : FnOk P w K mg base CX0 1 T.a__law_lowest T.fd__law_lowest ["over", "under"] (SpF A_lfx (B_fx K)) := by
  have nd := sc__law_lowest.nd
  refine T.F__law_lowest.ok sc__law_lowest (fun vs H Q E h => ?_) (fun cdv A outer s H vs Q E hr h => ?_)
  · obtain ⟨_, F, _, ⟨rfl, _⟩, _⟩ := h
    rfl
  · obtain ⟨f, F, fr, ⟨rfl, h1, h2, h3⟩, k⟩ := h
    have S := Sep.start0 fr
    have gd := gOf_div h2 h3
    refine ⟨_, (pss_cons (ps_par (i := 2) (j := 3) (by rfl) nd rfl rfl (by decide) rfl rfl (pa_cons (pv 0) (pa_cons (pv 1) pa_nil)) (by rfl))
      (pss_cons (ps_while PassesOwn.never (pt_cmpR op_ne (pv 3) pe_int (nomark _)) (pss_one (ps_par (i := 2) (j := 3) (by rfl) nd rfl rfl (by decide) rfl rfl (pa_cons (pv 3) (pa_cons (pe_op op_mod (pv 2) (pv 3)) pa_nil)) (by rfl))))
      (pss_one (ps_ret (pe_tup (pa_cons (pe_op op_fdivW (pv 0) (pv 2)) (pa_cons (pe_op op_fdivW (pv 1) (pv 2)) pa_nil))))))), ?_⟩
    walk_at "rd"
    refine s_while (fun n σ' F' M' => ∃ a b : Int, σ' = [some (.int f.1), some (.int f.2), some (.int a), some (.int b)] ∧ M' = [] ∧ n = b.natAbs ∧ 0 ≤ a ∧ 0 ≤ b ∧ Nat.gcd a.natAbs b.natAbs = Nat.gcd f.1.natAbs f.2.natAbs) S f.2.natAbs ⟨_, _, rfl, rfl, rfl, h1, by omega, rfl⟩ ?_
    rintro n σ' F1 H1 M' S e1 ⟨a, b, rfl, rfl, rfl, g1, g2, g3⟩
    walk_at "rd"
    refine iteB (fun c => ?_) (fun c => ?_)
    · have hb : b ≠ 0 := fun z => by rw [z] at c; exact absurd c (by decide)
      refine ⟨_, fun _ _ z => z, ?_⟩
      walk_at "rd"
      have m1 := Int.emod_nonneg a hb
      have m2 := Int.emod_lt_of_pos a (show 0 < b by omega)
      refine ⟨(a % b).natAbs, by omega, _, _, S, e1, b, a % b, rfl, rfl, rfl, g2, m1, ?_⟩
      rw [gcd_step g1 (by omega)]
      exact g3
    · have hb : b = 0 := Decidable.byContradiction fun z => by
        have : (decide (V.int b = V.int 0)) = false := decide_eq_false fun q => z (V.int.inj q)
        simp [this] at c
        exact z c
      subst hb
      have ea : a = gOf f := by
        unfold gOf
        rw [← g3]
        show a = ((Nat.gcd a.natAbs 0 : Nat) : Int)
        rw [Nat.gcd_zero_right, Int.natAbs_of_nonneg g1]
      subst ea
      walk_at "rd"
      refine ⟨_, _, rfl, rfl, gd, ?_⟩
      walk_at "rd"
      refine ⟨_, _, rfl, rfl, gd, ?_⟩
      walk_at "rd"
      refine ⟨by show 2 ≤ sizeLine; decide, s_new S fun q F2 H2 S e2 c2 => ?_⟩
      exact k _ [] _ _ S ⟨rfl, .tup (SqT.of c2) (.cons (.int _) (.cons (.int _) .nil))⟩

end

end
section
local macro_rules | `(tactic| walk_at "ex") => `(tactic| first | exact Evl.Ex.refl _ | assumption | ((refine' Evl.Ex.trans ?x ?y); (case y => assumption); (case x => walk_at "ex")))
local macro_rules | `(tactic| walk_at "hc") => `(tactic| first
  | assumption
  | ((refine' Sep.rdM ?S 0 ?k); (case S => assumption); (case k => exact rfl)) | ((refine' Sep.rdM ?S 1 ?k); (case S => assumption); (case k => exact rfl)) | ((refine' Sep.rdM ?S 2 ?k); (case S => assumption); (case k => exact rfl)) | ((refine' Sep.rdM ?S 3 ?k); (case S => assumption); (case k => exact rfl)) | ((refine' Sep.rdM ?S 4 ?k); (case S => assumption); (case k => exact rfl))
  | ((refine' Sep.rdC ?S ?e ?h); (case S => assumption); (case h => assumption); (case e => walk_at "ex")))
local macro_rules | `(tactic| walk_at "hl") => `(tactic| first
  | assumption
  | ((refine' SqL.of (Sep.rdM ?S 0 ?k)); (case S => assumption); (case k => exact rfl)) | ((refine' SqL.of (Sep.rdM ?S 1 ?k)); (case S => assumption); (case k => exact rfl)) | ((refine' SqL.of (Sep.rdM ?S 2 ?k)); (case S => assumption); (case k => exact rfl)) | ((refine' SqL.of (Sep.rdM ?S 3 ?k)); (case S => assumption); (case k => exact rfl)) | ((refine' SqL.of (Sep.rdM ?S 4 ?k)); (case S => assumption); (case k => exact rfl))
  | ((refine' Sep.rdL ?S ?e ?h); (case S => assumption); (case h => assumption); (case e => walk_at "ex"))
  | ((refine' Sep.rdT ?S ?e ?h); (case S => assumption); (case h => assumption); (case e => walk_at "ex"))
  | ((refine' SqL.of (Sep.rdC ?S ?e ?h)); (case S => assumption); (case h => assumption); (case e => walk_at "ex"))
  | ((refine' SqT.of (Sep.rdC ?S ?e ?h)); (case S => assumption); (case h => assumption); (case e => walk_at "ex"))
  | ((refine' SqL.of ?h); (case h => assumption)) | ((refine' SqT.of ?h); (case h => assumption))
  | ((refine' Evl.ex_l ?e ?h); (case h => assumption); (case e => walk_at "ex")) | ((refine' Evl.ex_t ?e ?h); (case h => assumption); (case e => walk_at "ex"))
  | ((refine' SqL.of (?e _ _ ?h)); (case h => assumption); (case e => walk_at "ex")) | ((refine' SqT.of (?e _ _ ?h)); (case h => assumption); (case e => walk_at "ex")))
local macro_rules | `(tactic| walk_at "hs") => `(tactic| walk_at "hc")
local macro_rules | `(tactic| walk_at "dp") => `(tactic| first
  | assumption
  | ((refine' Sep.rdD ?S ?e ?h); (case S => assumption); (case h => assumption); (case e => walk_at "ex"))
  | ((refine' Dp.ex ?e _ _ ?h); (case h => assumption); (case e => walk_at "ex"))
  | ((refine' DpAll.ex ?e _ _ ?h); (case h => assumption); (case e => walk_at "ex"))
  | (refine' dp_intsD ?h; (case h => walk_at "hl")))
local macro_rules | `(tactic| walk_at "rd1") => `(tactic| (first
  | (with_reducible refine r_seq ?_)
  | (with_reducible refine r_asg ?_)
  | (with_reducible refine r_asgG ?_)
  | (with_reducible refine r_par ?_)
  | (with_reducible refine r_if ?_)
  | (with_reducible refine r_ret ?_)
  | (with_reducible refine r_drop ?_)
  | (with_reducible refine r_next ?_)
  | ((with_reducible refine' r_var ?hx ?_); (case hx => exact rfl))
  | (with_reducible refine r_c ?_)
  | (with_reducible refine r_op ?_)
  | (with_reducible refine r_un ?_)
  | (with_reducible refine r_I0 ?_)
  | ((with_reducible refine' r_I ?_ ?_); (· first | (show (0 : Int) < _; omega) | exact Or.inr ⟨by omega, by omega⟩ | exact Or.inl ⟨by omega, by omega⟩ | exact ⟨by omega, by omega, by decide⟩))
  | (with_reducible refine r_U ?_)
  | (with_reducible refine r_test ?_)
  | (with_reducible refine r_B ?_)
  | (with_reducible refine r_bl ?_)
  | (with_reducible refine r_eqI ?_)
  | (with_reducible refine r_neI ?_)
  | ((with_reducible refine' r_eq ?_ ?_); (· exact rfl))
  | ((with_reducible refine' r_ne ?_ ?_); (· exact rfl))
  | (with_reducible refine r_nil ?_)
  | (with_reducible refine r_cons ?_)
  | (with_reducible refine s_tup ?_)
  | (with_reducible refine s_lst ?_)
  | (with_reducible refine r_call ?_)
  | (with_reducible refine r_cb ?_)
  | (with_reducible refine r_and ?_)
  | (with_reducible refine r_or ?_)
  | (with_reducible refine r_not ?_)
  | (with_reducible refine r_andV ?_)
  | (with_reducible refine r_orV ?_)
  | (with_reducible refine r_notV ?_)
  | (with_reducible refine r_ifE ?_)
  | (with_reducible refine r_gSub ?_)
  | (with_reducible refine r_sadd ?_)
  | (with_reducible refine s_lstRg ?_)
  | (with_reducible refine r_rg1 ?_)
  | (with_reducible refine r_min2 ?_)
  | (with_reducible refine r_par2 ?_)
  | (with_reducible refine r_partI ?_)
  | (with_reducible refine s_lc ?_)
  | (with_reducible refine s_dc ?_)
  | (with_reducible refine r_yes ?_)
  | (with_reducible refine r_iZipA ?_)
  | (with_reducible refine r_isN ?_)
  | (with_reducible refine r_for ?_)
  | (with_reducible refine r_iList ?_)
  | (with_reducible refine r_iTup ?_)
  | (with_reducible refine r_iRng1 ?_)
  | (with_reducible refine r_iRng2 ?_)
  | (with_reducible refine r_iEnum ?_)
  | (with_reducible refine r_iZip ?_)
  | (with_reducible refine r_gName ?_)
  | (with_reducible refine r_isNV ?_)
  | (with_reducible refine r_notNV ?_)
  | (with_reducible refine r_bm ?_)
  | (with_reducible refine r_bm0 ?_)
  | (with_reducible refine r_sl ?_)
  | (with_reducible refine r_noPart ?_)
  | (with_reducible refine r_part ?_)
  | (with_reducible refine r_chain ?_)
  | (with_reducible refine r_iKeys ?_)
  | (with_reducible refine r_iItems ?_)
  | (with_reducible refine r_frz ?_)
  | (with_reducible refine r_dput ?_)
  | (with_reducible refine r_dget ?_)
  | (with_reducible refine r_din ?_)
  | (with_reducible refine r_dnotin ?_)
  | (with_reducible refine r_break ?_)
  | ((with_reducible refine' r_sIn ?h ?_); (case h => walk_at "hs"))
  | ((with_reducible refine' r_sNotIn ?h ?_); (case h => walk_at "hs"))
  | ((with_reducible refine' r_inI ?h ?_); (case h => walk_at "hl"))
  | ((with_reducible refine' r_notInI ?h ?_); (case h => walk_at "hl"))
  | ((with_reducible refine' r_eqNil ?h ?g ?_); (case h => walk_at "hl"); (case g => walk_at "hl"))
  | ((with_reducible refine' r_neNil ?h ?g ?_); (case h => walk_at "hl"); (case g => walk_at "hl"))
  | ((with_reducible refine' iteRT ?hh ?_); (case hh => exact rfl))
  | ((with_reducible refine' iteRF ?hh ?_); (case hh => exact rfl))
  | ((with_reducible refine' r_isiT ?ty ?hk ?_); (case ty => (first | assumption | exact tyx_L (by assumption) | exact tyx_T (by assumption) | exact .base (.non) | exact .base (.bl _) | exact .base (.int _) | exact .base (.str _) | exact tyx_L (by walk_at "hl") | exact tyx_T (by walk_at "hl"))); (case hk => decide +kernel))
  | ((with_reducible refine' r_isiF ?ty ?hk ?_); (case ty => (first | assumption | exact tyx_L (by assumption) | exact tyx_T (by assumption) | exact .base (.non) | exact .base (.bl _) | exact .base (.int _) | exact .base (.str _) | exact tyx_L (by walk_at "hl") | exact tyx_T (by walk_at "hl"))); (case hk => decide +kernel))
  | ((with_reducible refine' r_gTup2 ?hn ?hs ?_); (case hn => exact rfl); (case hs => walk_at "hl"))
  | ((with_reducible refine' s_list ?hl ?_); (case hl => first | exact Or.inl (by walk_at "hl") | exact Or.inr (by walk_at "hl")))
  | ((with_reducible refine' s_tupN ?hl ?_); (case hl => walk_at "hl"))
  | ((with_reducible refine' s_sortN ?hl ?_); (case hl => walk_at "hl"))
  | ((refine' ⟨_, _, rfl, ?hl, ?_⟩); (case hl => first | exact Or.inl (by walk_at "hl") | exact Or.inr (by walk_at "hl")))
  | ((with_reducible refine' r_ixL ?hl ?ha ?_); (case hl => walk_at "hl"); (case ha => first | exact rfl | assumption))
  | ((with_reducible refine' r_ixT ?hl ?ha ?_); (case hl => walk_at "hl"); (case ha => first | exact rfl | assumption))))
local macro_rules | `(tactic| walk_at "rd") => `(tactic| repeat (walk_at "rd1"))

section
variable {P : Program} {w : World} {K : PySem.W.Frag} {mg : Str → Option Value} {base : Heap}

theorem near_val {F : Hp} {d : Addr} {od : Obj} {ties : List (Int × Int)} {left : List Int} {as : List Addr} (nd : left.Nodup) (la : as.length = left.length) (h : Int) : (h ∉ left → valV (nearK left as) (.inl h) = none) ∧ ∀ i : Nat, left[i]? = some h → ∃ a : Addr, as[i]? = some a ∧ valV (nearK left as) (.inl h) = some (.ref a) := by
  refine ⟨fun hn => ?_, fun i hi => ?_⟩
  · have := nearK_some (h := h) nd la
    rw [decide_eq_false hn] at this
    cases e : valV (nearK left as) (.inl h) with
    | none => rfl
    | some x => rw [e] at this; cases this
  · have li := (List.getElem?_eq_some_iff.mp hi).1
    exact ⟨as[i], List.getElem?_eq_getElem (by omega), nearK_val nd hi (List.getElem?_eq_getElem (by omega))⟩
/-- near.get(h): whether it is tied to one left -/
theorem near_get {io : List Addr} {H0 F0 F H : Hp} {M : List (Addr × Cel)} {K : PySem.W.Frag} {d : Addr} {ties : List (Int × Int)} {left : List Int} (S : Sep io H0 F0 F H M) (u : UpT ties) (nd : left.Nodup) (hN : NearAt F d ties left) (h : Int) :
    IsD H d ∧ ∃ o, DGet H d (.int h) o ∧ TruV K (o.getD .non) H (!(nbL ties left h).isEmpty) := by
  obtain ⟨od, as, la, hd, hl⟩ := hN
  have rd : Rd H d (.dK (nearK left as)) := .inr ⟨od, S.fr _ _ hd⟩
  refine ⟨.inl ⟨_, rd⟩, valV (nearK left as) (.inl h), .inl ⟨_, .inl h, rd, rfl, rfl⟩, ?_⟩
  obtain ⟨n1, n2⟩ := near_val (F := F) (d := d) (od := od) (ties := ties) nd la h
  by_cases m : h ∈ left
  · obtain ⟨i, hi⟩ := List.mem_iff_getElem?.mp m
    obtain ⟨a, ea, ev⟩ := n2 i hi
    rw [ev]
    have := S.fr _ _ (hl i h a hi ea)
    refine .inl ⟨_, SqL.of this, ?_⟩
    rw [List.isEmpty_map]
  · rw [n1 m]
    have : nbL ties left h = [] := by
      cases e : nbL ties left h with
      | nil => rfl
      | cons x r => exact absurd ((nbL_mem u).mp (by rw [e]; exact List.mem_cons_self)).1 m
    rw [this]
    rfl
def A_rod (K : PySem.W.Frag) : (Int × List (Int × Int) × List Int × Int) → List V → Hp → Prop := fun | (many, ties, here, sides), vs, F => ∃ v d, vs = [v, .int sides, .ref d] ∧ Dp K F v (webD many ties) ∧ UpT ties ∧ here.Nodup ∧ NearAt F d ties here ∧ 0 ≤ many ∧ many ≤ 5 ∧ 1 ≤ sides ∧ sides ≤ 4
def B_rod (K : PySem.W.Frag) : (Int × List (Int × Int) × List Int × Int) → V → List (Addr × Cel) → Hp → Prop := fun | (many, ties, here, sides), v, N, F => N = [] ∧ ∃ q qs, v = .ref q ∧ F q = some (.lst (qs.map V.ref)) ∧ LstsAt F qs (rowsC (chC ties here sides) (rgI many))
theorem chC_len {ties : List (Int × Int)} {here : List Int} {sides h : Int} (h1 : 1 ≤ sides) (h4 : sides ≤ 4) : 1 ≤ (chC ties here sides h).length ∧ (chC ties here sides h).length ≤ 4 := by
  unfold chC
  split
  · exact ⟨by decide, by decide⟩
  · rw [rgI_len]
    omega
theorem rowsC_num {C : Int → List Int} : ∀ (hs : List Int) (rows : List (List Int)), (∀ h, (C h).length ≤ 4) → (hs.foldl (fun rows h => rows.flatMap fun row => (C h).map fun x => row ++ [x]) rows).length ≤ rows.length * 4 ^ hs.length
  | [], rows, _ => by simp
  | a :: hs, rows, h => by
    rw [List.foldl_cons, List.length_cons]
    have ih := rowsC_num hs (rows.flatMap fun row => (C a).map fun x => row ++ [x]) h
    have e : (rows.flatMap fun row => (C a).map fun x => row ++ [x]).length = rows.length * (C a).length := by
      rw [List.length_flatMap]
      have : (rows.map fun row => ((C a).map fun x => row ++ [x]).length) = rows.map fun _ => (C a).length := List.map_congr_left fun _ _ => List.length_map ..
      rw [this, List.map_const', List.sum_replicate_nat]
    rw [e] at ih
    have := h a
    have h2 : rows.length * (C a).length * 4 ^ hs.length ≤ rows.length * 4 * 4 ^ hs.length := Nat.mul_le_mul_right _ (Nat.mul_le_mul_left _ this)
    rw [Nat.pow_succ, Nat.mul_comm (4 ^ hs.length) 4, ← Nat.mul_assoc]
    omega
theorem rowsC_take {C : Int → List Int} {hs : List Int} {i : Nat} {h : Int} (e : hs[i]? = some h) : rowsC C (hs.take (i + 1)) = (rowsC C (hs.take i)).flatMap fun row => (C h).map fun x => row ++ [x] := by
  unfold rowsC
  rw [take_snoc e, List.foldl_append]
  rfl
theorem pow_le5 {i : Nat} (h : i ≤ 5) : 4 ^ i ≤ 1024 := Nat.pow_le_pow_right (n := 4) (by decide) h
theorem ok_rows_of_draws (T : Env K mg) : FnOk P w K mg base CX0 1 T.a_rows_of_draws T.fd_rows_of_draws ["web", "sides", "near"] (SpF (A_rod K) (B_rod K)) := by
  have nd := sc_rows_of_draws.nd
  refine T.F_rows_of_draws.ok sc_rows_of_draws (fun vs H Q E h => ?_) (fun cdv A outer s H vs Q E hr h => ?_)
  · obtain ⟨⟨_, _, _, _⟩, F, _, ⟨v, d, rfl, _⟩, _⟩ := h
    rfl
  · obtain ⟨⟨many, ties, here, sides⟩, F, fr, ⟨v, d, rfl, hv, u, ndh, hN, m0, m5, s1, s4⟩, k⟩ := h
    obtain ⟨wa, wb, ws, rfl, z1, z2, z3⟩ := webD_at hv
    have S := Sep.start0 fr
    refine ⟨_, (pss_cons (ps_set (i := 3) nd rfl (.inl rfl) (pe_lst (pa_cons (pe_lst pa_nil) pa_nil)))
      (pss_cons (ps_for PassesOwn.never rfl (pi_range1 (by rfl) T.n_range (pa_cons (pe_ix ix_tup (pv 0) pe_int (fun _ _ => rfl)) pa_nil)) (pg_name (i := 4) nd rfl (.inl rfl)) (pss_cons (ps_set (i := 5) nd rfl (.inr rfl) (pe_ifExp (pt_truth (pe_dget1 (u1 hr) (pv 2) (pv 4) ⟨rfl, rfl, rfl, rfl⟩) (fun _ => rfl)) (pe_listRg rfl (by rfl) T.n_list (prg_1 (by rfl) T.n_range (pv 1))) (pe_lst (pa_cons pe_int pa_nil))))
      (pss_one (ps_setLc2 (i := 3) (wi := (iList K (tVar 3))) (wi1 := (iList K (tVar 5))) (own := [("row", 6), ("number", 7)]) (vs1 := [7]) (g := (gName 6)) (g1 := (gName 7)) (tt := tYes) (tt1 := tYes) (te := (tOp rCat (tVar 6) (tLst (tCons (tVar 7) tNil)))) rfl nd rfl rfl (sw_true rfl rfl rfl (by decide +kernel)) (pi_list (pv 3)) (blkOk_by (N := ["web", "sides", "near", "rows", "house", "numbers", "row", "number"]) (sc := defScope s_rows_of_draws) (by decide +kernel)) (by decide) (fun _ _ _ _ _ => by exact (pg_name (i := 6) nd rfl (.inl rfl))) (fun _ _ _ _ _ => by exact pts_nil) (fun _ _ _ _ _ => by exact pi_list (pv 5)) (fun _ _ _ _ _ => by exact (pg_name (i := 7) nd rfl (.inl rfl))) (fun _ _ _ _ _ => by exact pts_nil) (fun _ _ _ _ _ => by exact (pe_op op_cat (pv 6) (pe_lst (pa_cons (pv 7) pa_nil))))))))
      (pss_one (ps_ret (pv 3))))), ?_⟩
    walk_at "rd"
    refine ⟨Nat.zero_le _, s_new S fun q0 F1 H1 S e1 c1 => ?_⟩
    walk_at "rd"
    refine ⟨by show 1 ≤ sizeLine; decide, s_new S fun q1 F2 H2 S e2 c2 => ?_⟩
    walk_at "rd"
    refine ⟨many, rfl, by omega, by omega, ?_⟩
    refine s_for (fun i σ' F' M' => ∃ (rq : Addr) (xs : List Addr) (x4 x5 : Option V), σ' = [some (.ref wa), some (.int sides), some (.ref d), some (.ref rq), x4, x5, none, none] ∧ M' = [] ∧ F' rq = some (.lst (xs.map V.ref)) ∧ LstsAt F' xs (rowsC (chC ties here sides) ((rgI many).take i))) (srcRG (n := many)) S ⟨q1, [q0], none, none, rfl, rfl, c2, by rw [List.take_zero]; exact .cons (e2 _ _ c1) .nil⟩ (fun _ _ _ _ _ m hm => by cases hm) ?_ ?_
    · rintro i h x σ' F3 F4 H4 M' ei S e3 e4 rfl ⟨rq, xs, x4, x5, rfl, rfl, cr, dr⟩
      have hi := (List.getElem?_eq_some_iff.mp ei).1
      rw [rgI_len] at hi
      have hN4 := hN.ex (e1.trans (e2.trans (e3.trans e4)))
      obtain ⟨isd, o, dg, tru⟩ := near_get (K := K) S u ndh hN4 h
      walk_at "rd"
      refine r_dget1 ?_
      walk_at "rd"
      refine ⟨d, rfl, isd, ?_⟩
      walk_at "rd"
      refine ⟨o, dg, _, tru, ?_⟩
      have num : (rowsC (chC ties here sides) ((rgI many).take i)).length ≤ 1024 := by
        have := rowsC_num (C := chC ties here sides) ((rgI many).take i) [[]] fun h => (chC_len s1 s4).2
        have p5 := pow_le5 (i := ((rgI many).take i).length) (by rw [List.length_take]; omega)
        unfold rowsC
        rw [List.length_singleton, Nat.one_mul] at this
        omega
      have fin : ∀ (nq : Addr) (F5 H5 : Hp), Sep [] H F F5 H5 [] → Evl.Ex F4 F5 → F5 nq = some (.lst ((chC ties here sides h).map V.int)) → lc2K (Itl K rq) (gName 6) tYes (iList K (tVar 5)) (gName 7) tYes (tOp rCat (tVar 6) (tLst (tCons (tVar 7) tNil))) [6, 7] [7] [some (.ref wa), some (.int sides), some (.ref d), some (.ref rq), some (.int h), some (.ref nq), none, none] H5 (fun x H1 => LI [] H F F2 (fun i σ' F' M' => ∃ (rq : Addr) (xs : List Addr) (x4 x5 : Option V), σ' = [some (.ref wa), some (.int sides), some (.ref d), some (.ref rq), x4, x5, none, none] ∧ M' = [] ∧ F' rq = some (.lst (xs.map V.ref)) ∧ LstsAt F' xs (rowsC (chC ties here sides) ((rgI many).take i))) (i + 1) [some (.ref wa), some (.int sides), some (.ref d), some x, some (.int h), some (.ref nq), none, none] H1) := by
        intro nq F5 H5 S e5 cn
        have cl := chC_len (ties := ties) (here := here) (h := h) s1 s4
        refine s_lc2N (srcLs (ss := rowsC (chC ties here sides) ((rgI many).take i)) (SqL.of ((e4.trans e5) _ _ cr)) (dr.ex (e4.trans e5))) (fun row x => row ++ [x]) S (fun m hm => by cases hm) cn (by
          have := Nat.mul_le_mul num cl.2
          omega) (fun _ => rfl) (fun _ => rfl) (fun _ _ => rfl) ?_ ?_
        · rintro row x n F6 F7 H7 M' Q' hrow hnum S e6 e7 hx kk
          obtain ⟨ra, rfl, hr⟩ := hx
          have hr := e7 _ _ hr
          have rl := rowsC_len (chC ties here sides) ((rgI many).take i) [[]] 0 (fun r hr => by rw [List.mem_singleton.mp hr]; rfl) row hrow
          rw [List.length_take] at rl
          walk_at "rd"
          refine ⟨by show 1 ≤ sizeLine; decide, s_new S fun p2 F9 H9 S e9 c9 => ?_⟩
          refine s_cat (S.fr _ _ (e9 _ _ hr)) (S.fr _ _ c9) (by rw [List.length_map]; simp; omega) (s_new S fun p3 FA HA S eA cA => ?_)
          refine kk _ FA HA S (e9.trans eA) ?_
          have : row.map V.int ++ [V.int n] = (row ++ [n]).map V.int := by rw [List.map_append]; rfl
          rw [this] at cA
          exact cA
        · intro D acc F6 H6 S e6 d6
          obtain ⟨F7, S, e7, c7⟩ := S.frz 0 rfl
          refine ⟨F7, _, S, (e3.trans (e4.trans (e5.trans (e6.trans e7)))), D, acc, _, _, rfl, rfl, c7, ?_⟩
          rw [rowsC_take ei]
          exact d6.ex e7
      cases eb : (nbL ties here h).isEmpty with
      | false =>
        walk_at "rd"
        refine ⟨⟨by omega, by omega, by omega, by omega, by omega⟩, ?_⟩
        rw [rgV_eq]
        refine s_new S fun nq F5 H5 S e5 c5 => ?_
        walk_at "rd"
        refine s_lc2 ?_
        walk_at "rd"
        refine ⟨rq, rfl, ⟨_, SqL.of (S.fr _ _ ((e4.trans e5) _ _ cr))⟩, ?_⟩
        refine fin nq F5 _ S e5 ?_
        unfold chC
        rw [eb, if_neg (by decide)]
        exact c5
      | true =>
        walk_at "rd"
        refine ⟨by show 1 ≤ sizeLine; decide, s_new S fun nq F5 H5 S e5 c5 => ?_⟩
        walk_at "rd"
        refine s_lc2 ?_
        walk_at "rd"
        refine ⟨rq, rfl, ⟨_, SqL.of (S.fr _ _ ((e4.trans e5) _ _ cr))⟩, ?_⟩
        refine fin nq F5 _ S e5 ?_
        unfold chC
        rw [eb, if_pos rfl]
        exact c5
    · rintro σ' F3 H3 M' S e3 ⟨rq, xs, x4, x5, rfl, rfl, cr, dr⟩
      rw [List.take_length] at dr
      walk_at "rd"
      exact k _ [] _ _ S ⟨rfl, rq, xs, rfl, cr, dr⟩
def A_cw (K : PySem.W.Frag) : (List (Int × Int) × List Int × List (List Int)) → List V → Hp → Prop := fun | (ties, here, rows), vs, F => ∃ d r qs, vs = [.ref d, .ref r] ∧ NearAt F d ties here ∧ F r = some (.lst (qs.map V.ref)) ∧ LstsAt F qs rows ∧ Small60 ties here ∧ (∀ row ∈ rows, ∀ h ∈ here, 0 ≤ h ∧ h < (row.length : Int)) ∧ rows.length ≤ 5000
def cwL (ties : List (Int × Int)) (here : List Int) (rows : List (List Int)) : List (List Int × Int) := tally (rows.map fun r => (leastOf ties here (rowF r), (1 : Int)))
def B_cw : (List (Int × Int) × List Int × List (List Int)) → V → List (Addr × Cel) → Hp → Prop := fun | (ties, here, rows), v, N, F => N = [] ∧ ∃ q, v = .ref q ∧ WaysAt F q (cwL ties here rows)
theorem addA_len {κ : Type} [DecidableEq κ] (ws : List (κ × Int)) (k : κ) (c : Int) : (addA ws k c).length ≤ ws.length + 1 := by
  unfold addA
  split
  · rw [List.length_map]; omega
  · rw [List.length_append]; simp
theorem tally_len {κ : Type} [DecidableEq κ] (xs : List (κ × Int)) : (tally xs).length ≤ xs.length := by
  have key : ∀ (ys : List (κ × Int)) (ws : List (κ × Int)), (ys.foldl (fun ws p => addA ws p.1 p.2) ws).length ≤ ws.length + ys.length := by
    intro ys
    induction ys with
    | nil => intro ws; simp
    | cons p r ih =>
      intro ws
      have := ih (addA ws p.1 p.2)
      have := addA_len ws p.1 p.2
      rw [List.foldl_cons, List.length_cons]
      omega
  have := key xs []
  simpa [tally] using this
theorem tally_take {κ α : Type} [DecidableEq κ] {f : α → κ × Int} {xs : List α} {i : Nat} {x : α} (e : xs[i]? = some x) : tally ((xs.take (i + 1)).map f) = addA (tally ((xs.take i).map f)) (f x).1 (f x).2 := by
  rw [take_snoc e, List.map_append]
  exact tally_snoc _ _
theorem dictK_len {α : Type} (f : α → V) (ws : List (List Int × α)) : (dictK f ws).length = ws.length := List.length_map ..
theorem ok_chosen_ways (T : Env K mg) : FnOk P w K mg base CX0 2 T.a_chosen_ways T.fd_chosen_ways ["near", "rows"] (SpF (A_cw K) B_cw) := by
  have nd := sc_chosen_ways.nd
  have G_least_of : FnOk P w K mg base CX0 1 T.a_least_of T.fd_least_of ["near", "numbers"] (SpF (A_least K) B_least) := ok_least_of T
  refine T.F_chosen_ways.ok sc_chosen_ways (fun vs H Q E h => ?_) (fun cdv A outer s H vs Q E hr h => ?_)
  · obtain ⟨⟨_, _, _⟩, F, _, ⟨d, r, qs, rfl, _⟩, _⟩ := h
    rfl
  · obtain ⟨⟨ties, here, rows⟩, F, fr, ⟨d, r, qs, rfl, hN, hrr, hq, hs, hrow, hl⟩, k⟩ := h
    have S := Sep.start0 fr
    refine ⟨_, (pss_cons (ps_set (i := 2) nd rfl (.inl rfl) pe_dnewT)
      (pss_cons (ps_for PassesOwn.never rfl (pi_list (pv 1)) (pg_name (i := 3) nd rfl (.inl rfl)) (pss_cons (ps_set (i := 4) nd rfl (.inl rfl) (pe_callTy call_tupN (by rfl) T.n_tuple (by decide +kernel) (pa_cons (pe_call G_least_of (hr.mono (by decide)) (by rfl) T.g_least_of T.F_least_of.kp T.b_least_of .nil pass0 (pa_cons (pv 0) (pa_cons (pv 3) pa_nil))) pa_nil)))
      (pss_one (ps_dput (u1 hr) (pv 2) (pv 4) (pe_op op_add (pe_dget2 (u1 hr) (pv 2) (pv 4) pe_int ⟨rfl, rfl, rfl, rfl⟩) pe_int) rfl))))
      (pss_one (ps_ret (pe_frz (pv 2)))))), ?_⟩
    walk_at "rd"
    refine s_dnewT S fun wd H1 S => ?_
    walk_at "rd"
    refine ⟨r, rfl, ⟨_, by walk_at "hl"⟩, ?_⟩
    refine s_for (fun i σ' F' M' => ∃ x3 x4 : Option V, σ' = [some (.ref d), some (.ref r), some (.ref wd), x3, x4] ∧ M' = [(wd, .is (.dT (waysK (tally ((rows.take i).map fun r => (leastOf ties here (rowF r), (1 : Int)))))))]) (srcLs (K := K) (ss := rows) (SqL.of hrr) hq) S ⟨none, none, rfl, rfl⟩ (fun _ _ _ _ _ m hm => by cases hm) ?_ ?_
    · rintro i row x σ' F2 F3 H3 M' ei S e2 e3 ⟨rq, rfl, cr⟩ ⟨x3, x4, rfl, rfl⟩
      walk_at "rd"
      refine r_callF S (ties, here, row) ⟨d, rq, rfl, hN.ex (e2.trans e3), SqL.of cr, hs, hrow row (List.mem_of_getElem? ei)⟩ ?_
      rintro v N F4 H4 S e4 ⟨q4, rfl, rfl⟩
      walk_at "rd"
      refine s_new S fun t F5 H5 S e5 c5 => ?_
      have S := S.drop 0
      walk_at "rd"
      refine r_dget2 ?_
      walk_at "rd"
      refine ⟨wd, rfl, .inr ⟨_, .inl (S.rdM 0 rfl)⟩, ?_⟩
      walk_at "rd"
      refine ⟨_, dgetL (.inl (S.rdM 0 rfl)) (S.fr _ _ c5), ?_⟩
      rw [ways_get]
      walk_at "rd"
      refine s_dputL S 0 rfl c5 (by rw [dictK_len]; have := tally_len ((rows.take i).map fun r => (leastOf ties here (rowF r), (1 : Int))); rw [List.length_map, List.length_take] at this; omega) fun H6 S => ?_
      rw [ways_add] at S
      refine ⟨_, _, S, e2.trans (e3.trans (e4.trans e5)), _, _, rfl, ?_⟩
      rw [tally_take ei]
      rfl
    · rintro σ' F2 H2 M' S e2 ⟨x3, x4, rfl, rfl⟩
      rw [List.take_length] at S
      walk_at "rd"
      refine s_frz S 0 rfl trivial fun od F3 H3 S e3 cd => ?_
      exact k _ [] _ _ S ⟨rfl, wd, rfl, od, cd⟩
/-- the ways from one set: what is left behind by those chosen, as often -/
def alikeN (many : Int) (ties : List (Int × Int)) (here : List Int) : Nat := ((rgI many).filter fun h => (nbL ties here h).isEmpty).length
def leftC (ties : List (Int × Int)) (here c : List Int) : List Int := behind here c (outBy ties here c)
def wayL (many : Int) (ties : List (Int × Int)) (here : List Int) (sides : Int) : List (List Int × Int) :=
  tally ((cwL ties here (rowsC (chC ties here sides) (rgI many))).map fun p => (leftC ties here p.1, p.2 * sides ^ alikeN many ties here))
structure HereOk (many : Int) (here : List Int) : Prop where
  up : here.Pairwise (· < ·)
  ok : ∀ h ∈ here, 0 ≤ h ∧ h < many
theorem HereOk.nd {many : Int} {here : List Int} (h : HereOk many here) : here.Nodup := h.up.imp fun q => Int.ne_of_lt q
theorem HereOk.len {many : Int} {here : List Int} (h : HereOk many here) : here.length ≤ many.toNat := by
  have := len_le_of_sub (l := here) (m := rgI many) h.nd fun x hx => rgI_mem.mpr (h.ok x hx)
  rwa [rgI_len] at this
def A_wf (K : PySem.W.Frag) : (Int × List (Int × Int) × List Int × Int) → List V → Hp → Prop := fun | (many, ties, here, sides), vs, F => ∃ v a, vs = [v, .int sides, .ref a] ∧ Dp K F v (webD many ties) ∧ WebOk many ties ∧ many ≤ 5 ∧ 2 ≤ sides ∧ sides ≤ 4 ∧ F a = some (.tup (here.map V.int)) ∧ HereOk many here
def B_wf : (Int × List (Int × Int) × List Int × Int) → V → List (Addr × Cel) → Hp → Prop := fun | (many, ties, here, sides), v, N, F => N = [] ∧ ∃ q, v = .ref q ∧ WaysAt F q (wayL many ties here sides)
theorem web_upT {many : Int} {ties : List (Int × Int)} (W : WebOk many ties) : UpT ties := fun t ht => (W.ok t ht).2.1
theorem cntR_le {α : Type} (p : α → Bool) (l : List α) : 0 ≤ cntR p l ∧ cntR p l ≤ (l.length : Int) := by
  unfold cntR
  have := List.length_filter_le p l
  omega
theorem sum_ones {κ α : Type} [DecidableEq κ] (f : α → κ) (k : κ) (l : List α) : ((l.map fun r => (f r, (1 : Int))).map fun p => if p.1 = k then p.2 else 0).sum = cntR (fun r => decide (f r = k)) l := by
  rw [cntR_sum, List.map_map]
  congr 1
  refine List.map_congr_left fun r _ => ?_
  show (if f r = k then (1 : Int) else 0) = if decide (f r = k) = true then 1 else 0
  by_cases e : f r = k <;> simp [e]
theorem nd_get {κ : Type} [DecidableEq κ] : ∀ {ws : List (κ × Int)} {p : κ × Int}, NdK ws → p ∈ ws → getA ws p.1 = p.2
  | q :: r, p, nd, h => by
    have nd' := List.nodup_cons.mp nd
    rw [getA_cons]
    rcases List.mem_cons.mp h with e | h
    · subst e; rw [if_pos rfl]
    · rw [if_neg fun z : q.1 = p.1 => nd'.1 (by show q.1 ∈ _; rw [z]; exact List.mem_map_of_mem h)]
      exact nd_get nd'.2 h
theorem cw_bound {ties : List (Int × Int)} {here : List Int} {rows : List (List Int)} {p : List Int × Int} (h : p ∈ cwL ties here rows) : 0 ≤ p.2 ∧ p.2 ≤ (rows.length : Int) := by
  unfold cwL at h
  obtain ⟨nd, g, _, _⟩ := tally_spec (rows.map fun r => (leastOf ties here (rowF r), (1 : Int)))
  have := nd_get nd h
  rw [g p.1, sum_ones] at this
  have := cntR_le (fun r => decide (leastOf ties here (rowF r) = p.1)) rows
  omega
theorem alike_le {many : Int} {ties : List (Int × Int)} {here : List Int} (h : many ≤ 5) : alikeN many ties here ≤ 5 := by
  unfold alikeN
  have := List.length_filter_le (fun h => (nbL ties here h).isEmpty) (rgI many)
  rw [rgI_len] at this
  omega
theorem sides_pow {sides : Int} {n : Nat} (h1 : 1 ≤ sides) (h4 : sides ≤ 4) (hn : n ≤ 5) : 1 ≤ sides ^ n ∧ sides ^ n ≤ 1024 := by
  rcases (show sides = 1 ∨ sides = 2 ∨ sides = 3 ∨ sides = 4 by omega) with e | e | e | e <;> subst e <;>
  rcases (show n = 0 ∨ n = 1 ∨ n = 2 ∨ n = 3 ∨ n = 4 ∨ n = 5 by omega) with e | e | e | e | e | e <;> subst e <;> decide
theorem rows_few {many : Int} {ties : List (Int × Int)} {here : List Int} {sides : Int} (m5 : many ≤ 5) (s1 : 1 ≤ sides) (s4 : sides ≤ 4) : (rowsC (chC ties here sides) (rgI many)).length ≤ 1024 := by
  have := rowsC_num (C := chC ties here sides) (rgI many) [[]] fun h => (chC_len s1 s4).2
  have p5 := pow_le5 (i := (rgI many).length) (by rw [rgI_len]; omega)
  unfold rowsC
  rw [List.length_singleton, Nat.one_mul] at this
  omega
theorem rows_long {many : Int} {ties : List (Int × Int)} {here : List Int} {sides : Int} (H : HereOk many here) : ∀ row ∈ rowsC (chC ties here sides) (rgI many), ∀ h ∈ here, 0 ≤ h ∧ h < (row.length : Int) := fun row hr h hh => by
  have := rowsC_len (chC ties here sides) (rgI many) [[]] 0 (fun r hr => by rw [List.mem_singleton.mp hr]; rfl) row hr
  rw [rgI_len] at this
  have := H.ok h hh
  omega
theorem filt_snoc {l : List Int} {p : Int → Bool} {i : Nat} {h : Int} (e : l[i]? = some h) : ((l.take (i + 1)).filter p).length = ((l.take i).filter p).length + (if p h then 1 else 0) := by
  rw [take_snoc e, List.filter_append, List.length_append, List.filter_cons]
  cases p h <;> simp
theorem ok_ways_from (T : Env K mg) : FnOk P w K mg base CX0 3 T.a_ways_from T.fd_ways_from ["web", "sides", "here"] (SpF (A_wf K) B_wf) := by
  have nd := sc_ways_from.nd
  have G_near_left : FnOk P w K mg base CX0 1 T.a_near_left T.fd_near_left ["web", "left"] (SpF (A_nleft K) B_nleft) := ok_near_left T
  have G_chosen_ways : FnOk P w K mg base CX0 2 T.a_chosen_ways T.fd_chosen_ways ["near", "rows"] (SpF (A_cw K) B_cw) := ok_chosen_ways T
  have G_left_behind : FnOk P w K mg base CX0 1 T.a_left_behind T.fd_left_behind ["near", "chosen", "out"] (SpF (A_behind K) B_behind) := ok_left_behind T
  have G_rows_of_draws : FnOk P w K mg base CX0 1 T.a_rows_of_draws T.fd_rows_of_draws ["web", "sides", "near"] (SpF (A_rod K) (B_rod K)) := ok_rows_of_draws T
  have G_out_by : FnOk P w K mg base CX0 1 T.a_out_by T.fd_out_by ["near", "chosen"] (SpF (A_out K) B_out) := ok_out_by T
  refine T.F_ways_from.ok sc_ways_from (fun vs H Q E h => ?_) (fun cdv A outer s H vs Q E hr h => ?_)
  · obtain ⟨⟨_, _, _, _⟩, F, _, ⟨v, a, rfl, _⟩, _⟩ := h
    rfl
  · obtain ⟨⟨many, ties, here, sides⟩, F, fr, ⟨v, a, rfl, hv, W, m5, s2, s4, ha, HO⟩, k⟩ := h
    have m1 := W.lo
    have u := web_upT W
    have nd0 := HO.nd
    have hlen := HO.len
    have tl := ties_len W
    obtain ⟨wa, wb, ws, rfl, z1, z2, z3⟩ := webD_at hv
    have S := Sep.start0 fr
    refine ⟨_, (pss_cons (ps_set (i := 1) nd rfl (.inl rfl) (pe_callB (id := "max") (call_max2 rfl) (by rfl) T.n_max (by decide +kernel) (pa_cons pe_int (pa_cons (pv 1) pa_nil))))
      (pss_cons (ps_set (i := 3) nd rfl (.inl rfl) (pe_call G_near_left (hr.mono (by decide)) (by rfl) T.g_near_left T.F_near_left.kp T.b_near_left .nil pass0 (pa_cons (pv 0) (pa_cons (pv 2) pa_nil))))
      (pss_cons (ps_set (i := 4) nd rfl (.inl rfl) pe_int)
      (pss_cons (ps_for PassesOwn.never rfl (pi_range1 (by rfl) T.n_range (pa_cons (pe_ix ix_tup (pv 0) pe_int (fun _ _ => rfl)) pa_nil)) (pg_name (i := 5) nd rfl (.inl rfl)) (pss_one (ps_if (pt_not (pt_truth (pe_dget1 (u1 hr) (pv 3) (pv 5) ⟨rfl, rfl, rfl, rfl⟩) (fun _ => rfl))) (pss_one (ps_set (i := 4) nd rfl (.inl rfl) (pe_op op_mul (pv 4) (pv 1)))) pss_nil)))
      (pss_cons (ps_set (i := 6) nd rfl (.inl rfl) pe_dnewT)
      (pss_cons (ps_for PassesOwn.never rfl (pi_pairs (pe_call G_chosen_ways (hr.mono (by decide)) (by rfl) T.g_chosen_ways T.F_chosen_ways.kp T.b_chosen_ways .nil pass0 (pa_cons (pv 3) (pa_cons (pe_call G_rows_of_draws (hr.mono (by decide)) (by rfl) T.g_rows_of_draws T.F_rows_of_draws.kp T.b_rows_of_draws .nil pass0 (pa_cons (pv 0) (pa_cons (pv 1) (pa_cons (pv 3) pa_nil)))) pa_nil)))) (pg_tup rfl (pgs_cons (pg_name (i := 7) nd rfl (.inl rfl)) (pgs_cons (pg_name (i := 8) nd rfl (.inl rfl)) pgs_nil))) (pss_cons (ps_set (i := 9) nd rfl (.inl rfl) (pe_callTy call_listN (by rfl) T.n_list (by decide +kernel) (pa_cons (pv 7) pa_nil)))
      (pss_cons (ps_set (i := 10) nd rfl (.inl rfl) (pe_callTy call_tupN (by rfl) T.n_tuple (by decide +kernel) (pa_cons (pe_call G_left_behind (hr.mono (by decide)) (by rfl) T.g_left_behind T.F_left_behind.kp T.b_left_behind .nil pass0 (pa_cons (pv 3) (pa_cons (pv 9) (pa_cons (pe_call G_out_by (hr.mono (by decide)) (by rfl) T.g_out_by T.F_out_by.kp T.b_out_by .nil pass0 (pa_cons (pv 3) (pa_cons (pv 9) pa_nil))) pa_nil)))) pa_nil)))
      (pss_one (ps_dput (u1 hr) (pv 6) (pv 10) (pe_op op_add (pe_dget2 (u1 hr) (pv 6) (pv 10) pe_int ⟨rfl, rfl, rfl, rfl⟩) (pe_op op_mul (pv 8) (pv 4))) rfl)))))
      (pss_one (ps_ret (pe_frz (pv 6)))))))))), ?_⟩
    walk_at "rd"
    rw [show (if sides > 1 then sides else 1) = sides from if_pos (by omega)]
    refine r_callF S (many, ties, here, a) ⟨_, rfl, hv, u, ha, nd0, by omega, by omega⟩ ?_
    rintro v2 N F1 H1 S e1 ⟨rfl, d, rfl, hNN⟩
    have hN : NearAt F1 d ties here := hNN.at' fun b _ => rfl
    walk_at "rd"
    refine ⟨many, rfl, by omega, by omega, ?_⟩
    refine s_for (fun i σ' F' M' => ∃ x5 : Option V, σ' = [some (.ref wa), some (.int sides), some (.ref a), some (.ref d), some (.int (sides ^ (((rgI many).take i).filter fun h => (nbL ties here h).isEmpty).length)), x5, none, none, none, none, none] ∧ M' = []) (srcRG (n := many)) S ⟨none, by rw [List.take_zero, List.filter_nil, List.length_nil, Int.pow_zero]; rfl, rfl⟩ (fun _ _ _ _ _ m hm => by cases hm) ?_ ?_
    · rintro i h x σ' F2 F3 H3 M' ei S e2 e3 rfl ⟨x5, rfl, rfl⟩
      have fl := filt_snoc (p := fun h => (nbL ties here h).isEmpty) ei
      have hi := (List.getElem?_eq_some_iff.mp ei).1
      rw [rgI_len] at hi
      have pb := sides_pow (sides := sides) (n := (((rgI many).take i).filter fun h => (nbL ties here h).isEmpty).length) (by omega) s4 (by
        have := List.length_filter_le (fun h => (nbL ties here h).isEmpty) ((rgI many).take i)
        rw [List.length_take] at this
        omega)
      obtain ⟨isd, o, dg, tru⟩ := near_get (K := K) S u nd0 (hN.ex (e2.trans e3)) h
      walk_at "rd"
      refine r_dget1 ?_
      walk_at "rd"
      refine ⟨d, rfl, isd, ?_⟩
      walk_at "rd"
      refine ⟨o, dg, _, tru, ?_⟩
      cases eb : (nbL ties here h).isEmpty with
      | true =>
        rw [eb] at fl
        simp only [if_true] at fl
        walk_at "rd"
        refine ⟨_, _, S, e2.trans e3, some (.int h), ?_, rfl⟩
        rw [fl, Int.pow_succ]
        rfl
      | false =>
        rw [eb] at fl
        have fl : (((rgI many).take (i + 1)).filter fun h => (nbL ties here h).isEmpty).length = (((rgI many).take i).filter fun h => (nbL ties here h).isEmpty).length := by simpa using fl
        walk_at "rd"
        refine ⟨_, _, S, e2.trans e3, some (.int h), ?_, rfl⟩
        rw [fl]
        rfl
    · rintro σ' F2 H2 M' S e2 ⟨x5, rfl, rfl⟩
      have hN2 := hN.ex e2
      have e02 := e1.trans e2
      have pb := sides_pow (sides := sides) (n := alikeN many ties here) (by omega) s4 (alike_le m5)
      have ea : (((rgI many).take (rgI many).length).filter fun h => (nbL ties here h).isEmpty).length = alikeN many ties here := by rw [List.take_length]; rfl
      rw [ea]
      generalize hal : sides ^ alikeN many ties here = al at *
      walk_at "rd"
      refine s_dnewT S fun wd H3 S => ?_
      walk_at "rd"
      refine r_iPairs ?_
      walk_at "rd"
      refine r_callF S (many, ties, here, sides) ⟨_, d, rfl, Dp.ex e02 _ _ hv, u, nd0, hN2, by omega, m5, by omega, s4⟩ ?_
      rintro v3 N F4 H4 S e4 ⟨rfl, rq, qs, rfl, crq, hls⟩
      have rf := rows_few (many := many) (ties := ties) (here := here) m5 (show 1 ≤ sides by omega) s4
      walk_at "rd"
      refine r_callF S (ties, here, rowsC (chC ties here sides) (rgI many)) ⟨d, rq, qs, rfl, hN2.ex e4, crq, hls, ⟨u, by omega, by omega⟩, rows_long HO, by omega⟩ ?_
      rintro v4 N F5 H5 S e5 ⟨rfl, cq, rfl, od, ccq⟩
      refine s_ipr (S.fr _ _ ccq) ?_
      generalize hcw : cwL ties here (rowsC (chC ties here sides) (rgI many)) = cw at *
      have cwl : cw.length ≤ 1024 := by
        rw [← hcw]
        have := tally_len ((rowsC (chC ties here sides) (rgI many)).map fun r => (leastOf ties here (rowF r), (1 : Int)))
        rw [List.length_map] at this
        unfold cwL
        omega
      refine s_for (fun i σ' F' M' => ∃ x5 x7 x8 x9 x10 : Option V, σ' = [some (.ref wa), some (.int sides), some (.ref a), some (.ref d), some (.int al), x5, some (.ref wd), x7, x8, x9, x10] ∧ M' = [(wd, .is (.dT (waysK (tally ((cw.take i).map fun p => (leftC ties here p.1, p.2 * al))))))]) (srcP2 ccq) S ⟨_, none, none, none, none, rfl, rfl⟩ (fun _ _ _ _ _ m hm => by cases hm) ?_ ?_
      · rintro i ⟨c, n⟩ x σ' F6 F7 H7 M' ei S e6 e7 ⟨t, q, rfl, ct, cq2⟩ ⟨x5, x7, x8, x9, x10, rfl, rfl⟩
        have hb : 0 ≤ n ∧ n ≤ 1024 := by
          have := cw_bound (ties := ties) (here := here) (rows := rowsC (chC ties here sides) (rgI many)) (p := (c, n)) (by rw [hcw]; exact List.mem_of_getElem? ei)
          simp only at this
          omega
        have hm : (c, n) ∈ cw := List.mem_of_getElem? ei
        have cl : c.length ≤ here.length := by
          rw [← hcw] at hm
          have hk := (tally_spec ((rowsC (chC ties here sides) (rgI many)).map fun r => (leastOf ties here (rowF r), (1 : Int)))).2.2.2 c
          have : c ∈ (cwL ties here (rowsC (chC ties here sides) (rgI many))).map (·.1) := List.mem_map.mpr ⟨_, hm, rfl⟩
          have := hk.mp this
          rw [List.map_map] at this
          obtain ⟨r, _, er⟩ := List.mem_map.mp this
          rw [← er]
          exact List.length_filter_le _ _
        have E7 := e4.trans (e5.trans (e6.trans e7))
        simp only at ct cq2
        walk_at "rd"
        refine s_new S fun pk F8 H8 S e8 c8 => ?_
        walk_at "rd"
        refine r_callF S (ties, here, c) ⟨d, pk, rfl, hN2.ex (E7.trans e8), SqL.of c8, ⟨u, by omega, by omega⟩, by omega⟩ ?_
        rintro v N F9 H9 S e9 ⟨oq, rfl, rfl⟩
        obtain ⟨FA, S, eA, cA⟩ := S.frz 0 rfl
        have ol : (outBy ties here c).length ≤ here.length := List.length_filter_le _ _
        walk_at "rd"
        refine r_callF S (ties, here, c, outBy ties here c) ⟨d, pk, oq, rfl, hN2.ex (E7.trans (e8.trans (e9.trans eA))), (e9.trans eA) _ _ c8, cA, by omega, by omega, by show (outBy ties here c).length ≤ 400; omega⟩ ?_
        rintro v N FB HB S eB ⟨lq, rfl, rfl⟩
        walk_at "rd"
        refine s_new S fun tt FC HC S eC cC => ?_
        have S := S.drop 0
        have cC : FC tt = some (.tup ((leftC ties here c).map V.int)) := cC
        walk_at "rd"
        refine r_dget2 ?_
        walk_at "rd"
        refine ⟨wd, rfl, .inr ⟨_, .inl (S.rdM 0 rfl)⟩, ?_⟩
        walk_at "rd"
        refine ⟨_, dgetL (.inl (S.rdM 0 rfl)) (S.fr _ _ cC), ?_⟩
        rw [ways_get]
        walk_at "rd"
        refine s_dputL S 0 rfl cC (by rw [dictK_len]; have := tally_len ((cw.take i).map fun p => (leftC ties here p.1, p.2 * al)); rw [List.length_map, List.length_take] at this; omega) fun HD S => ?_
        rw [ways_add] at S
        refine ⟨_, _, S, e6.trans (e7.trans (e8.trans (e9.trans (eA.trans (eB.trans eC))))), _, _, _, _, _, rfl, ?_⟩
        rw [tally_take ei]
        rfl
      · rintro σ' F6 H6 M' S e6 ⟨x5, x7, x8, x9, x10, rfl, rfl⟩
        rw [List.take_length] at S
        walk_at "rd"
        refine s_frz S 0 rfl trivial fun od2 F7 H7 S e7 cd => ?_
        refine k _ [] _ _ S ⟨rfl, wd, rfl, od2, ?_⟩
        unfold wayL
        rw [hcw, hal]
        exact cd

end

end
section
local macro_rules | `(tactic| walk_at "ex") => `(tactic| first | exact Evl.Ex.refl _ | assumption | ((refine' Evl.Ex.trans ?x ?y); (case y => assumption); (case x => walk_at "ex")))
local macro_rules | `(tactic| walk_at "hc") => `(tactic| first
  | assumption
  | ((refine' Sep.rdM ?S 0 ?k); (case S => assumption); (case k => exact rfl)) | ((refine' Sep.rdM ?S 1 ?k); (case S => assumption); (case k => exact rfl)) | ((refine' Sep.rdM ?S 2 ?k); (case S => assumption); (case k => exact rfl)) | ((refine' Sep.rdM ?S 3 ?k); (case S => assumption); (case k => exact rfl)) | ((refine' Sep.rdM ?S 4 ?k); (case S => assumption); (case k => exact rfl))
  | ((refine' Sep.rdC ?S ?e ?h); (case S => assumption); (case h => assumption); (case e => walk_at "ex")))
local macro_rules | `(tactic| walk_at "hl") => `(tactic| first
  | assumption
  | ((refine' SqL.of (Sep.rdM ?S 0 ?k)); (case S => assumption); (case k => exact rfl)) | ((refine' SqL.of (Sep.rdM ?S 1 ?k)); (case S => assumption); (case k => exact rfl)) | ((refine' SqL.of (Sep.rdM ?S 2 ?k)); (case S => assumption); (case k => exact rfl)) | ((refine' SqL.of (Sep.rdM ?S 3 ?k)); (case S => assumption); (case k => exact rfl)) | ((refine' SqL.of (Sep.rdM ?S 4 ?k)); (case S => assumption); (case k => exact rfl))
  | ((refine' Sep.rdL ?S ?e ?h); (case S => assumption); (case h => assumption); (case e => walk_at "ex"))
  | ((refine' Sep.rdT ?S ?e ?h); (case S => assumption); (case h => assumption); (case e => walk_at "ex"))
  | ((refine' SqL.of (Sep.rdC ?S ?e ?h)); (case S => assumption); (case h => assumption); (case e => walk_at "ex"))
  | ((refine' SqT.of (Sep.rdC ?S ?e ?h)); (case S => assumption); (case h => assumption); (case e => walk_at "ex"))
  | ((refine' SqL.of ?h); (case h => assumption)) | ((refine' SqT.of ?h); (case h => assumption))
  | ((refine' Evl.ex_l ?e ?h); (case h => assumption); (case e => walk_at "ex")) | ((refine' Evl.ex_t ?e ?h); (case h => assumption); (case e => walk_at "ex"))
  | ((refine' SqL.of (?e _ _ ?h)); (case h => assumption); (case e => walk_at "ex")) | ((refine' SqT.of (?e _ _ ?h)); (case h => assumption); (case e => walk_at "ex")))
local macro_rules | `(tactic| walk_at "hs") => `(tactic| walk_at "hc")
local macro_rules | `(tactic| walk_at "dp") => `(tactic| first
  | assumption
  | ((refine' Sep.rdD ?S ?e ?h); (case S => assumption); (case h => assumption); (case e => walk_at "ex"))
  | ((refine' Dp.ex ?e _ _ ?h); (case h => assumption); (case e => walk_at "ex"))
  | ((refine' DpAll.ex ?e _ _ ?h); (case h => assumption); (case e => walk_at "ex"))
  | (refine' dp_intsD ?h; (case h => walk_at "hl")))
local macro_rules | `(tactic| walk_at "rd1") => `(tactic| (first
  | (with_reducible refine r_seq ?_)
  | (with_reducible refine r_asg ?_)
  | (with_reducible refine r_asgG ?_)
  | (with_reducible refine r_par ?_)
  | (with_reducible refine r_if ?_)
  | (with_reducible refine r_ret ?_)
  | (with_reducible refine r_drop ?_)
  | (with_reducible refine r_next ?_)
  | ((with_reducible refine' r_var ?hx ?_); (case hx => exact rfl))
  | (with_reducible refine r_c ?_)
  | (with_reducible refine r_op ?_)
  | (with_reducible refine r_un ?_)
  | (with_reducible refine r_I0 ?_)
  | ((with_reducible refine' r_I ?_ ?_); (· first | (show (0 : Int) < _; omega) | exact Or.inr ⟨by omega, by omega⟩ | exact Or.inl ⟨by omega, by omega⟩ | exact ⟨by omega, by omega, by decide⟩))
  | (with_reducible refine r_U ?_)
  | (with_reducible refine r_test ?_)
  | (with_reducible refine r_B ?_)
  | (with_reducible refine r_bl ?_)
  | (with_reducible refine r_eqI ?_)
  | (with_reducible refine r_neI ?_)
  | ((with_reducible refine' r_eq ?_ ?_); (· exact rfl))
  | ((with_reducible refine' r_ne ?_ ?_); (· exact rfl))
  | (with_reducible refine r_nil ?_)
  | (with_reducible refine r_cons ?_)
  | (with_reducible refine s_tup ?_)
  | (with_reducible refine s_lst ?_)
  | (with_reducible refine r_call ?_)
  | (with_reducible refine r_cb ?_)
  | (with_reducible refine r_and ?_)
  | (with_reducible refine r_or ?_)
  | (with_reducible refine r_not ?_)
  | (with_reducible refine r_andV ?_)
  | (with_reducible refine r_orV ?_)
  | (with_reducible refine r_notV ?_)
  | (with_reducible refine r_ifE ?_)
  | (with_reducible refine r_gSub ?_)
  | (with_reducible refine r_sadd ?_)
  | (with_reducible refine s_lstRg ?_)
  | (with_reducible refine r_rg1 ?_)
  | (with_reducible refine r_min2 ?_)
  | (with_reducible refine r_par2 ?_)
  | (with_reducible refine r_partI ?_)
  | (with_reducible refine s_lc ?_)
  | (with_reducible refine s_dc ?_)
  | (with_reducible refine r_yes ?_)
  | (with_reducible refine r_iZipA ?_)
  | (with_reducible refine r_isN ?_)
  | (with_reducible refine r_for ?_)
  | (with_reducible refine r_iList ?_)
  | (with_reducible refine r_iTup ?_)
  | (with_reducible refine r_iRng1 ?_)
  | (with_reducible refine r_iRng2 ?_)
  | (with_reducible refine r_iEnum ?_)
  | (with_reducible refine r_iZip ?_)
  | (with_reducible refine r_gName ?_)
  | (with_reducible refine r_isNV ?_)
  | (with_reducible refine r_notNV ?_)
  | (with_reducible refine r_bm ?_)
  | (with_reducible refine r_bm0 ?_)
  | (with_reducible refine r_sl ?_)
  | (with_reducible refine r_noPart ?_)
  | (with_reducible refine r_part ?_)
  | (with_reducible refine r_chain ?_)
  | (with_reducible refine r_iKeys ?_)
  | (with_reducible refine r_iItems ?_)
  | (with_reducible refine r_frz ?_)
  | (with_reducible refine r_dput ?_)
  | (with_reducible refine r_dget ?_)
  | (with_reducible refine r_din ?_)
  | (with_reducible refine r_dnotin ?_)
  | (with_reducible refine r_break ?_)
  | ((with_reducible refine' r_sIn ?h ?_); (case h => walk_at "hs"))
  | ((with_reducible refine' r_sNotIn ?h ?_); (case h => walk_at "hs"))
  | ((with_reducible refine' r_inI ?h ?_); (case h => walk_at "hl"))
  | ((with_reducible refine' r_notInI ?h ?_); (case h => walk_at "hl"))
  | ((with_reducible refine' r_eqNil ?h ?g ?_); (case h => walk_at "hl"); (case g => walk_at "hl"))
  | ((with_reducible refine' r_neNil ?h ?g ?_); (case h => walk_at "hl"); (case g => walk_at "hl"))
  | ((with_reducible refine' iteRT ?hh ?_); (case hh => exact rfl))
  | ((with_reducible refine' iteRF ?hh ?_); (case hh => exact rfl))
  | ((with_reducible refine' r_isiT ?ty ?hk ?_); (case ty => (first | assumption | exact tyx_L (by assumption) | exact tyx_T (by assumption) | exact .base (.non) | exact .base (.bl _) | exact .base (.int _) | exact .base (.str _) | exact tyx_L (by walk_at "hl") | exact tyx_T (by walk_at "hl"))); (case hk => decide +kernel))
  | ((with_reducible refine' r_isiF ?ty ?hk ?_); (case ty => (first | assumption | exact tyx_L (by assumption) | exact tyx_T (by assumption) | exact .base (.non) | exact .base (.bl _) | exact .base (.int _) | exact .base (.str _) | exact tyx_L (by walk_at "hl") | exact tyx_T (by walk_at "hl"))); (case hk => decide +kernel))
  | ((with_reducible refine' r_gTup2 ?hn ?hs ?_); (case hn => exact rfl); (case hs => walk_at "hl"))
  | ((with_reducible refine' s_list ?hl ?_); (case hl => first | exact Or.inl (by walk_at "hl") | exact Or.inr (by walk_at "hl")))
  | ((with_reducible refine' s_tupN ?hl ?_); (case hl => walk_at "hl"))
  | ((with_reducible refine' s_sortN ?hl ?_); (case hl => walk_at "hl"))
  | ((refine' ⟨_, _, rfl, ?hl, ?_⟩); (case hl => first | exact Or.inl (by walk_at "hl") | exact Or.inr (by walk_at "hl")))
  | ((with_reducible refine' r_ixL ?hl ?ha ?_); (case hl => walk_at "hl"); (case ha => first | exact rfl | assumption))
  | ((with_reducible refine' r_ixT ?hl ?ha ?_); (case hl => walk_at "hl"); (case ha => first | exact rfl | assumption))))
local macro_rules | `(tactic| walk_at "rd") => `(tactic| repeat (walk_at "rd1"))

section
variable {P : Program} {w : World} {K : PySem.W.Frag} {mg : Str → Option Value} {base : Heap}

def A_lbh : (Int × List (Int × Int) × List Int × List Int) → List V → Hp → Prop := fun | (many, ties, here, drawn), vs, F => ∃ b a r, vs = [b, .ref a, .ref r] ∧ LsAt F b many.toNat (nbr ties) ∧ WebOk many ties ∧ F a = some (.tup (here.map V.int)) ∧ HereOk many here ∧ F r = some (.lst (drawn.map V.int)) ∧ drawn.length = here.length
def B_lbh : (Int × List (Int × Int) × List Int × List Int) → V → List (Addr × Cel) → Hp → Prop := fun | (many, ties, here, drawn), v, N, F => N = [] ∧ ∃ q, v = .ref q ∧ F q = some (.tup ((leftG ties here (gRow here drawn)).map V.int))
theorem LsAt.row {F : Hp} {bs : List Addr} {n : Nat} {f : Int → List Int} (h1 : bs.length = n) (h2 : ∀ (k : Nat) (b : Addr), bs[k]? = some b → F b = some (.lst ((f (k : Int)).map V.int))) {h : Int} (h0 : 0 ≤ h) (hn : h < (n : Int)) : ∃ b, atI (bs.map V.ref) h = some (.ref b) ∧ F b = some (.lst ((f h).map V.int)) := by
  have lt : h.toNat < bs.length := by omega
  have g := h2 h.toNat bs[h.toNat] (List.getElem?_eq_getElem lt)
  rw [show ((h.toNat : Nat) : Int) = h by omega] at g
  exact ⟨bs[h.toNat], atI_of h0 (by rw [List.getElem?_map, List.getElem?_eq_getElem lt]; rfl), g⟩
/-- all drawn by those beside are more than h's -/
theorem leastK {many : Int} {ties : List (Int × Int)} {here drawn : List Int} (W : WebOk many ties) (nd : here.Nodup) (hl : drawn.length = here.length) {i : Nat} {h : Int} (ei : here[i]? = some h) (K : List Int)
    (hK : K = (rgI (here.length : Int)).filter fun k => decide (here.getD k.toNat 0 ∈ nbr ties h)) :
    (K.filter fun k => decide (drawn.getD k.toNat 0 ≤ drawn.getD i 0)).isEmpty = (nbL ties here h).all fun o => decide (gRow here drawn h < gRow here drawn o) := by
  have u : UpT ties := fun t ht => (W.ok t ht).2.1
  obtain ⟨il, eh⟩ := List.getElem?_eq_some_iff.mp ei
  have gh : gRow here drawn h = drawn.getD i 0 := by
    unfold gRow
    rw [← eh, nd.idxOf_getElem]
  rw [Bool.eq_iff_iff, List.isEmpty_iff, List.filter_eq_nil_iff, List.all_eq_true]
  constructor
  · intro z o ho
    obtain ⟨h1, h2, h3⟩ := (nbL_mem u).mp ho
    obtain ⟨j, hj⟩ := List.mem_iff_getElem?.mp h2
    obtain ⟨jl, ej⟩ := List.getElem?_eq_some_iff.mp hj
    have go : gRow here drawn o = drawn.getD j 0 := by
      unfold gRow
      rw [← ej, nd.idxOf_getElem]
    have mK : (j : Int) ∈ K := by
      rw [hK, List.mem_filter]
      refine ⟨rgI_mem.mpr ⟨by omega, by omega⟩, decide_eq_true ?_⟩
      rw [Int.toNat_natCast, List.getD_eq_getElem?_getD, hj]
      exact (nbr_iff W).mpr h3
    have := z _ mK
    rw [Int.toNat_natCast] at this
    rw [gh, go]
    refine decide_eq_true ?_
    by_cases q : drawn.getD j 0 ≤ drawn.getD i 0
    · exact absurd (decide_eq_true q) this
    · omega
  · intro z k hk q
    rw [hK, List.mem_filter] at hk
    obtain ⟨hk1, hk2⟩ := hk
    have hk1 := rgI_mem.mp hk1
    have kl : k.toNat < here.length := by omega
    have hk2 := of_decide_eq_true hk2
    rw [List.getD_eq_getElem?_getD, List.getElem?_eq_getElem kl] at hk2
    have ho : here[k.toNat] ∈ nbL ties here h := (nbL_mem u).mpr ⟨List.mem_of_getElem? ei, List.getElem_mem kl, (nbr_iff W).mp hk2⟩
    have := of_decide_eq_true (z _ ho)
    have go : gRow here drawn here[k.toNat] = drawn.getD k.toNat 0 := by
      unfold gRow
      rw [nd.idxOf_getElem]
    rw [gh, go] at this
    have := of_decide_eq_true q
    omega
theorem leftK {many : Int} {ties : List (Int × Int)} {here c : List Int} (W : WebOk many ties) (hc : ∀ o ∈ c, o ∈ here) : behind here c (outBy ties here c) = here.filter fun h => !decide (h ∈ c) && ((nbr ties h).filter fun o => decide (o ∈ c)).isEmpty := by
  have u : UpT ties := fun t ht => (W.ok t ht).2.1
  unfold behind
  refine List.filter_congr fun h hh => ?_
  have e : ((nbr ties h).filter fun o => decide (o ∈ c)).isEmpty = !decide (h ∈ outBy ties here c) := by
    rw [Bool.eq_iff_iff, List.isEmpty_iff, List.filter_eq_nil_iff, Bool.not_eq_true', decide_eq_false_iff_not, outBy_mem u]
    constructor
    · rintro z ⟨_, o, _, h2, h3⟩
      exact z o ((nbr_iff W).mpr h2) (decide_eq_true h3)
    · intro z o ho q
      have q := of_decide_eq_true q
      exact z ⟨hh, o, hc o q, (nbr_iff W).mp ho, q⟩
  rw [e, Bool.eq_iff_iff]
  simp [List.mem_append, not_or]
theorem ok_l_behind (T : Env K mg) : FnOk P w K mg base CX0 1 T.a__law_behind T.fd__law_behind ["beside", "houses", "drawn"] (SpF A_lbh B_lbh) := by
  have nd := sc__law_behind.nd
  refine T.F__law_behind.ok sc__law_behind (fun vs H Q E h => ?_) (fun cdv A outer s H vs Q E hr h => ?_)
  · obtain ⟨⟨_, _, _, _⟩, F, _, ⟨b, a, r, rfl, _⟩, _⟩ := h
    rfl
  · obtain ⟨⟨many, ties, here, drawn⟩, F, fr, ⟨b, a, r, rfl, ⟨q, bs, rfl, cq, bl, b3⟩, W, ca, HO, cr, dl⟩, k⟩ := h
    have nd0 := HO.nd
    have hlen := HO.len
    have w1 := W.lo
    have w2 := W.hi
    have S := Sep.start0 fr
    refine ⟨_, (pss_cons (ps_set (i := 3) nd rfl (.inr rfl) (pe_lst pa_nil))
      (pss_cons (ps_for PassesOwn.never rfl (pi_enT (by rfl) T.n_enumerate (pa_cons (pv 1) pa_nil)) (pg_tup rfl (pgs_cons (pg_name (i := 4) nd rfl (.inr rfl)) (pgs_cons (pg_name (i := 5) nd rfl (.inr rfl)) pgs_nil))) (pss_cons (ps_setLc (i := 6) (own := [("k", 8)]) (g := gName 8) (tt := (tTest (tOp (rIn K false) (tOp (rIxT K) (tVar 1) (tVar 8)) (tOp (rIxL K) (tVar 0) (tVar 5))))) (te := (tVar 8)) rfl nd rfl rfl (sw_true rfl rfl rfl (by decide +kernel)) (pi_range1 (by rfl) T.n_range (pa_cons (pe_callB (id := "len") call_len_seq (by rfl) T.n_len PySem.boot_len (pa_cons (pv 1) pa_nil)) pa_nil)) (blkOk_by (N := ["beside", "houses", "drawn", "chosen", "at", "house", "rest", "found", "k", "other"]) (sc := defScope s__law_behind) (by decide +kernel)) (fun _ _ _ _ _ => (pg_name (i := 8) nd rfl (.inl rfl))) (fun _ _ _ _ _ => pts_one (pt_cmpR op_in_seq (pe_ix ix_tup (pv 1) (pv 8) (fun _ _ => rfl)) (pe_ix ix_list (pv 0) (pv 5) (fun _ _ => rfl)) rfl)) (fun _ _ _ _ _ => (pv 8)))
      (pss_one (ps_if (pt_cmpR (op_eqD hr.units) (pe_lc (own := [("k", 8)]) (g := gName 8) (tt := (tTest (tOp (rI0 fun i j => .bl (decide (i ≤ j))) (tOp (rIxL K) (tVar 2) (tVar 8)) (tOp (rIxL K) (tVar 2) (tVar 4))))) (te := (tC (.int 1))) rfl nd (pi_list (pv 6)) (blkOk_by (N := ["beside", "houses", "drawn", "chosen", "at", "house", "rest", "found", "k", "other"]) (sc := defScope s__law_behind) (by decide +kernel)) (fun _ _ _ _ _ => (pg_name (i := 8) nd rfl (.inl rfl))) (fun _ _ _ _ _ => pts_one (pt_cmpR op_le (pe_ix ix_list (pv 2) (pv 8) (fun _ _ => rfl)) (pe_ix ix_list (pv 2) (pv 4) (fun _ _ => rfl)) (nomark _))) (fun _ _ _ _ _ => pe_int)) (pe_lst pa_nil) (nomark _)) (pss_one (ps_expr (pe_bm PySem.F.plainAttrs_list PySem.F.slot_list_append PySem.F.type_list_append mt_append (pv 3) (pa_cons (pv 5) pa_nil)))) pss_nil))))
      (pss_cons (ps_set (i := 7) nd rfl (.inl rfl) (pe_lst pa_nil))
      (pss_cons (ps_for PassesOwn.never rfl (pi_tup (pv 1)) (pg_name (i := 5) nd rfl (.inr rfl)) (pss_one (ps_if (PW.pt (pw_and (pt_cmpR op_notIn_seq (pv 5) (pv 3) rfl) (pw_and1 (pt_cmpR (op_eqD hr.units) (pe_lc (own := [("other", 9)]) (g := gName 9) (tt := (tTest (tOp (rIn K false) (tVar 9) (tVar 3)))) (te := (tC (.int 1))) rfl nd (pi_list (pe_ix ix_list (pv 0) (pv 5) (fun _ _ => rfl))) (blkOk_by (N := ["beside", "houses", "drawn", "chosen", "at", "house", "rest", "found", "k", "other"]) (sc := defScope s__law_behind) (by decide +kernel)) (fun _ _ _ _ _ => (pg_name (i := 9) nd rfl (.inl rfl))) (fun _ _ _ _ _ => pts_one (pt_cmpR op_in_seq (pv 9) (pv 3) rfl)) (fun _ _ _ _ _ => pe_int)) (pe_lst pa_nil) (nomark _))))) (pss_one (ps_expr (pe_bm PySem.F.plainAttrs_list PySem.F.slot_list_append PySem.F.type_list_append mt_append (pv 7) (pa_cons (pv 5) pa_nil)))) pss_nil)))
      (pss_one (ps_ret (pe_callTy call_tupN (by rfl) T.n_tuple (by decide +kernel) (pa_cons (pv 7) pa_nil)))))))), ?_⟩
    walk_at "rd"
    refine ⟨Nat.zero_le _, s_own S fun s1 H1 S => ?_⟩
    walk_at "rd"
    refine r_iEnT ?_
    walk_at "rd"
    refine ⟨a, _, rfl, SqT.of (S.fr _ _ ca), ?_⟩
    refine s_for (fun i σ' F' M' => ∃ (x4 x5 x6 : Option V), σ' = [some (.ref q), some (.ref a), some (.ref r), some (.ref s1), x4, x5, x6, none, none, none] ∧ M' = [(s1, .is (.lst (((here.take i).filter fun h => (nbL ties here h).all fun o => decide (gRow here drawn h < gRow here drawn o)).map V.int)))]) (srcET (SqT.of ca)) S ⟨none, none, none, rfl, rfl⟩ (fun _ _ _ _ _ m hm => by cases hm) ?_ ?_
    · rintro i ⟨x, i'⟩ y σ' F1 F2 H2 M' hi S e1 e2 ⟨tt, rfl, ctt⟩ ⟨x4, x5, x6, rfl, rfl⟩
      rw [List.getElem?_zipIdx, List.getElem?_map, Option.map_map] at hi
      cases eh : here[i]? with
      | none => rw [eh] at hi; cases hi
      | some h =>
        rw [eh] at hi
        obtain ⟨rfl, rfl⟩ : V.int h = x ∧ i = i' := by simpa using hi
        simp only at ctt
        have hm := List.mem_of_getElem? eh
        have bh := HO.ok h hm
        have il := (List.getElem?_eq_some_iff.mp eh).1
        have fl := List.length_filter_le (fun h => (nbL ties here h).all fun o => decide (gRow here drawn h < gRow here drawn o)) (here.take i)
        rw [List.length_take] at fl
        obtain ⟨bb, ab, cb⟩ := LsAt.row bl b3 bh.1 (show h < (many.toNat : Int) by omega)
        have cb := (e1.trans e2) _ _ cb
        have ca2 := (e1.trans e2) _ _ ca
        have cr2 := (e1.trans e2) _ _ cr
        walk_at "rd"
        refine ⟨(here.length : Int), by rw [List.length_map], by omega, by omega, ?_⟩
        refine s_lcV (srcRG (n := (here.length : Int))) (fun k => decide (here.getD k.toNat 0 ∈ nbr ties h)) (fun k => .int k) S (by rw [rgI_len]; omega) (fun m hm => by cases hm) ?_ ?_
        · rintro j k x acc D F3 H3 vt S e3 rfl
          have hj := rgI_mem.mp (List.mem_of_getElem? vt.at')
          have kk : atI (here.map V.int) k = some (.int (here.getD k.toNat 0)) := atI_int hj.1 hj.2
          walk_at "rd"
          refine ⟨rfl, ?_⟩
          walk_at "rd"
          refine iteB (fun c => ?_) (fun c => ?_)
          · walk_at "rd"
            exact vt.put S (by walk_at "ex") c rfl
          · exact vt.skip S (by walk_at "ex") c
        · intro D F3 H3 S e3
          obtain ⟨K0, eK⟩ : ∃ K0, (rgI (here.length : Int)).filter (fun k => decide (here.getD k.toNat 0 ∈ nbr ties h)) = K0 := ⟨_, rfl⟩
          have bK : ∀ k ∈ K0, 0 ≤ k ∧ k < (here.length : Int) := fun k hk => by rw [← eK] at hk; exact rgI_mem.mp (List.mem_filter.mp hk).1
          have lK : K0.length ≤ 60 := by
            rw [← eK]
            have := List.length_filter_le (fun k => decide (here.getD k.toNat 0 ∈ nbr ties h)) (rgI (here.length : Int))
            rw [rgI_len] at this
            omega
          have key := leastK W nd0 dl eh K0 eK.symm
          rw [eK] at S
          obtain ⟨F4, S, e4, c4⟩ := S.frz 0 rfl
          have yes : ((nbL ties here h).all fun o => decide (gRow here drawn h < gRow here drawn o)) = true → (((here.take (i + 1)).filter fun h => (nbL ties here h).all fun o => decide (gRow here drawn h < gRow here drawn o)).map V.int) = (((here.take i).filter fun h => (nbL ties here h).all fun o => decide (gRow here drawn h < gRow here drawn o)).map V.int) ++ [.int h] := fun c => by
            rw [take_filter _ _ eh, if_pos c, List.map_append]
            rfl
          have no : ((nbL ties here h).all fun o => decide (gRow here drawn h < gRow here drawn o)) = false → (((here.take (i + 1)).filter fun h => (nbL ties here h).all fun o => decide (gRow here drawn h < gRow here drawn o)).map V.int) = (((here.take i).filter fun h => (nbL ties here h).all fun o => decide (gRow here drawn h < gRow here drawn o)).map V.int) := fun c => by
            rw [take_filter _ _ eh, if_neg (by rw [c]; decide), List.append_nil]
          walk_at "rd"
          refine ⟨D, rfl, ⟨_, by walk_at "hl"⟩, ?_⟩
          refine s_lcV (srcI (K := K) (ns := K0) (SqL.of c4)) (fun k => decide (drawn.getD k.toNat 0 ≤ drawn.getD i 0)) (fun _ => .int 1) S (by omega) (fun m hm => by cases hm) ?_ ?_
          · rintro j k x acc D2 F5 H5 vt S e5 rfl
            have hj := bK k (List.mem_of_getElem? vt.at')
            have kd : atI (drawn.map V.int) k = some (.int (drawn.getD k.toNat 0)) := atI_int hj.1 (by omega)
            have id : atI (drawn.map V.int) (i : Int) = some (.int (drawn.getD i 0)) := by
              have := atI_int (cs := drawn) (show 0 ≤ (i : Int) by omega) (show (i : Int) < (drawn.length : Int) by omega)
              rwa [Int.toNat_natCast] at this
            walk_at "rd"
            refine ⟨rfl, ?_⟩
            walk_at "rd"
            refine iteB (fun c => ?_) (fun c => ?_)
            · walk_at "rd"
              exact vt.put S (by walk_at "ex") c rfl
            · exact vt.skip S (by walk_at "ex") c
          · intro D2 F5 H5 S e5
            obtain ⟨F6, S, e6, c6⟩ := S.frz 0 rfl
            have c6 : F6 D2 = some (.lst (((K0.filter fun k => decide (drawn.getD k.toNat 0 ≤ drawn.getD i 0)).map fun _ => (1 : Int)).map V.int)) := by rw [c6, List.map_map]; rfl
            walk_at "rd"
            refine ⟨Nat.zero_le _, s_new S fun z F7 H7 S e7 cz => ?_⟩
            refine r_eqNil (ns := (K0.filter fun k => decide (drawn.getD k.toNat 0 ≤ drawn.getD i 0)).map fun _ => (1 : Int)) (by walk_at "hl") (by walk_at "hl") ?_
            rw [List.isEmpty_map, key]
            walk_at "rd"
            refine iteB (fun c1 => ?_) (fun c1 => ?_)
            · walk_at "rd"
              refine ⟨tyL (by walk_at "hl"), ?_⟩
              walk_at "rd"
              refine s_app S 0 rfl (by rw [List.length_map]; omega) fun H6 S => ?_
              exact ⟨_, _, S, by walk_at "ex", _, _, _, rfl, by rw [yes c1]; rfl⟩
            · walk_at "rd"
              exact ⟨_, _, S, by walk_at "ex", _, _, _, rfl, by rw [no c1]; rfl⟩
    · rintro σ' F1 H2 M' S e1 ⟨x4, x5, x6, rfl, rfl⟩
      rw [List.length_zipIdx, List.length_map, List.take_length] at S
      obtain ⟨c, ec⟩ : ∃ c, leastOf ties here (gRow here drawn) = c := ⟨_, rfl⟩
      have hc : ∀ o ∈ c, o ∈ here := fun o ho => by rw [← ec] at ho; exact (List.mem_filter.mp ho).1
      have cl : c.length ≤ 60 := by rw [← ec]; have := List.length_filter_le (fun h => (nbL ties here h).all fun o => decide (gRow here drawn h < gRow here drawn o)) here; unfold leastOf; omega
      have S : Sep [] H F F1 H2 [(s1, .is (.lst (c.map V.int)))] := by rw [← ec]; exact S
      obtain ⟨F2, S, e2, c2⟩ := S.frz 0 rfl
      walk_at "rd"
      refine ⟨Nat.zero_le _, s_own S fun s2 H3 S => ?_⟩
      walk_at "rd"
      refine ⟨a, rfl, ⟨_, by walk_at "hl"⟩, ?_⟩
      refine s_for (fun i σ' F' M' => ∃ (x5 : Option V), σ' = [some (.ref q), some (.ref a), some (.ref r), some (.ref s1), x4, x5, x6, some (.ref s2), none, none] ∧ M' = [(s2, .is (.lst (((here.take i).filter fun h => !decide (h ∈ c) && ((nbr ties h).filter fun o => decide (o ∈ c)).isEmpty).map V.int)))]) (srcIT (K := K) (ns := here) (SqT.of ((e1.trans e2) _ _ ca))) S ⟨_, rfl, rfl⟩ (fun _ _ _ _ _ m hm => by cases hm) ?_ ?_
      · rintro i h x σ' F3 F4 H4 M' hi S e3 e4 ex ⟨x5, rfl, rfl⟩
        subst ex
        have hm := List.mem_of_getElem? hi
        have bh := HO.ok h hm
        have il := (List.getElem?_eq_some_iff.mp hi).1
        have fl := List.length_filter_le (fun h => !decide (h ∈ c) && ((nbr ties h).filter fun o => decide (o ∈ c)).isEmpty) (here.take i)
        rw [List.length_take] at fl
        obtain ⟨bb, ab, cb⟩ := LsAt.row bl b3 bh.1 (show h < (many.toNat : Int) by omega)
        have cb := (e1.trans (e2.trans (e3.trans e4))) _ _ cb
        have nl := nbr_len W h
        have yes : (!decide (h ∈ c) && ((nbr ties h).filter fun o => decide (o ∈ c)).isEmpty) = true → (((here.take (i + 1)).filter fun h => !decide (h ∈ c) && ((nbr ties h).filter fun o => decide (o ∈ c)).isEmpty).map V.int) = (((here.take i).filter fun h => !decide (h ∈ c) && ((nbr ties h).filter fun o => decide (o ∈ c)).isEmpty).map V.int) ++ [.int h] := fun z => by
          rw [take_filter _ _ hi, if_pos z, List.map_append]
          rfl
        have no : (!decide (h ∈ c) && ((nbr ties h).filter fun o => decide (o ∈ c)).isEmpty) = false → (((here.take (i + 1)).filter fun h => !decide (h ∈ c) && ((nbr ties h).filter fun o => decide (o ∈ c)).isEmpty).map V.int) = (((here.take i).filter fun h => !decide (h ∈ c) && ((nbr ties h).filter fun o => decide (o ∈ c)).isEmpty).map V.int) := fun z => by
          rw [take_filter _ _ hi, if_neg (by rw [z]; decide), List.append_nil]
        walk_at "rd"
        refine iteB (fun d1 => ?_) (fun d1 => ?_)
        · walk_at "rd"
          refine ⟨bb, rfl, ⟨_, by walk_at "hl"⟩, ?_⟩
          refine s_lcV (srcI (K := K) (ns := nbr ties h) (SqL.of cb)) (fun o => decide (o ∈ c)) (fun _ => .int 1) S (by omega) (fun m hm => by cases hm) ?_ ?_
          · rintro j o x acc D2 F5 H5 vt S e5 rfl
            walk_at "rd"
            refine ⟨rfl, ?_⟩
            walk_at "rd"
            refine iteB (fun d => ?_) (fun d => ?_)
            · walk_at "rd"
              exact vt.put S (by walk_at "ex") d rfl
            · exact vt.skip S (by walk_at "ex") d
          · intro D2 F5 H5 S e5
            obtain ⟨F6, S, e6, c6⟩ := S.frz 0 rfl
            have c6 : F6 D2 = some (.lst ((((nbr ties h).filter fun o => decide (o ∈ c)).map fun _ => (1 : Int)).map V.int)) := by rw [c6, List.map_map]; rfl
            walk_at "rd"
            refine ⟨Nat.zero_le _, s_new S fun z F7 H7 S e7 cz => ?_⟩
            refine r_eqNil (ns := ((nbr ties h).filter fun o => decide (o ∈ c)).map fun _ => (1 : Int)) (by walk_at "hl") (by walk_at "hl") ?_
            rw [List.isEmpty_map]
            walk_at "rd"
            refine iteB (fun d2 => ?_) (fun d2 => ?_)
            · walk_at "rd"
              refine ⟨tyL (by walk_at "hl"), ?_⟩
              walk_at "rd"
              refine s_app S 0 rfl (by rw [List.length_map]; omega) fun H6 S => ?_
              exact ⟨_, _, S, by walk_at "ex", _, rfl, by rw [yes (by rw [d2, Bool.and_true]; exact d1)]; rfl⟩
            · walk_at "rd"
              exact ⟨_, _, S, by walk_at "ex", _, rfl, by rw [no (by rw [d2, Bool.and_false])]; rfl⟩
        · walk_at "rd"
          exact ⟨_, _, S, by walk_at "ex", _, rfl, by rw [no (by rw [d1, Bool.false_and])]⟩
      · rintro σ' F3 H3 M' S e3 ⟨x5, rfl, rfl⟩
        rw [List.take_length, ← leftK W hc] at S
        obtain ⟨F4, S, e4, c4⟩ := S.frz 0 rfl
        walk_at "rd"
        refine s_new S fun p F5 H5 S e5 c5 => ?_
        refine k _ [] _ _ S ⟨rfl, p, rfl, ?_⟩
        unfold leftG
        rw [ec]
        exact c5

end

end
section
local macro_rules | `(tactic| walk_at "ex") => `(tactic| first | exact Evl.Ex.refl _ | assumption | ((refine' Evl.Ex.trans ?x ?y); (case y => assumption); (case x => walk_at "ex")))
local macro_rules | `(tactic| walk_at "hc") => `(tactic| first
  | assumption
  | ((refine' Sep.rdM ?S 0 ?k); (case S => assumption); (case k => exact rfl)) | ((refine' Sep.rdM ?S 1 ?k); (case S => assumption); (case k => exact rfl)) | ((refine' Sep.rdM ?S 2 ?k); (case S => assumption); (case k => exact rfl)) | ((refine' Sep.rdM ?S 3 ?k); (case S => assumption); (case k => exact rfl)) | ((refine' Sep.rdM ?S 4 ?k); (case S => assumption); (case k => exact rfl))
  | ((refine' Sep.rdC ?S ?e ?h); (case S => assumption); (case h => assumption); (case e => walk_at "ex")))
local macro_rules | `(tactic| walk_at "hl") => `(tactic| first
  | assumption
  | ((refine' SqL.of (Sep.rdM ?S 0 ?k)); (case S => assumption); (case k => exact rfl)) | ((refine' SqL.of (Sep.rdM ?S 1 ?k)); (case S => assumption); (case k => exact rfl)) | ((refine' SqL.of (Sep.rdM ?S 2 ?k)); (case S => assumption); (case k => exact rfl)) | ((refine' SqL.of (Sep.rdM ?S 3 ?k)); (case S => assumption); (case k => exact rfl)) | ((refine' SqL.of (Sep.rdM ?S 4 ?k)); (case S => assumption); (case k => exact rfl))
  | ((refine' Sep.rdL ?S ?e ?h); (case S => assumption); (case h => assumption); (case e => walk_at "ex"))
  | ((refine' Sep.rdT ?S ?e ?h); (case S => assumption); (case h => assumption); (case e => walk_at "ex"))
  | ((refine' SqL.of (Sep.rdC ?S ?e ?h)); (case S => assumption); (case h => assumption); (case e => walk_at "ex"))
  | ((refine' SqT.of (Sep.rdC ?S ?e ?h)); (case S => assumption); (case h => assumption); (case e => walk_at "ex"))
  | ((refine' SqL.of ?h); (case h => assumption)) | ((refine' SqT.of ?h); (case h => assumption))
  | ((refine' Evl.ex_l ?e ?h); (case h => assumption); (case e => walk_at "ex")) | ((refine' Evl.ex_t ?e ?h); (case h => assumption); (case e => walk_at "ex"))
  | ((refine' SqL.of (?e _ _ ?h)); (case h => assumption); (case e => walk_at "ex")) | ((refine' SqT.of (?e _ _ ?h)); (case h => assumption); (case e => walk_at "ex")))
local macro_rules | `(tactic| walk_at "hs") => `(tactic| walk_at "hc")
local macro_rules | `(tactic| walk_at "dp") => `(tactic| first
  | assumption
  | ((refine' Sep.rdD ?S ?e ?h); (case S => assumption); (case h => assumption); (case e => walk_at "ex"))
  | ((refine' Dp.ex ?e _ _ ?h); (case h => assumption); (case e => walk_at "ex"))
  | ((refine' DpAll.ex ?e _ _ ?h); (case h => assumption); (case e => walk_at "ex"))
  | (refine' dp_intsD ?h; (case h => walk_at "hl")))
local macro_rules | `(tactic| walk_at "rd1") => `(tactic| (first
  | (with_reducible refine r_seq ?_)
  | (with_reducible refine r_asg ?_)
  | (with_reducible refine r_asgG ?_)
  | (with_reducible refine r_par ?_)
  | (with_reducible refine r_if ?_)
  | (with_reducible refine r_ret ?_)
  | (with_reducible refine r_drop ?_)
  | (with_reducible refine r_next ?_)
  | ((with_reducible refine' r_var ?hx ?_); (case hx => exact rfl))
  | (with_reducible refine r_c ?_)
  | (with_reducible refine r_op ?_)
  | (with_reducible refine r_un ?_)
  | (with_reducible refine r_I0 ?_)
  | ((with_reducible refine' r_I ?_ ?_); (· first | (show (0 : Int) < _; omega) | exact Or.inr ⟨by omega, by omega⟩ | exact Or.inl ⟨by omega, by omega⟩ | exact ⟨by omega, by omega, by decide⟩))
  | (with_reducible refine r_U ?_)
  | (with_reducible refine r_test ?_)
  | (with_reducible refine r_B ?_)
  | (with_reducible refine r_bl ?_)
  | (with_reducible refine r_eqI ?_)
  | (with_reducible refine r_neI ?_)
  | ((with_reducible refine' r_eq ?_ ?_); (· exact rfl))
  | ((with_reducible refine' r_ne ?_ ?_); (· exact rfl))
  | (with_reducible refine r_nil ?_)
  | (with_reducible refine r_cons ?_)
  | (with_reducible refine s_tup ?_)
  | (with_reducible refine s_lst ?_)
  | (with_reducible refine r_call ?_)
  | (with_reducible refine r_cb ?_)
  | (with_reducible refine r_and ?_)
  | (with_reducible refine r_or ?_)
  | (with_reducible refine r_not ?_)
  | (with_reducible refine r_andV ?_)
  | (with_reducible refine r_orV ?_)
  | (with_reducible refine r_notV ?_)
  | (with_reducible refine r_ifE ?_)
  | (with_reducible refine r_gSub ?_)
  | (with_reducible refine r_sadd ?_)
  | (with_reducible refine s_lstRg ?_)
  | (with_reducible refine r_rg1 ?_)
  | (with_reducible refine r_min2 ?_)
  | (with_reducible refine r_par2 ?_)
  | (with_reducible refine r_partI ?_)
  | (with_reducible refine s_lc ?_)
  | (with_reducible refine s_dc ?_)
  | (with_reducible refine r_yes ?_)
  | (with_reducible refine r_iZipA ?_)
  | (with_reducible refine r_isN ?_)
  | (with_reducible refine r_for ?_)
  | (with_reducible refine r_iList ?_)
  | (with_reducible refine r_iTup ?_)
  | (with_reducible refine r_iRng1 ?_)
  | (with_reducible refine r_iRng2 ?_)
  | (with_reducible refine r_iEnum ?_)
  | (with_reducible refine r_iZip ?_)
  | (with_reducible refine r_gName ?_)
  | (with_reducible refine r_isNV ?_)
  | (with_reducible refine r_notNV ?_)
  | (with_reducible refine r_bm ?_)
  | (with_reducible refine r_bm0 ?_)
  | (with_reducible refine r_sl ?_)
  | (with_reducible refine r_noPart ?_)
  | (with_reducible refine r_part ?_)
  | (with_reducible refine r_chain ?_)
  | (with_reducible refine r_iKeys ?_)
  | (with_reducible refine r_iItems ?_)
  | (with_reducible refine r_frz ?_)
  | (with_reducible refine r_dput ?_)
  | (with_reducible refine r_dget ?_)
  | (with_reducible refine r_din ?_)
  | (with_reducible refine r_dnotin ?_)
  | (with_reducible refine r_break ?_)
  | ((with_reducible refine' r_sIn ?h ?_); (case h => walk_at "hs"))
  | ((with_reducible refine' r_sNotIn ?h ?_); (case h => walk_at "hs"))
  | ((with_reducible refine' r_inI ?h ?_); (case h => walk_at "hl"))
  | ((with_reducible refine' r_notInI ?h ?_); (case h => walk_at "hl"))
  | ((with_reducible refine' r_eqNil ?h ?g ?_); (case h => walk_at "hl"); (case g => walk_at "hl"))
  | ((with_reducible refine' r_neNil ?h ?g ?_); (case h => walk_at "hl"); (case g => walk_at "hl"))
  | ((with_reducible refine' iteRT ?hh ?_); (case hh => exact rfl))
  | ((with_reducible refine' iteRF ?hh ?_); (case hh => exact rfl))
  | ((with_reducible refine' r_isiT ?ty ?hk ?_); (case ty => (first | assumption | exact tyx_L (by assumption) | exact tyx_T (by assumption) | exact .base (.non) | exact .base (.bl _) | exact .base (.int _) | exact .base (.str _) | exact tyx_L (by walk_at "hl") | exact tyx_T (by walk_at "hl"))); (case hk => decide +kernel))
  | ((with_reducible refine' r_isiF ?ty ?hk ?_); (case ty => (first | assumption | exact tyx_L (by assumption) | exact tyx_T (by assumption) | exact .base (.non) | exact .base (.bl _) | exact .base (.int _) | exact .base (.str _) | exact tyx_L (by walk_at "hl") | exact tyx_T (by walk_at "hl"))); (case hk => decide +kernel))
  | ((with_reducible refine' r_gTup2 ?hn ?hs ?_); (case hn => exact rfl); (case hs => walk_at "hl"))
  | ((with_reducible refine' s_list ?hl ?_); (case hl => first | exact Or.inl (by walk_at "hl") | exact Or.inr (by walk_at "hl")))
  | ((with_reducible refine' s_tupN ?hl ?_); (case hl => walk_at "hl"))
  | ((with_reducible refine' s_sortN ?hl ?_); (case hl => walk_at "hl"))
  | ((refine' ⟨_, _, rfl, ?hl, ?_⟩); (case hl => first | exact Or.inl (by walk_at "hl") | exact Or.inr (by walk_at "hl")))
  | ((with_reducible refine' r_ixL ?hl ?ha ?_); (case hl => walk_at "hl"); (case ha => first | exact rfl | assumption))
  | ((with_reducible refine' r_ixT ?hl ?ha ?_); (case hl => walk_at "hl"); (case ha => first | exact rfl | assumption))))
local macro_rules | `(tactic| walk_at "rd") => `(tactic| repeat (walk_at "rd1"))

section
variable {P : Program} {w : World} {K : PySem.W.Frag} {mg : Str → Option Value} {base : Heap}

theorem LstsAt.app {F : Hp} {as : List Addr} {a : List (List Int)} (h : LstsAt F as a) : ∀ {bs : List Addr} {b : List (List Int)}, LstsAt F bs b → LstsAt F (as ++ bs) (a ++ b) := by
  induction h with
  | nil => intro bs b h2; exact h2
  | cons h r ih => intro bs b h2; exact .cons h (ih h2)
theorem rowsK_len (L : List Int) : ∀ (hs : List Int) (rows : List (List Int)), (hs.foldl (fun rows h => rows.flatMap fun row => L.map fun x => row ++ [x]) rows).length = rows.length * L.length ^ hs.length
  | [], rows => by simp
  | a :: hs, rows => by
    rw [List.foldl_cons, rowsK_len L hs, List.length_cons, List.length_flatMap]
    have : (rows.map fun row => (L.map fun x => row ++ [x]).length) = rows.map fun _ => L.length := List.map_congr_left fun _ _ => List.length_map ..
    rw [this, List.map_const', List.sum_replicate_nat, Nat.pow_succ, Nat.mul_comm (L.length ^ hs.length), ← Nat.mul_assoc]
theorem rowsK_take {L : List Int} {hs : List Int} {i : Nat} {h : Int} (e : hs[i]? = some h) : rowsC (fun _ => L) (hs.take (i + 1)) = (rowsC (fun _ => L) (hs.take i)).flatMap fun row => L.map fun x => row ++ [x] := by
  unfold rowsC
  rw [take_snoc e, List.foldl_append]
  rfl
/-- all rows of draws of so many houses -/
def drawsK (many sides : Int) : List (List Int) := rowsC (fun _ => rgI sides) (rgI many)
def A_ldr : (Int × Int) → List V → Hp → Prop := fun | (many, sides), vs, _ => vs = [.int many, .int sides] ∧ 0 ≤ many ∧ many ≤ 5 ∧ 1 ≤ sides ∧ sides ≤ 4
def B_ldr : (Int × Int) → V → List (Addr × Cel) → Hp → Prop := fun | (many, sides), v, N, F => N = [] ∧ ∃ q qs, v = .ref q ∧ F q = some (.lst (qs.map V.ref)) ∧ LstsAt F qs (drawsK many sides)
theorem pow4 {s n : Nat} (h : s ≤ 4) (hn : n ≤ 5) : s ^ n ≤ 1024 := Nat.le_trans (Nat.pow_le_pow_left h n) (Nat.pow_le_pow_right (n := 4) (by decide) hn)
theorem ok_l_draws (T : Env K mg) : FnOk P w K mg base CX0 1 T.a__law_draws T.fd__law_draws ["many", "sides"] (SpF A_ldr B_ldr) := by
  have nd := sc__law_draws.nd
  refine T.F__law_draws.ok sc__law_draws (fun vs H Q E h => ?_) (fun cdv A outer s H vs Q E hr h => ?_)
  · obtain ⟨⟨_, _⟩, F, _, ⟨rfl, _⟩, _⟩ := h
    rfl
  · obtain ⟨⟨many, sides⟩, F, fr, ⟨rfl, m0, m5, s1, s4⟩, k⟩ := h
    have S := Sep.start0 fr
    refine ⟨_, (pss_cons (ps_set (i := 2) nd rfl (.inl rfl) (pe_lst (pa_cons (pe_lst pa_nil) pa_nil)))
      (pss_cons (ps_for PassesOwn.never rfl (pi_range1 (by rfl) T.n_range (pa_cons (pv 0) pa_nil)) (pg_name (i := 3) nd rfl (.inl rfl)) (pss_cons (ps_set (i := 4) nd rfl (.inl rfl) (pe_lst pa_nil))
      (pss_cons (ps_for PassesOwn.never rfl (pi_list (pv 2)) (pg_name (i := 5) nd rfl (.inr rfl)) (pss_one (ps_expr (pe_bm PySem.F.plainAttrs_list PySem.F.slot_list_extend PySem.F.type_list_extend mt_extend (pv 4) (pa_cons (pe_lc (own := [("number", 6)]) (g := gName 6) (tt := tYes) (te := (tOp rCat (tVar 5) (tLst (tCons (tVar 6) tNil)))) rfl nd (pi_range1 (by rfl) T.n_range (pa_cons (pv 1) pa_nil)) (blkOk_by (N := ["many", "sides", "found", "turn", "longer", "row", "number"]) (sc := defScope s__law_draws) (by decide +kernel)) (fun _ _ _ _ _ => (pg_name (i := 6) nd rfl (.inl rfl))) (fun _ _ _ _ _ => pts_nil) (fun _ _ _ _ _ => (pe_op op_cat (pv 5) (pe_lst (pa_cons (pv 6) pa_nil))))) pa_nil)))))
      (pss_one (ps_set (i := 2) nd rfl (.inl rfl) (pv 4))))))
      (pss_one (ps_ret (pv 2))))), ?_⟩
    walk_at "rd"
    refine ⟨Nat.zero_le _, s_new S fun q0 F1 H1 S e1 c1 => ?_⟩
    walk_at "rd"
    refine ⟨by show 1 ≤ sizeLine; decide, s_new S fun q1 F2 H2 S e2 c2 => ?_⟩
    walk_at "rd"
    refine ⟨many, rfl, by omega, by omega, ?_⟩
    refine s_for (fun i σ' F' M' => ∃ (rq : Addr) (xs : List Addr) (x3 x4 x5 : Option V), σ' = [some (.int many), some (.int sides), some (.ref rq), x3, x4, x5, none] ∧ M' = [] ∧ F' rq = some (.lst (xs.map V.ref)) ∧ LstsAt F' xs (rowsC (fun _ => rgI sides) ((rgI many).take i))) (srcRG (n := many)) S ⟨q1, [q0], none, none, none, rfl, rfl, c2, by rw [List.take_zero]; exact .cons (e2 _ _ c1) .nil⟩ (fun _ _ _ _ _ m hm => by cases hm) ?_ ?_
    · rintro i h x σ' F3 F4 H4 M' ei S e3 e4 rfl ⟨rq, xs, x3, x4, x5, rfl, rfl, cr, dr⟩
      have hi := (List.getElem?_eq_some_iff.mp ei).1
      rw [rgI_len] at hi
      have num : (rowsC (fun _ => rgI sides) ((rgI many).take i)).length ≤ 1024 := by
        have := rowsK_len (rgI sides) ((rgI many).take i) [[]]
        unfold rowsC
        rw [this, List.length_singleton, Nat.one_mul, rgI_len]
        refine pow4 (by omega) ?_
        rw [List.length_take]
        omega
      walk_at "rd"
      refine ⟨Nat.zero_le _, s_own S fun lq H5 S => ?_⟩
      walk_at "rd"
      refine ⟨rq, rfl, ⟨_, SqL.of (S.fr _ _ (e4 _ _ cr))⟩, ?_⟩
      refine s_for (fun j σ' F' M' => ∃ (ys : List Addr) (x4 x5 : Option V), σ' = [some (.int many), some (.int sides), some (.ref rq), some (.int h), some (.ref lq), x4, none] ∧ M' = [(lq, .is (.lst (ys.map V.ref)))] ∧ LstsAt F' ys (((rowsC (fun _ => rgI sides) ((rgI many).take i)).take j).flatMap fun row => (rgI sides).map fun x => row ++ [x])) (srcLs (SqL.of (e4 _ _ cr)) (dr.ex e4)) S ⟨[], x5, none, rfl, rfl, by rw [List.take_zero]; exact .nil⟩ (fun _ _ _ _ _ m hm => by cases hm) ?_ ?_
      · rintro j row x σ' F5 F6 H6 M' ej S e5 e6 ⟨pq, rfl, cp⟩ ⟨ys, x4, x5, rfl, rfl, dy⟩
        have rl := rowsC_len (fun _ => rgI sides) ((rgI many).take i) [[]] 0 (fun r hr => by rw [List.mem_singleton.mp hr]; rfl) row (List.mem_of_getElem? ej)
        rw [List.length_take] at rl
        have jl := (List.getElem?_eq_some_iff.mp ej).1
        walk_at "rd"
        refine ⟨tyL (SqL.of (S.rdM 0 rfl)), ?_⟩
        walk_at "rd"
        refine ⟨sides, rfl, by omega, by omega, ?_⟩
        refine s_lcI (srcRG (n := sides)) (fun n acc F' M' => ∃ as : List Addr, acc = as.map V.ref ∧ M' = [(lq, .is (.lst (ys.map V.ref)))] ∧ LstsAt F' as (((rgI sides).take n).map fun x => row ++ [x])) S ⟨[], rfl, rfl, .nil⟩ (fun _ _ _ _ _ m hm => by cases hm) ?_ ?_
        · rintro n b x acc D F7 F8 H8 M' en S e7 e8 rfl ⟨as, rfl, rfl, da⟩
          have nl := (List.getElem?_eq_some_iff.mp en).1
          rw [rgI_len] at nl
          have al := da.len
          rw [List.length_map, List.length_take] at al
          walk_at "rd"
          refine ⟨rfl, ?_⟩
          walk_at "rd"
          refine ⟨by show 1 ≤ sizeLine; decide, s_new S fun p2 F9 H9 S e9 c9 => ?_⟩
          refine s_cat (S.fr _ _ ((e7.trans (e8.trans e9)) _ _ cp)) (S.fr _ _ c9) (by rw [List.length_map]; simp; omega) (s_new S fun p3 FA HA S eA cA => ?_)
          have ev : row.map V.int ++ [V.int b] = (row ++ [b]).map V.int := by rw [List.map_append]; rfl
          rw [ev] at cA
          refine CI.put S (e7.trans (e8.trans (e9.trans eA))) (by rw [List.length_map]; omega) ⟨as ++ [p3], by rw [List.map_append]; rfl, rfl, ?_⟩
          rw [take_snoc en, List.map_append]
          exact LstsAt.snoc cA (da.ex (e8.trans (e9.trans eA)))
        · rintro D acc F7 H7 M' S e7 ⟨as, rfl, rfl, da⟩
          rw [List.take_length] at da
          obtain ⟨F8, S, e8, c8⟩ := S.frz 0 rfl
          have la := da.len
          have ly := dy.len
          have sm : (((rowsC (fun _ => rgI sides) ((rgI many).take i)).take j).flatMap fun row => (rgI sides).map fun x => row ++ [x]).length ≤ 4096 := by
            rw [List.length_flatMap]
            have : (((rowsC (fun _ => rgI sides) ((rgI many).take i)).take j).map fun row => ((rgI sides).map fun x => row ++ [x]).length) = ((rowsC (fun _ => rgI sides) ((rgI many).take i)).take j).map fun _ => (rgI sides).length := List.map_congr_left fun _ _ => List.length_map ..
            rw [this, List.map_const', List.sum_replicate_nat, List.length_take, rgI_len]
            have := Nat.mul_le_mul (show min j (rowsC (fun _ => rgI sides) ((rgI many).take i)).length ≤ 1024 by omega) (show sides.toNat ≤ 4 by omega)
            omega
          rw [List.length_map, rgI_len] at la
          walk_at "rd"
          refine s_ext S 0 rfl (S.fr _ _ c8) (by rw [List.length_map, List.length_map]; omega) fun H9 S => ?_
          refine ⟨_, _, S, e5.trans (e6.trans (e7.trans e8)), ys ++ as, _, none, rfl, by rw [List.map_append]; rfl, ?_⟩
          rw [take_snoc ej, List.flatMap_append]
          simp only [List.flatMap_cons, List.flatMap_nil, List.append_nil]
          exact (dy.ex (e6.trans (e7.trans e8))).app (da.ex e8)
      · rintro σ' F5 H5 M' S e5 ⟨ys, x4, x5, rfl, rfl, dy⟩
        rw [List.take_length] at dy
        obtain ⟨F6, S, e6, c6⟩ := S.frz 0 rfl
        walk_at "rd"
        refine ⟨_, _, S, e3.trans (e4.trans (e5.trans e6)), lq, ys, _, _, _, rfl, rfl, c6, ?_⟩
        rw [rowsK_take ei]
        exact dy.ex e6
    · rintro σ' F3 H3 M' S e3 ⟨rq, xs, x3, x4, x5, rfl, rfl, cr, dr⟩
      rw [List.take_length] at dr
      walk_at "rd"
      exact k _ [] _ _ S ⟨rfl, rq, xs, rfl, cr, dr⟩

end

end
section
local macro_rules | `(tactic| walk_at "rd1") => `(tactic| (first
  | (with_reducible refine r_seq ?_) | (with_reducible refine r_asg ?_) | (with_reducible refine r_asgG ?_) | (with_reducible refine r_par ?_) | (with_reducible refine r_if ?_) | (with_reducible refine r_ret ?_) | (with_reducible refine r_drop ?_) | (with_reducible refine r_next ?_)
  | ((with_reducible refine' r_var ?hx ?_); (case hx => exact rfl)) | (with_reducible refine r_c ?_) | (with_reducible refine r_op ?_) | (with_reducible refine r_un ?_) | (with_reducible refine r_I0 ?_) | ((with_reducible refine r_I ?_ ?_); (· first | (show (0 : Int) < _; omega) | exact Or.inr ⟨by omega, by omega⟩ | exact Or.inl ⟨by omega, by omega⟩ | exact ⟨by omega, by omega, by decide⟩)) | (with_reducible refine r_U ?_)
  | (with_reducible refine r_test ?_) | (with_reducible refine r_B ?_) | (with_reducible refine r_bl ?_) | (with_reducible refine r_eqI ?_) | (with_reducible refine r_neI ?_)
  | ((with_reducible refine r_eq ?_ ?_); (· exact rfl)) | ((with_reducible refine r_ne ?_ ?_); (· exact rfl))
  | (with_reducible refine r_nil ?_) | (with_reducible refine r_cons ?_) | (with_reducible refine r_tup ?_) | (with_reducible refine r_lst ?_) | (with_reducible refine r_call ?_) | (with_reducible refine r_cb ?_)
  | (with_reducible refine r_and ?_) | (with_reducible refine r_or ?_) | (with_reducible refine r_not ?_) | (with_reducible refine r_andV ?_) | (with_reducible refine r_orV ?_) | (with_reducible refine r_notV ?_) | (with_reducible refine r_ifE ?_) | (with_reducible refine r_gSub ?_) | ((with_reducible refine' r_sIn ?h ?_); (case h => assumption)) | ((with_reducible refine' r_sNotIn ?h ?_); (case h => assumption)) | (with_reducible refine r_sadd ?_) | (with_reducible refine r_lstRg ?_) | (with_reducible refine r_rg1 ?_) | (with_reducible refine r_min2 ?_) | (with_reducible refine r_par2 ?_) | (with_reducible refine r_partI ?_) | (with_reducible refine r_lc ?_) | (with_reducible refine r_yes ?_) | (with_reducible refine r_iZipA ?_) | (with_reducible refine r_isN ?_) | ((with_reducible refine' iteRT ?hh ?_); (case hh => exact rfl)) | ((with_reducible refine' iteRF ?hh ?_); (case hh => exact rfl)) | ((with_reducible refine' r_isiT ?ty ?hk ?_); (case ty => first | assumption | exact tyx_L (by assumption) | exact tyx_T (by assumption) | exact .base (.non) | exact .base (.bl _) | exact .base (.int _) | exact .base (.str _)); (case hk => decide +kernel)) | ((with_reducible refine' r_isiF ?ty ?hk ?_); (case ty => first | assumption | exact tyx_L (by assumption) | exact tyx_T (by assumption) | exact .base (.non) | exact .base (.bl _) | exact .base (.int _) | exact .base (.str _)); (case hk => decide +kernel)) | (with_reducible refine r_for ?_) | (with_reducible refine r_iList ?_) | (with_reducible refine r_iTup ?_) | (with_reducible refine r_iRng1 ?_) | (with_reducible refine r_iRng2 ?_) | (with_reducible refine r_iEnum ?_) | (with_reducible refine r_iZip ?_) | (with_reducible refine r_gName ?_) | ((with_reducible refine' r_gTup2 ?hn ?hs ?_); (case hn => exact rfl); (case hs => first | assumption | exact SqT.of upd_same)) | (with_reducible refine r_bm ?_) | (with_reducible refine r_bm0 ?_) | (with_reducible refine r_sl ?_) | (with_reducible refine r_noPart ?_) | (with_reducible refine r_part ?_) | (with_reducible refine r_partI ?_) | ((refine' ⟨_, _, rfl, ?hl, ?_⟩); (case hl => first | exact Or.inl (by assumption) | exact Or.inr (by assumption)))
  | ((with_reducible refine' r_ixL ?hl ?ha ?_); (case hl => assumption); (case ha => first | exact rfl | assumption)) | ((with_reducible refine' r_ixT ?hl ?ha ?_); (case hl => assumption); (case ha => first | exact rfl | assumption))
  | ((with_reducible refine' r_setL ?hl ?hj ?_); (case hl => assumption); (case hj => first | exact rfl | assumption))))
local macro_rules | `(tactic| walk_at "rd") => `(tactic| repeat (walk_at "rd1"))

section
variable {P : Program} {w : World} {K : PySem.W.Frag} {mg : Str → Option Value} {base : Heap}

def sp_besideN (K : PySem.W.Frag) : Sp := fun vs H Q _ => ∃ (v : V) (many : Int) (ties : List (Int × Int)), vs = [v] ∧ Dp K H v (webD many ties) ∧ WebOk many ties ∧ ∀ (u : V) (H' : Hp), Evl.Ex H H' → LsN H H' u many.toNat (nbr ties) → Q u H'
theorem ok_besideN (T : Env K mg) : FnOk P w K mg base CX0 1 T.a__law_beside T.fd__law_beside ["web"] (sp_besideN K) := by
  have nd := sc__law_beside.nd
  refine T.F__law_beside.ok sc__law_beside (fun vs H Q E h => ?_) (fun cdv A outer s H vs Q E hr h => ?_)
  · obtain ⟨v, a, t, rfl, _⟩ := h
    rfl
  · obtain ⟨v, many, ties, rfl, hv, W, k⟩ := h
    obtain ⟨wa, wb, ws, rfl, s1, s2, s3⟩ := webD_at hv
    have w1 := W.lo
    have w2 := W.hi
    refine ⟨_, (pss_cons (ps_setLc (i := 1) (own := [("house", 4)]) (g := gName 4) (tt := tYes) (te := (tLst tNil)) rfl nd rfl rfl (sw_true rfl rfl rfl (by decide +kernel)) (pi_range1 (by rfl) T.n_range (pa_cons (pe_ix ix_tup (pv 0) pe_int (fun _ _ => rfl)) pa_nil)) (blkOk_by (N := ["web", "found", "one", "other", "house", "some"]) (sc := defScope s__law_beside) (by decide +kernel)) (fun _ _ _ _ _ => (pg_name (i := 4) nd rfl (.inl rfl))) (fun _ _ _ _ _ => pts_nil) (fun _ _ _ _ _ => (pe_lst pa_nil)))
      (pss_cons (ps_for PassesOwn.never rfl (pi_tup (pe_ix ix_tup (pv 0) pe_int (fun _ _ => rfl))) (pg_tup rfl (pgs_cons (pg_name (i := 2) nd rfl (.inl rfl)) (pgs_cons (pg_name (i := 3) nd rfl (.inl rfl)) pgs_nil))) (pss_cons (ps_expr (pe_bm PySem.F.plainAttrs_list PySem.F.slot_list_append PySem.F.type_list_append mt_append (pe_ix ix_list (pv 1) (pv 2) (fun _ _ => rfl)) (pa_cons (pv 3) pa_nil)))
      (pss_one (ps_expr (pe_bm PySem.F.plainAttrs_list PySem.F.slot_list_append PySem.F.type_list_append mt_append (pe_ix ix_list (pv 1) (pv 3) (fun _ _ => rfl)) (pa_cons (pv 2) pa_nil))))))
      (pss_one (ps_ret (pe_lc (own := [("some", 5)]) (g := gName 5) (tt := tYes) (te := (tCB (rSortedI K) (tCons (tVar 5) tNil))) rfl nd (pi_list (pv 1)) (blkOk_by (N := ["web", "found", "one", "other", "house", "some"]) (sc := defScope s__law_beside) (by decide +kernel)) (fun _ _ _ _ _ => (pg_name (i := 5) nd rfl (.inl rfl))) (fun _ _ _ _ _ => pts_nil) (fun _ _ _ _ _ => (pe_callB (id := "sorted") cr_sortedI (by rfl) T.n_sorted (by decide +kernel) (pa_cons (pv 5) pa_nil)))))))), ?_⟩
    walk_at "rd"
    refine ⟨many, rfl, by omega, by omega, fun D hD => ?_⟩
    refine lc_it walk_range (fun i H' => ∃ as : List Addr, H' D = some (.lst (as.map V.ref)) ∧ as.length = i ∧ as.Nodup ∧ (∀ a ∈ as, H' a = some (.lst []) ∧ H a = none ∧ a ≠ D) ∧ Evl.Ex H H') ?_ ?_ ?_ ?_
    · exact ⟨[], upd_same, rfl, List.nodup_nil, (fun a ha => by cases ha), Evl.Ex.new hD⟩
    · intro _ _ _ _
      trivial
    · rintro i v H1 H2 hi ⟨as, h1, h2, h3, h4, e1⟩ ⟨rfl, rfl⟩
      walk_at "rd"
      refine ⟨rfl, ?_⟩
      walk_at "rd"
      refine ⟨Nat.zero_le _, fun q hq => ?_⟩
      have Dq : D ≠ q := ne_of_none h1 hq
      have qH := Evl.fresh_back e1 hq
      refine ⟨as.map V.ref, by rw [upd_ne Dq]; exact h1, Evl.sz_lt (by rw [List.length_map]; omega), as ++ [q], by rw [upd_same, List.map_append]; rfl, by rw [List.length_append]; simp [h2], ?_, ?_, ((e1.trans (Evl.Ex.new hq)).mut hD)⟩
      · refine List.nodup_append.mpr ⟨h3, by simp, fun a ha b hb e => ?_⟩
        rw [List.mem_singleton] at hb
        rw [e, hb] at ha
        exact absurd (h4 q ha).1 (by rw [hq]; intro z; cases z)
      · intro a ha
        rcases List.mem_append.mp ha with ha | ha
        · obtain ⟨g1, g2, g3⟩ := h4 a ha
          exact ⟨by rw [upd_ne g3, upd_ne (ne_of_none g1 hq)]; exact g1, g2, g3⟩
        · rw [List.mem_singleton] at ha
          subst ha
          exact ⟨by rw [upd_ne Dq.symm, upd_same], qH, Dq.symm⟩
    · rintro H1 ⟨as, h1, h2, h3, h4, e1⟩
      have f1 := Evl.ex_t e1 s1
      walk_at "rd"
      refine ⟨wb, rfl, ⟨ws, Evl.ex_t e1 s2⟩, ?_⟩
      have l3 := dpAll_get s3
      rw [List.length_map] at l3
      refine for_it (walk_tup (xs := ws)) (fun i σ' H' => ∃ x2 x3 : Option V, σ' = [some (.ref wa), some (.ref D), x2, x3, none, none] ∧ H' D = some (.lst (as.map V.ref)) ∧ (∀ (j : Nat) (a : Addr), as[j]? = some a → H' a = some (.lst ((nbr (ties.take i) (j : Int)).map V.int))) ∧ Evl.Ex H H') ?_ ?_ ?_ ?_
      · exact ⟨none, none, rfl, h1, fun j a ha => (h4 a (List.mem_of_getElem? ha)).1, e1⟩
      · rintro i σ' H' _ ⟨_, _, _, _, _, e2⟩
        exact Evl.ex_t e2 s2
      · rintro i v σ' H2 H3 hi ⟨x2, x3, rfl, g1, g2, e2⟩ ⟨rfl, ey⟩
        obtain ⟨d, d1, d2⟩ := l3.2 i v ey
        rw [List.getElem?_map] at d1
        cases et : ties[i]? with
        | none => rw [et] at d1; cases d1
        | some t =>
          rw [et] at d1
          cases d1
          obtain ⟨ta, rfl, st⟩ := tieD_at (Dp.ex e2 _ _ d2)
          have ht := W.ok t (List.mem_of_getElem? et)
          have sD : SqL K H3 D (as.map V.ref) := SqL.of g1
          have lx : t.1.toNat < as.length := by omega
          have ly : t.2.toNat < as.length := by omega
          have ex := List.getElem?_eq_getElem lx
          have ey := List.getElem?_eq_getElem ly
          have ax : atI (as.map V.ref) t.1 = some (.ref as[t.1.toNat]) := atI_of ht.1 (by rw [List.getElem?_map, ex]; rfl)
          have ay : atI (as.map V.ref) t.2 = some (.ref as[t.2.toNat]) := atI_of (by omega) (by rw [List.getElem?_map, ey]; rfl)
          have nxy : as[t.1.toNat] ≠ as[t.2.toNat] := fun q => by
            have := nd_ix' h3 ex (q ▸ ey)
            omega
          have nxD := (h4 _ (List.getElem_mem lx)).2
          have nyD := (h4 _ (List.getElem_mem ly)).2
          have px := g2 _ _ ex
          have py := g2 _ _ ey
          have tk : ties.take (i + 1) = ties.take i ++ [t] := by rw [List.take_add_one, et]; rfl
          have nl : ∀ h : Int, (nbr (ties.take i) h).length ≤ 3600 := fun h => by
            have := List.length_filterMap_le (oth h) (ties.take i)
            have := ties_len W
            rw [List.length_take] at *
            unfold nbr
            omega
          walk_at "rd"
          refine ⟨tyL (SqL.of px), ?_⟩
          walk_at "rd"
          refine r_app px (by rw [List.length_map]; have := nl ((t.1.toNat : Nat) : Int); omega) ?_
          generalize hH4 : upd H3 as[t.1.toNat] _ = H4
          have g1' : H4 D = some (.lst (as.map V.ref)) := by rw [← hH4, upd_ne nxD.2.symm]; exact g1
          have sD' : SqL K H4 D (as.map V.ref) := SqL.of g1'
          have py' : H4 as[t.2.toNat] = some (.lst ((nbr (ties.take i) ((t.2.toNat : Nat) : Int)).map V.int)) := by rw [← hH4, upd_ne nxy.symm]; exact py
          walk_at "rd"
          refine ⟨tyL (SqL.of py'), ?_⟩
          walk_at "rd"
          refine r_app py' (by rw [List.length_map]; have := nl ((t.2.toNat : Nat) : Int); omega) ?_
          refine ⟨_, _, rfl, ?_, ?_, ?_⟩
          · rw [upd_ne nyD.2.symm]
            exact g1'
          · intro j a ha
            rw [tk, nbr_snoc]
            by_cases q1 : j = t.1.toNat
            · subst q1
              rw [ex] at ha
              cases ha
              rw [upd_ne nxy, ← hH4, upd_same, show oth ((t.1.toNat : Nat) : Int) t = some t.2 by unfold oth; rw [if_pos (by omega)], List.map_append]
              rfl
            · by_cases q2 : j = t.2.toNat
              · subst q2
                rw [ey] at ha
                cases ha
                rw [upd_same, show oth ((t.2.toNat : Nat) : Int) t = some t.1 by unfold oth; rw [if_neg (by omega), if_pos (by omega)], List.map_append]
                rfl
              · have na1 : a ≠ as[t.1.toNat] := fun q => q1 (nd_ix' h3 ha (q ▸ ex))
                have na2 : a ≠ as[t.2.toNat] := fun q => q2 (nd_ix' h3 ha (q ▸ ey))
                rw [upd_ne na2, ← hH4, upd_ne na1, g2 j a ha, show oth (j : Int) t = none by unfold oth; rw [if_neg (by omega), if_neg (by omega)]]
                simp
          · rw [← hH4]
            exact (e2.mut nxD.1).mut nyD.1
      · rintro σ' H2 ⟨x2, x3, rfl, g1, g2, e2⟩
        rw [List.take_of_length_le (by omega)] at g2
        walk_at "rd"
        refine ⟨D, rfl, ⟨_, SqL.of g1⟩, fun F hF => ?_⟩
        have FD : F ≠ D := (ne_of_none g1 hF).symm
        have FH := Evl.fresh_back e2 hF
        refine lc_it (walk_list (xs := as.map V.ref)) (fun i H' => ∃ bs : List Addr, H' F = some (.lst (bs.map V.ref)) ∧ bs.length = i ∧ (∀ (j : Nat) (b : Addr), bs[j]? = some b → H' b = some (.lst ((nbr ties (j : Int)).map V.int)) ∧ b ≠ F ∧ H b = none) ∧ Evl.Ex H2 H') ?_ ?_ ?_ ?_
        · exact ⟨[], upd_same, rfl, (fun j b hb => by simp at hb), Evl.Ex.new hF⟩
        · rintro i H' _ ⟨_, _, _, _, e⟩
          exact SqL.of (e _ _ g1)
        · rintro i v H3 H4 hi ⟨bs, h1', h2', h3', e3⟩ ⟨rfl, ey⟩
          rw [List.getElem?_map] at ey
          cases ea : as[i]? with
          | none => rw [ea] at ey; cases ey
          | some a =>
            rw [ea] at ey
            cases ey
            have ga := e3 _ _ (g2 i a ea)
            rw [List.length_map] at hi
            walk_at "rd"
            refine ⟨rfl, ?_⟩
            walk_at "rd"
            refine ⟨a, _, rfl, SqL.of ga, fun ns q pm so hq => ?_⟩
            have en : ns = nbr ties (i : Int) := sort_same pm so (sort_of_lt (nbr_up W _))
            subst en
            have Fq : F ≠ q := ne_of_none h1' hq
            refine ⟨bs.map V.ref, by rw [upd_ne Fq]; exact h1', Evl.sz_lt (by rw [List.length_map]; omega), bs ++ [q], by rw [upd_same, List.map_append]; rfl, by rw [List.length_append]; simp [h2'], ?_, (e3.trans (Evl.Ex.new hq)).mut hF⟩
            intro j b hb
            by_cases hj : j < bs.length
            · rw [List.getElem?_append_left hj] at hb
              obtain ⟨z1, z2, z3⟩ := h3' j b hb
              exact ⟨by rw [upd_ne z2, upd_ne (ne_of_none z1 hq)]; exact z1, z2, z3⟩
            · rw [List.getElem?_append_right (by omega)] at hb
              have : j - bs.length = 0 := by
                cases e0 : j - bs.length with
                | zero => rfl
                | succ n => rw [e0] at hb; simp at hb
              rw [this] at hb
              cases hb
              have ej : j = i := by omega
              subst ej
              exact ⟨by rw [upd_ne Fq.symm, upd_same], Fq.symm, Evl.fresh_back (e2.trans e3) hq⟩
        · rintro H3 ⟨bs, h1', h2', h3', e3⟩
          rw [List.length_map] at h2'
          exact k _ _ (e2.trans e3) ⟨F, bs, rfl, h1', FH, by omega, fun j b hb => ⟨(h3' j b hb).1, (h3' j b hb).2.2⟩⟩

end

end
section
local macro_rules | `(tactic| walk_at "ex") => `(tactic| first | exact Evl.Ex.refl _ | assumption | ((refine' Evl.Ex.trans ?x ?y); (case y => assumption); (case x => walk_at "ex")))
local macro_rules | `(tactic| walk_at "hc") => `(tactic| first
  | assumption
  | ((refine' Sep.rdM ?S 0 ?k); (case S => assumption); (case k => exact rfl)) | ((refine' Sep.rdM ?S 1 ?k); (case S => assumption); (case k => exact rfl)) | ((refine' Sep.rdM ?S 2 ?k); (case S => assumption); (case k => exact rfl)) | ((refine' Sep.rdM ?S 3 ?k); (case S => assumption); (case k => exact rfl)) | ((refine' Sep.rdM ?S 4 ?k); (case S => assumption); (case k => exact rfl))
  | ((refine' Sep.rdC ?S ?e ?h); (case S => assumption); (case h => assumption); (case e => walk_at "ex")))
local macro_rules | `(tactic| walk_at "hl") => `(tactic| first
  | assumption
  | ((refine' SqL.of (Sep.rdM ?S 0 ?k)); (case S => assumption); (case k => exact rfl)) | ((refine' SqL.of (Sep.rdM ?S 1 ?k)); (case S => assumption); (case k => exact rfl)) | ((refine' SqL.of (Sep.rdM ?S 2 ?k)); (case S => assumption); (case k => exact rfl)) | ((refine' SqL.of (Sep.rdM ?S 3 ?k)); (case S => assumption); (case k => exact rfl)) | ((refine' SqL.of (Sep.rdM ?S 4 ?k)); (case S => assumption); (case k => exact rfl))
  | ((refine' Sep.rdL ?S ?e ?h); (case S => assumption); (case h => assumption); (case e => walk_at "ex"))
  | ((refine' Sep.rdT ?S ?e ?h); (case S => assumption); (case h => assumption); (case e => walk_at "ex"))
  | ((refine' SqL.of (Sep.rdC ?S ?e ?h)); (case S => assumption); (case h => assumption); (case e => walk_at "ex"))
  | ((refine' SqT.of (Sep.rdC ?S ?e ?h)); (case S => assumption); (case h => assumption); (case e => walk_at "ex"))
  | ((refine' SqL.of ?h); (case h => assumption)) | ((refine' SqT.of ?h); (case h => assumption))
  | ((refine' Evl.ex_l ?e ?h); (case h => assumption); (case e => walk_at "ex")) | ((refine' Evl.ex_t ?e ?h); (case h => assumption); (case e => walk_at "ex"))
  | ((refine' SqL.of (?e _ _ ?h)); (case h => assumption); (case e => walk_at "ex")) | ((refine' SqT.of (?e _ _ ?h)); (case h => assumption); (case e => walk_at "ex")))
local macro_rules | `(tactic| walk_at "hs") => `(tactic| walk_at "hc")
local macro_rules | `(tactic| walk_at "dp") => `(tactic| first
  | assumption
  | ((refine' Sep.rdD ?S ?e ?h); (case S => assumption); (case h => assumption); (case e => walk_at "ex"))
  | ((refine' Dp.ex ?e _ _ ?h); (case h => assumption); (case e => walk_at "ex"))
  | ((refine' DpAll.ex ?e _ _ ?h); (case h => assumption); (case e => walk_at "ex"))
  | (refine' dp_intsD ?h; (case h => walk_at "hl")))
local macro_rules | `(tactic| walk_at "rd1") => `(tactic| (first
  | (with_reducible refine r_seq ?_)
  | (with_reducible refine r_asg ?_)
  | (with_reducible refine r_asgG ?_)
  | (with_reducible refine r_par ?_)
  | (with_reducible refine r_if ?_)
  | (with_reducible refine r_ret ?_)
  | (with_reducible refine r_drop ?_)
  | (with_reducible refine r_next ?_)
  | ((with_reducible refine' r_var ?hx ?_); (case hx => exact rfl))
  | (with_reducible refine r_c ?_)
  | (with_reducible refine r_op ?_)
  | (with_reducible refine r_un ?_)
  | (with_reducible refine r_I0 ?_)
  | ((with_reducible refine' r_I ?_ ?_); (· first | (show (0 : Int) < _; omega) | exact Or.inr ⟨by omega, by omega⟩ | exact Or.inl ⟨by omega, by omega⟩ | exact ⟨by omega, by omega, by decide⟩))
  | (with_reducible refine r_U ?_)
  | (with_reducible refine r_test ?_)
  | (with_reducible refine r_B ?_)
  | (with_reducible refine r_bl ?_)
  | (with_reducible refine r_eqI ?_)
  | (with_reducible refine r_neI ?_)
  | ((with_reducible refine' r_eq ?_ ?_); (· exact rfl))
  | ((with_reducible refine' r_ne ?_ ?_); (· exact rfl))
  | (with_reducible refine r_nil ?_)
  | (with_reducible refine r_cons ?_)
  | (with_reducible refine s_tup ?_)
  | (with_reducible refine s_lst ?_)
  | (with_reducible refine r_call ?_)
  | (with_reducible refine r_cb ?_)
  | (with_reducible refine r_and ?_)
  | (with_reducible refine r_or ?_)
  | (with_reducible refine r_not ?_)
  | (with_reducible refine r_andV ?_)
  | (with_reducible refine r_orV ?_)
  | (with_reducible refine r_notV ?_)
  | (with_reducible refine r_ifE ?_)
  | (with_reducible refine r_gSub ?_)
  | (with_reducible refine r_sadd ?_)
  | (with_reducible refine s_lstRg ?_)
  | (with_reducible refine r_rg1 ?_)
  | (with_reducible refine r_min2 ?_)
  | (with_reducible refine r_par2 ?_)
  | (with_reducible refine r_partI ?_)
  | (with_reducible refine s_lc ?_)
  | (with_reducible refine s_dc ?_)
  | (with_reducible refine r_yes ?_)
  | (with_reducible refine r_iZipA ?_)
  | (with_reducible refine r_isN ?_)
  | (with_reducible refine r_for ?_)
  | (with_reducible refine r_iList ?_)
  | (with_reducible refine r_iTup ?_)
  | (with_reducible refine r_iRng1 ?_)
  | (with_reducible refine r_iRng2 ?_)
  | (with_reducible refine r_iEnum ?_)
  | (with_reducible refine r_iZip ?_)
  | (with_reducible refine r_gName ?_)
  | (with_reducible refine r_isNV ?_)
  | (with_reducible refine r_notNV ?_)
  | (with_reducible refine r_bm ?_)
  | (with_reducible refine r_bm0 ?_)
  | (with_reducible refine r_sl ?_)
  | (with_reducible refine r_noPart ?_)
  | (with_reducible refine r_part ?_)
  | (with_reducible refine r_chain ?_)
  | (with_reducible refine r_iKeys ?_)
  | (with_reducible refine r_iItems ?_)
  | (with_reducible refine r_frz ?_)
  | (with_reducible refine r_dput ?_)
  | (with_reducible refine r_dget ?_)
  | (with_reducible refine r_din ?_)
  | (with_reducible refine r_dnotin ?_)
  | (with_reducible refine r_break ?_)
  | ((with_reducible refine' r_sIn ?h ?_); (case h => walk_at "hs"))
  | ((with_reducible refine' r_sNotIn ?h ?_); (case h => walk_at "hs"))
  | ((with_reducible refine' r_inI ?h ?_); (case h => walk_at "hl"))
  | ((with_reducible refine' r_notInI ?h ?_); (case h => walk_at "hl"))
  | ((with_reducible refine' r_eqNil ?h ?g ?_); (case h => walk_at "hl"); (case g => walk_at "hl"))
  | ((with_reducible refine' r_neNil ?h ?g ?_); (case h => walk_at "hl"); (case g => walk_at "hl"))
  | ((with_reducible refine' iteRT ?hh ?_); (case hh => exact rfl))
  | ((with_reducible refine' iteRF ?hh ?_); (case hh => exact rfl))
  | ((with_reducible refine' r_isiT ?ty ?hk ?_); (case ty => (first | assumption | exact tyx_L (by assumption) | exact tyx_T (by assumption) | exact .base (.non) | exact .base (.bl _) | exact .base (.int _) | exact .base (.str _) | exact tyx_L (by walk_at "hl") | exact tyx_T (by walk_at "hl"))); (case hk => decide +kernel))
  | ((with_reducible refine' r_isiF ?ty ?hk ?_); (case ty => (first | assumption | exact tyx_L (by assumption) | exact tyx_T (by assumption) | exact .base (.non) | exact .base (.bl _) | exact .base (.int _) | exact .base (.str _) | exact tyx_L (by walk_at "hl") | exact tyx_T (by walk_at "hl"))); (case hk => decide +kernel))
  | ((with_reducible refine' r_gTup2 ?hn ?hs ?_); (case hn => exact rfl); (case hs => walk_at "hl"))
  | ((with_reducible refine' s_list ?hl ?_); (case hl => first | exact Or.inl (by walk_at "hl") | exact Or.inr (by walk_at "hl")))
  | ((with_reducible refine' s_tupN ?hl ?_); (case hl => walk_at "hl"))
  | ((with_reducible refine' s_sortN ?hl ?_); (case hl => walk_at "hl"))
  | ((refine' ⟨_, _, rfl, ?hl, ?_⟩); (case hl => first | exact Or.inl (by walk_at "hl") | exact Or.inr (by walk_at "hl")))
  | ((with_reducible refine' r_ixL ?hl ?ha ?_); (case hl => walk_at "hl"); (case ha => first | exact rfl | assumption))
  | ((with_reducible refine' r_ixT ?hl ?ha ?_); (case hl => walk_at "hl"); (case ha => first | exact rfl | assumption))))
local macro_rules | `(tactic| walk_at "rd") => `(tactic| repeat (walk_at "rd1"))

section
variable {P : Program} {w : World} {K : PySem.W.Frag} {mg : Str → Option Value} {base : Heap}

def A_web1b (K : PySem.W.Frag) : (Int × List (Int × Int)) → List V → Hp → Prop := fun | (many, ties), vs, F => ∃ v, vs = [v] ∧ Dp K F v (webD many ties) ∧ WebOk many ties
def B_bes : (Int × List (Int × Int)) → V → List (Addr × Cel) → Hp → Prop := fun | (many, ties), v, N, F => N = [] ∧ LsAt F v many.toNat (nbr ties)
theorem ok_l_beside (T : Env K mg) : FnOk P w K mg base CX0 1 T.a__law_beside T.fd__law_beside ["web"] (SpF (A_web1b K) B_bes) := by
  refine (ok_besideN T).imp fun vs H Q E h => ?_
  obtain ⟨⟨many, ties⟩, F, fr, ⟨v, rfl, hv, W⟩, k⟩ := h
  refine ⟨v, many, ties, rfl, Dp.ex fr _ _ hv, W, fun u H' e ls => ?_⟩
  obtain ⟨q, bs, rfl, g1, g2, g3, g4⟩ := ls
  obtain ⟨F', S, e', hF⟩ := Sep.grow fr e (q :: bs) fun a ha => by
    rcases List.mem_cons.mp ha with rfl | ha
    · exact g2
    · obtain ⟨j, hj⟩ := List.mem_iff_getElem?.mp ha
      exact (g4 j a hj).2
  refine k _ [] F' H' S ⟨rfl, q, bs, rfl, by rw [hF q List.mem_cons_self]; exact g1, g3, fun j b hb => by rw [hF b (List.mem_cons_of_mem _ (List.mem_of_getElem? hb))]; exact (g4 j b hb).1⟩

end

end
section
local macro_rules | `(tactic| walk_at "ex") => `(tactic| first | exact Evl.Ex.refl _ | assumption | ((refine' Evl.Ex.trans ?x ?y); (case y => assumption); (case x => walk_at "ex")))
local macro_rules | `(tactic| walk_at "hc") => `(tactic| first
  | assumption
  | ((refine' Sep.rdM ?S 0 ?k); (case S => assumption); (case k => exact rfl)) | ((refine' Sep.rdM ?S 1 ?k); (case S => assumption); (case k => exact rfl)) | ((refine' Sep.rdM ?S 2 ?k); (case S => assumption); (case k => exact rfl)) | ((refine' Sep.rdM ?S 3 ?k); (case S => assumption); (case k => exact rfl)) | ((refine' Sep.rdM ?S 4 ?k); (case S => assumption); (case k => exact rfl))
  | ((refine' Sep.rdC ?S ?e ?h); (case S => assumption); (case h => assumption); (case e => walk_at "ex")))
local macro_rules | `(tactic| walk_at "hl") => `(tactic| first
  | assumption
  | ((refine' SqL.of (Sep.rdM ?S 0 ?k)); (case S => assumption); (case k => exact rfl)) | ((refine' SqL.of (Sep.rdM ?S 1 ?k)); (case S => assumption); (case k => exact rfl)) | ((refine' SqL.of (Sep.rdM ?S 2 ?k)); (case S => assumption); (case k => exact rfl)) | ((refine' SqL.of (Sep.rdM ?S 3 ?k)); (case S => assumption); (case k => exact rfl)) | ((refine' SqL.of (Sep.rdM ?S 4 ?k)); (case S => assumption); (case k => exact rfl))
  | ((refine' Sep.rdL ?S ?e ?h); (case S => assumption); (case h => assumption); (case e => walk_at "ex"))
  | ((refine' Sep.rdT ?S ?e ?h); (case S => assumption); (case h => assumption); (case e => walk_at "ex"))
  | ((refine' SqL.of (Sep.rdC ?S ?e ?h)); (case S => assumption); (case h => assumption); (case e => walk_at "ex"))
  | ((refine' SqT.of (Sep.rdC ?S ?e ?h)); (case S => assumption); (case h => assumption); (case e => walk_at "ex"))
  | ((refine' SqL.of ?h); (case h => assumption)) | ((refine' SqT.of ?h); (case h => assumption))
  | ((refine' Evl.ex_l ?e ?h); (case h => assumption); (case e => walk_at "ex")) | ((refine' Evl.ex_t ?e ?h); (case h => assumption); (case e => walk_at "ex"))
  | ((refine' SqL.of (?e _ _ ?h)); (case h => assumption); (case e => walk_at "ex")) | ((refine' SqT.of (?e _ _ ?h)); (case h => assumption); (case e => walk_at "ex")))
local macro_rules | `(tactic| walk_at "hs") => `(tactic| walk_at "hc")
local macro_rules | `(tactic| walk_at "dp") => `(tactic| first
  | assumption
  | ((refine' Sep.rdD ?S ?e ?h); (case S => assumption); (case h => assumption); (case e => walk_at "ex"))
  | ((refine' Dp.ex ?e _ _ ?h); (case h => assumption); (case e => walk_at "ex"))
  | ((refine' DpAll.ex ?e _ _ ?h); (case h => assumption); (case e => walk_at "ex"))
  | (refine' dp_intsD ?h; (case h => walk_at "hl")))
local macro_rules | `(tactic| walk_at "rd1") => `(tactic| (first
  | (with_reducible refine r_seq ?_)
  | (with_reducible refine r_asg ?_)
  | (with_reducible refine r_asgG ?_)
  | (with_reducible refine r_par ?_)
  | (with_reducible refine r_if ?_)
  | (with_reducible refine r_ret ?_)
  | (with_reducible refine r_drop ?_)
  | (with_reducible refine r_next ?_)
  | ((with_reducible refine' r_var ?hx ?_); (case hx => exact rfl))
  | (with_reducible refine r_c ?_)
  | (with_reducible refine r_op ?_)
  | (with_reducible refine r_un ?_)
  | (with_reducible refine r_I0 ?_)
  | ((with_reducible refine' r_I ?_ ?_); (· first | (show (0 : Int) < _; omega) | exact Or.inr ⟨by omega, by omega⟩ | exact Or.inl ⟨by omega, by omega⟩ | exact ⟨by omega, by omega, by decide⟩))
  | (with_reducible refine r_U ?_)
  | (with_reducible refine r_test ?_)
  | (with_reducible refine r_B ?_)
  | (with_reducible refine r_bl ?_)
  | (with_reducible refine r_eqI ?_)
  | (with_reducible refine r_neI ?_)
  | ((with_reducible refine' r_eq ?_ ?_); (· exact rfl))
  | ((with_reducible refine' r_ne ?_ ?_); (· exact rfl))
  | (with_reducible refine r_nil ?_)
  | (with_reducible refine r_cons ?_)
  | (with_reducible refine s_tup ?_)
  | (with_reducible refine s_lst ?_)
  | (with_reducible refine r_call ?_)
  | (with_reducible refine r_cb ?_)
  | (with_reducible refine r_and ?_)
  | (with_reducible refine r_or ?_)
  | (with_reducible refine r_not ?_)
  | (with_reducible refine r_andV ?_)
  | (with_reducible refine r_orV ?_)
  | (with_reducible refine r_notV ?_)
  | (with_reducible refine r_ifE ?_)
  | (with_reducible refine r_gSub ?_)
  | (with_reducible refine r_sadd ?_)
  | (with_reducible refine s_lstRg ?_)
  | (with_reducible refine r_rg1 ?_)
  | (with_reducible refine r_min2 ?_)
  | (with_reducible refine r_par2 ?_)
  | (with_reducible refine r_partI ?_)
  | (with_reducible refine s_lc ?_)
  | (with_reducible refine s_dc ?_)
  | (with_reducible refine r_yes ?_)
  | (with_reducible refine r_iZipA ?_)
  | (with_reducible refine r_isN ?_)
  | (with_reducible refine r_for ?_)
  | (with_reducible refine r_iList ?_)
  | (with_reducible refine r_iTup ?_)
  | (with_reducible refine r_iRng1 ?_)
  | (with_reducible refine r_iRng2 ?_)
  | (with_reducible refine r_iEnum ?_)
  | (with_reducible refine r_iZip ?_)
  | (with_reducible refine r_gName ?_)
  | (with_reducible refine r_isNV ?_)
  | (with_reducible refine r_notNV ?_)
  | (with_reducible refine r_bm ?_)
  | (with_reducible refine r_bm0 ?_)
  | (with_reducible refine r_sl ?_)
  | (with_reducible refine r_noPart ?_)
  | (with_reducible refine r_part ?_)
  | (with_reducible refine r_chain ?_)
  | (with_reducible refine r_iKeys ?_)
  | (with_reducible refine r_iItems ?_)
  | (with_reducible refine r_frz ?_)
  | (with_reducible refine r_dput ?_)
  | (with_reducible refine r_dget ?_)
  | (with_reducible refine r_din ?_)
  | (with_reducible refine r_dnotin ?_)
  | (with_reducible refine r_break ?_)
  | ((with_reducible refine' r_sIn ?h ?_); (case h => walk_at "hs"))
  | ((with_reducible refine' r_sNotIn ?h ?_); (case h => walk_at "hs"))
  | ((with_reducible refine' r_inI ?h ?_); (case h => walk_at "hl"))
  | ((with_reducible refine' r_notInI ?h ?_); (case h => walk_at "hl"))
  | ((with_reducible refine' r_eqNil ?h ?g ?_); (case h => walk_at "hl"); (case g => walk_at "hl"))
  | ((with_reducible refine' r_neNil ?h ?g ?_); (case h => walk_at "hl"); (case g => walk_at "hl"))
  | ((with_reducible refine' iteRT ?hh ?_); (case hh => exact rfl))
  | ((with_reducible refine' iteRF ?hh ?_); (case hh => exact rfl))
  | ((with_reducible refine' r_isiT ?ty ?hk ?_); (case ty => (first | assumption | exact tyx_L (by assumption) | exact tyx_T (by assumption) | exact .base (.non) | exact .base (.bl _) | exact .base (.int _) | exact .base (.str _) | exact tyx_L (by walk_at "hl") | exact tyx_T (by walk_at "hl"))); (case hk => decide +kernel))
  | ((with_reducible refine' r_isiF ?ty ?hk ?_); (case ty => (first | assumption | exact tyx_L (by assumption) | exact tyx_T (by assumption) | exact .base (.non) | exact .base (.bl _) | exact .base (.int _) | exact .base (.str _) | exact tyx_L (by walk_at "hl") | exact tyx_T (by walk_at "hl"))); (case hk => decide +kernel))
  | ((with_reducible refine' r_gTup2 ?hn ?hs ?_); (case hn => exact rfl); (case hs => walk_at "hl"))
  | ((with_reducible refine' s_list ?hl ?_); (case hl => first | exact Or.inl (by walk_at "hl") | exact Or.inr (by walk_at "hl")))
  | ((with_reducible refine' s_tupN ?hl ?_); (case hl => walk_at "hl"))
  | ((with_reducible refine' s_sortN ?hl ?_); (case hl => walk_at "hl"))
  | ((refine' ⟨_, _, rfl, ?hl, ?_⟩); (case hl => first | exact Or.inl (by walk_at "hl") | exact Or.inr (by walk_at "hl")))
  | ((with_reducible refine' r_ixL ?hl ?ha ?_); (case hl => walk_at "hl"); (case ha => first | exact rfl | assumption))
  | ((with_reducible refine' r_ixT ?hl ?ha ?_); (case hl => walk_at "hl"); (case ha => first | exact rfl | assumption))))
local macro_rules | `(tactic| walk_at "rd") => `(tactic| repeat (walk_at "rd1"))

section
variable {P : Program} {w : World} {K : PySem.W.Frag} {mg : Str → Option Value} {base : Heap}

theorem big8_ofM {i : Int} (h0 : 0 ≤ i) (h : i < 2 ^ 100) : Big8 i := by
  unfold Big8
  have : i.natAbs < 2 ^ 100 := by omega
  exact Nat.lt_of_lt_of_le this (Nat.pow_le_pow_right (by decide) (by decide : 100 ≤ 8000))
theorem sum_scale (c : Int) {α : Type} (f : α → Int) (l : List α) : (l.map fun x => f x * c).sum = (l.map f).sum * c := by
  induction l with
  | nil => simp
  | cons x r ih => rw [List.map_cons, List.sum_cons, List.map_cons, List.sum_cons, ih, Int.add_mul]
theorem sum_one {α : Type} : ∀ l : List α, (l.map fun _ => (1 : Int)).sum = (l.length : Int)
  | [] => rfl
  | x :: r => by
    rw [List.map_cons, List.sum_cons, sum_one r, List.length_cons]
    omega
theorem cw_sum (ties : List (Int × Int)) (here : List Int) (rows : List (List Int)) : ((cwL ties here rows).map (·.2)).sum = (rows.length : Int) := by
  unfold cwL
  have := (tally_spec (rows.map fun r => (leastOf ties here (rowF r), (1 : Int)))).2.2.1
  unfold sumA at this
  rw [this, List.map_map]
  have e : ((fun p : List Int × Int => p.2) ∘ fun r => (leastOf ties here (rowF r), (1 : Int))) = fun _ => 1 := rfl
  rw [e]
  exact sum_one rows
theorem way_tot (many : Int) (ties : List (Int × Int)) (here : List Int) (sides : Int) : sumA (wayL many ties here sides) = sides ^ alikeN many ties here * ((rowsC (chC ties here sides) (rgI many)).length : Int) := by
  unfold wayL
  rw [(tally_spec _).2.2.1, List.map_map]
  have e : ((fun p : List Int × Int => p.2) ∘ fun p : List Int × Int => (leftC ties here p.1, p.2 * sides ^ alikeN many ties here)) = fun p => p.2 * sides ^ alikeN many ties here := rfl
  rw [e, sum_scale _ (fun p : List Int × Int => p.2), cw_sum, Int.mul_comm]
theorem rowsC_pos {C : Int → List Int} : ∀ (hs : List Int) (rows : List (List Int)), (∀ h, 1 ≤ (C h).length) → 1 ≤ rows.length → 1 ≤ (hs.foldl (fun rows h => rows.flatMap fun row => (C h).map fun x => row ++ [x]) rows).length
  | [], rows, _, h => by simpa using h
  | a :: hs, rows, hc, h => by
    rw [List.foldl_cons]
    refine rowsC_pos hs _ hc ?_
    rw [List.length_flatMap]
    have : (rows.map fun row => ((C a).map fun x => row ++ [x]).length) = rows.map fun _ => (C a).length := List.map_congr_left fun _ _ => List.length_map ..
    rw [this, List.map_const', List.sum_replicate_nat]
    have := hc a
    exact Nat.le_trans (by omega) (Nat.mul_le_mul h this)
theorem way_sum {many : Int} {ties : List (Int × Int)} {here : List Int} {sides : Int} (s1 : 1 ≤ sides) (s4 : sides ≤ 4) (m5 : many ≤ 5) : 0 < sumA (wayL many ties here sides) ∧ sumA (wayL many ties here sides) ≤ 1048576 := by
  rw [way_tot]
  have p := sides_pow (sides := sides) (n := alikeN many ties here) s1 s4 (alike_le m5)
  have r := rows_few (many := many) (ties := ties) (here := here) m5 s1 s4
  have r1 := rowsC_pos (C := chC ties here sides) (rgI many) [[]] (fun h => (chC_len s1 s4).1) (Nat.le_refl _)
  have r1 : 1 ≤ (rowsC (chC ties here sides) (rgI many)).length := r1
  have h1 : sides ^ alikeN many ties here * ((rowsC (chC ties here sides) (rgI many)).length : Int) ≤ 1024 * 1024 := Int.le_trans (Int.mul_le_mul_of_nonneg_right p.2 (by omega)) (Int.mul_le_mul_of_nonneg_left (by omega) (by omega))
  have h2 : 0 < sides ^ alikeN many ties here * ((rowsC (chC ties here sides) (rgI many)).length : Int) := Int.mul_pos (by omega) (by omega)
  omega
theorem way_get (many : Int) (ties : List (Int × Int)) (here : List Int) (sides : Int) (k : List Int) : getA (wayL many ties here sides) k = sides ^ alikeN many ties here * cntR (fun r => decide (leftG ties here (rowF r) = k)) (rowsC (chC ties here sides) (rgI many)) := by
  unfold wayL
  rw [(tally_spec _).2.1 k, List.map_map]
  have e : ((fun p : List Int × Int => if p.1 = k then p.2 else 0) ∘ fun p : List Int × Int => (leftC ties here p.1, p.2 * sides ^ alikeN many ties here)) = fun p => (if leftC ties here p.1 = k then sides ^ alikeN many ties here else 0) * p.2 := by
    funext p
    show (if leftC ties here p.1 = k then p.2 * sides ^ alikeN many ties here else 0) = _
    by_cases c : leftC ties here p.1 = k
    · rw [if_pos c, if_pos c, Int.mul_comm]
    · rw [if_neg c, if_neg c, Int.zero_mul]
  rw [e]
  have := tally_W (fun c => if leftC ties here c = k then sides ^ alikeN many ties here else 0) ((rowsC (chC ties here sides) (rgI many)).map fun r => (leastOf ties here (rowF r), (1 : Int)))
  unfold sumW at this
  unfold cwL
  rw [this, List.map_map, cntR_sum]
  generalize rowsC (chC ties here sides) (rgI many) = rows
  induction rows with
  | nil => simp
  | cons r rs ih =>
    rw [List.map_cons, List.sum_cons, List.map_cons, List.sum_cons, ih, Int.mul_add]
    congr 1
    show (if leftC ties here (leastOf ties here (rowF r)) = k then sides ^ alikeN many ties here else 0) * 1 = _ * (if decide (leftG ties here (rowF r) = k) = true then 1 else 0)
    by_cases c : leftC ties here (leastOf ties here (rowF r)) = k
    · have c2 : leftG ties here (rowF r) = k := c
      rw [if_pos c, if_pos (decide_eq_true c2)]
    · have c2 : ¬ leftG ties here (rowF r) = k := c
      rw [if_neg c, if_neg (by simpa using c2)]
      simp
def A_co (K : PySem.W.Frag) : (Int × List (Int × Int) × List Int × List Int × Int) → List V → Hp → Prop := fun | (many, ties, here, there, sides), vs, F => ∃ v a b, vs = [v, .int sides, .ref a, .ref b] ∧ Dp K F v (webD many ties) ∧ WebOk many ties ∧ many ≤ 5 ∧ 2 ≤ sides ∧ sides ≤ 4 ∧ F a = some (.tup (here.map V.int)) ∧ HereOk many here ∧ F b = some (.tup (there.map V.int))
def chanceF (many : Int) (ties : List (Int × Int)) (here there : List Int) (sides : Int) : Int × Int := lowF (getA (wayL many ties here sides) there, sumA (wayL many ties here sides))
def subH : (Int × List (Int × Int) × List Int × List Int × Int) → Prop := fun x => ∀ h ∈ x.2.2.2.1, h ∈ x.2.2.1

def B_co (K : PySem.W.Frag) : (Int × List (Int × Int) × List Int × List Int × Int) → V → List (Addr × Cel) → Hp → Prop := fun | (many, ties, here, there, sides), v, N, F => N = [] ∧ Dp K F v (tieD (chanceF many ties here there sides))
end

end
section
local macro_rules | `(tactic| walk_at "ex") => `(tactic| first | exact Evl.Ex.refl _ | assumption | ((refine' Evl.Ex.trans ?x ?y); (case y => assumption); (case x => walk_at "ex")))
local macro_rules | `(tactic| walk_at "hc") => `(tactic| first
  | assumption
  | ((refine' Sep.rdM ?S 0 ?k); (case S => assumption); (case k => exact rfl)) | ((refine' Sep.rdM ?S 1 ?k); (case S => assumption); (case k => exact rfl)) | ((refine' Sep.rdM ?S 2 ?k); (case S => assumption); (case k => exact rfl)) | ((refine' Sep.rdM ?S 3 ?k); (case S => assumption); (case k => exact rfl)) | ((refine' Sep.rdM ?S 4 ?k); (case S => assumption); (case k => exact rfl))
  | ((refine' Sep.rdC ?S ?e ?h); (case S => assumption); (case h => assumption); (case e => walk_at "ex")))
local macro_rules | `(tactic| walk_at "hl") => `(tactic| first
  | assumption
  | ((refine' SqL.of (Sep.rdM ?S 0 ?k)); (case S => assumption); (case k => exact rfl)) | ((refine' SqL.of (Sep.rdM ?S 1 ?k)); (case S => assumption); (case k => exact rfl)) | ((refine' SqL.of (Sep.rdM ?S 2 ?k)); (case S => assumption); (case k => exact rfl)) | ((refine' SqL.of (Sep.rdM ?S 3 ?k)); (case S => assumption); (case k => exact rfl)) | ((refine' SqL.of (Sep.rdM ?S 4 ?k)); (case S => assumption); (case k => exact rfl))
  | ((refine' Sep.rdL ?S ?e ?h); (case S => assumption); (case h => assumption); (case e => walk_at "ex"))
  | ((refine' Sep.rdT ?S ?e ?h); (case S => assumption); (case h => assumption); (case e => walk_at "ex"))
  | ((refine' SqL.of (Sep.rdC ?S ?e ?h)); (case S => assumption); (case h => assumption); (case e => walk_at "ex"))
  | ((refine' SqT.of (Sep.rdC ?S ?e ?h)); (case S => assumption); (case h => assumption); (case e => walk_at "ex"))
  | ((refine' SqL.of ?h); (case h => assumption)) | ((refine' SqT.of ?h); (case h => assumption))
  | ((refine' Evl.ex_l ?e ?h); (case h => assumption); (case e => walk_at "ex")) | ((refine' Evl.ex_t ?e ?h); (case h => assumption); (case e => walk_at "ex"))
  | ((refine' SqL.of (?e _ _ ?h)); (case h => assumption); (case e => walk_at "ex")) | ((refine' SqT.of (?e _ _ ?h)); (case h => assumption); (case e => walk_at "ex")))
local macro_rules | `(tactic| walk_at "hs") => `(tactic| walk_at "hc")
local macro_rules | `(tactic| walk_at "dp") => `(tactic| first
  | assumption
  | ((refine' Sep.rdD ?S ?e ?h); (case S => assumption); (case h => assumption); (case e => walk_at "ex"))
  | ((refine' Dp.ex ?e _ _ ?h); (case h => assumption); (case e => walk_at "ex"))
  | ((refine' DpAll.ex ?e _ _ ?h); (case h => assumption); (case e => walk_at "ex"))
  | (refine' dp_intsD ?h; (case h => walk_at "hl")))
local macro_rules | `(tactic| walk_at "rd1") => `(tactic| (first
  | (with_reducible refine r_seq ?_)
  | (with_reducible refine r_asg ?_)
  | (with_reducible refine r_asgG ?_)
  | (with_reducible refine r_par ?_)
  | (with_reducible refine r_if ?_)
  | (with_reducible refine r_ret ?_)
  | (with_reducible refine r_drop ?_)
  | (with_reducible refine r_next ?_)
  | ((with_reducible refine' r_var ?hx ?_); (case hx => exact rfl))
  | (with_reducible refine r_c ?_)
  | (with_reducible refine r_op ?_)
  | (with_reducible refine r_un ?_)
  | (with_reducible refine r_I0 ?_)
  | ((with_reducible refine' r_I ?_ ?_); (· first | (show (0 : Int) < _; omega) | exact Or.inr ⟨by omega, by omega⟩ | exact Or.inl ⟨by omega, by omega⟩ | exact ⟨by omega, by omega, by decide⟩))
  | (with_reducible refine r_U ?_)
  | (with_reducible refine r_test ?_)
  | (with_reducible refine r_B ?_)
  | (with_reducible refine r_bl ?_)
  | (with_reducible refine r_eqI ?_)
  | (with_reducible refine r_neI ?_)
  | ((with_reducible refine' r_eq ?_ ?_); (· exact rfl))
  | ((with_reducible refine' r_ne ?_ ?_); (· exact rfl))
  | (with_reducible refine r_nil ?_)
  | (with_reducible refine r_cons ?_)
  | (with_reducible refine s_tup ?_)
  | (with_reducible refine s_lst ?_)
  | (with_reducible refine r_call ?_)
  | (with_reducible refine r_cb ?_)
  | (with_reducible refine r_and ?_)
  | (with_reducible refine r_or ?_)
  | (with_reducible refine r_not ?_)
  | (with_reducible refine r_andV ?_)
  | (with_reducible refine r_orV ?_)
  | (with_reducible refine r_notV ?_)
  | (with_reducible refine r_ifE ?_)
  | (with_reducible refine r_gSub ?_)
  | (with_reducible refine r_sadd ?_)
  | (with_reducible refine s_lstRg ?_)
  | (with_reducible refine r_rg1 ?_)
  | (with_reducible refine r_min2 ?_)
  | (with_reducible refine r_par2 ?_)
  | (with_reducible refine r_partI ?_)
  | (with_reducible refine s_lc ?_)
  | (with_reducible refine s_dc ?_)
  | (with_reducible refine r_yes ?_)
  | (with_reducible refine r_iZipA ?_)
  | (with_reducible refine r_isN ?_)
  | (with_reducible refine r_for ?_)
  | (with_reducible refine r_iList ?_)
  | (with_reducible refine r_iTup ?_)
  | (with_reducible refine r_iRng1 ?_)
  | (with_reducible refine r_iRng2 ?_)
  | (with_reducible refine r_iEnum ?_)
  | (with_reducible refine r_iZip ?_)
  | (with_reducible refine r_gName ?_)
  | (with_reducible refine r_isNV ?_)
  | (with_reducible refine r_notNV ?_)
  | (with_reducible refine r_bm ?_)
  | (with_reducible refine r_bm0 ?_)
  | (with_reducible refine r_sl ?_)
  | (with_reducible refine r_noPart ?_)
  | (with_reducible refine r_part ?_)
  | (with_reducible refine r_chain ?_)
  | (with_reducible refine r_iKeys ?_)
  | (with_reducible refine r_iItems ?_)
  | (with_reducible refine r_frz ?_)
  | (with_reducible refine r_dput ?_)
  | (with_reducible refine r_dget ?_)
  | (with_reducible refine r_din ?_)
  | (with_reducible refine r_dnotin ?_)
  | (with_reducible refine r_break ?_)
  | ((with_reducible refine' r_sIn ?h ?_); (case h => walk_at "hs"))
  | ((with_reducible refine' r_sNotIn ?h ?_); (case h => walk_at "hs"))
  | ((with_reducible refine' r_inI ?h ?_); (case h => walk_at "hl"))
  | ((with_reducible refine' r_notInI ?h ?_); (case h => walk_at "hl"))
  | ((with_reducible refine' r_eqNil ?h ?g ?_); (case h => walk_at "hl"); (case g => walk_at "hl"))
  | ((with_reducible refine' r_neNil ?h ?g ?_); (case h => walk_at "hl"); (case g => walk_at "hl"))
  | ((with_reducible refine' iteRT ?hh ?_); (case hh => exact rfl))
  | ((with_reducible refine' iteRF ?hh ?_); (case hh => exact rfl))
  | ((with_reducible refine' r_isiT ?ty ?hk ?_); (case ty => (first | assumption | exact tyx_L (by assumption) | exact tyx_T (by assumption) | exact .base (.non) | exact .base (.bl _) | exact .base (.int _) | exact .base (.str _) | exact tyx_L (by walk_at "hl") | exact tyx_T (by walk_at "hl"))); (case hk => decide +kernel))
  | ((with_reducible refine' r_isiF ?ty ?hk ?_); (case ty => (first | assumption | exact tyx_L (by assumption) | exact tyx_T (by assumption) | exact .base (.non) | exact .base (.bl _) | exact .base (.int _) | exact .base (.str _) | exact tyx_L (by walk_at "hl") | exact tyx_T (by walk_at "hl"))); (case hk => decide +kernel))
  | ((with_reducible refine' r_gTup2 ?hn ?hs ?_); (case hn => exact rfl); (case hs => walk_at "hl"))
  | ((with_reducible refine' s_list ?hl ?_); (case hl => first | exact Or.inl (by walk_at "hl") | exact Or.inr (by walk_at "hl")))
  | ((with_reducible refine' s_tupN ?hl ?_); (case hl => walk_at "hl"))
  | ((with_reducible refine' s_sortN ?hl ?_); (case hl => walk_at "hl"))
  | ((refine' ⟨_, _, rfl, ?hl, ?_⟩); (case hl => first | exact Or.inl (by walk_at "hl") | exact Or.inr (by walk_at "hl")))
  | ((with_reducible refine' r_ixL ?hl ?ha ?_); (case hl => walk_at "hl"); (case ha => first | exact rfl | assumption))
  | ((with_reducible refine' r_ixT ?hl ?ha ?_); (case hl => walk_at "hl"); (case ha => first | exact rfl | assumption))))
local macro_rules | `(tactic| walk_at "rd") => `(tactic| repeat (walk_at "rd1"))

section
variable {P : Program} {w : World} {K : PySem.W.Frag} {mg : Str → Option Value} {base : Heap}

/-- how many rows of draws leave what -/
def movL (ties : List (Int × Int)) (here : List Int) (sides : Int) : List (List Int × Int) := tally ((drawsK (here.length : Int) sides).map fun r => (leftG ties here (gRow here r), (1 : Int)))
def A_lmv (K : PySem.W.Frag) : (Int × List (Int × Int) × List Int × Int) → List V → Hp → Prop := fun | (many, ties, here, sides), vs, F => ∃ v a, vs = [v, .int sides, .ref a] ∧ Dp K F v (webD many ties) ∧ WebOk many ties ∧ many ≤ 5 ∧ 2 ≤ sides ∧ sides ≤ 4 ∧ F a = some (.tup (here.map V.int)) ∧ HereOk many here
def B_lmv : (Int × List (Int × Int) × List Int × Int) → V → List (Addr × Cel) → Hp → Prop := fun | (many, ties, here, sides), v, N, F => N = [] ∧ ∃ q, v = .ref q ∧ WaysAt F q (movL ties here sides)
theorem drawsK_len {many sides : Int} (s4 : sides ≤ 4) (m5 : many ≤ 5) : (drawsK many sides).length ≤ 1024 := by
  have := rowsK_len (rgI sides) (rgI many) [[]]
  unfold drawsK rowsC
  rw [this, List.length_singleton, Nat.one_mul, rgI_len, rgI_len]
  exact pow4 (by omega) (by omega)
theorem ok_l_moves (T : Env K mg) : FnOk P w K mg base CX0 2 T.a__law_moves T.fd__law_moves ["web", "sides", "houses"] (SpF (A_lmv K) B_lmv) := by
  have nd := sc__law_moves.nd
  have G__law_beside : FnOk P w K mg base CX0 1 T.a__law_beside T.fd__law_beside ["web"] (SpF (A_web1b K) B_bes) := ok_l_beside T
  have G__law_draws : FnOk P w K mg base CX0 1 T.a__law_draws T.fd__law_draws ["many", "sides"] (SpF A_ldr B_ldr) := ok_l_draws T
  have G__law_behind : FnOk P w K mg base CX0 1 T.a__law_behind T.fd__law_behind ["beside", "houses", "drawn"] (SpF A_lbh B_lbh) := ok_l_behind T
  refine T.F__law_moves.ok sc__law_moves (fun vs H Q E h => ?_) (fun cdv A outer s H vs Q E hr h => ?_)
  · obtain ⟨⟨_, _, _, _⟩, F, _, ⟨v, a, rfl, _⟩, _⟩ := h
    rfl
  · obtain ⟨⟨many, ties, here, sides⟩, F, fr, ⟨v, a, rfl, hv, W, m5, s2, s4, ca, HO⟩, k⟩ := h
    have hlen := HO.len
    have m1 := W.lo
    have S := Sep.start0 fr
    refine ⟨_, (pss_cons (ps_set (i := 3) nd rfl (.inl rfl) (pe_call G__law_beside (hr.mono (by decide)) (by rfl) T.g__law_beside T.F__law_beside.kp T.b__law_beside .nil pass0 (pa_cons (pv 0) pa_nil)))
      (pss_cons (ps_set (i := 4) nd rfl (.inl rfl) pe_dnewT)
      (pss_cons (ps_for PassesOwn.never rfl (pi_list (pe_call G__law_draws (hr.mono (by decide)) (by rfl) T.g__law_draws T.F__law_draws.kp T.b__law_draws .nil pass0 (pa_cons (pe_callB (id := "len") call_len_seq (by rfl) T.n_len PySem.boot_len (pa_cons (pv 2) pa_nil)) (pa_cons (pv 1) pa_nil)))) (pg_name (i := 5) nd rfl (.inl rfl)) (pss_cons (ps_set (i := 6) nd rfl (.inl rfl) (pe_call G__law_behind (hr.mono (by decide)) (by rfl) T.g__law_behind T.F__law_behind.kp T.b__law_behind .nil pass0 (pa_cons (pv 3) (pa_cons (pv 2) (pa_cons (pv 5) pa_nil)))))
      (pss_one (ps_dput (u1 hr) (pv 4) (pv 6) (pe_op op_add (pe_dget2 (u1 hr) (pv 4) (pv 6) pe_int ⟨rfl, rfl, rfl, rfl⟩) pe_int) rfl))))
      (pss_one (ps_ret (pe_frz (pv 4))))))), ?_⟩
    walk_at "rd"
    refine r_callF S (many, ties) ⟨v, rfl, hv, W⟩ ?_
    rintro v1 N F1 H1 S e1 ⟨rfl, ls⟩
    have lsv := ls
    obtain ⟨bq, bs, rfl, _⟩ := lsv
    walk_at "rd"
    refine s_dnewT S fun wd H2 S => ?_
    walk_at "rd"
    have dl := drawsK_len (many := (here.length : Int)) s4 (by omega)
    refine r_callF S ((here.length : Int), sides) ⟨by rw [List.length_map]; rfl, by omega, by omega, by omega, by omega⟩ ?_
    rintro v2 N F2 H3 S e2 ⟨rfl, rq, qs, rfl, crq, hls⟩
    walk_at "rd"
    refine ⟨rq, rfl, ⟨_, SqL.of (S.fr _ _ crq)⟩, ?_⟩
    refine s_for (fun i σ' F' M' => ∃ x5 x6 : Option V, σ' = [some v, some (.int sides), some (.ref a), some (.ref bq), some (.ref wd), x5, x6] ∧ M' = [(wd, .is (.dT (waysK (tally (((drawsK (here.length : Int) sides).take i).map fun r => (leftG ties here (gRow here r), (1 : Int)))))))]) (srcLs (K := K) (SqL.of crq) hls) S ⟨none, none, rfl, rfl⟩ (fun _ _ _ _ _ m hm => by cases hm) ?_ ?_
    · rintro i row x σ' F3 F4 H4 M' ei S e3 e4 ⟨pq, rfl, cp⟩ ⟨x5, x6, rfl, rfl⟩
      have rl := rowsC_len (fun _ => rgI sides) (rgI (here.length : Int)) [[]] 0 (fun r hr => by rw [List.mem_singleton.mp hr]; rfl) row (List.mem_of_getElem? ei)
      rw [rgI_len] at rl
      have E4 := e1.trans (e2.trans (e3.trans e4))
      walk_at "rd"
      refine r_callF S (many, ties, here, row) ⟨_, a, pq, rfl, ls.ex (e2.trans (e3.trans e4)), W, E4 _ _ ca, HO, cp, by omega⟩ ?_
      rintro v3 N F5 H5 S e5 ⟨rfl, lq, rfl, cl⟩
      walk_at "rd"
      refine r_dget2 ?_
      walk_at "rd"
      refine ⟨wd, rfl, .inr ⟨_, .inl (S.rdM 0 rfl)⟩, ?_⟩
      walk_at "rd"
      refine ⟨_, dgetL (.inl (S.rdM 0 rfl)) (S.fr _ _ cl), ?_⟩
      rw [ways_get]
      walk_at "rd"
      refine s_dputL S 0 rfl cl (by rw [dictK_len]; have := tally_len (((drawsK (here.length : Int) sides).take i).map fun r => (leftG ties here (gRow here r), (1 : Int))); rw [List.length_map, List.length_take] at this; omega) fun H6 S => ?_
      rw [ways_add] at S
      refine ⟨_, _, S, e3.trans (e4.trans e5), _, _, rfl, ?_⟩
      rw [tally_take ei]
      rfl
    · rintro σ' F3 H4 M' S e3 ⟨x5, x6, rfl, rfl⟩
      rw [List.take_length] at S
      walk_at "rd"
      refine s_frz S 0 rfl trivial fun od F4 H5 S e4 cd => ?_
      exact k _ [] _ _ S ⟨rfl, wd, rfl, od, cd⟩
/-- refused alone where a house more stands behind -/
def B_ltold (K : PySem.W.Frag) : (Int × List (Int × Int) × List Int × List Int × Int) → V → List (Addr × Cel) → Hp → Prop := fun x v N F => N = [] ∧ ((subH x ∧ Dp K F v (.tuple [.str "told", tieD (chanceF x.1 x.2.1 x.2.2.1 x.2.2.2.1 x.2.2.2.2)])) ∨ (¬ subH x ∧ Dp K F v (.tuple [.str "refused", .str "set"])))
end

end
section
local macro_rules | `(tactic| walk_at "ex") => `(tactic| first | exact Evl.Ex.refl _ | assumption | ((refine' Evl.Ex.trans ?x ?y); (case y => assumption); (case x => walk_at "ex")))
local macro_rules | `(tactic| walk_at "hc") => `(tactic| first
  | assumption
  | ((refine' Sep.rdM ?S 0 ?k); (case S => assumption); (case k => exact rfl)) | ((refine' Sep.rdM ?S 1 ?k); (case S => assumption); (case k => exact rfl)) | ((refine' Sep.rdM ?S 2 ?k); (case S => assumption); (case k => exact rfl)) | ((refine' Sep.rdM ?S 3 ?k); (case S => assumption); (case k => exact rfl)) | ((refine' Sep.rdM ?S 4 ?k); (case S => assumption); (case k => exact rfl))
  | ((refine' Sep.rdC ?S ?e ?h); (case S => assumption); (case h => assumption); (case e => walk_at "ex")))
local macro_rules | `(tactic| walk_at "hl") => `(tactic| first
  | assumption
  | ((refine' SqL.of (Sep.rdM ?S 0 ?k)); (case S => assumption); (case k => exact rfl)) | ((refine' SqL.of (Sep.rdM ?S 1 ?k)); (case S => assumption); (case k => exact rfl)) | ((refine' SqL.of (Sep.rdM ?S 2 ?k)); (case S => assumption); (case k => exact rfl)) | ((refine' SqL.of (Sep.rdM ?S 3 ?k)); (case S => assumption); (case k => exact rfl)) | ((refine' SqL.of (Sep.rdM ?S 4 ?k)); (case S => assumption); (case k => exact rfl))
  | ((refine' Sep.rdL ?S ?e ?h); (case S => assumption); (case h => assumption); (case e => walk_at "ex"))
  | ((refine' Sep.rdT ?S ?e ?h); (case S => assumption); (case h => assumption); (case e => walk_at "ex"))
  | ((refine' SqL.of (Sep.rdC ?S ?e ?h)); (case S => assumption); (case h => assumption); (case e => walk_at "ex"))
  | ((refine' SqT.of (Sep.rdC ?S ?e ?h)); (case S => assumption); (case h => assumption); (case e => walk_at "ex"))
  | ((refine' SqL.of ?h); (case h => assumption)) | ((refine' SqT.of ?h); (case h => assumption))
  | ((refine' Evl.ex_l ?e ?h); (case h => assumption); (case e => walk_at "ex")) | ((refine' Evl.ex_t ?e ?h); (case h => assumption); (case e => walk_at "ex"))
  | ((refine' SqL.of (?e _ _ ?h)); (case h => assumption); (case e => walk_at "ex")) | ((refine' SqT.of (?e _ _ ?h)); (case h => assumption); (case e => walk_at "ex")))
local macro_rules | `(tactic| walk_at "hs") => `(tactic| walk_at "hc")
local macro_rules | `(tactic| walk_at "dp") => `(tactic| first
  | assumption
  | ((refine' Sep.rdD ?S ?e ?h); (case S => assumption); (case h => assumption); (case e => walk_at "ex"))
  | ((refine' Dp.ex ?e _ _ ?h); (case h => assumption); (case e => walk_at "ex"))
  | ((refine' DpAll.ex ?e _ _ ?h); (case h => assumption); (case e => walk_at "ex"))
  | (refine' dp_intsD ?h; (case h => walk_at "hl")))
local macro_rules | `(tactic| walk_at "rd1") => `(tactic| (first
  | (with_reducible refine r_seq ?_)
  | (with_reducible refine r_asg ?_)
  | (with_reducible refine r_asgG ?_)
  | (with_reducible refine r_par ?_)
  | (with_reducible refine r_if ?_)
  | (with_reducible refine r_ret ?_)
  | (with_reducible refine r_drop ?_)
  | (with_reducible refine r_next ?_)
  | ((with_reducible refine' r_var ?hx ?_); (case hx => exact rfl))
  | (with_reducible refine r_c ?_)
  | (with_reducible refine r_op ?_)
  | (with_reducible refine r_un ?_)
  | (with_reducible refine r_I0 ?_)
  | ((with_reducible refine' r_I ?_ ?_); (· first | (show (0 : Int) < _; omega) | exact Or.inr ⟨by omega, by omega⟩ | exact Or.inl ⟨by omega, by omega⟩ | exact ⟨by omega, by omega, by decide⟩))
  | (with_reducible refine r_U ?_)
  | (with_reducible refine r_test ?_)
  | (with_reducible refine r_B ?_)
  | (with_reducible refine r_bl ?_)
  | (with_reducible refine r_eqI ?_)
  | (with_reducible refine r_neI ?_)
  | ((with_reducible refine' r_eq ?_ ?_); (· exact rfl))
  | ((with_reducible refine' r_ne ?_ ?_); (· exact rfl))
  | (with_reducible refine r_nil ?_)
  | (with_reducible refine r_cons ?_)
  | (with_reducible refine s_tup ?_)
  | (with_reducible refine s_lst ?_)
  | (with_reducible refine r_call ?_)
  | (with_reducible refine r_cb ?_)
  | (with_reducible refine r_and ?_)
  | (with_reducible refine r_or ?_)
  | (with_reducible refine r_not ?_)
  | (with_reducible refine r_andV ?_)
  | (with_reducible refine r_orV ?_)
  | (with_reducible refine r_notV ?_)
  | (with_reducible refine r_ifE ?_)
  | (with_reducible refine r_gSub ?_)
  | (with_reducible refine r_sadd ?_)
  | (with_reducible refine s_lstRg ?_)
  | (with_reducible refine r_rg1 ?_)
  | (with_reducible refine r_min2 ?_)
  | (with_reducible refine r_par2 ?_)
  | (with_reducible refine r_partI ?_)
  | (with_reducible refine s_lc ?_)
  | (with_reducible refine s_dc ?_)
  | (with_reducible refine r_yes ?_)
  | (with_reducible refine r_iZipA ?_)
  | (with_reducible refine r_isN ?_)
  | (with_reducible refine r_for ?_)
  | (with_reducible refine r_iList ?_)
  | (with_reducible refine r_iTup ?_)
  | (with_reducible refine r_iRng1 ?_)
  | (with_reducible refine r_iRng2 ?_)
  | (with_reducible refine r_iEnum ?_)
  | (with_reducible refine r_iZip ?_)
  | (with_reducible refine r_gName ?_)
  | (with_reducible refine r_isNV ?_)
  | (with_reducible refine r_notNV ?_)
  | (with_reducible refine r_bm ?_)
  | (with_reducible refine r_bm0 ?_)
  | (with_reducible refine r_sl ?_)
  | (with_reducible refine r_noPart ?_)
  | (with_reducible refine r_part ?_)
  | (with_reducible refine r_chain ?_)
  | (with_reducible refine r_iKeys ?_)
  | (with_reducible refine r_iItems ?_)
  | (with_reducible refine r_frz ?_)
  | (with_reducible refine r_dput ?_)
  | (with_reducible refine r_dget ?_)
  | (with_reducible refine r_din ?_)
  | (with_reducible refine r_dnotin ?_)
  | (with_reducible refine r_break ?_)
  | ((with_reducible refine' r_sIn ?h ?_); (case h => walk_at "hs"))
  | ((with_reducible refine' r_sNotIn ?h ?_); (case h => walk_at "hs"))
  | ((with_reducible refine' r_inI ?h ?_); (case h => walk_at "hl"))
  | ((with_reducible refine' r_notInI ?h ?_); (case h => walk_at "hl"))
  | ((with_reducible refine' r_eqNil ?h ?g ?_); (case h => walk_at "hl"); (case g => walk_at "hl"))
  | ((with_reducible refine' r_neNil ?h ?g ?_); (case h => walk_at "hl"); (case g => walk_at "hl"))
  | ((with_reducible refine' iteRT ?hh ?_); (case hh => exact rfl))
  | ((with_reducible refine' iteRF ?hh ?_); (case hh => exact rfl))
  | ((with_reducible refine' r_isiT ?ty ?hk ?_); (case ty => (first | assumption | exact tyx_L (by assumption) | exact tyx_T (by assumption) | exact .base (.non) | exact .base (.bl _) | exact .base (.int _) | exact .base (.str _) | exact tyx_L (by walk_at "hl") | exact tyx_T (by walk_at "hl"))); (case hk => decide +kernel))
  | ((with_reducible refine' r_isiF ?ty ?hk ?_); (case ty => (first | assumption | exact tyx_L (by assumption) | exact tyx_T (by assumption) | exact .base (.non) | exact .base (.bl _) | exact .base (.int _) | exact .base (.str _) | exact tyx_L (by walk_at "hl") | exact tyx_T (by walk_at "hl"))); (case hk => decide +kernel))
  | ((with_reducible refine' r_gTup2 ?hn ?hs ?_); (case hn => exact rfl); (case hs => walk_at "hl"))
  | ((with_reducible refine' s_list ?hl ?_); (case hl => first | exact Or.inl (by walk_at "hl") | exact Or.inr (by walk_at "hl")))
  | ((with_reducible refine' s_tupN ?hl ?_); (case hl => walk_at "hl"))
  | ((with_reducible refine' s_sortN ?hl ?_); (case hl => walk_at "hl"))
  | ((refine' ⟨_, _, rfl, ?hl, ?_⟩); (case hl => first | exact Or.inl (by walk_at "hl") | exact Or.inr (by walk_at "hl")))
  | ((with_reducible refine' r_ixL ?hl ?ha ?_); (case hl => walk_at "hl"); (case ha => first | exact rfl | assumption))
  | ((with_reducible refine' r_ixT ?hl ?ha ?_); (case hl => walk_at "hl"); (case ha => first | exact rfl | assumption))))
local macro_rules | `(tactic| walk_at "rd") => `(tactic| repeat (walk_at "rd1"))

section
variable {P : Program} {w : World} {K : PySem.W.Frag} {mg : Str → Option Value} {base : Heap}

theorem r_tupRg {te : L2.St → Hp → (Int → Int → Hp → Prop) → Prop} {σ : L2.St} {H : Hp} {Q : VK} (h : te σ H fun a b H1 => RgOk a b ∧ newK H1 (.tup (rgV a b)) Q) : tTupRg te σ H Q := h
theorem HereOk.sub {many : Int} {ts : List Int} (h : ts.Sublist (rgI many)) : HereOk many ts := ⟨(rgI_up many).sublist h, fun x hx => rgI_mem.mp (h.subset hx)⟩
theorem HereOk.subl {many : Int} {ts : List Int} (h : HereOk many ts) : ts.Sublist (rgI many) := by
  have e : ts = (rgI many).filter fun x => decide (x ∈ ts) := sorted_same h.up ((rgI_up many).sublist List.filter_sublist) fun x => by
    rw [List.mem_filter]
    exact ⟨fun hx => ⟨rgI_mem.mpr (h.ok x hx), decide_eq_true hx⟩, fun hx => of_decide_eq_true hx.2⟩
  rw [e]
  exact List.filter_sublist
def setsU (many : Int) : List (List Int) := subs (rgI many)
theorem setsU_mem {many : Int} {s : List Int} : s ∈ setsU many ↔ HereOk many s := ⟨fun h => HereOk.sub (subs_mem.mp h), fun h => subs_mem.mpr h.subl⟩
theorem setsU_nd (many : Int) : (setsU many).Nodup := subs_nd (rgI_nd many)
theorem setsU_len {many : Int} (h : many ≤ 5) : (setsU many).length ≤ 32 := by
  unfold setsU
  rw [subs_len, rgI_len]
  exact Nat.pow_le_pow_right (n := 2) (by decide) (show many.toNat ≤ 5 by omega)
/-- a dict from sets to dicts, and what waits -/
structure AllOk (F : Hp) (many : Int) (Lf : List Int → List (List Int × Int)) (musts : List (List Int)) (ws : List (List Int × Addr)) (wt : List (List Int)) : Prop where
  nd : (ws.map (·.1)).Nodup
  ok : ∀ p ∈ ws, HereOk many p.1 ∧ WaysAt F p.2 (Lf p.1)
  wok : ∀ s ∈ wt, HereOk many s
  closed : ∀ p ∈ ws, ∀ q ∈ Lf p.1, q.1 ∈ ws.map (·.1) ∨ q.1 ∈ wt
  must : ∀ s ∈ musts, s ∈ ws.map (·.1) ∨ s ∈ wt
section
variable {F F' : Hp} {many : Int} {Lf : List Int → List (List Int × Int)} {musts : List (List Int)} {ws : List (List Int × Addr)} {wt : List (List Int)} {here : List Int}
theorem AllOk.ex (h : AllOk F many Lf musts ws wt) (e : Evl.Ex F F') : AllOk F' many Lf musts ws wt := ⟨h.nd, fun p hp => ⟨(h.ok p hp).1, (h.ok p hp).2.ex e⟩, h.wok, h.closed, h.must⟩
theorem AllOk.seen (h : AllOk F many Lf musts ws (wt ++ [here])) (hs : here ∈ ws.map (·.1)) : AllOk F many Lf musts ws wt :=
  ⟨h.nd, h.ok, fun s hs => h.wok s (List.mem_append_left _ hs), fun p hp q hq => by
    rcases h.closed p hp q hq with z | z
    · exact .inl z
    · rcases List.mem_append.mp z with z | z
      · exact .inr z
      · rw [List.mem_singleton.mp z]; exact .inl hs, fun s hs2 => by
    rcases h.must s hs2 with z | z
    · exact .inl z
    · rcases List.mem_append.mp z with z | z
      · exact .inr z
      · rw [List.mem_singleton.mp z]; exact .inl hs⟩
theorem AllOk.fresh {a : Addr} (h : AllOk F many Lf musts ws (wt ++ [here])) (hs : here ∉ ws.map (·.1)) (e : Evl.Ex F F') (hw : WaysAt F' a (Lf here)) (hk : ∀ q ∈ Lf here, HereOk many q.1) : AllOk F' many Lf musts (ws ++ [(here, a)]) (wt ++ (Lf here).map (·.1)) := by
  have ho : HereOk many here := h.wok here (by simp)
  refine ⟨?_, fun p hp => ?_, fun s hs => ?_, fun p hp q hq => ?_, fun s hs2 => ?_⟩
  · rw [List.map_append, List.nodup_append]
    refine ⟨h.nd, by simp, fun x hx y hy z => ?_⟩
    have hy : y = here := List.mem_singleton.mp hy
    rw [z, hy] at hx
    exact hs hx
  · rcases List.mem_append.mp hp with hp | hp
    · exact ⟨(h.ok p hp).1, (h.ok p hp).2.ex e⟩
    · rw [List.mem_singleton.mp hp]; exact ⟨ho, hw⟩
  · rcases List.mem_append.mp hs with hs | hs
    · exact h.wok s (List.mem_append_left _ hs)
    · obtain ⟨q, hq, rfl⟩ := List.mem_map.mp hs
      exact hk q hq
  · rw [List.map_append, List.mem_append]
    rcases List.mem_append.mp hp with hp | hp
    · rcases h.closed p hp q hq with z | z
      · exact .inl (.inl z)
      · rcases List.mem_append.mp z with z | z
        · exact .inr (List.mem_append_left _ z)
        · rw [List.mem_singleton.mp z]; exact .inl (.inr (by simp))
    · rw [List.mem_singleton.mp hp] at hq
      exact .inr (List.mem_append_right _ (List.mem_map_of_mem hq))
  · rw [List.map_append, List.mem_append]
    rcases h.must s hs2 with z | z
    · exact .inl (.inl z)
    · rcases List.mem_append.mp z with z | z
      · exact .inr (List.mem_append_left _ z)
      · rw [List.mem_singleton.mp z]; exact .inl (.inr (by simp))
theorem AllOk.len (h : AllOk F many Lf musts ws wt) (m5 : many ≤ 5) : ws.length ≤ 32 := by
  have := len_le_of_sub h.nd fun x hx => by
    obtain ⟨p, hp, rfl⟩ := List.mem_map.mp hx
    exact setsU_mem.mpr (h.ok p hp).1
  rw [List.length_map] at this
  exact Nat.le_trans this (setsU_len m5)
end
theorem dictV_find {ws : List (List Int × Addr)} {k : List Int} : (valV (dictK V.ref ws) (keyL k)).isSome = decide (k ∈ ws.map (·.1)) := by
  rw [dictK_val, Option.isSome_map, Bool.eq_iff_iff, List.find?_isSome]
  simp
theorem putA_new {α : Type} {ws : List (List Int × α)} {k : List Int} {v : α} (h : k ∉ ws.map (·.1)) : putA ws k v = ws ++ [(k, v)] := by
  unfold putA
  rw [if_neg]
  intro z
  obtain ⟨p, hp, e⟩ := List.any_eq_true.mp z
  exact h (List.mem_map.mpr ⟨p, hp, of_decide_eq_true e⟩)
theorem find_new {α : Type} {ws : List (List Int × α)} {k : List Int} {v : α} (h : k ∉ ws.map (·.1)) : ((ws ++ [(k, v)]).find? fun p => decide (p.1 = k)) = some (k, v) := by
  rw [List.find?_append, List.find?_eq_none.mpr fun p hp => by
    simp only [decide_eq_true_eq]
    exact fun z => h (List.mem_map.mpr ⟨p, hp, z⟩)]
  simp
theorem behind_ok {many : Int} {here c o : List Int} (h : HereOk many here) : HereOk many (behind here c o) := ⟨behind_up h.up, fun x hx => h.ok x (behind_sub x hx)⟩
theorem way_keys {many : Int} {ties : List (Int × Int)} {here : List Int} {sides : Int} (HO : HereOk many here) : ∀ q ∈ wayL many ties here sides, HereOk many q.1 := fun q hq => by
  unfold wayL at hq
  have := ((tally_spec ((cwL ties here (rowsC (chC ties here sides) (rgI many))).map fun p => (leftC ties here p.1, p.2 * sides ^ alikeN many ties here))).2.2.2 q.1).mp (List.mem_map_of_mem hq)
  rw [List.map_map] at this
  obtain ⟨r, _, er⟩ := List.mem_map.mp this
  rw [← er]
  exact behind_ok HO
theorem way_few {many : Int} {ties : List (Int × Int)} {here : List Int} {sides : Int} (m5 : many ≤ 5) (s1 : 1 ≤ sides) (s4 : sides ≤ 4) : (wayL many ties here sides).length ≤ 1024 := by
  have h1 := tally_len ((cwL ties here (rowsC (chC ties here sides) (rgI many))).map fun p => (leftC ties here p.1, p.2 * sides ^ alikeN many ties here))
  have h2 := tally_len ((rowsC (chC ties here sides) (rgI many)).map fun r => (leastOf ties here (rowF r), (1 : Int)))
  have h3 := rows_few (many := many) (ties := ties) (here := here) m5 s1 s4
  rw [List.length_map] at h1 h2
  unfold wayL
  unfold cwL at h1 ⊢
  omega
theorem TupL.last {F : Hp} {c : Addr} : ∀ {cs : List Addr} {ts : List (List Int)}, TupL F (cs ++ [c]) ts → ∃ tr t, ts = tr ++ [t] ∧ TupL F cs tr ∧ F c = some (.tup (t.map V.int))
  | [], ts, h => by
    cases h with
    | cons h r =>
      cases r
      exact ⟨[], _, rfl, .nil, h⟩
  | x :: cs, ts, h => by
    cases h with
    | cons h r =>
      obtain ⟨tr, t, e, h1, h2⟩ := TupL.last r
      subst e
      exact ⟨_ :: tr, t, rfl, .cons h h1, h2⟩
def A_aw (K : PySem.W.Frag) : (Int × List (Int × Int) × Int) → List V → Hp → Prop := fun | (many, ties, sides), vs, F => ∃ v, vs = [v, .int sides] ∧ Dp K F v (webD many ties) ∧ WebOk many ties ∧ many ≤ 5 ∧ 2 ≤ sides ∧ sides ≤ 4
def B_aw : (Int × List (Int × Int) × Int) → V → List (Addr × Cel) → Hp → Prop := fun | (many, ties, sides), v, N, F => N = [] ∧ ∃ q od ws, v = .ref q ∧ F q = some (.frz od (.dT (dictK V.ref ws))) ∧ AllOk F many (fun s => wayL many ties s sides) [[], rgI many] ws []
theorem ok_all_ways (T : Env K mg) : FnOk P w K mg base CX0 4 T.a_all_ways T.fd_all_ways ["web", "sides"] (SpF (A_aw K) B_aw) := by
  have nd := sc_all_ways.nd
  have G_ways_from : FnOk P w K mg base CX0 3 T.a_ways_from T.fd_ways_from ["web", "sides", "here"] (SpF (A_wf K) B_wf) := ok_ways_from T
  refine T.F_all_ways.ok sc_all_ways (fun vs H Q E h => ?_) (fun cdv A outer s H vs Q E hr h => ?_)
  · obtain ⟨⟨_, _, _⟩, F, _, ⟨v, rfl, _⟩, _⟩ := h
    rfl
  · obtain ⟨⟨many, ties, sides⟩, F, fr, ⟨v, rfl, hv, W, m5, s2, s4⟩, k⟩ := h
    have m1 := W.lo
    obtain ⟨wa, wb, ws0, rfl, z1, z2, z3⟩ := webD_at hv
    have S := Sep.start0 fr
    refine ⟨_, (pss_cons (ps_set (i := 2) nd rfl (.inl rfl) pe_dnewT)
      (pss_cons (ps_set (i := 3) nd rfl (.inl rfl) (pe_lst (pa_cons (pe_tup pa_nil) (pa_cons (pe_tupRg rfl (by rfl) T.n_tuple (prg_1 (by rfl) T.n_range (pe_ix ix_tup (pv 0) pe_int (fun _ _ => rfl)))) pa_nil))))
      (pss_cons (ps_while PassesOwn.never (pt_truth (pv 3) (fun _ => rfl)) (pss_cons (ps_set (i := 4) nd rfl (.inl rfl) (pe_bm0 PySem.F.plainAttrs_list PySem.F.slot_list_pop PySem.F.type_list_pop mt_pop (pv 3)))
      (pss_one (ps_if (pt_cmp (pc_dnotin (u1 hr) (pv 4) (pv 2))) (pss_cons (ps_dput (u1 hr) (pv 2) (pv 4) (pe_call G_ways_from (hr.mono (by decide)) (by rfl) T.g_ways_from T.F_ways_from.kp T.b_ways_from .nil pass0 (pa_cons (pv 0) (pa_cons (pv 1) (pa_cons (pv 4) pa_nil)))) rfl)
      (pss_one (ps_expr (pe_bm PySem.F.plainAttrs_list PySem.F.slot_list_extend PySem.F.type_list_extend mt_extend (pv 3) (pa_cons (pe_callTy (cr_listD rfl) (by rfl) T.n_list (by decide +kernel) (pa_cons (pe_dget (u1 hr) (pv 2) (pv 4) (fun _ _ => rfl)) pa_nil)) pa_nil))))) pss_nil))))
      (pss_one (ps_ret (pe_frz (pv 2))))))), ?_⟩
    walk_at "rd"
    refine s_dnewT S fun wd H1 S => ?_
    walk_at "rd"
    refine ⟨Nat.zero_le _, s_new S fun t0 F2 H2 S e2 c2 => ?_⟩
    walk_at "rd"
    refine r_tupRg ?_
    walk_at "rd"
    refine ⟨⟨by omega, by omega, by omega, by omega, by omega⟩, ?_⟩
    rw [rgV_eq]
    refine s_new S fun t1 F3 H3 S e3 c3 => ?_
    walk_at "rd"
    refine ⟨(by show 2 ≤ sizeLine; decide), s_own S fun lq H4 S => ?_⟩
    walk_at "rd"
    have tk0 : TupL F3 [t0, t1] [[], rgI many] := .cons (e3 _ _ c2) (.cons c3 .nil)
    have start : AllOk F3 many (fun s => wayL many ties s sides) [[], rgI many] [] [[], rgI many] := ⟨List.nodup_nil, fun p hp => (by cases hp), fun s hs => by
      rcases List.mem_cons.mp hs with e | hs
      · rw [e]; exact HereOk.sub (List.nil_sublist _)
      · rw [List.mem_singleton.mp hs]; exact HereOk.sub (List.Sublist.refl _), fun p hp => (by cases hp), fun s hs => .inr hs⟩
    refine s_while (fun m σ' F' M' => ∃ (x4 : Option V) (ws : List (List Int × Addr)) (cs : List Addr) (wt : List (List Int)), σ' = [some (.ref wa), some (.int sides), some (.ref wd), some (.ref lq), x4] ∧ M' = [(lq, .is (.lst (cs.map V.ref))), (wd, .is (.dT (dictK V.ref ws)))] ∧ TupL F' cs wt ∧ AllOk F' many (fun s => wayL many ties s sides) [[], rgI many] ws wt ∧ m = (32 - ws.length) * 2000 + wt.length ∧ m ≤ 64100) S 64002 ⟨none, [], [t0, t1], _, rfl, rfl, tk0, start, rfl, by decide⟩ ?_
    rintro m σ' F4 H5 M' S e4 ⟨x4, ws, cs, wt, rfl, rfl, tk, ao, em, mle⟩
    have tl := tk.len
    have wl := ao.len m5
    walk_at "rd"
    refine ⟨!cs.isEmpty, .inl ⟨_, SqL.of (S.rdM 0 rfl), by rw [List.isEmpty_map]⟩, ?_⟩
    rcases List.eq_nil_or_concat cs with ec | ⟨cr, c0, ec⟩
    · subst ec
      rw [show (!([] : List Addr).isEmpty) = false from rfl, if_neg (by decide)]
      cases tk
      walk_at "rd"
      refine s_frz S 1 rfl trivial fun od F5 H6 S e5 cd => ?_
      exact k _ [] _ _ (S.drop 0) ⟨rfl, wd, od, ws, rfl, cd, ao.ex e5⟩
    · rw [List.concat_eq_append] at ec
      subst ec
      rw [show (!(cr ++ [c0]).isEmpty) = true by simp, if_pos rfl]
      refine ⟨fun σ' H' => ∃ m', m' < m ∧ LI [] H F F3 (fun m σ' F' M' => ∃ (x4 : Option V) (ws : List (List Int × Addr)) (cs : List Addr) (wt : List (List Int)), σ' = [some (.ref wa), some (.int sides), some (.ref wd), some (.ref lq), x4] ∧ M' = [(lq, .is (.lst (cs.map V.ref))), (wd, .is (.dT (dictK V.ref ws)))] ∧ TupL F' cs wt ∧ AllOk F' many (fun s => wayL many ties s sides) [[], rgI many] ws wt ∧ m = (32 - ws.length) * 2000 + wt.length ∧ m ≤ 64100) m' σ' H', fun _ _ z => z, ?_⟩
      obtain ⟨wr, here, ewt, tr, ch⟩ := TupL.last tk
      subst ewt
      have HO := ao.wok here (by simp)
      have hlen := HO.len
      simp only [List.length_append, List.length_singleton] at tl em
      walk_at "rd"
      refine ⟨tyL (SqL.of (S.rdM 0 rfl)), lq, _, .ref c0, rfl, rfl, S.rdM 0 rfl, by simp, ?_⟩
      have S := S.put 0 rfl (.lst ((cr ++ [c0]).map V.ref).dropLast)
      rw [show ((cr ++ [c0]).map V.ref).dropLast = cr.map V.ref by simp] at S ⊢
      generalize upd H5 lq (.lst (cr.map V.ref)) = H6 at *
      walk_at "rd"
      refine ⟨wd, _, rfl, dgetL (.inl (S.rdM 1 rfl)) (S.fr _ _ ch), ?_⟩
      rw [dictV_find]
      walk_at "rd"
      cases dn : decide (here ∈ ws.map (·.1)) with
      | true =>
        have hin := of_decide_eq_true dn
        walk_at "rd"
        exact ⟨_, by omega, _, _, S, e4, _, ws, cr, wr, rfl, rfl, tr, ao.seen hin, rfl, by omega⟩
      | false =>
        have hnot := of_decide_eq_false dn
        walk_at "rd"
        refine r_callF S (many, ties, here, sides) ⟨_, c0, rfl, Dp.ex (e2.trans (e3.trans e4)) _ _ hv, W, m5, s2, s4, ch, HO⟩ ?_
        rintro v N F6 H7 S e6 ⟨rfl, wq, rfl, wat⟩
        have ch6 := e6 _ _ ch
        walk_at "rd"
        refine s_dputL S 1 rfl ch6 (by rw [dictK_len]; omega) fun H8 S => ?_
        rw [dictK_put, putA_new hnot] at S
        walk_at "rd"
        refine ⟨tyL (SqL.of (S.rdM 0 rfl)), ?_⟩
        walk_at "rd"
        have g := dgetL (f := V.ref) (ws := ws ++ [(here, wq)]) (.inl (S.rdM 1 rfl)) (S.fr _ _ ch6)
        rw [dictK_val, find_new hnot] at g
        refine ⟨wd, _, rfl, g, ?_⟩
        walk_at "rd"
        refine s_listD S (wat.rd S) fun kq bs F9 H9 S e9 keys => ?_
        obtain ⟨F10, S, e10, c10⟩ := S.frz 0 rfl
        have tb := (keys.ex e10).tupL
        have few := way_few (ties := ties) (here := here) (sides := sides) m5 (by omega) s4
        have bl := tb.len
        rw [List.length_map] at bl
        have ao2 := ao.fresh (F' := F10) (a := wq) hnot (e6.trans (e9.trans e10)) (wat.ex (e9.trans e10)) (way_keys HO)
        have wl2 := ao2.len m5
        rw [List.length_append, List.length_singleton] at wl2
        walk_at "rd"
        refine s_ext S 0 rfl (S.fr _ _ c10) (by rw [List.length_map, List.length_map]; omega) fun H11 S => ?_
        refine ⟨_, ?_, _, _, S, e4.trans (e6.trans (e9.trans e10)), _, ws ++ [(here, wq)], cr ++ bs, wr ++ (wayL many ties here sides).map (·.1), rfl, by rw [show (cr ++ bs).map V.ref = cr.map V.ref ++ bs.map V.ref from List.map_append]; rfl, (tr.ex (e6.trans (e9.trans e10))).app tb, ao2, rfl, ?_⟩
        · rw [List.length_append, List.length_append, List.length_singleton, List.length_map]
          omega
        · rw [List.length_append, List.length_append, List.length_singleton, List.length_map]
          omega

end

end
section
local macro_rules | `(tactic| walk_at "ex") => `(tactic| first | exact Evl.Ex.refl _ | assumption | ((refine' Evl.Ex.trans ?x ?y); (case y => assumption); (case x => walk_at "ex")))
local macro_rules | `(tactic| walk_at "hc") => `(tactic| first
  | assumption
  | ((refine' Sep.rdM ?S 0 ?k); (case S => assumption); (case k => exact rfl)) | ((refine' Sep.rdM ?S 1 ?k); (case S => assumption); (case k => exact rfl)) | ((refine' Sep.rdM ?S 2 ?k); (case S => assumption); (case k => exact rfl)) | ((refine' Sep.rdM ?S 3 ?k); (case S => assumption); (case k => exact rfl)) | ((refine' Sep.rdM ?S 4 ?k); (case S => assumption); (case k => exact rfl))
  | ((refine' Sep.rdC ?S ?e ?h); (case S => assumption); (case h => assumption); (case e => walk_at "ex")))
local macro_rules | `(tactic| walk_at "hl") => `(tactic| first
  | assumption
  | ((refine' SqL.of (Sep.rdM ?S 0 ?k)); (case S => assumption); (case k => exact rfl)) | ((refine' SqL.of (Sep.rdM ?S 1 ?k)); (case S => assumption); (case k => exact rfl)) | ((refine' SqL.of (Sep.rdM ?S 2 ?k)); (case S => assumption); (case k => exact rfl)) | ((refine' SqL.of (Sep.rdM ?S 3 ?k)); (case S => assumption); (case k => exact rfl)) | ((refine' SqL.of (Sep.rdM ?S 4 ?k)); (case S => assumption); (case k => exact rfl))
  | ((refine' Sep.rdL ?S ?e ?h); (case S => assumption); (case h => assumption); (case e => walk_at "ex"))
  | ((refine' Sep.rdT ?S ?e ?h); (case S => assumption); (case h => assumption); (case e => walk_at "ex"))
  | ((refine' SqL.of (Sep.rdC ?S ?e ?h)); (case S => assumption); (case h => assumption); (case e => walk_at "ex"))
  | ((refine' SqT.of (Sep.rdC ?S ?e ?h)); (case S => assumption); (case h => assumption); (case e => walk_at "ex"))
  | ((refine' SqL.of ?h); (case h => assumption)) | ((refine' SqT.of ?h); (case h => assumption))
  | ((refine' Evl.ex_l ?e ?h); (case h => assumption); (case e => walk_at "ex")) | ((refine' Evl.ex_t ?e ?h); (case h => assumption); (case e => walk_at "ex"))
  | ((refine' SqL.of (?e _ _ ?h)); (case h => assumption); (case e => walk_at "ex")) | ((refine' SqT.of (?e _ _ ?h)); (case h => assumption); (case e => walk_at "ex")))
local macro_rules | `(tactic| walk_at "hs") => `(tactic| walk_at "hc")
local macro_rules | `(tactic| walk_at "dp") => `(tactic| first
  | assumption
  | ((refine' Sep.rdD ?S ?e ?h); (case S => assumption); (case h => assumption); (case e => walk_at "ex"))
  | ((refine' Dp.ex ?e _ _ ?h); (case h => assumption); (case e => walk_at "ex"))
  | ((refine' DpAll.ex ?e _ _ ?h); (case h => assumption); (case e => walk_at "ex"))
  | (refine' dp_intsD ?h; (case h => walk_at "hl")))
local macro_rules | `(tactic| walk_at "rd1") => `(tactic| (first
  | (with_reducible refine r_seq ?_)
  | (with_reducible refine r_asg ?_)
  | (with_reducible refine r_asgG ?_)
  | (with_reducible refine r_par ?_)
  | (with_reducible refine r_if ?_)
  | (with_reducible refine r_ret ?_)
  | (with_reducible refine r_drop ?_)
  | (with_reducible refine r_next ?_)
  | ((with_reducible refine' r_var ?hx ?_); (case hx => exact rfl))
  | (with_reducible refine r_c ?_)
  | (with_reducible refine r_op ?_)
  | (with_reducible refine r_un ?_)
  | (with_reducible refine r_I0 ?_)
  | ((with_reducible refine' r_I ?_ ?_); (· first | (show (0 : Int) < _; omega) | exact Or.inr ⟨by omega, by omega⟩ | exact Or.inl ⟨by omega, by omega⟩ | exact ⟨by omega, by omega, by decide⟩))
  | (with_reducible refine r_U ?_)
  | (with_reducible refine r_test ?_)
  | (with_reducible refine r_B ?_)
  | (with_reducible refine r_bl ?_)
  | (with_reducible refine r_eqI ?_)
  | (with_reducible refine r_neI ?_)
  | ((with_reducible refine' r_eq ?_ ?_); (· exact rfl))
  | ((with_reducible refine' r_ne ?_ ?_); (· exact rfl))
  | (with_reducible refine r_nil ?_)
  | (with_reducible refine r_cons ?_)
  | (with_reducible refine s_tup ?_)
  | (with_reducible refine s_lst ?_)
  | (with_reducible refine r_call ?_)
  | (with_reducible refine r_cb ?_)
  | (with_reducible refine r_and ?_)
  | (with_reducible refine r_or ?_)
  | (with_reducible refine r_not ?_)
  | (with_reducible refine r_andV ?_)
  | (with_reducible refine r_orV ?_)
  | (with_reducible refine r_notV ?_)
  | (with_reducible refine r_ifE ?_)
  | (with_reducible refine r_gSub ?_)
  | (with_reducible refine r_sadd ?_)
  | (with_reducible refine s_lstRg ?_)
  | (with_reducible refine r_rg1 ?_)
  | (with_reducible refine r_min2 ?_)
  | (with_reducible refine r_par2 ?_)
  | (with_reducible refine r_partI ?_)
  | (with_reducible refine s_lc ?_)
  | (with_reducible refine s_dc ?_)
  | (with_reducible refine r_yes ?_)
  | (with_reducible refine r_iZipA ?_)
  | (with_reducible refine r_isN ?_)
  | (with_reducible refine r_for ?_)
  | (with_reducible refine r_iList ?_)
  | (with_reducible refine r_iTup ?_)
  | (with_reducible refine r_iRng1 ?_)
  | (with_reducible refine r_iRng2 ?_)
  | (with_reducible refine r_iEnum ?_)
  | (with_reducible refine r_iZip ?_)
  | (with_reducible refine r_gName ?_)
  | (with_reducible refine r_isNV ?_)
  | (with_reducible refine r_notNV ?_)
  | (with_reducible refine r_bm ?_)
  | (with_reducible refine r_bm0 ?_)
  | (with_reducible refine r_sl ?_)
  | (with_reducible refine r_noPart ?_)
  | (with_reducible refine r_part ?_)
  | (with_reducible refine r_chain ?_)
  | (with_reducible refine r_iKeys ?_)
  | (with_reducible refine r_iItems ?_)
  | (with_reducible refine r_frz ?_)
  | (with_reducible refine r_dput ?_)
  | (with_reducible refine r_dget ?_)
  | (with_reducible refine r_din ?_)
  | (with_reducible refine r_dnotin ?_)
  | (with_reducible refine r_break ?_)
  | ((with_reducible refine' r_sIn ?h ?_); (case h => walk_at "hs"))
  | ((with_reducible refine' r_sNotIn ?h ?_); (case h => walk_at "hs"))
  | ((with_reducible refine' r_inI ?h ?_); (case h => walk_at "hl"))
  | ((with_reducible refine' r_notInI ?h ?_); (case h => walk_at "hl"))
  | ((with_reducible refine' r_eqNil ?h ?g ?_); (case h => walk_at "hl"); (case g => walk_at "hl"))
  | ((with_reducible refine' r_neNil ?h ?g ?_); (case h => walk_at "hl"); (case g => walk_at "hl"))
  | ((with_reducible refine' iteRT ?hh ?_); (case hh => exact rfl))
  | ((with_reducible refine' iteRF ?hh ?_); (case hh => exact rfl))
  | ((with_reducible refine' r_isiT ?ty ?hk ?_); (case ty => (first | assumption | exact tyx_L (by assumption) | exact tyx_T (by assumption) | exact .base (.non) | exact .base (.bl _) | exact .base (.int _) | exact .base (.str _) | exact tyx_L (by walk_at "hl") | exact tyx_T (by walk_at "hl"))); (case hk => decide +kernel))
  | ((with_reducible refine' r_isiF ?ty ?hk ?_); (case ty => (first | assumption | exact tyx_L (by assumption) | exact tyx_T (by assumption) | exact .base (.non) | exact .base (.bl _) | exact .base (.int _) | exact .base (.str _) | exact tyx_L (by walk_at "hl") | exact tyx_T (by walk_at "hl"))); (case hk => decide +kernel))
  | ((with_reducible refine' r_gTup2 ?hn ?hs ?_); (case hn => exact rfl); (case hs => walk_at "hl"))
  | ((with_reducible refine' s_list ?hl ?_); (case hl => first | exact Or.inl (by walk_at "hl") | exact Or.inr (by walk_at "hl")))
  | ((with_reducible refine' s_tupN ?hl ?_); (case hl => walk_at "hl"))
  | ((with_reducible refine' s_sortN ?hl ?_); (case hl => walk_at "hl"))
  | ((refine' ⟨_, _, rfl, ?hl, ?_⟩); (case hl => first | exact Or.inl (by walk_at "hl") | exact Or.inr (by walk_at "hl")))
  | ((with_reducible refine' r_ixL ?hl ?ha ?_); (case hl => walk_at "hl"); (case ha => first | exact rfl | assumption))
  | ((with_reducible refine' r_ixT ?hl ?ha ?_); (case hl => walk_at "hl"); (case ha => first | exact rfl | assumption))))
local macro_rules | `(tactic| walk_at "rd") => `(tactic| repeat (walk_at "rd1"))

section
variable {P : Program} {w : World} {K : PySem.W.Frag} {mg : Str → Option Value} {base : Heap}

theorem way_val {many : Int} {ties : List (Int × Int)} {here : List Int} {sides : Int} (m5 : many ≤ 5) (s1 : 1 ≤ sides) (s4 : sides ≤ 4) {q : List Int × Int} (hq : q ∈ wayL many ties here sides) : 0 ≤ q.2 ∧ q.2 ≤ 1048576 := by
  have nd : NdK (wayL many ties here sides) := (tally_spec _).1
  rw [← getA_in nd hq, way_get]
  have p := sides_pow (sides := sides) (n := alikeN many ties here) s1 s4 (alike_le m5)
  have r := rows_few (many := many) (ties := ties) (here := here) m5 s1 s4
  have c := cntR_le (fun r => decide (leftG ties here (rowF r) = q.1)) (rowsC (chC ties here sides) (rgI many))
  have h1 : sides ^ alikeN many ties here * cntR (fun r => decide (leftG ties here (rowF r) = q.1)) (rowsC (chC ties here sides) (rgI many)) ≤ 1024 * 1024 := Int.le_trans (Int.mul_le_mul_of_nonneg_right p.2 c.1) (Int.mul_le_mul_of_nonneg_left (by omega) (by omega))
  have h2 := Int.mul_nonneg (show 0 ≤ sides ^ alikeN many ties here by omega) c.1
  omega
theorem tally_few {many : Int} (m5 : many ≤ 5) {xs : List (List Int × Int)} (h : ∀ p ∈ xs, HereOk many p.1) : (tally xs).length ≤ 32 := by
  obtain ⟨nd, _, _, hk⟩ := tally_spec xs
  have := len_le_of_sub nd fun x hx => by
    have := (hk x).mp hx
    obtain ⟨p, hp, e⟩ := List.mem_map.mp this
    exact setsU_mem.mpr (by rw [← e]; exact h p hp)
  rw [List.length_map] at this
  exact Nat.le_trans this (setsU_len m5)
theorem dict_at : ∀ {ws : List (List Int × Addr)} {k : List Int} {a : Addr}, (ws.map (·.1)).Nodup → (k, a) ∈ ws → valV (dictK V.ref ws) (keyL k) = some (.ref a)
  | p :: r, k, a, nd, h => by
    have nd' := List.nodup_cons.mp nd
    rw [dictK_val, List.find?_cons]
    rcases List.mem_cons.mp h with e | h
    · subst e; simp
    · have ne : ¬ p.1 = k := fun z => nd'.1 (by show p.1 ∈ _; rw [z]; exact List.mem_map_of_mem (f := fun q : List Int × Addr => q.1) h)
      rw [decide_eq_false ne]
      have := dict_at nd'.2 h
      rw [dictK_val] at this
      exact this
/-- the counts one round on -/
def nextW (many : Int) (ties : List (Int × Int)) (sides : Int) (cw : List (List Int × Int)) : List (List Int × Int) := tally (cw.flatMap fun p => (wayL many ties p.1 sides).map fun q => (q.1, p.2 * q.2))
theorem next_keys {many : Int} {ties : List (Int × Int)} {sides : Int} {cw : List (List Int × Int)} (h : ∀ p ∈ cw, HereOk many p.1) : ∀ q ∈ cw.flatMap (fun p => (wayL many ties p.1 sides).map fun q => (q.1, p.2 * q.2)), HereOk many q.1 := fun q hq => by
  obtain ⟨p, hp, hq⟩ := List.mem_flatMap.mp hq
  obtain ⟨q', hq', rfl⟩ := List.mem_map.mp hq
  exact way_keys (h p hp) q' hq'
def A_wb : (Int × List (Int × Int) × Int × List (List Int × Addr) × List (List Int × Int)) → List V → Hp → Prop := fun | (many, ties, sides, ws, cw), vs, F => ∃ wq od cq musts, vs = [.ref wq, .ref cq] ∧ F wq = some (.frz od (.dT (dictK V.ref ws))) ∧ AllOk F many (fun s => wayL many ties s sides) musts ws [] ∧ WaysAt F cq cw ∧ (∀ p ∈ cw, p.1 ∈ ws.map (·.1)) ∧ WebOk many ties ∧ many ≤ 5 ∧ 2 ≤ sides ∧ sides ≤ 4
def B_wb : (Int × List (Int × Int) × Int × List (List Int × Addr) × List (List Int × Int)) → V → List (Addr × Cel) → Hp → Prop := fun | (many, ties, sides, ws, cw), v, N, F => N = [] ∧ ∃ q, v = .ref q ∧ WaysAt F q (nextW many ties sides cw)
theorem ok_ways_behind (T : Env K mg) : FnOk P w K mg base CX0 1 T.a_ways_behind T.fd_ways_behind ["ways", "counts"] (SpF A_wb B_wb) := by
  have nd := sc_ways_behind.nd
  refine T.F_ways_behind.ok sc_ways_behind (fun vs H Q E h => ?_) (fun cdv A outer s H vs Q E hr h => ?_)
  · obtain ⟨⟨_, _, _, _, _⟩, F, _, ⟨wq, od, cq, musts, rfl, _⟩, _⟩ := h
    rfl
  · obtain ⟨⟨many, ties, sides, ws, cw⟩, F, fr, ⟨wq, od, cq, musts, rfl, cwq, ao, ⟨odc, ccq⟩, sub, W, m5, s2, s4⟩, k⟩ := h
    have hok : ∀ p ∈ cw, HereOk many p.1 := fun p hp => by
      obtain ⟨q, hq, e⟩ := List.mem_map.mp (sub p hp)
      rw [← e]
      exact (ao.ok q hq).1
    have S := Sep.start0 fr
    refine ⟨_, (pss_cons (ps_set (i := 2) nd rfl (.inl rfl) pe_dnewT)
      (pss_cons (ps_for PassesOwn.never rfl (pi_pairs (pv 1)) (pg_tup rfl (pgs_cons (pg_name (i := 3) nd rfl (.inl rfl)) (pgs_cons (pg_name (i := 4) nd rfl (.inl rfl)) pgs_nil))) (pss_one (ps_for PassesOwn.never rfl (pi_pairs (pe_dget (u1 hr) (pv 0) (pv 3) (fun _ _ => rfl))) (pg_tup rfl (pgs_cons (pg_name (i := 5) nd rfl (.inl rfl)) (pgs_cons (pg_name (i := 6) nd rfl (.inl rfl)) pgs_nil))) (pss_one (ps_dput (u1 hr) (pv 2) (pv 5) (pe_op op_add (pe_dget2 (u1 hr) (pv 2) (pv 5) pe_int ⟨rfl, rfl, rfl, rfl⟩) (pe_op op_mul (pv 4) (pv 6))) rfl)))))
      (pss_one (ps_ret (pe_frz (pv 2)))))), ?_⟩
    walk_at "rd"
    refine s_dnewT S fun wd H1 S => ?_
    walk_at "rd"
    refine r_iPairs ?_
    walk_at "rd"
    refine s_ipr (S.fr _ _ ccq) ?_
    refine s_for (fun i σ' F' M' => ∃ x3 x4 x5 x6 : Option V, σ' = [some (.ref wq), some (.ref cq), some (.ref wd), x3, x4, x5, x6] ∧ M' = [(wd, .is (.dT (waysK (nextW many ties sides (cw.take i)))))]) (srcP2 ccq) S ⟨none, none, none, none, rfl, rfl⟩ (fun _ _ _ _ _ m hm => by cases hm) ?_ ?_
    · rintro i ⟨here, c⟩ x σ' F2 F3 H3 M' ei S e2 e3 ⟨t, q, rfl, ct, cq2⟩ ⟨x3, x4, x5, x6, rfl, rfl⟩
      simp only at ct cq2
      have hm : (here, c) ∈ cw := List.mem_of_getElem? ei
      have HO := hok _ hm
      obtain ⟨⟨h', a⟩, ha, eh⟩ := List.mem_map.mp (sub _ hm)
      have eh : h' = here := eh
      subst eh
      have wat := (ao.ok _ ha).2
      obtain ⟨oda, cda⟩ := wat
      have cda : F a = some (.frz oda (.dT (waysK (wayL many ties h' sides)))) := cda
      have E3 := e2.trans e3
      walk_at "rd"
      refine r_iPairs ?_
      walk_at "rd"
      have g := dgetL (f := V.ref) (ws := ws) (.inr ⟨_, S.fr _ _ (E3 _ _ cwq)⟩) (S.fr _ _ cq2)
      rw [dict_at ao.nd ha] at g
      refine ⟨wq, _, rfl, g, ?_⟩
      walk_at "rd"
      refine s_ipr (S.fr _ _ (E3 _ _ cda)) ?_
      have hok2 : ∀ p ∈ cw.take i, HereOk many p.1 := fun p hp => hok p (List.mem_of_mem_take hp)
      refine s_for (fun j σ' F' M' => ∃ x5 x6 : Option V, σ' = [some (.ref wq), some (.ref cq), some (.ref wd), some (.ref q), some (.int c), x5, x6] ∧ M' = [(wd, .is (.dT (waysK (tally ((cw.take i).flatMap (fun p => (wayL many ties p.1 sides).map fun q => (q.1, p.2 * q.2)) ++ (((wayL many ties h' sides).take j).map fun q => (q.1, c * q.2)))))))]) (srcP2 (E3 _ _ cda)) S ⟨_, _, rfl, by rw [List.take_zero, List.map_nil, List.append_nil]; rfl⟩ (fun _ _ _ _ _ m hm => by cases hm) ?_ ?_
      · rintro j ⟨there, more⟩ x σ' F4 F5 H5 M' ej S e4 e5 ⟨t2, q2, rfl, ct2, cr2⟩ ⟨x5, x6, rfl, rfl⟩
        simp only at ct2 cr2
        have mv := way_val m5 (by omega) s4 (List.mem_of_getElem? ej)
        simp only at mv
        have few := tally_few m5 (xs := (cw.take i).flatMap (fun p => (wayL many ties p.1 sides).map fun q => (q.1, p.2 * q.2)) ++ (((wayL many ties h' sides).take j).map fun q => (q.1, c * q.2))) fun p hp => by
          rcases List.mem_append.mp hp with hp | hp
          · exact next_keys hok2 p hp
          · obtain ⟨q, hq, rfl⟩ := List.mem_map.mp hp
            exact way_keys HO q (List.mem_of_mem_take hq)
        walk_at "rd"
        refine r_dget2 ?_
        walk_at "rd"
        refine ⟨wd, rfl, .inr ⟨_, .inl (S.rdM 0 rfl)⟩, ?_⟩
        walk_at "rd"
        refine ⟨_, dgetL (.inl (S.rdM 0 rfl)) (S.fr _ _ cr2), ?_⟩
        rw [ways_get]
        walk_at "rd"
        refine s_dputL S 0 rfl cr2 (by rw [dictK_len]; omega) fun H6 S => ?_
        rw [ways_add] at S
        refine ⟨_, _, S, e4.trans e5, _, _, rfl, ?_⟩
        rw [take_snoc ej, List.map_append, ← List.append_assoc, List.map_singleton, tally_snoc]
        rfl
      · rintro σ' F4 H4 M' S e4 ⟨x5, x6, rfl, rfl⟩
        rw [List.take_length] at S
        refine ⟨_, _, S, E3.trans e4, _, _, _, _, rfl, ?_⟩
        unfold nextW
        rw [take_snoc ei, List.flatMap_append]
        simp
    · rintro σ' F2 H2 M' S e2 ⟨x3, x4, x5, x6, rfl, rfl⟩
      rw [List.take_length] at S
      walk_at "rd"
      refine s_frz S 0 rfl trivial fun od F3 H3 S e3 cd => ?_
      exact k _ [] _ _ S ⟨rfl, wd, rfl, od, cd⟩

end

end
section
local macro_rules | `(tactic| walk_at "ex") => `(tactic| first | exact Evl.Ex.refl _ | assumption | ((refine' Evl.Ex.trans ?x ?y); (case y => assumption); (case x => walk_at "ex")))
local macro_rules | `(tactic| walk_at "hc") => `(tactic| first
  | assumption
  | ((refine' Sep.rdM ?S 0 ?k); (case S => assumption); (case k => exact rfl)) | ((refine' Sep.rdM ?S 1 ?k); (case S => assumption); (case k => exact rfl)) | ((refine' Sep.rdM ?S 2 ?k); (case S => assumption); (case k => exact rfl)) | ((refine' Sep.rdM ?S 3 ?k); (case S => assumption); (case k => exact rfl)) | ((refine' Sep.rdM ?S 4 ?k); (case S => assumption); (case k => exact rfl))
  | ((refine' Sep.rdC ?S ?e ?h); (case S => assumption); (case h => assumption); (case e => walk_at "ex")))
local macro_rules | `(tactic| walk_at "hl") => `(tactic| first
  | assumption
  | ((refine' SqL.of (Sep.rdM ?S 0 ?k)); (case S => assumption); (case k => exact rfl)) | ((refine' SqL.of (Sep.rdM ?S 1 ?k)); (case S => assumption); (case k => exact rfl)) | ((refine' SqL.of (Sep.rdM ?S 2 ?k)); (case S => assumption); (case k => exact rfl)) | ((refine' SqL.of (Sep.rdM ?S 3 ?k)); (case S => assumption); (case k => exact rfl)) | ((refine' SqL.of (Sep.rdM ?S 4 ?k)); (case S => assumption); (case k => exact rfl))
  | ((refine' Sep.rdL ?S ?e ?h); (case S => assumption); (case h => assumption); (case e => walk_at "ex"))
  | ((refine' Sep.rdT ?S ?e ?h); (case S => assumption); (case h => assumption); (case e => walk_at "ex"))
  | ((refine' SqL.of (Sep.rdC ?S ?e ?h)); (case S => assumption); (case h => assumption); (case e => walk_at "ex"))
  | ((refine' SqT.of (Sep.rdC ?S ?e ?h)); (case S => assumption); (case h => assumption); (case e => walk_at "ex"))
  | ((refine' SqL.of ?h); (case h => assumption)) | ((refine' SqT.of ?h); (case h => assumption))
  | ((refine' Evl.ex_l ?e ?h); (case h => assumption); (case e => walk_at "ex")) | ((refine' Evl.ex_t ?e ?h); (case h => assumption); (case e => walk_at "ex"))
  | ((refine' SqL.of (?e _ _ ?h)); (case h => assumption); (case e => walk_at "ex")) | ((refine' SqT.of (?e _ _ ?h)); (case h => assumption); (case e => walk_at "ex")))
local macro_rules | `(tactic| walk_at "hs") => `(tactic| walk_at "hc")
local macro_rules | `(tactic| walk_at "dp") => `(tactic| first
  | assumption
  | ((refine' Sep.rdD ?S ?e ?h); (case S => assumption); (case h => assumption); (case e => walk_at "ex"))
  | ((refine' Dp.ex ?e _ _ ?h); (case h => assumption); (case e => walk_at "ex"))
  | ((refine' DpAll.ex ?e _ _ ?h); (case h => assumption); (case e => walk_at "ex"))
  | (refine' dp_intsD ?h; (case h => walk_at "hl")))
local macro_rules | `(tactic| walk_at "rd1") => `(tactic| (first
  | (with_reducible refine r_seq ?_)
  | (with_reducible refine r_asg ?_)
  | (with_reducible refine r_asgG ?_)
  | (with_reducible refine r_par ?_)
  | (with_reducible refine r_if ?_)
  | (with_reducible refine r_ret ?_)
  | (with_reducible refine r_drop ?_)
  | (with_reducible refine r_next ?_)
  | ((with_reducible refine' r_var ?hx ?_); (case hx => exact rfl))
  | (with_reducible refine r_c ?_)
  | (with_reducible refine r_op ?_)
  | (with_reducible refine r_un ?_)
  | (with_reducible refine r_I0 ?_)
  | ((with_reducible refine' r_I ?_ ?_); (· first | (show (0 : Int) < _; omega) | exact Or.inr ⟨by omega, by omega⟩ | exact Or.inl ⟨by omega, by omega⟩ | exact ⟨by omega, by omega, by decide⟩))
  | (with_reducible refine r_U ?_)
  | (with_reducible refine r_test ?_)
  | (with_reducible refine r_B ?_)
  | (with_reducible refine r_bl ?_)
  | (with_reducible refine r_eqI ?_)
  | (with_reducible refine r_neI ?_)
  | ((with_reducible refine' r_eq ?_ ?_); (· exact rfl))
  | ((with_reducible refine' r_ne ?_ ?_); (· exact rfl))
  | (with_reducible refine r_nil ?_)
  | (with_reducible refine r_cons ?_)
  | (with_reducible refine s_tup ?_)
  | (with_reducible refine s_lst ?_)
  | (with_reducible refine r_call ?_)
  | (with_reducible refine r_cb ?_)
  | (with_reducible refine r_and ?_)
  | (with_reducible refine r_or ?_)
  | (with_reducible refine r_not ?_)
  | (with_reducible refine r_andV ?_)
  | (with_reducible refine r_orV ?_)
  | (with_reducible refine r_notV ?_)
  | (with_reducible refine r_ifE ?_)
  | (with_reducible refine r_gSub ?_)
  | (with_reducible refine r_sadd ?_)
  | (with_reducible refine s_lstRg ?_)
  | (with_reducible refine r_rg1 ?_)
  | (with_reducible refine r_min2 ?_)
  | (with_reducible refine r_par2 ?_)
  | (with_reducible refine r_partI ?_)
  | (with_reducible refine s_lc ?_)
  | (with_reducible refine s_dc ?_)
  | (with_reducible refine r_yes ?_)
  | (with_reducible refine r_iZipA ?_)
  | (with_reducible refine r_isN ?_)
  | (with_reducible refine r_for ?_)
  | (with_reducible refine r_iList ?_)
  | (with_reducible refine r_iTup ?_)
  | (with_reducible refine r_iRng1 ?_)
  | (with_reducible refine r_iRng2 ?_)
  | (with_reducible refine r_iEnum ?_)
  | (with_reducible refine r_iZip ?_)
  | (with_reducible refine r_gName ?_)
  | (with_reducible refine r_isNV ?_)
  | (with_reducible refine r_notNV ?_)
  | (with_reducible refine r_bm ?_)
  | (with_reducible refine r_bm0 ?_)
  | (with_reducible refine r_sl ?_)
  | (with_reducible refine r_noPart ?_)
  | (with_reducible refine r_part ?_)
  | (with_reducible refine r_chain ?_)
  | (with_reducible refine r_iKeys ?_)
  | (with_reducible refine r_iItems ?_)
  | (with_reducible refine r_frz ?_)
  | (with_reducible refine r_dput ?_)
  | (with_reducible refine r_dget ?_)
  | (with_reducible refine r_din ?_)
  | (with_reducible refine r_dnotin ?_)
  | (with_reducible refine r_break ?_)
  | ((with_reducible refine' r_sIn ?h ?_); (case h => walk_at "hs"))
  | ((with_reducible refine' r_sNotIn ?h ?_); (case h => walk_at "hs"))
  | ((with_reducible refine' r_inI ?h ?_); (case h => walk_at "hl"))
  | ((with_reducible refine' r_notInI ?h ?_); (case h => walk_at "hl"))
  | ((with_reducible refine' r_eqNil ?h ?g ?_); (case h => walk_at "hl"); (case g => walk_at "hl"))
  | ((with_reducible refine' r_neNil ?h ?g ?_); (case h => walk_at "hl"); (case g => walk_at "hl"))
  | ((with_reducible refine' iteRT ?hh ?_); (case hh => exact rfl))
  | ((with_reducible refine' iteRF ?hh ?_); (case hh => exact rfl))
  | ((with_reducible refine' r_isiT ?ty ?hk ?_); (case ty => (first | assumption | exact tyx_L (by assumption) | exact tyx_T (by assumption) | exact .base (.non) | exact .base (.bl _) | exact .base (.int _) | exact .base (.str _) | exact tyx_L (by walk_at "hl") | exact tyx_T (by walk_at "hl"))); (case hk => decide +kernel))
  | ((with_reducible refine' r_isiF ?ty ?hk ?_); (case ty => (first | assumption | exact tyx_L (by assumption) | exact tyx_T (by assumption) | exact .base (.non) | exact .base (.bl _) | exact .base (.int _) | exact .base (.str _) | exact tyx_L (by walk_at "hl") | exact tyx_T (by walk_at "hl"))); (case hk => decide +kernel))
  | ((with_reducible refine' r_gTup2 ?hn ?hs ?_); (case hn => exact rfl); (case hs => walk_at "hl"))
  | ((with_reducible refine' s_list ?hl ?_); (case hl => first | exact Or.inl (by walk_at "hl") | exact Or.inr (by walk_at "hl")))
  | ((with_reducible refine' s_tupN ?hl ?_); (case hl => walk_at "hl"))
  | ((with_reducible refine' s_sortN ?hl ?_); (case hl => walk_at "hl"))
  | ((refine' ⟨_, _, rfl, ?hl, ?_⟩); (case hl => first | exact Or.inl (by walk_at "hl") | exact Or.inr (by walk_at "hl")))
  | ((with_reducible refine' r_ixL ?hl ?ha ?_); (case hl => walk_at "hl"); (case ha => first | exact rfl | assumption))
  | ((with_reducible refine' r_ixT ?hl ?ha ?_); (case hl => walk_at "hl"); (case ha => first | exact rfl | assumption))))
local macro_rules | `(tactic| walk_at "rd") => `(tactic| repeat (walk_at "rd1"))

section
variable {P : Program} {w : World} {K : PySem.W.Frag} {mg : Str → Option Value} {base : Heap}

def cntsW (many : Int) (ties : List (Int × Int)) (sides : Int) : Nat → List (List Int × Int)
  | 0 => [(rgI many, 1)]
  | r + 1 => nextW many ties sides (cntsW many ties sides r)
/-- how many rows of so many rounds leave a set -/
def prU (many : Int) (ties : List (Int × Int)) (sides : Int) : Nat → List Int → Int
  | 0 => fun T => if rgI many = T then 1 else 0
  | r + 1 => fun T => ((setsU many).map fun S => prU many ties sides r S * getA (wayL many ties S sides) T).sum
theorem sum_if {κ : Type} [DecidableEq κ] (c : Int) (T : κ) : ∀ l : List (κ × Int), (l.map fun q => if q.1 = T then c * q.2 else 0).sum = c * (l.map fun q => if q.1 = T then q.2 else 0).sum
  | [] => by simp
  | x :: r => by
    rw [List.map_cons, List.sum_cons, List.map_cons, List.sum_cons, sum_if c T r, Int.mul_add]
    by_cases e : x.1 = T
    · rw [if_pos e, if_pos e]
    · rw [if_neg e, if_neg e, Int.mul_zero]
theorem cnts_ok (many : Int) (ties : List (Int × Int)) (sides : Int) : ∀ r, NdK (cntsW many ties sides r) ∧ (∀ p ∈ cntsW many ties sides r, HereOk many p.1) ∧ ∀ T, getA (cntsW many ties sides r) T = prU many ties sides r T
  | 0 => ⟨by unfold cntsW NdK; simp, fun p hp => by rw [List.mem_singleton.mp hp]; exact HereOk.sub (List.Sublist.refl _), fun T => by unfold cntsW prU; rw [getA_cons, getA_nil]⟩
  | r + 1 => by
    obtain ⟨nd, ok, val⟩ := cnts_ok many ties sides r
    unfold cntsW nextW
    obtain ⟨nd2, get2, _, keys2⟩ := tally_spec ((cntsW many ties sides r).flatMap fun p => (wayL many ties p.1 sides).map fun q => (q.1, p.2 * q.2))
    refine ⟨nd2, fun p hp => ?_, fun T => ?_⟩
    · have := (keys2 p.1).mp (List.mem_map_of_mem hp)
      obtain ⟨q, hq, e⟩ := List.mem_map.mp this
      rw [← e]
      exact next_keys ok q hq
    · rw [get2, List.map_flatMap, sum_flat]
      have e1 : ((cntsW many ties sides r).map fun p => (((wayL many ties p.1 sides).map fun q => (q.1, p.2 * q.2)).map fun q => if q.1 = T then q.2 else 0).sum) = (cntsW many ties sides r).map fun p => p.2 * getA (wayL many ties p.1 sides) T := List.map_congr_left fun p _ => by
        rw [List.map_map]
        have e2 : ((fun q : List Int × Int => if q.1 = T then q.2 else 0) ∘ fun q : List Int × Int => (q.1, p.2 * q.2)) = fun q => if q.1 = T then p.2 * q.2 else 0 := rfl
        rw [e2, sum_if, get_sum (show NdK (wayL many ties p.1 sides) from (tally_spec _).1)]
      rw [e1, sumU_get nd (fun p hp => setsU_mem.mpr (ok p hp)) (setsU_nd many) fun S => getA (wayL many ties S sides) T]
      unfold prU
      congr 1
      exact List.map_congr_left fun S _ => by rw [val S]
theorem cnts_sub {F : Hp} {many : Int} {ties : List (Int × Int)} {sides : Int} {musts : List (List Int)} {ws : List (List Int × Addr)} (ao : AllOk F many (fun s => wayL many ties s sides) musts ws []) (hm : rgI many ∈ musts) : ∀ r, ∀ p ∈ cntsW many ties sides r, p.1 ∈ ws.map (·.1)
  | 0 => fun p hp => by
    rw [List.mem_singleton.mp hp]
    rcases ao.must _ hm with z | z
    · exact z
    · cases z
  | r + 1 => fun p hp => by
    have ih := cnts_sub ao hm r
    unfold cntsW nextW at hp
    have := ((tally_spec ((cntsW many ties sides r).flatMap fun p => (wayL many ties p.1 sides).map fun q => (q.1, p.2 * q.2))).2.2.2 p.1).mp (List.mem_map_of_mem hp)
    obtain ⟨q, hq, e⟩ := List.mem_map.mp this
    obtain ⟨p0, hp0, hq⟩ := List.mem_flatMap.mp hq
    obtain ⟨q', hq', rfl⟩ := List.mem_map.mp hq
    obtain ⟨p1, hp1, e1⟩ := List.mem_map.mp (ih p0 hp0)
    have e1 : p1.1 = p0.1 := e1
    have e : q'.1 = p.1 := e
    rw [← e]
    rcases ao.closed p1 hp1 q' (by show q' ∈ wayL many ties p1.1 sides; rw [e1]; exact hq') with z | z
    · exact z
    · cases z
theorem cntR_true {α : Type} (l : List α) : cntR (fun _ => true) l = (l.length : Int) := by
  unfold cntR
  rw [List.filter_eq_self.mpr fun _ _ => rfl]
theorem rowsS_len {sides : Int} (s0 : 0 ≤ sides) (hs : List Int) : ((rowsC (fun _ => rgI sides) hs).length : Int) = sides ^ hs.length := by
  have := rowsK_len (rgI sides) hs [[]]
  unfold rowsC
  rw [this, List.length_singleton, Nat.one_mul, rgI_len, Int.natCast_pow, Int.toNat_of_nonneg s0]
theorem way_total {many : Int} {ties : List (Int × Int)} {S : List Int} {sides : Int} (W : WebOk many ties) (s1 : 1 ≤ sides) (HO : HereOk many S) : sumA (wayL many ties S sides) = sides ^ many.toNat := by
  have u := web_upT W
  have m1 := W.lo
  have c2 : sides ^ ((rgI many).filter fun h => (nbL ties S h).isEmpty).length * cntR (fun _ => true) (rowsC (chC ties S sides) (rgI many)) = sides ^ (many.toNat - S.length) * cntR (fun _ => true) (rowsC (fun _ => rgI sides) S) := ways_cnt (many := many) (sides := sides) (P := fun _ => true) u (by omega) HO.up HO.ok (by omega) (fun _ _ _ => rfl)
  rw [cntR_true, cntR_true, rowsS_len (by omega), ← Int.pow_add, Nat.sub_add_cancel HO.len] at c2
  rw [way_tot]
  unfold alikeN
  exact c2
theorem tot_le {many sides : Int} (s1 : 1 ≤ sides) (s4 : sides ≤ 4) (m5 : many ≤ 5) : 1 ≤ sides ^ many.toNat ∧ sides ^ many.toNat ≤ 1024 := sides_pow s1 s4 (by omega)
theorem pow600 {t : Int} (h1 : 1 ≤ t) (h2 : t ≤ 1024) (n : Nat) (hn : n ≤ 61) : 0 < t ^ n ∧ (t ^ n).natAbs < 2 ^ 700 := by
  refine ⟨Int.pow_pos (by omega), ?_⟩
  rw [Int.natAbs_pow]
  refine Nat.lt_of_le_of_lt (Nat.pow_le_pow_left (show t.natAbs ≤ 1024 by omega) n) ?_
  refine Nat.lt_of_le_of_lt (Nat.pow_le_pow_right (n := 1024) (by decide) hn) (by decide)
def A_cb (K : PySem.W.Frag) : (Int × List (Int × Int) × Int × Int) → List V → Hp → Prop := fun | (many, ties, sides, rounds), vs, F => ∃ v, vs = [v, .int sides, .int rounds] ∧ Dp K F v (webD many ties) ∧ WebOk many ties ∧ many ≤ 5 ∧ 2 ≤ sides ∧ sides ≤ 4 ∧ 0 ≤ rounds ∧ rounds ≤ 60
def B_cb (K : PySem.W.Frag) : (Int × List (Int × Int) × Int × Int) → V → List (Addr × Cel) → Hp → Prop := fun | (many, ties, sides, rounds), v, N, F => N = [] ∧ Dp K F v (tieD (lowF (prU many ties sides rounds.toNat [], (sides ^ many.toNat) ^ rounds.toNat)))
theorem r_disp1 {tk tv : TE} {σ : L2.St} {H : Hp} {Q : VK} (h : ∀ p, H p = none → tk σ (upd H p (.dT [])) fun x H1 => tv σ H1 fun y H2 => put1K p x y H2 Q) : tDisp1 tk tv σ H Q := h
theorem s_put1 {io : List Addr} {H0 F0 F H : Hp} {M : List (Addr × Cel)} {Q : VK} {p t : Addr} {k : List Int} {y : V} (S : Sep io H0 F0 F H M) (j : Nat) (hk : M[j]? = some (p, .is (.dT []))) (ht : F t = some (.tup (k.map V.int))) (q : ∀ H', Sep io H0 F0 F H' (M.set j (p, .is (.dT [(keyL k, y)]))) → Q (.ref p) H') : put1K p (.ref t) y H Q :=
  ⟨t, keyL k, rfl, by rw [keyL_kV]; exact S.fr _ _ ht, S.rdM j hk, q _ (S.put j hk _)⟩
theorem ok_chance_behind (T : Env K mg) : FnOk P w K mg base CX0 5 T.a_chance_behind T.fd_chance_behind ["web", "sides", "rounds"] (SpF (A_cb K) (B_cb K)) := by
  have nd := sc_chance_behind.nd
  have G_all_ways : FnOk P w K mg base CX0 4 T.a_all_ways T.fd_all_ways ["web", "sides"] (SpF (A_aw K) B_aw) := ok_all_ways T
  have G_fraction_of : FnOk P w K mg base CX0 1 T.a_fraction_of T.fd_fraction_of ["over", "under"] (SpF A_fx (B_fx K)) := ok_fraction_of T
  have G_ways_behind : FnOk P w K mg base CX0 1 T.a_ways_behind T.fd_ways_behind ["ways", "counts"] (SpF A_wb B_wb) := ok_ways_behind T
  refine T.F_chance_behind.ok sc_chance_behind (fun vs H Q E h => ?_) (fun cdv A outer s H vs Q E hr h => ?_)
  · obtain ⟨⟨_, _, _, _⟩, F, _, ⟨v, rfl, _⟩, _⟩ := h
    rfl
  · obtain ⟨⟨many, ties, sides, rounds⟩, F, fr, ⟨v, rfl, hv, W, m5, s2, s4, r0, r60⟩, k⟩ := h
    have m1 := W.lo
    have tle := tot_le (many := many) (sides := sides) (by omega) s4 m5
    obtain ⟨wa, wb, ws0, rfl, z1, z2, z3⟩ := webD_at hv
    have S := Sep.start0 fr
    refine ⟨_, (pss_cons (ps_set (i := 3) nd rfl (.inl rfl) (pe_call G_all_ways (hr.mono (by decide)) (by rfl) T.g_all_ways T.F_all_ways.kp T.b_all_ways .nil pass0 (pa_cons (pv 0) (pa_cons (pv 1) pa_nil))))
      (pss_cons (ps_set (i := 4) nd rfl (.inl rfl) (pe_callB (id := "sum") (cr_sumV rfl) (by rfl) T.n_sum (by decide +kernel) (pa_cons (pe_dvals (pe_dget (u1 hr) (pv 3) (pe_tup pa_nil) (fun _ _ => rfl))) pa_nil)))
      (pss_cons (ps_set (i := 5) nd rfl (.inl rfl) (pe_frz (pe_disp1 (u1 hr) (pe_tupRg rfl (by rfl) T.n_tuple (prg_1 (by rfl) T.n_range (pe_ix ix_tup (pv 0) pe_int (fun _ _ => rfl)))) pe_int)))
      (pss_cons (ps_set (i := 6) nd rfl (.inl rfl) pe_int)
      (pss_cons (ps_for PassesOwn.never rfl (pi_range1 (by rfl) T.n_range (pa_cons (pv 2) pa_nil)) (pg_name (i := 7) nd rfl (.inl rfl)) (pss_cons (ps_set (i := 5) nd rfl (.inl rfl) (pe_call G_ways_behind (hr.mono (by decide)) (by rfl) T.g_ways_behind T.F_ways_behind.kp T.b_ways_behind .nil pass0 (pa_cons (pv 3) (pa_cons (pv 5) pa_nil))))
      (pss_one (ps_set (i := 6) nd rfl (.inl rfl) (pe_op op_mul (pv 6) (pv 4))))))
      (pss_one (ps_ret (pe_call G_fraction_of (hr.mono (by decide)) (by rfl) T.g_fraction_of T.F_fraction_of.kp T.b_fraction_of .nil pass0 (pa_cons (pe_dget2 (u1 hr) (pv 5) (pe_tup pa_nil) pe_int ⟨rfl, rfl, rfl, rfl⟩) (pa_cons (pv 6) pa_nil)))))))))), ?_⟩
    walk_at "rd"
    refine r_callF S (many, ties, sides) ⟨_, rfl, hv, W, m5, s2, s4⟩ ?_
    rintro v2 N F1 H1 S e1 ⟨rfl, wq, od, ws, rfl, cwq, ao⟩
    walk_at "rd"
    refine r_view ?_
    walk_at "rd"
    refine ⟨Nat.zero_le _, s_new S fun te F2 H2 S e2 c2 => ?_⟩
    obtain ⟨⟨k0, a0⟩, ha0, ek⟩ := List.mem_map.mp (show ([] : List Int) ∈ ws.map (·.1) from by
      rcases ao.must [] List.mem_cons_self with z | z
      · exact z
      · cases z)
    have ek : k0 = [] := ek
    subst ek
    have wat := (ao.ok _ ha0).2
    have wat : WaysAt F1 a0 (wayL many ties [] sides) := wat
    have g := dgetL (f := V.ref) (ws := ws) (k := []) (.inr ⟨_, S.fr _ _ (e2 _ _ cwq)⟩) (S.fr _ _ c2)
    rw [dict_at ao.nd ha0] at g
    refine ⟨wq, _, rfl, g, ?_⟩
    walk_at "rd"
    refine s_view S ((wat.ex e2).rd S) fun vp F3 H3 S e3 cv => ?_
    walk_at "rd"
    refine s_sumV (S.fr _ _ cv) ((wat.ex (e2.trans e3)).rd S) (ways_vals _) ?_
    have tot : ((wayL many ties [] sides).map (·.2)).sum = sides ^ many.toNat := way_total W (by omega) (HereOk.sub (List.nil_sublist _))
    rw [tot]
    generalize htt : sides ^ many.toNat = tt at *
    walk_at "rd"
    refine r_disp1 fun dq hdq => ?_
    have S := S.newM hdq (.dT [])
    generalize upd H3 dq (.dT []) = H4 at *
    refine r_tupRg ?_
    walk_at "rd"
    refine ⟨⟨by omega, by omega, by omega, by omega, by omega⟩, ?_⟩
    rw [rgV_eq]
    refine s_new S fun t0 F5 H5 S e5 c5 => ?_
    walk_at "rd"
    refine s_put1 S 0 rfl c5 fun H6 S => ?_
    refine s_frz S 0 rfl trivial fun odc F6 H7 S e6 cd => ?_
    walk_at "rd"
    refine ⟨rounds, rfl, by omega, by omega, ?_⟩
    refine s_forR (fun i σ' F' M' => ∃ (dq : Addr) (x7 : Option V), σ' = [some (.ref wa), some (.int sides), some (.int rounds), some (.ref wq), some (.int tt), some (.ref dq), some (.int (tt ^ i)), x7] ∧ M' = [] ∧ WaysAt F' dq (cntsW many ties sides i)) S ⟨dq, none, by rw [Int.pow_zero]; rfl, rfl, odc, cd⟩ ?_ ?_
    · rintro i σ' F7 H8 M' hi S e7 ⟨dq, x7, rfl, rfl, wd⟩
      have E7 := e2.trans (e3.trans (e5.trans (e6.trans e7)))
      walk_at "rd"
      refine r_callF S (many, ties, sides, ws, cntsW many ties sides i) ⟨wq, od, dq, [[], rgI many], rfl, E7 _ _ cwq, ao.ex E7, wd, cnts_sub ao (by simp) i, W, m5, s2, s4⟩ ?_
      rintro v N F8 H9 S e8 ⟨rfl, nq, rfl, wn⟩
      walk_at "rd"
      exact ⟨_, _, S, e7.trans e8, nq, _, by rw [Int.pow_succ]; rfl, rfl, wn⟩
    · rintro σ' F7 H8 M' S e7 ⟨dq, x7, rfl, rfl, wd⟩
      walk_at "rd"
      have E7 := e2.trans (e3.trans (e5.trans (e6.trans e7)))
      obtain ⟨pp, pb⟩ := pow600 tle.1 tle.2 rounds.toNat (by omega)
      refine r_dget2 ?_
      walk_at "rd"
      refine ⟨dq, rfl, .inr ⟨_, wd.rd S⟩, ?_⟩
      walk_at "rd"
      refine ⟨Nat.zero_le _, s_new S fun te2 F8 H9 S e8 c8 => ?_⟩
      walk_at "rd"
      refine ⟨_, dgetL (k := []) ((wd.ex e8).rd S) (S.fr _ _ c8), ?_⟩
      rw [ways_get, (cnts_ok many ties sides rounds.toNat).2.2]
      walk_at "rd"
      refine r_callF S (prU many ties sides rounds.toNat [], tt ^ rounds.toNat) ⟨rfl, pp, Nat.lt_of_lt_of_le pb (Nat.pow_le_pow_right (by decide) (by decide))⟩ ?_
      rintro v N F9 H10 S e9 ⟨rfl, d9⟩
      refine k _ [] _ _ S ⟨rfl, ?_⟩
      rw [htt]
      exact d9

end

end
section
local macro_rules | `(tactic| walk_at "ex") => `(tactic| first | exact Evl.Ex.refl _ | assumption | ((refine' Evl.Ex.trans ?x ?y); (case y => assumption); (case x => walk_at "ex")))
local macro_rules | `(tactic| walk_at "hc") => `(tactic| first
  | assumption
  | ((refine' Sep.rdM ?S 0 ?k); (case S => assumption); (case k => exact rfl)) | ((refine' Sep.rdM ?S 1 ?k); (case S => assumption); (case k => exact rfl)) | ((refine' Sep.rdM ?S 2 ?k); (case S => assumption); (case k => exact rfl)) | ((refine' Sep.rdM ?S 3 ?k); (case S => assumption); (case k => exact rfl)) | ((refine' Sep.rdM ?S 4 ?k); (case S => assumption); (case k => exact rfl))
  | ((refine' Sep.rdC ?S ?e ?h); (case S => assumption); (case h => assumption); (case e => walk_at "ex")))
local macro_rules | `(tactic| walk_at "hl") => `(tactic| first
  | assumption
  | ((refine' SqL.of (Sep.rdM ?S 0 ?k)); (case S => assumption); (case k => exact rfl)) | ((refine' SqL.of (Sep.rdM ?S 1 ?k)); (case S => assumption); (case k => exact rfl)) | ((refine' SqL.of (Sep.rdM ?S 2 ?k)); (case S => assumption); (case k => exact rfl)) | ((refine' SqL.of (Sep.rdM ?S 3 ?k)); (case S => assumption); (case k => exact rfl)) | ((refine' SqL.of (Sep.rdM ?S 4 ?k)); (case S => assumption); (case k => exact rfl))
  | ((refine' Sep.rdL ?S ?e ?h); (case S => assumption); (case h => assumption); (case e => walk_at "ex"))
  | ((refine' Sep.rdT ?S ?e ?h); (case S => assumption); (case h => assumption); (case e => walk_at "ex"))
  | ((refine' SqL.of (Sep.rdC ?S ?e ?h)); (case S => assumption); (case h => assumption); (case e => walk_at "ex"))
  | ((refine' SqT.of (Sep.rdC ?S ?e ?h)); (case S => assumption); (case h => assumption); (case e => walk_at "ex"))
  | ((refine' SqL.of ?h); (case h => assumption)) | ((refine' SqT.of ?h); (case h => assumption))
  | ((refine' Evl.ex_l ?e ?h); (case h => assumption); (case e => walk_at "ex")) | ((refine' Evl.ex_t ?e ?h); (case h => assumption); (case e => walk_at "ex"))
  | ((refine' SqL.of (?e _ _ ?h)); (case h => assumption); (case e => walk_at "ex")) | ((refine' SqT.of (?e _ _ ?h)); (case h => assumption); (case e => walk_at "ex")))
local macro_rules | `(tactic| walk_at "hs") => `(tactic| walk_at "hc")
local macro_rules | `(tactic| walk_at "dp") => `(tactic| first
  | assumption
  | ((refine' Sep.rdD ?S ?e ?h); (case S => assumption); (case h => assumption); (case e => walk_at "ex"))
  | ((refine' Dp.ex ?e _ _ ?h); (case h => assumption); (case e => walk_at "ex"))
  | ((refine' DpAll.ex ?e _ _ ?h); (case h => assumption); (case e => walk_at "ex"))
  | (refine' dp_intsD ?h; (case h => walk_at "hl")))
local macro_rules | `(tactic| walk_at "rd1") => `(tactic| (first
  | (with_reducible refine r_seq ?_)
  | (with_reducible refine r_asg ?_)
  | (with_reducible refine r_asgG ?_)
  | (with_reducible refine r_par ?_)
  | (with_reducible refine r_if ?_)
  | (with_reducible refine r_ret ?_)
  | (with_reducible refine r_drop ?_)
  | (with_reducible refine r_next ?_)
  | ((with_reducible refine' r_var ?hx ?_); (case hx => exact rfl))
  | (with_reducible refine r_c ?_)
  | (with_reducible refine r_op ?_)
  | (with_reducible refine r_un ?_)
  | (with_reducible refine r_I0 ?_)
  | ((with_reducible refine' r_I ?_ ?_); (· first | (show (0 : Int) < _; omega) | exact Or.inr ⟨by omega, by omega⟩ | exact Or.inl ⟨by omega, by omega⟩ | exact ⟨by omega, by omega, by decide⟩))
  | (with_reducible refine r_U ?_)
  | (with_reducible refine r_test ?_)
  | (with_reducible refine r_B ?_)
  | (with_reducible refine r_bl ?_)
  | (with_reducible refine r_eqI ?_)
  | (with_reducible refine r_neI ?_)
  | ((with_reducible refine' r_eq ?_ ?_); (· exact rfl))
  | ((with_reducible refine' r_ne ?_ ?_); (· exact rfl))
  | (with_reducible refine r_nil ?_)
  | (with_reducible refine r_cons ?_)
  | (with_reducible refine s_tup ?_)
  | (with_reducible refine s_lst ?_)
  | (with_reducible refine r_call ?_)
  | (with_reducible refine r_cb ?_)
  | (with_reducible refine r_and ?_)
  | (with_reducible refine r_or ?_)
  | (with_reducible refine r_not ?_)
  | (with_reducible refine r_andV ?_)
  | (with_reducible refine r_orV ?_)
  | (with_reducible refine r_notV ?_)
  | (with_reducible refine r_ifE ?_)
  | (with_reducible refine r_gSub ?_)
  | (with_reducible refine r_sadd ?_)
  | (with_reducible refine s_lstRg ?_)
  | (with_reducible refine r_rg1 ?_)
  | (with_reducible refine r_min2 ?_)
  | (with_reducible refine r_par2 ?_)
  | (with_reducible refine r_partI ?_)
  | (with_reducible refine s_lc ?_)
  | (with_reducible refine s_dc ?_)
  | (with_reducible refine r_yes ?_)
  | (with_reducible refine r_iZipA ?_)
  | (with_reducible refine r_isN ?_)
  | (with_reducible refine r_for ?_)
  | (with_reducible refine r_iList ?_)
  | (with_reducible refine r_iTup ?_)
  | (with_reducible refine r_iRng1 ?_)
  | (with_reducible refine r_iRng2 ?_)
  | (with_reducible refine r_iEnum ?_)
  | (with_reducible refine r_iZip ?_)
  | (with_reducible refine r_gName ?_)
  | (with_reducible refine r_isNV ?_)
  | (with_reducible refine r_notNV ?_)
  | (with_reducible refine r_bm ?_)
  | (with_reducible refine r_bm0 ?_)
  | (with_reducible refine r_sl ?_)
  | (with_reducible refine r_noPart ?_)
  | (with_reducible refine r_part ?_)
  | (with_reducible refine r_chain ?_)
  | (with_reducible refine r_iKeys ?_)
  | (with_reducible refine r_iItems ?_)
  | (with_reducible refine r_frz ?_)
  | (with_reducible refine r_dput ?_)
  | (with_reducible refine r_dget ?_)
  | (with_reducible refine r_din ?_)
  | (with_reducible refine r_dnotin ?_)
  | (with_reducible refine r_break ?_)
  | ((with_reducible refine' r_sIn ?h ?_); (case h => walk_at "hs"))
  | ((with_reducible refine' r_sNotIn ?h ?_); (case h => walk_at "hs"))
  | ((with_reducible refine' r_inI ?h ?_); (case h => walk_at "hl"))
  | ((with_reducible refine' r_notInI ?h ?_); (case h => walk_at "hl"))
  | ((with_reducible refine' r_eqNil ?h ?g ?_); (case h => walk_at "hl"); (case g => walk_at "hl"))
  | ((with_reducible refine' r_neNil ?h ?g ?_); (case h => walk_at "hl"); (case g => walk_at "hl"))
  | ((with_reducible refine' iteRT ?hh ?_); (case hh => exact rfl))
  | ((with_reducible refine' iteRF ?hh ?_); (case hh => exact rfl))
  | ((with_reducible refine' r_isiT ?ty ?hk ?_); (case ty => (first | assumption | exact tyx_L (by assumption) | exact tyx_T (by assumption) | exact .base (.non) | exact .base (.bl _) | exact .base (.int _) | exact .base (.str _) | exact tyx_L (by walk_at "hl") | exact tyx_T (by walk_at "hl"))); (case hk => decide +kernel))
  | ((with_reducible refine' r_isiF ?ty ?hk ?_); (case ty => (first | assumption | exact tyx_L (by assumption) | exact tyx_T (by assumption) | exact .base (.non) | exact .base (.bl _) | exact .base (.int _) | exact .base (.str _) | exact tyx_L (by walk_at "hl") | exact tyx_T (by walk_at "hl"))); (case hk => decide +kernel))
  | ((with_reducible refine' r_gTup2 ?hn ?hs ?_); (case hn => exact rfl); (case hs => walk_at "hl"))
  | ((with_reducible refine' s_list ?hl ?_); (case hl => first | exact Or.inl (by walk_at "hl") | exact Or.inr (by walk_at "hl")))
  | ((with_reducible refine' s_tupN ?hl ?_); (case hl => walk_at "hl"))
  | ((with_reducible refine' s_sortN ?hl ?_); (case hl => walk_at "hl"))
  | ((refine' ⟨_, _, rfl, ?hl, ?_⟩); (case hl => first | exact Or.inl (by walk_at "hl") | exact Or.inr (by walk_at "hl")))
  | ((with_reducible refine' r_ixL ?hl ?ha ?_); (case hl => walk_at "hl"); (case ha => first | exact rfl | assumption))
  | ((with_reducible refine' r_ixT ?hl ?ha ?_); (case hl => walk_at "hl"); (case ha => first | exact rfl | assumption))))
local macro_rules | `(tactic| walk_at "rd") => `(tactic| repeat (walk_at "rd1"))

section
variable {P : Program} {w : World} {K : PySem.W.Frag} {mg : Str → Option Value} {base : Heap}

def tupI (s : List Int) : PyData := .tuple (s.map PyData.int)
theorem TupL.dp {K : PySem.W.Frag} {F : Hp} {cs : List Addr} {ts : List (List Int)} (h : TupL F cs ts) : DpAll K F (cs.map V.ref) (ts.map tupI) := by
  induction h with
  | nil => exact .nil
  | cons h r ih => exact .cons (.tup (SqT.of h) (dpAll_ints _)) ih
theorem canAll_ints : ∀ s : List Int, PyData.canLayAll0 (s.map PyData.int) = true
  | [] => rfl
  | x :: r => by simp [PyData.canLayAll0, PyData.canLay0, canAll_ints r]
theorem dep_ints : ∀ s : List Int, PyData.depthAll (s.map PyData.int) ≤ 1
  | [] => by simp [PyData.depthAll]
  | x :: r => by
    have := dep_ints r
    simp [PyData.depthAll, PyData.depth]
    omega
theorem shaped_tups (ts : List (List Int)) : SeqAt.shaped (.list (ts.map tupI)) = true := by
  have h1 : PyData.canLayAll0 (ts.map tupI) = true := by
    induction ts with
    | nil => rfl
    | cons x r ih => simp [PyData.canLayAll0, PyData.canLay0, tupI, canAll_ints x, ih]
  have h2 : PyData.depthAll (ts.map tupI) ≤ 2 := by
    induction ts with
    | nil => simp [PyData.depthAll]
    | cons x r ih =>
      have := ih (by rw [List.map_cons, PyData.canLayAll0, Bool.and_eq_true] at h1; exact h1.2)
      have := dep_ints x
      simp [PyData.depthAll, PyData.depth, tupI]
      omega
  unfold SeqAt.shaped
  rw [Bool.and_eq_true]
  refine ⟨by rw [PyData.canLay0]; exact h1, decide_eq_true ?_⟩
  rw [PyData.depth]
  omega
theorem eqv_nilT (ts : List (List Int)) : PyData.eqv (.list (ts.map tupI)) (.list []) = ts.isEmpty := by
  cases ts with
  | nil => rfl
  | cons x r => simp [PyData.eqv, PyData.eqvAll]
theorem r_neTups {K : PySem.W.Frag} {H : Hp} {Q : VK} {p q : Addr} {cs : List Addr} {ts : List (List Int)} (h : SqL K H p (cs.map V.ref)) (tk : TupL H cs ts) (g : SqL K H q []) (z : Q (.bl (!ts.isEmpty)) H) : rNeD K (.ref p) (.ref q) H Q :=
  ⟨.list (ts.map tupI), .list [], .lst h tk.dp, .lst g .nil, shaped_tups ts, shaped_tups [], by rw [eqv_nilT]; exact z⟩
theorem mov_keys {many : Int} {ties : List (Int × Int)} {here : List Int} {sides : Int} (HO : HereOk many here) : ∀ q ∈ movL ties here sides, HereOk many q.1 := fun q hq => by
  unfold movL at hq
  have := ((tally_spec ((drawsK (here.length : Int) sides).map fun r => (leftG ties here (gRow here r), (1 : Int)))).2.2.2 q.1).mp (List.mem_map_of_mem hq)
  rw [List.map_map] at this
  obtain ⟨r, _, er⟩ := List.mem_map.mp this
  rw [← er]
  exact behind_ok HO
theorem mov_few {ties : List (Int × Int)} {here : List Int} {sides : Int} (s4 : sides ≤ 4) (hl : here.length ≤ 5) : (movL ties here sides).length ≤ 1024 := by
  have h1 := tally_len ((drawsK (here.length : Int) sides).map fun r => (leftG ties here (gRow here r), (1 : Int)))
  have h2 := drawsK_len (many := (here.length : Int)) s4 (by omega)
  rw [List.length_map] at h1
  unfold movL
  omega
def B_lam : (Int × List (Int × Int) × Int) → V → List (Addr × Cel) → Hp → Prop := fun | (many, ties, sides), v, N, F => N = [] ∧ ∃ q od ws, v = .ref q ∧ F q = some (.frz od (.dT (dictK V.ref ws))) ∧ AllOk F many (fun s => movL ties s sides) [rgI many] ws []
theorem ok_l_all_moves (T : Env K mg) : FnOk P w K mg base CX0 3 T.a__law_all_moves T.fd__law_all_moves ["web", "sides"] (SpF (A_aw K) B_lam) := by
  have nd := sc__law_all_moves.nd
  have G__law_moves : FnOk P w K mg base CX0 2 T.a__law_moves T.fd__law_moves ["web", "sides", "houses"] (SpF (A_lmv K) B_lmv) := ok_l_moves T
  refine T.F__law_all_moves.ok sc__law_all_moves (fun vs H Q E h => ?_) (fun cdv A outer s H vs Q E hr h => ?_)
  · obtain ⟨⟨_, _, _⟩, F, _, ⟨v, rfl, _⟩, _⟩ := h
    rfl
  · obtain ⟨⟨many, ties, sides⟩, F, fr, ⟨v, rfl, hv, W, m5, s2, s4⟩, k⟩ := h
    have m1 := W.lo
    obtain ⟨wa, wb, ws0, rfl, z1, z2, z3⟩ := webD_at hv
    have S := Sep.start0 fr
    refine ⟨_, (pss_cons (ps_set (i := 2) nd rfl (.inl rfl) (pe_tupRg rfl (by rfl) T.n_tuple (prg_1 (by rfl) T.n_range (pe_ix ix_tup (pv 0) pe_int (fun _ _ => rfl)))))
      (pss_cons (ps_set (i := 3) nd rfl (.inl rfl) pe_dnewT)
      (pss_cons (ps_set (i := 4) nd rfl (.inl rfl) (pe_lst (pa_cons (pv 2) pa_nil)))
      (pss_cons (ps_while PassesOwn.never (pt_cmpR (op_neD hr.units) (pv 4) (pe_lst pa_nil) (nomark _)) (pss_cons (ps_set (i := 5) nd rfl (.inl rfl) (pe_bm0 PySem.F.plainAttrs_list PySem.F.slot_list_pop PySem.F.type_list_pop mt_pop (pv 4)))
      (pss_one (ps_if (pt_cmp (pc_dnotin (u1 hr) (pv 5) (pv 3))) (pss_cons (ps_dput (u1 hr) (pv 3) (pv 5) (pe_call G__law_moves (hr.mono (by decide)) (by rfl) T.g__law_moves T.F__law_moves.kp T.b__law_moves .nil pass0 (pa_cons (pv 0) (pa_cons (pv 1) (pa_cons (pv 5) pa_nil)))) rfl)
      (pss_one (ps_expr (pe_bm PySem.F.plainAttrs_list PySem.F.slot_list_extend PySem.F.type_list_extend mt_extend (pv 4) (pa_cons (pe_callTy (cr_listK rfl) (by rfl) T.n_list (by decide +kernel) (pa_cons (pe_dkeys (pe_dget (u1 hr) (pv 3) (pv 5) (fun _ _ => rfl))) pa_nil)) pa_nil))))) pss_nil))))
      (pss_one (ps_ret (pe_frz (pv 3)))))))), ?_⟩
    walk_at "rd"
    refine r_tupRg ?_
    walk_at "rd"
    refine ⟨⟨by omega, by omega, by omega, by omega, by omega⟩, ?_⟩
    rw [rgV_eq]
    refine s_new S fun t1 F3 H3 S e3 c3 => ?_
    walk_at "rd"
    refine s_dnewT S fun wd H4 S => ?_
    walk_at "rd"
    refine ⟨(by show 1 ≤ sizeLine; decide), s_own S fun lq H4 S => ?_⟩
    walk_at "rd"
    have start : AllOk F3 many (fun s => movL ties s sides) [rgI many] [] [rgI many] := ⟨List.nodup_nil, fun p hp => (by cases hp), fun s hs => by
      rw [List.mem_singleton.mp hs]; exact HereOk.sub (List.Sublist.refl _), fun p hp => (by cases hp), fun s hs => .inr hs⟩
    refine s_while (fun m σ' F' M' => ∃ (x5 : Option V) (ws : List (List Int × Addr)) (cs : List Addr) (wt : List (List Int)), σ' = [some (.ref wa), some (.int sides), some (.ref t1), some (.ref wd), some (.ref lq), x5] ∧ M' = [(lq, .is (.lst (cs.map V.ref))), (wd, .is (.dT (dictK V.ref ws)))] ∧ TupL F' cs wt ∧ AllOk F' many (fun s => movL ties s sides) [rgI many] ws wt ∧ m = (32 - ws.length) * 2000 + wt.length ∧ m ≤ 64100) S 64001 ⟨none, [], [t1], _, rfl, rfl, .cons c3 .nil, start, rfl, by decide⟩ ?_
    rintro m σ' F4 H5 M' S e4 ⟨x5, ws, cs, wt, rfl, rfl, tk, ao, em, mle⟩
    have tl := tk.len
    have wl := ao.len m5
    walk_at "rd"
    refine ⟨Nat.zero_le _, s_new S fun nq F5 H6 S e5 c5 => ?_⟩
    refine r_neTups (SqL.of (S.rdM 0 rfl)) ((tk.ex e5).ex S.fr) (SqL.of (S.fr _ _ c5)) ?_
    have tk := tk.ex e5
    have ao := ao.ex e5
    have e4 := e4.trans e5
    walk_at "rd"
    rcases List.eq_nil_or_concat cs with ec | ⟨cr, c0, ec⟩
    · subst ec
      cases tk
      rw [show (!([] : List (List Int)).isEmpty) = false from rfl, if_neg (by decide)]
      walk_at "rd"
      refine s_frz S 1 rfl trivial fun od F6 H7 S e6 cd => ?_
      exact k _ [] _ _ (S.drop 0) ⟨rfl, wd, od, ws, rfl, cd, ao.ex e6⟩
    · rw [List.concat_eq_append] at ec
      subst ec
      obtain ⟨wr, here, ewt, tr, ch⟩ := TupL.last tk
      subst ewt
      rw [show (!(wr ++ [here]).isEmpty) = true by simp, if_pos rfl]
      refine ⟨fun σ' H' => ∃ m', m' < m ∧ LI [] H F F3 (fun m σ' F' M' => ∃ (x5 : Option V) (ws : List (List Int × Addr)) (cs : List Addr) (wt : List (List Int)), σ' = [some (.ref wa), some (.int sides), some (.ref t1), some (.ref wd), some (.ref lq), x5] ∧ M' = [(lq, .is (.lst (cs.map V.ref))), (wd, .is (.dT (dictK V.ref ws)))] ∧ TupL F' cs wt ∧ AllOk F' many (fun s => movL ties s sides) [rgI many] ws wt ∧ m = (32 - ws.length) * 2000 + wt.length ∧ m ≤ 64100) m' σ' H', fun _ _ z => z, ?_⟩
      have HO := ao.wok here (by simp)
      have hlen := HO.len
      simp only [List.length_append, List.length_singleton] at tl em
      walk_at "rd"
      refine ⟨tyL (SqL.of (S.rdM 0 rfl)), lq, _, .ref c0, rfl, rfl, S.rdM 0 rfl, by simp, ?_⟩
      have S := S.put 0 rfl (.lst ((cr ++ [c0]).map V.ref).dropLast)
      rw [show ((cr ++ [c0]).map V.ref).dropLast = cr.map V.ref by simp] at S ⊢
      generalize upd H6 lq (.lst (cr.map V.ref)) = H7 at *
      walk_at "rd"
      refine ⟨wd, _, rfl, dgetL (.inl (S.rdM 1 rfl)) (S.fr _ _ ch), ?_⟩
      rw [dictV_find]
      walk_at "rd"
      cases dn : decide (here ∈ ws.map (·.1)) with
      | true =>
        have hin := of_decide_eq_true dn
        walk_at "rd"
        exact ⟨_, by omega, _, _, S, e4, _, ws, cr, wr, rfl, rfl, tr, ao.seen hin, rfl, by omega⟩
      | false =>
        have hnot := of_decide_eq_false dn
        walk_at "rd"
        refine r_callF S (many, ties, here, sides) ⟨_, c0, rfl, Dp.ex (e3.trans e4) _ _ hv, W, m5, s2, s4, ch, HO⟩ ?_
        rintro v N F6 H7 S e6 ⟨rfl, wq, rfl, wat⟩
        have ch6 := e6 _ _ ch
        walk_at "rd"
        refine s_dputL S 1 rfl ch6 (by rw [dictK_len]; omega) fun H8 S => ?_
        rw [dictK_put, putA_new hnot] at S
        walk_at "rd"
        refine ⟨tyL (SqL.of (S.rdM 0 rfl)), ?_⟩
        walk_at "rd"
        refine r_view ?_
        walk_at "rd"
        have g := dgetL (f := V.ref) (ws := ws ++ [(here, wq)]) (.inl (S.rdM 1 rfl)) (S.fr _ _ ch6)
        rw [dictK_val, find_new hnot] at g
        refine ⟨wd, _, rfl, g, ?_⟩
        walk_at "rd"
        refine s_view S (wat.rd S) fun vq F8 H8 S e8 cv => ?_
        walk_at "rd"
        refine s_listK S (S.fr _ _ cv) ((wat.ex e8).rd S) fun kq bs F9 H9 S e9 keys => ?_
        have e9 := e8.trans e9
        obtain ⟨F10, S, e10, c10⟩ := S.frz 0 rfl
        have tb := (keys.ex e10).tupL
        have few := mov_few (ties := ties) (here := here) (sides := sides) s4 (by omega)
        have bl := tb.len
        rw [List.length_map] at bl
        have ao2 := ao.fresh (F' := F10) (a := wq) hnot (e6.trans (e9.trans e10)) (wat.ex (e9.trans e10)) (mov_keys HO)
        have wl2 := ao2.len m5
        rw [List.length_append, List.length_singleton] at wl2
        walk_at "rd"
        refine s_ext S 0 rfl (S.fr _ _ c10) (by rw [List.length_map, List.length_map]; omega) fun H11 S => ?_
        refine ⟨_, ?_, _, _, S, e4.trans (e6.trans (e9.trans e10)), _, ws ++ [(here, wq)], cr ++ bs, wr ++ (movL ties here sides).map (·.1), rfl, by rw [show (cr ++ bs).map V.ref = cr.map V.ref ++ bs.map V.ref from List.map_append]; rfl, (tr.ex (e6.trans (e9.trans e10))).app tb, ao2, rfl, ?_⟩
        · rw [List.length_append, List.length_append, List.length_singleton, List.length_map]
          omega
        · rw [List.length_append, List.length_append, List.length_singleton, List.length_map]
          omega

end

end
section
local macro_rules | `(tactic| walk_at "ex") => `(tactic| first | exact Evl.Ex.refl _ | assumption | ((refine' Evl.Ex.trans ?x ?y); (case y => assumption); (case x => walk_at "ex")))
local macro_rules | `(tactic| walk_at "hc") => `(tactic| first
  | assumption
  | ((refine' Sep.rdM ?S 0 ?k); (case S => assumption); (case k => exact rfl)) | ((refine' Sep.rdM ?S 1 ?k); (case S => assumption); (case k => exact rfl)) | ((refine' Sep.rdM ?S 2 ?k); (case S => assumption); (case k => exact rfl)) | ((refine' Sep.rdM ?S 3 ?k); (case S => assumption); (case k => exact rfl)) | ((refine' Sep.rdM ?S 4 ?k); (case S => assumption); (case k => exact rfl))
  | ((refine' Sep.rdC ?S ?e ?h); (case S => assumption); (case h => assumption); (case e => walk_at "ex")))
local macro_rules | `(tactic| walk_at "hl") => `(tactic| first
  | assumption
  | ((refine' SqL.of (Sep.rdM ?S 0 ?k)); (case S => assumption); (case k => exact rfl)) | ((refine' SqL.of (Sep.rdM ?S 1 ?k)); (case S => assumption); (case k => exact rfl)) | ((refine' SqL.of (Sep.rdM ?S 2 ?k)); (case S => assumption); (case k => exact rfl)) | ((refine' SqL.of (Sep.rdM ?S 3 ?k)); (case S => assumption); (case k => exact rfl)) | ((refine' SqL.of (Sep.rdM ?S 4 ?k)); (case S => assumption); (case k => exact rfl))
  | ((refine' Sep.rdL ?S ?e ?h); (case S => assumption); (case h => assumption); (case e => walk_at "ex"))
  | ((refine' Sep.rdT ?S ?e ?h); (case S => assumption); (case h => assumption); (case e => walk_at "ex"))
  | ((refine' SqL.of (Sep.rdC ?S ?e ?h)); (case S => assumption); (case h => assumption); (case e => walk_at "ex"))
  | ((refine' SqT.of (Sep.rdC ?S ?e ?h)); (case S => assumption); (case h => assumption); (case e => walk_at "ex"))
  | ((refine' SqL.of ?h); (case h => assumption)) | ((refine' SqT.of ?h); (case h => assumption))
  | ((refine' Evl.ex_l ?e ?h); (case h => assumption); (case e => walk_at "ex")) | ((refine' Evl.ex_t ?e ?h); (case h => assumption); (case e => walk_at "ex"))
  | ((refine' SqL.of (?e _ _ ?h)); (case h => assumption); (case e => walk_at "ex")) | ((refine' SqT.of (?e _ _ ?h)); (case h => assumption); (case e => walk_at "ex")))
local macro_rules | `(tactic| walk_at "hs") => `(tactic| walk_at "hc")
local macro_rules | `(tactic| walk_at "dp") => `(tactic| first
  | assumption
  | ((refine' Sep.rdD ?S ?e ?h); (case S => assumption); (case h => assumption); (case e => walk_at "ex"))
  | ((refine' Dp.ex ?e _ _ ?h); (case h => assumption); (case e => walk_at "ex"))
  | ((refine' DpAll.ex ?e _ _ ?h); (case h => assumption); (case e => walk_at "ex"))
  | (refine' dp_intsD ?h; (case h => walk_at "hl")))
local macro_rules | `(tactic| walk_at "rd1") => `(tactic| (first
  | (with_reducible refine r_seq ?_)
  | (with_reducible refine r_asg ?_)
  | (with_reducible refine r_asgG ?_)
  | (with_reducible refine r_par ?_)
  | (with_reducible refine r_if ?_)
  | (with_reducible refine r_ret ?_)
  | (with_reducible refine r_drop ?_)
  | (with_reducible refine r_next ?_)
  | ((with_reducible refine' r_var ?hx ?_); (case hx => exact rfl))
  | (with_reducible refine r_c ?_)
  | (with_reducible refine r_op ?_)
  | (with_reducible refine r_un ?_)
  | (with_reducible refine r_I0 ?_)
  | ((with_reducible refine' r_I ?_ ?_); (· first | (show (0 : Int) < _; omega) | exact Or.inr ⟨by omega, by omega⟩ | exact Or.inl ⟨by omega, by omega⟩ | exact ⟨by omega, by omega, by decide⟩))
  | (with_reducible refine r_U ?_)
  | (with_reducible refine r_test ?_)
  | (with_reducible refine r_B ?_)
  | (with_reducible refine r_bl ?_)
  | (with_reducible refine r_eqI ?_)
  | (with_reducible refine r_neI ?_)
  | ((with_reducible refine' r_eq ?_ ?_); (· exact rfl))
  | ((with_reducible refine' r_ne ?_ ?_); (· exact rfl))
  | (with_reducible refine r_nil ?_)
  | (with_reducible refine r_cons ?_)
  | (with_reducible refine s_tup ?_)
  | (with_reducible refine s_lst ?_)
  | (with_reducible refine r_call ?_)
  | (with_reducible refine r_cb ?_)
  | (with_reducible refine r_and ?_)
  | (with_reducible refine r_or ?_)
  | (with_reducible refine r_not ?_)
  | (with_reducible refine r_andV ?_)
  | (with_reducible refine r_orV ?_)
  | (with_reducible refine r_notV ?_)
  | (with_reducible refine r_ifE ?_)
  | (with_reducible refine r_gSub ?_)
  | (with_reducible refine r_sadd ?_)
  | (with_reducible refine s_lstRg ?_)
  | (with_reducible refine r_rg1 ?_)
  | (with_reducible refine r_min2 ?_)
  | (with_reducible refine r_par2 ?_)
  | (with_reducible refine r_partI ?_)
  | (with_reducible refine s_lc ?_)
  | (with_reducible refine s_dc ?_)
  | (with_reducible refine r_yes ?_)
  | (with_reducible refine r_iZipA ?_)
  | (with_reducible refine r_isN ?_)
  | (with_reducible refine r_for ?_)
  | (with_reducible refine r_iList ?_)
  | (with_reducible refine r_iTup ?_)
  | (with_reducible refine r_iRng1 ?_)
  | (with_reducible refine r_iRng2 ?_)
  | (with_reducible refine r_iEnum ?_)
  | (with_reducible refine r_iZip ?_)
  | (with_reducible refine r_gName ?_)
  | (with_reducible refine r_isNV ?_)
  | (with_reducible refine r_notNV ?_)
  | (with_reducible refine r_bm ?_)
  | (with_reducible refine r_bm0 ?_)
  | (with_reducible refine r_sl ?_)
  | (with_reducible refine r_noPart ?_)
  | (with_reducible refine r_part ?_)
  | (with_reducible refine r_chain ?_)
  | (with_reducible refine r_iKeys ?_)
  | (with_reducible refine r_iItems ?_)
  | (with_reducible refine r_frz ?_)
  | (with_reducible refine r_dput ?_)
  | (with_reducible refine r_dget ?_)
  | (with_reducible refine r_din ?_)
  | (with_reducible refine r_dnotin ?_)
  | (with_reducible refine r_break ?_)
  | ((with_reducible refine' r_sIn ?h ?_); (case h => walk_at "hs"))
  | ((with_reducible refine' r_sNotIn ?h ?_); (case h => walk_at "hs"))
  | ((with_reducible refine' r_inI ?h ?_); (case h => walk_at "hl"))
  | ((with_reducible refine' r_notInI ?h ?_); (case h => walk_at "hl"))
  | ((with_reducible refine' r_eqNil ?h ?g ?_); (case h => walk_at "hl"); (case g => walk_at "hl"))
  | ((with_reducible refine' r_neNil ?h ?g ?_); (case h => walk_at "hl"); (case g => walk_at "hl"))
  | ((with_reducible refine' iteRT ?hh ?_); (case hh => exact rfl))
  | ((with_reducible refine' iteRF ?hh ?_); (case hh => exact rfl))
  | ((with_reducible refine' r_isiT ?ty ?hk ?_); (case ty => (first | assumption | exact tyx_L (by assumption) | exact tyx_T (by assumption) | exact .base (.non) | exact .base (.bl _) | exact .base (.int _) | exact .base (.str _) | exact tyx_L (by walk_at "hl") | exact tyx_T (by walk_at "hl"))); (case hk => decide +kernel))
  | ((with_reducible refine' r_isiF ?ty ?hk ?_); (case ty => (first | assumption | exact tyx_L (by assumption) | exact tyx_T (by assumption) | exact .base (.non) | exact .base (.bl _) | exact .base (.int _) | exact .base (.str _) | exact tyx_L (by walk_at "hl") | exact tyx_T (by walk_at "hl"))); (case hk => decide +kernel))
  | ((with_reducible refine' r_gTup2 ?hn ?hs ?_); (case hn => exact rfl); (case hs => walk_at "hl"))
  | ((with_reducible refine' s_list ?hl ?_); (case hl => first | exact Or.inl (by walk_at "hl") | exact Or.inr (by walk_at "hl")))
  | ((with_reducible refine' s_tupN ?hl ?_); (case hl => walk_at "hl"))
  | ((with_reducible refine' s_sortN ?hl ?_); (case hl => walk_at "hl"))
  | ((refine' ⟨_, _, rfl, ?hl, ?_⟩); (case hl => first | exact Or.inl (by walk_at "hl") | exact Or.inr (by walk_at "hl")))
  | ((with_reducible refine' r_ixL ?hl ?ha ?_); (case hl => walk_at "hl"); (case ha => first | exact rfl | assumption))
  | ((with_reducible refine' r_ixT ?hl ?ha ?_); (case hl => walk_at "hl"); (case ha => first | exact rfl | assumption))))
local macro_rules | `(tactic| walk_at "rd") => `(tactic| repeat (walk_at "rd1"))

section
variable {P : Program} {w : World} {K : PySem.W.Frag} {mg : Str → Option Value} {base : Heap}

theorem lowF_spec {a b : Int} (hb : 0 < b) : (lowF (a, b)).1 * b = a * (lowF (a, b)).2 ∧ 0 < (lowF (a, b)).2 ∧ (lowF (a, b)).2 ≤ b ∧ (0 ≤ a → 0 ≤ (lowF (a, b)).1 ∧ (lowF (a, b)).1 ≤ a) := by
  have gp : 0 < gOf (a, b) := by
    unfold gOf
    have := Nat.gcd_pos_of_pos_right a.natAbs (show 0 < b.natAbs by omega)
    simp only
    omega
  have da : gOf (a, b) ∣ a := by unfold gOf; exact Int.dvd_natAbs.mp (Int.natCast_dvd_natCast.mpr (Nat.gcd_dvd_left _ _))
  have db : gOf (a, b) ∣ b := by unfold gOf; exact Int.dvd_natAbs.mp (Int.natCast_dvd_natCast.mpr (Nat.gcd_dvd_right _ _))
  unfold lowF
  simp only
  generalize gOf (a, b) = g at *
  obtain ⟨p, rfl⟩ := da
  obtain ⟨q, rfl⟩ := db
  rw [Int.mul_ediv_cancel_left _ (by omega), Int.mul_ediv_cancel_left _ (by omega)]
  have qp : 0 < q := by
    rcases Int.lt_or_le 0 q with z | z
    · exact z
    · have := Int.mul_nonpos_of_nonneg_of_nonpos (Int.le_of_lt gp) z
      omega
  refine ⟨by rw [Int.mul_comm g q, ← Int.mul_assoc, Int.mul_comm (p * q) g, Int.mul_assoc], qp, ?_, fun h => ?_⟩
  · have := Int.mul_le_mul_of_nonneg_right (show 1 ≤ g by omega) (Int.le_of_lt qp)
    omega
  · have pp : 0 ≤ p := by
      rcases Int.lt_or_le p 0 with z | z
      · have := Int.mul_neg_of_pos_of_neg gp z
        omega
      · exact z
    have := Int.mul_le_mul_of_nonneg_right (show 1 ≤ g by omega) pp
    exact ⟨pp, by omega⟩
theorem low_zero {b : Int} (hb : 0 < b) : lowF (0, b) = (0, 1) := by
  have := lowF_eq (a := 0) (b := b) (c := 0) (d := 1) hb (by decide) (by simp)
  rw [this]
  decide
/-- one step of a share -/
theorem low_step {A c D f rows more : Int} (hD : 0 < D) (hr : 0 < rows) (hf : 0 < f) :
    lowF ((lowF (A, D * (f * rows))).1 * ((lowF (c, D)).2 * rows) + (lowF (c, D)).1 * more * (lowF (A, D * (f * rows))).2, (lowF (A, D * (f * rows))).2 * ((lowF (c, D)).2 * rows)) = lowF (A + c * f * more, D * (f * rows)) := by
  have hB : 0 < D * (f * rows) := Int.mul_pos hD (Int.mul_pos hf hr)
  obtain ⟨a1, a2, _, _⟩ := lowF_spec (a := A) hB
  obtain ⟨c1, c2, _, _⟩ := lowF_spec (a := c) hD
  generalize (lowF (A, D * (f * rows))).1 = o at *
  generalize (lowF (A, D * (f * rows))).2 = u at *
  generalize (lowF (c, D)).1 = o1 at *
  generalize (lowF (c, D)).2 = u1 at *
  refine lowF_eq (Int.mul_pos a2 (Int.mul_pos c2 hr)) hB ?_
  rw [Int.add_mul, Int.add_mul]
  have e1 : o * (u1 * rows) * (D * (f * rows)) = A * (u * (u1 * rows)) := by
    rw [Int.mul_right_comm, a1]
    exact Int.mul_assoc _ _ _
  have e2 : o1 * more * u * (D * (f * rows)) = c * f * more * (u * (u1 * rows)) := by
    calc o1 * more * u * (D * (f * rows)) = (o1 * D) * (more * u * (f * rows)) := by ac_rfl
      _ = c * u1 * (more * u * (f * rows)) := by rw [c1]
      _ = c * f * more * (u * (u1 * rows)) := by ac_rfl
  rw [e1, e2]
theorem sum_bd {α : Type} {f : α → Int} {M : Int} (hM : 0 ≤ M) : ∀ l : List α, (∀ x ∈ l, 0 ≤ f x ∧ f x ≤ M) → 0 ≤ (l.map f).sum ∧ (l.map f).sum ≤ (l.length : Int) * M
  | [], _ => by simp
  | x :: r, h => by
    have h1 := h x List.mem_cons_self
    have h2 := sum_bd hM r fun y hy => h y (List.mem_cons_of_mem _ hy)
    rw [List.map_cons, List.sum_cons, List.length_cons, Int.natCast_add, Int.add_mul]
    simp only [Int.natCast_one, Int.one_mul]
    omega
theorem way_bd {many : Int} (ties : List (Int × Int)) (here : List Int) {sides : Int} (m5 : many ≤ 5) (s1 : 1 ≤ sides) (s4 : sides ≤ 4) (T : List Int) : 0 ≤ getA (wayL many ties here sides) T ∧ getA (wayL many ties here sides) T ≤ 1048576 := by
  by_cases h : T ∈ (wayL many ties here sides).map (·.1)
  · obtain ⟨q, hq, rfl⟩ := List.mem_map.mp h
    rw [getA_in (show NdK (wayL many ties here sides) from (tally_spec _).1) hq]
    exact way_val m5 s1 s4 hq
  · rw [getA_out h]
    exact ⟨by decide, by decide⟩
def bdU (r : Nat) : Int := 33554432 ^ r
theorem bdU_pos (r : Nat) : 0 < bdU r := Int.pow_pos (by decide)
theorem prU_bd {many : Int} (ties : List (Int × Int)) {sides : Int} (m5 : many ≤ 5) (s1 : 1 ≤ sides) (s4 : sides ≤ 4) : ∀ (r : Nat) (T : List Int), 0 ≤ prU many ties sides r T ∧ prU many ties sides r T ≤ bdU r
  | 0, T => by
    unfold prU bdU
    split <;> simp
  | r + 1, T => by
    have bp := bdU_pos r
    have h := sum_bd (f := fun S => prU many ties sides r S * getA (wayL many ties S sides) T) (M := bdU r * 1048576) (by omega) (setsU many) fun S _ => by
      have h1 := prU_bd ties m5 s1 s4 r S
      have h2 := way_bd ties S m5 s1 s4 T
      exact ⟨Int.mul_nonneg h1.1 h2.1, Int.le_trans (Int.mul_le_mul_of_nonneg_right h1.2 h2.1) (Int.mul_le_mul_of_nonneg_left h2.2 (by omega))⟩
    have hl := setsU_len m5
    have e : bdU (r + 1) = 32 * (bdU r * 1048576) := by unfold bdU; rw [Int.pow_succ]; omega
    have := Int.mul_le_mul_of_nonneg_right (show ((setsU many).length : Int) ≤ 32 by omega) (show 0 ≤ bdU r * 1048576 by omega)
    unfold prU
    rw [e]
    exact ⟨h.1, by omega⟩
theorem mov_get (ties : List (Int × Int)) (here : List Int) (sides : Int) (k : List Int) : getA (movL ties here sides) k = cntR (fun r => decide (leftG ties here (gRow here r) = k)) (drawsK (here.length : Int) sides) := by
  unfold movL
  rw [(tally_spec _).2.1 k, sum_ones]
theorem mov_rows {sides : Int} (s0 : 0 ≤ sides) (ties : List (Int × Int)) (here : List Int) : sumA (movL ties here sides) = sides ^ here.length := by
  unfold movL
  rw [(tally_spec _).2.2.1, List.map_map]
  have := sum_one (drawsK (here.length : Int) sides)
  have e : drawsK (here.length : Int) sides = rowsC (fun _ => rgI sides) here := rowsK_eq _ _ _ (by rw [rgI_len]; omega)
  have l := rowsS_len s0 here
  rw [← e] at l
  rw [← l]
  exact this
def facF (many sides : Int) (here : List Int) : Int := sides ^ (many.toNat - here.length)
theorem way_mov {many : Int} {ties : List (Int × Int)} {S : List Int} {sides : Int} (W : WebOk many ties) (s1 : 1 ≤ sides) (HO : HereOk many S) (T : List Int) : getA (wayL many ties S sides) T = facF many sides S * getA (movL ties S sides) T := by
  have u := web_upT W
  have m1 := W.lo
  have d : drawsK (S.length : Int) sides = rowsC (fun _ => rgI sides) S := rowsK_eq _ _ _ (by rw [rgI_len]; omega)
  have c1 := ways_cnt (many := many) (sides := sides) (P := fun g => decide (leftG ties S g = T)) u (by omega) HO.up HO.ok (by omega) (left_only u T)
  rw [way_get, mov_get, d]
  unfold alikeN facF
  exact c1
theorem fac_rows {many sides : Int} {S : List Int} (HO : HereOk many S) : facF many sides S * sides ^ S.length = sides ^ many.toNat := by
  unfold facF
  rw [← Int.pow_add, Nat.sub_add_cancel HO.len]
/-- shares, as fractions in lowest terms, of so many -/
structure FrAt (K : PySem.W.Frag) (F : Hp) (many : Int) (ws : List (List Int × Addr)) (G : List Int → Int) (B : Int) : Prop where
  nd : (ws.map (·.1)).Nodup
  ok : ∀ p ∈ ws, HereOk many p.1 ∧ SqT K F p.2 [.int (lowF (G p.1, B)).1, .int (lowF (G p.1, B)).2]
  zero : ∀ T, T ∉ ws.map (·.1) → G T = 0
section
variable {K : PySem.W.Frag} {F F' : Hp} {many : Int} {ws : List (List Int × Addr)} {G G' : List Int → Int} {B : Int}
theorem FrAt.ex (h : FrAt K F many ws G B) (e : Evl.Ex F F') : FrAt K F' many ws G B := ⟨h.nd, fun p hp => ⟨(h.ok p hp).1, Evl.ex_t e (h.ok p hp).2⟩, h.zero⟩
theorem FrAt.get (h : FrAt K F many ws G B) (hB : 0 < B) (T : List Int) {df : Addr} (sd : SqT K F df [.int 0, .int 1]) : ∃ ga, (valV (dictK V.ref ws) (keyL T)).getD (.ref df) = .ref ga ∧ SqT K F ga [.int (lowF (G T, B)).1, .int (lowF (G T, B)).2] := by
  by_cases c : T ∈ ws.map (·.1)
  · obtain ⟨⟨k0, a⟩, hp, e⟩ := List.mem_map.mp c
    have e : k0 = T := e
    subst e
    rw [dict_at h.nd hp]
    exact ⟨a, rfl, (h.ok _ hp).2⟩
  · have hv : valV (dictK V.ref ws) (keyL T) = none := by
      have := dictV_find (ws := ws) (k := T)
      rw [decide_eq_false c] at this
      cases e : valV (dictK V.ref ws) (keyL T) with
      | none => rfl
      | some x => rw [e] at this; cases this
    rw [hv, h.zero T c, low_zero hB]
    exact ⟨df, rfl, sd⟩
theorem FrAt.put {T : List Int} {na : Addr} (h : FrAt K F many ws G B) (e : Evl.Ex F F') (HO : HereOk many T) (sa : SqT K F' na [.int (lowF (G' T, B)).1, .int (lowF (G' T, B)).2]) (hG : ∀ S, S ≠ T → G' S = G S) : FrAt K F' many (putA ws T na) G' B := by
  by_cases c : T ∈ ws.map (·.1)
  · have ep : putA ws T na = ws.map fun p => if p.1 = T then (p.1, na) else p := by
      unfold putA
      rw [if_pos]
      obtain ⟨p, hp, e⟩ := List.mem_map.mp c
      exact List.any_eq_true.mpr ⟨p, hp, decide_eq_true e⟩
    have ek : (ws.map fun p => if p.1 = T then (p.1, na) else p).map (·.1) = ws.map (·.1) := by
      rw [List.map_map]
      refine List.map_congr_left fun p _ => ?_
      show (if p.1 = T then (p.1, na) else p).1 = p.1
      split <;> rfl
    rw [ep]
    refine ⟨by rw [ek]; exact h.nd, fun q hq => ?_, fun S hS => ?_⟩
    · obtain ⟨p, hp, rfl⟩ := List.mem_map.mp hq
      by_cases e2 : p.1 = T
      · rw [if_pos e2]
        simp only
        rw [e2]
        exact ⟨HO, sa⟩
      · rw [if_neg e2, hG _ e2]
        exact ⟨(h.ok p hp).1, Evl.ex_t e (h.ok p hp).2⟩
    · rw [ek] at hS
      rw [hG S fun z => hS (by rw [z]; exact c)]
      exact h.zero S hS
  · rw [putA_new c]
    refine ⟨?_, fun q hq => ?_, fun S hS => ?_⟩
    · rw [List.map_append, List.nodup_append]
      refine ⟨h.nd, by simp, fun x hx y hy z => ?_⟩
      have hy : y = T := List.mem_singleton.mp hy
      rw [z, hy] at hx
      exact c hx
    · rcases List.mem_append.mp hq with hq | hq
      · rw [hG q.1 fun z => c (by rw [← z]; exact List.mem_map_of_mem hq)]
        exact ⟨(h.ok q hq).1, Evl.ex_t e (h.ok q hq).2⟩
      · rw [List.mem_singleton.mp hq]
        exact ⟨HO, sa⟩
    · rw [List.map_append, List.mem_append, not_or] at hS
      have h2 : S ≠ T := fun z => hS.2 (by rw [z]; simp)
      rw [hG S h2]
      exact h.zero S hS.1
theorem FrAt.len (h : FrAt K F many ws G B) (m5 : many ≤ 5) : ws.length ≤ 32 := by
  have := len_le_of_sub h.nd fun x hx => by
    obtain ⟨p, hp, rfl⟩ := List.mem_map.mp hx
    exact setsU_mem.mpr (h.ok p hp).1
  rw [List.length_map] at this
  exact Nat.le_trans this (setsU_len m5)
end
section
variable (many : Int) (ties : List (Int × Int)) (sides : Int) (r : Nat)
def gI (sh : List (List Int × Addr)) (i : Nat) (T : List Int) : Int := ((sh.take i).map fun p => prU many ties sides r p.1 * getA (wayL many ties p.1 sides) T).sum
def gJ (S : List Int) (j : Nat) (T : List Int) : Int := (((movL ties S sides).take j).map fun q => if q.1 = T then prU many ties sides r S * facF many sides S * q.2 else 0).sum
end
section
variable {many : Int} {ties : List (Int × Int)} {sides : Int} {r : Nat}
theorem gI_snoc {sh : List (List Int × Addr)} {i : Nat} {p : List Int × Addr} (e : sh[i]? = some p) (T : List Int) : gI many ties sides r sh (i + 1) T = gI many ties sides r sh i T + prU many ties sides r p.1 * getA (wayL many ties p.1 sides) T := by
  unfold gI
  rw [take_snoc e, List.map_append, sum_app]
  simp
theorem gJ_snoc {S : List Int} {j : Nat} {q : List Int × Int} (e : (movL ties S sides)[j]? = some q) (T : List Int) : gJ many ties sides r S (j + 1) T = gJ many ties sides r S j T + if q.1 = T then prU many ties sides r S * facF many sides S * q.2 else 0 := by
  unfold gJ
  rw [take_snoc e, List.map_append, sum_app]
  simp
theorem gJ_full {S : List Int} (W : WebOk many ties) (s1 : 1 ≤ sides) (HO : HereOk many S) (T : List Int) : gJ many ties sides r S (movL ties S sides).length T = prU many ties sides r S * getA (wayL many ties S sides) T := by
  unfold gJ
  rw [List.take_length, sum_if, get_sum (show NdK (movL ties S sides) from (tally_spec _).1), way_mov W s1 HO, Int.mul_assoc]
theorem gI_full {K : PySem.W.Frag} {F : Hp} {sh : List (List Int × Addr)} {B : Int} (h : FrAt K F many sh (prU many ties sides r) B) (T : List Int) : gI many ties sides r sh sh.length T = prU many ties sides (r + 1) T := by
  have e : (sh.map fun p => prU many ties sides r p.1 * getA (wayL many ties p.1 sides) T) = (sh.map (·.1)).map fun S => prU many ties sides r S * getA (wayL many ties S sides) T := by rw [List.map_map]; rfl
  unfold gI
  rw [List.take_length, e]
  refine (sumU_sub h.nd (fun k hk => ?_) (setsU_nd many) (fun S => prU many ties sides r S * getA (wayL many ties S sides) T) fun S _ hS => by rw [h.zero S hS, Int.zero_mul]).trans rfl
  obtain ⟨p, hp, rfl⟩ := List.mem_map.mp hk
  exact setsU_mem.mpr (h.ok p hp).1
theorem mov_val {S : List Int} (s4 : sides ≤ 4) (hl : S.length ≤ 5) {q : List Int × Int} (hq : q ∈ movL ties S sides) : 0 ≤ q.2 ∧ q.2 ≤ 1024 := by
  rw [← getA_in (show NdK (movL ties S sides) from (tally_spec _).1) hq, mov_get]
  have c := cntR_le (fun r => decide (leftG ties S (gRow S r) = q.1)) (drawsK (S.length : Int) sides)
  have l := drawsK_len (many := (S.length : Int)) s4 (by omega)
  omega
theorem fac_bd {S : List Int} (m5 : many ≤ 5) (s1 : 1 ≤ sides) (s4 : sides ≤ 4) : 1 ≤ facF many sides S ∧ facF many sides S ≤ 1024 := sides_pow s1 s4 (by omega)
theorem gI_bd (m5 : many ≤ 5) (s1 : 1 ≤ sides) (s4 : sides ≤ 4) (sh : List (List Int × Addr)) (hl : sh.length ≤ 32) (i : Nat) (T : List Int) : 0 ≤ gI many ties sides r sh i T ∧ gI many ties sides r sh i T ≤ bdU (r + 1) := by
  have bp := bdU_pos r
  have h := sum_bd (f := fun p : List Int × Addr => prU many ties sides r p.1 * getA (wayL many ties p.1 sides) T) (M := bdU r * 1048576) (by omega) (sh.take i) fun p _ => by
    have h1 := prU_bd ties m5 s1 s4 r p.1
    have h2 := way_bd ties p.1 m5 s1 s4 T
    exact ⟨Int.mul_nonneg h1.1 h2.1, Int.le_trans (Int.mul_le_mul_of_nonneg_right h1.2 h2.1) (Int.mul_le_mul_of_nonneg_left h2.2 (by omega))⟩
  have l : (sh.take i).length ≤ 32 := by rw [List.length_take]; omega
  have e : bdU (r + 1) = 32 * (bdU r * 1048576) := by unfold bdU; rw [Int.pow_succ]; omega
  have := Int.mul_le_mul_of_nonneg_right (show ((sh.take i).length : Int) ≤ 32 by omega) (show 0 ≤ bdU r * 1048576 by omega)
  unfold gI
  rw [e]
  exact ⟨h.1, by omega⟩
theorem gJ_bd {S : List Int} (m5 : many ≤ 5) (s1 : 1 ≤ sides) (s4 : sides ≤ 4) (hl : S.length ≤ 5) (j : Nat) (T : List Int) : 0 ≤ gJ many ties sides r S j T ∧ gJ many ties sides r S j T ≤ 32 * bdU (r + 1) := by
  have bp := bdU_pos r
  have f := fac_bd (S := S) m5 s1 s4
  have h1 := prU_bd ties m5 s1 s4 r S
  have few := mov_few (ties := ties) (here := S) s4 hl
  have h := sum_bd (f := fun q : List Int × Int => if q.1 = T then prU many ties sides r S * facF many sides S * q.2 else 0) (M := bdU r * 1024 * 1024) (by omega) ((movL ties S sides).take j) fun q hq => by
    have mv := mov_val s4 hl (List.mem_of_mem_take hq)
    split
    · have p1 := Int.mul_nonneg h1.1 (show 0 ≤ facF many sides S by omega)
      have p2 : prU many ties sides r S * facF many sides S ≤ bdU r * 1024 := Int.le_trans (Int.mul_le_mul_of_nonneg_right h1.2 (by omega)) (Int.mul_le_mul_of_nonneg_left f.2 (by omega))
      exact ⟨Int.mul_nonneg p1 mv.1, Int.le_trans (Int.mul_le_mul_of_nonneg_right p2 mv.1) (Int.mul_le_mul_of_nonneg_left mv.2 (by omega))⟩
    · omega
  have l : ((movL ties S sides).take j).length ≤ 1024 := by rw [List.length_take]; omega
  have e : bdU (r + 1) = 32 * (bdU r * 1048576) := by unfold bdU; rw [Int.pow_succ]; omega
  have := Int.mul_le_mul_of_nonneg_right (show (((movL ties S sides).take j).length : Int) ≤ 1024 by omega) (show 0 ≤ bdU r * 1024 * 1024 by omega)
  unfold gJ
  rw [e]
  exact ⟨h.1, by omega⟩
end
def Sz (k : Nat) (x : Int) : Prop := x.natAbs < 2 ^ k
theorem Sz.mul {a b : Nat} {x y : Int} (h : Sz a x) (g : Sz b y) : Sz (a + b) (x * y) := by
  unfold Sz at *
  rw [Int.natAbs_mul, Nat.pow_add]
  exact Nat.mul_lt_mul'' h g
theorem Sz.add {k : Nat} {x y : Int} (h : Sz k x) (g : Sz k y) : Sz (k + 1) (x + y) := by
  unfold Sz at *
  have := Int.natAbs_add_le x y
  rw [Nat.pow_succ]
  omega
theorem Sz.mono {a b : Nat} {x : Int} (h : Sz a x) (l : a ≤ b) : Sz b x := Nat.lt_of_lt_of_le h (Nat.pow_le_pow_right (by decide) l)
theorem Sz.le {k : Nat} {x y : Int} (h : Sz k y) (h0 : 0 ≤ x) (l : x ≤ y) : Sz k x := by
  unfold Sz at *
  omega
theorem Sz.log {k : Nat} {x : Int} (h : Sz k x) (p : 0 < k) : x.natAbs.log2 < k := PySem.Flt.log2_lt_of p h
theorem Sz.wide {x y : Int} (h : Sz 3000 x) (g : Sz 3000 y) : CMulW x y := by
  have := h.log (by decide)
  have := g.log (by decide)
  unfold CMulW
  omega
theorem bdU_sz (r : Nat) : Sz (25 * r + 1) (bdU r) := by
  unfold Sz bdU
  rw [Int.natAbs_pow, show (33554432 : Int).natAbs = 2 ^ 25 from rfl, ← Nat.pow_mul]
  exact Nat.pow_lt_pow_right (by decide) (by omega)
theorem dict_atI : ∀ {ws : List (List Int × Int)} {k : List Int} {a : Int}, NdK ws → (k, a) ∈ ws → valV (waysK ws) (keyL k) = some (.int a)
  | p :: r, k, a, nd, h => by
    have nd' := List.nodup_cons.mp nd
    show valV (dictK V.int (p :: r)) (keyL k) = _
    rw [dictK_val, List.find?_cons]
    rcases List.mem_cons.mp h with e | h
    · subst e; simp
    · have ne : ¬ p.1 = k := fun z => nd'.1 (by show p.1 ∈ _; rw [z]; exact List.mem_map_of_mem (f := fun q : List Int × Int => q.1) h)
      rw [decide_eq_false ne]
      have := dict_atI nd'.2 h
      unfold waysK at this
      rw [dictK_val] at this
      exact this
theorem putA_keys {α : Type} {ws : List (List Int × α)} {k : List Int} {v : α} : ∀ q ∈ putA ws k v, q.1 = k ∨ q.1 ∈ ws.map (·.1) := fun q hq => by
  unfold putA at hq
  split at hq
  · obtain ⟨p, hp, rfl⟩ := List.mem_map.mp hq
    split
    · rename_i e; exact .inl e
    · exact .inr (List.mem_map_of_mem hp)
  · rcases List.mem_append.mp hq with hq | hq
    · exact .inr (List.mem_map_of_mem hq)
    · rw [List.mem_singleton.mp hq]; exact .inl rfl
theorem s_keysT {a : Addr} {od : Obj} {kvs : List (List Key × V)} {H : Hp} {R : It → Hp → Prop} (hd : H a = some (.frz od (.dT kvs))) (q : R (Itkt a od kvs) H) : ikeysK (.ref a) H R := ⟨a, od, rfl, .inr ⟨kvs, hd, q⟩⟩
theorem ok_l_due (T : Env K mg) : FnOk P w K mg base CX0 4 T.a__law_due T.fd__law_due ["web", "sides", "rounds"] (SpF (A_cb K) (B_cb K)) := by
  have nd := sc__law_due.nd
  have G__law_all_moves : FnOk P w K mg base CX0 3 T.a__law_all_moves T.fd__law_all_moves ["web", "sides"] (SpF (A_aw K) B_lam) := ok_l_all_moves T
  have G__law_lowest : FnOk P w K mg base CX0 1 T.a__law_lowest T.fd__law_lowest ["over", "under"] (SpF A_lfx (B_fx K)) := ok_l_lowest T
  refine T.F__law_due.ok sc__law_due (fun vs H Q E h => ?_) (fun cdv A outer s H vs Q E hr h => ?_)
  · obtain ⟨⟨_, _, _, _⟩, F, _, ⟨v, rfl, _⟩, _⟩ := h
    rfl
  · obtain ⟨⟨many, ties, sides, rounds⟩, F, fr, ⟨v, rfl, hv, W, m5, s2, s4, r0, r60⟩, k⟩ := h
    have m1 := W.lo
    have tle := tot_le (many := many) (sides := sides) (by omega) s4 m5
    obtain ⟨wa, wb, ws0, rfl, z1, z2, z3⟩ := webD_at hv
    have S := Sep.start0 fr
    refine ⟨_, (pss_cons (ps_set (i := 3) nd rfl (.inl rfl) (pe_call G__law_all_moves (hr.mono (by decide)) (by rfl) T.g__law_all_moves T.F__law_all_moves.kp T.b__law_all_moves .nil pass0 (pa_cons (pv 0) (pa_cons (pv 1) pa_nil))))
      (pss_cons (ps_set (i := 4) nd rfl (.inl rfl) (pe_frz (pe_disp1 (u1 hr) (pe_tupRg rfl (by rfl) T.n_tuple (prg_1 (by rfl) T.n_range (pe_ix ix_tup (pv 0) pe_int (fun _ _ => rfl)))) (pe_tup (pa_cons pe_int (pa_cons pe_int pa_nil))))))
      (pss_cons (ps_for PassesOwn.never rfl (pi_range1 (by rfl) T.n_range (pa_cons (pv 2) pa_nil)) (pg_name (i := 5) nd rfl (.inl rfl)) (pss_cons (ps_set (i := 6) nd rfl (.inl rfl) pe_dnewT)
      (pss_cons (ps_for PassesOwn.never rfl (pi_keys (pv 4)) (pg_name (i := 7) nd rfl (.inl rfl)) (pss_cons (ps_set (i := 8) nd rfl (.inl rfl) (pe_callB (id := "sum") (cr_sumV rfl) (by rfl) T.n_sum (by decide +kernel) (pa_cons (pe_dvals (pe_dget (u1 hr) (pv 3) (pv 7) (fun _ _ => rfl))) pa_nil)))
      (pss_one (ps_for PassesOwn.never rfl (pi_keys (pe_dget (u1 hr) (pv 3) (pv 7) (fun _ _ => rfl))) (pg_name (i := 9) nd rfl (.inl rfl)) (pss_cons (ps_set (i := 10) nd rfl (.inl rfl) (pe_dget (u1 hr) (pv 4) (pv 7) (fun _ _ => rfl)))
      (pss_cons (ps_asg (pe_dget2 (u1 hr) (pv 6) (pv 9) (pe_tup (pa_cons pe_int (pa_cons pe_int pa_nil))) ⟨rfl, rfl, rfl, rfl⟩) (pg_tup rfl (pgs_cons (pg_name (i := 11) nd rfl (.inl rfl)) (pgs_cons (pg_name (i := 12) nd rfl (.inl rfl)) pgs_nil))))
      (pss_cons (ps_set (i := 13) nd rfl (.inl rfl) (pe_op op_mul (pe_ix ix_tup (pv 10) pe_int (fun _ _ => rfl)) (pv 8)))
      (pss_cons (ps_set (i := 11) nd rfl (.inl rfl) (pe_op op_add (pe_op op_mulW (pv 11) (pv 13)) (pe_op op_mulW (pe_op op_mul (pe_ix ix_tup (pv 10) pe_int (fun _ _ => rfl)) (pe_dget (u1 hr) (pe_dget (u1 hr) (pv 3) (pv 7) (fun _ _ => rfl)) (pv 9) (fun _ _ => rfl))) (pv 12))))
      (pss_one (ps_dput (u1 hr) (pv 6) (pv 9) (pe_call G__law_lowest (hr.mono (by decide)) (by rfl) T.g__law_lowest T.F__law_lowest.kp T.b__law_lowest .nil pass0 (pa_cons (pv 11) (pa_cons (pe_op op_mulW (pv 12) (pv 13)) pa_nil))) rfl))))))))))
      (pss_one (ps_set (i := 4) nd rfl (.inl rfl) (pe_frz (pv 6)))))))
      (pss_one (ps_ret (pe_dget2 (u1 hr) (pv 4) (pe_tup pa_nil) (pe_tup (pa_cons pe_int (pa_cons pe_int pa_nil))) ⟨rfl, rfl, rfl, rfl⟩)))))), ?_⟩
    walk_at "rd"
    refine r_callF S (many, ties, sides) ⟨_, rfl, hv, W, m5, s2, s4⟩ ?_
    rintro v2 N F1 H1 S e1 ⟨rfl, mq, od, ws, rfl, cmq, ao⟩
    walk_at "rd"
    refine r_disp1 fun dq hdq => ?_
    have S := S.newM hdq (.dT [])
    generalize upd H1 dq (.dT []) = H2 at *
    refine r_tupRg ?_
    walk_at "rd"
    refine ⟨⟨by omega, by omega, by omega, by omega, by omega⟩, ?_⟩
    rw [rgV_eq]
    refine s_new S fun t0 F3 H3 S e3 c3 => ?_
    walk_at "rd"
    refine ⟨by show 2 ≤ sizeLine; decide, s_new S fun t1 F4 H4 S e4 c4 => ?_⟩
    refine s_put1 S 0 rfl (e4 _ _ c3) fun H5 S => ?_
    refine s_frz S 0 rfl trivial fun odc F6 H7 S e6 cd => ?_
    have fr0 : FrAt K F6 many [(rgI many, t1)] (prU many ties sides 0) ((sides ^ many.toNat) ^ 0) := ⟨by simp, fun p hp => by
      rw [List.mem_singleton.mp hp]
      refine ⟨HereOk.sub (List.Sublist.refl _), ?_⟩
      have e : lowF (prU many ties sides 0 (rgI many), (sides ^ many.toNat) ^ 0) = (1, 1) := by
        unfold prU
        rw [if_pos rfl, Int.pow_zero]
        decide
      show SqT K F6 t1 [.int (lowF (prU many ties sides 0 (rgI many), (sides ^ many.toNat) ^ 0)).1, .int (lowF (prU many ties sides 0 (rgI many), (sides ^ many.toNat) ^ 0)).2]
      rw [e]
      exact SqT.of (e6 _ _ c4), fun T hT => by
      unfold prU
      rw [if_neg fun z => hT (by rw [← z]; simp)]⟩
    have sub0 : ∀ p ∈ [(rgI many, t1)], p.1 ∈ ws.map (·.1) := fun p hp => by
      rw [List.mem_singleton.mp hp]
      rcases ao.must _ List.mem_cons_self with z | z
      · exact z
      · cases z
    have hfr : ∀ {S : List Int}, HereOk many S → facF many sides S * sides ^ S.length = sides ^ many.toNat := fun h => fac_rows h
    generalize htt : sides ^ many.toNat = tt at *
    walk_at "rd"
    refine ⟨rounds, rfl, by omega, by omega, ?_⟩
    refine s_forR (fun i σ' F' M' => ∃ (dq : Addr) (od : Obj) (sh : List (List Int × Addr)) (x5 x6 x7 x8 x9 x10 x11 x12 x13 : Option V), σ' = [some (.ref wa), some (.int sides), some (.int rounds), some (.ref mq), some (.ref dq), x5, x6, x7, x8, x9, x10, x11, x12, x13] ∧ M' = [] ∧ F' dq = some (.frz od (.dT (dictK V.ref sh))) ∧ FrAt K F' many sh (prU many ties sides i) (tt ^ i) ∧ ∀ p ∈ sh, p.1 ∈ ws.map (·.1)) S ⟨dq, odc, [(rgI many, t1)], none, none, none, none, none, none, none, none, none, rfl, rfl, cd, fr0, sub0⟩ ?_ ?_
    · rintro r σ' F7 H8 M' hr7 S e7 ⟨dq, odr, sh, x5, x6, x7, x8, x9, x10, x11, x12, x13, rfl, rfl, cdq, fr7, subr⟩
      have sl := fr7.len m5
      have E7 := e3.trans (e4.trans (e6.trans e7))
      walk_at "rd"
      refine s_dnewT S fun fq H9 S => ?_
      walk_at "rd"
      refine s_keysT (S.fr _ _ cdq) ?_
      refine s_for (fun i σ' F' M' => ∃ (fs : List (List Int × Addr)) (x7 x8 x9 x10 x11 x12 x13 : Option V), σ' = [some (.ref wa), some (.int sides), some (.int rounds), some (.ref mq), some (.ref dq), some (.int (0 + (r : Int))), some (.ref fq), x7, x8, x9, x10, x11, x12, x13] ∧ M' = [(fq, .is (.dT (dictK V.ref fs)))] ∧ FrAt K F' many fs (gI many ties sides r sh i) (tt ^ (r + 1)) ∧ ∀ p ∈ fs, p.1 ∈ ws.map (·.1)) (srcKT cdq) S ⟨[], _, _, _, _, _, _, _, rfl, rfl, ⟨List.nodup_nil, fun p hp => (by cases hp), fun T _ => by unfold gI; simp⟩, fun p hp => (by cases hp)⟩ (fun _ _ _ _ _ m hm => by cases hm) ?_ ?_
      · rintro i ⟨here, sa⟩ x σ' F8 F9 H10 M' ei S e8 e9 ⟨kq, rfl, ckq⟩ ⟨fs, x7, x8, x9, x10, x11, x12, x13, rfl, rfl, fa, subf⟩
        simp only at ckq
        have hm : (here, sa) ∈ sh := List.mem_of_getElem? ei
        have HO := (fr7.ok _ hm).1
        have so := (fr7.ok _ hm).2
        simp only at HO so
        have hlen := HO.len
        have E9 := E7.trans (e8.trans e9)
        have inm : here ∈ ws.map (·.1) := subr _ hm
        obtain ⟨⟨h', a⟩, ha, eh⟩ := List.mem_map.mp inm
        have eh : h' = here := eh
        subst eh
        have wat : WaysAt F1 a (movL ties h' sides) := (ao.ok _ ha).2
        walk_at "rd"
        refine r_view ?_
        walk_at "rd"
        have g := dgetL (f := V.ref) (ws := ws) (.inr ⟨_, S.fr _ _ (E9 _ _ cmq)⟩) (S.fr _ _ ckq)
        rw [dict_at ao.nd ha] at g
        refine ⟨mq, _, rfl, g, ?_⟩
        walk_at "rd"
        refine s_view S ((wat.ex E9).rd S) fun vp F10 H11 S e10 cv => ?_
        walk_at "rd"
        refine s_sumV (S.fr _ _ cv) ((wat.ex (E9.trans e10)).rd S) (ways_vals _) ?_
        have rws : ((movL ties h' sides).map (·.2)).sum = sides ^ h'.length := mov_rows (by omega) ties h'
        rw [rws]
        have hrows : 1 ≤ sides ^ h'.length ∧ sides ^ h'.length ≤ 1024 := sides_pow (by omega) s4 (by omega)
        have htf := hfr HO
        have hfac := fac_bd (S := h') (many := many) m5 (show 1 ≤ sides by omega) s4
        generalize hrr : sides ^ h'.length = rows at *
        walk_at "rd"
        have E10 := E9.trans e10
        have g := dgetL (f := V.ref) (ws := ws) (.inr ⟨_, S.fr _ _ (E10 _ _ cmq)⟩) (S.fr _ _ (e10 _ _ ckq))
        rw [dict_at ao.nd ha] at g
        refine ⟨mq, _, rfl, g, ?_⟩
        obtain ⟨oda, cda⟩ := wat.ex E10
        refine s_keysT (S.fr _ _ cda) ?_
        have pr := pow600 tle.1 tle.2 r (by omega)
        have pr1 := pow600 tle.1 tle.2 (r + 1) (by omega)
        have hB : tt ^ (r + 1) = tt ^ r * (facF many sides h' * rows) := by rw [Int.pow_succ, htf]
        have fa0 : FrAt K F10 many fs (fun T => gI many ties sides r sh i T + gJ many ties sides r h' 0 T) (tt ^ (r + 1)) := by
          have e : (fun T => gI many ties sides r sh i T + gJ many ties sides r h' 0 T) = gI many ties sides r sh i := funext fun T => by
            show gI many ties sides r sh i T + gJ many ties sides r h' 0 T = _
            unfold gJ
            simp
          rw [e]
          exact fa.ex (e9.trans e10)
        refine s_for (fun j σ' F' M' => ∃ (fs : List (List Int × Addr)) (x9 x10 x11 x12 x13 : Option V), σ' = [some (.ref wa), some (.int sides), some (.int rounds), some (.ref mq), some (.ref dq), some (.int (0 + (r : Int))), some (.ref fq), some (.ref kq), some (.int rows), x9, x10, x11, x12, x13] ∧ M' = [(fq, .is (.dT (dictK V.ref fs)))] ∧ FrAt K F' many fs (fun T => gI many ties sides r sh i T + gJ many ties sides r h' j T) (tt ^ (r + 1)) ∧ ∀ p ∈ fs, p.1 ∈ ws.map (·.1)) (srcKT cda) S ⟨fs, _, _, _, _, _, rfl, rfl, fa0, subf⟩ (fun _ _ _ _ _ m hm => by cases hm) ?_ ?_
        · rintro j ⟨there, more⟩ x σ' F11 F12 H13 M' ej S e11 e12 ⟨tq, rfl, ctq⟩ ⟨fs2, x9, x10, x11, x12, x13, rfl, rfl, fa2, subf2⟩
          simp only at ctq
          have hmv : (there, more) ∈ movL ties h' sides := List.mem_of_getElem? ej
          have mv := mov_val s4 (by omega) hmv
          simp only at mv
          have HT := mov_keys HO _ hmv
          simp only at HT
          have E12 := e10.trans (e11.trans e12)
          have fl := fa2.len m5
          walk_at "rd"
          have g := dgetL (f := V.ref) (ws := sh) (.inr ⟨_, S.fr _ _ ((e8.trans (e9.trans E12)) _ _ cdq)⟩) (S.fr _ _ (E12 _ _ ckq))
          rw [dict_at fr7.nd hm] at g
          refine ⟨dq, _, rfl, g, ?_⟩
          have so := Evl.ex_t (e8.trans (e9.trans E12)) so
          walk_at "rd"
          refine r_dget2 ?_
          walk_at "rd"
          refine ⟨fq, rfl, .inr ⟨_, .inl (S.rdM 0 rfl)⟩, ?_⟩
          walk_at "rd"
          refine ⟨by show 2 ≤ sizeLine; decide, s_new S fun df F13 H14 S e13 c13 => ?_⟩
          obtain ⟨ga, eg, sg⟩ := (fa2.ex (e12.trans e13)).get pr1.1 there (SqT.of c13)
          refine ⟨_, dgetL (.inl (S.rdM 0 rfl)) (S.fr _ _ (e13 _ _ ctq)), ?_⟩
          rw [eg]
          have so := Evl.ex_t e13 so
          have step := low_step (A := gI many ties sides r sh i there + gJ many ties sides r h' j there) (c := prU many ties sides r h') (D := tt ^ r) (f := facF many sides h') (rows := rows) (more := more) pr.1 (by omega) (by omega)
          rw [← hB] at step
          have c1 := prU_bd ties m5 (show 1 ≤ sides by omega) s4 r h'
          have b1 := gI_bd (r := r) (ties := ties) m5 (show 1 ≤ sides by omega) s4 sh sl i there
          have b2 := gJ_bd (r := r) (ties := ties) (S := h') m5 (show 1 ≤ sides by omega) s4 (by omega) j there
          obtain ⟨a1, a2, a3, a4⟩ := lowF_spec (a := gI many ties sides r sh i there + gJ many ties sides r h' j there) pr1.1
          have a4 := a4 (by omega)
          obtain ⟨l1, l2, l3, l4⟩ := lowF_spec (a := prU many ties sides r h') pr.1
          have l4 := l4 c1.1
          have z1 : Sz 1700 (lowF (gI many ties sides r sh i there + gJ many ties sides r h' j there, tt ^ (r + 1))).1 := ((((show Sz 6 33 by unfold Sz; decide).mul (bdU_sz (r + 1))).le a4.1 (by omega))).mono (by omega)
          have z2 : Sz 700 (lowF (gI many ties sides r sh i there + gJ many ties sides r h' j there, tt ^ (r + 1))).2 := Sz.le (y := tt ^ (r + 1)) pr1.2 (by omega) a3
          have z3 : Sz 1600 (lowF (prU many ties sides r h', tt ^ r)).1 := ((bdU_sz r).le l4.1 (by omega)).mono (by omega)
          have z4 : Sz 700 (lowF (prU many ties sides r h', tt ^ r)).2 := Sz.le (y := tt ^ r) pr.2 (by omega) l3
          have z5 : Sz 11 rows := (show Sz 11 1024 by unfold Sz; decide).le (by omega) (by omega)
          have z6 : Sz 11 more := (show Sz 11 1024 by unfold Sz; decide).le (by omega) (by omega)
          generalize hA : gI many ties sides r sh i there + gJ many ties sides r h' j there = A at *
          generalize hc : prU many ties sides r h' = c at *
          walk_at "rd"
          refine ⟨_, _, rfl, rfl, Sz.wide (z1.mono (by decide)) ((z4.mul z5).mono (by decide)), ?_⟩
          walk_at "rd"
          have g1 := dgetL (f := V.ref) (ws := ws) (.inr ⟨_, S.fr _ _ ((E9.trans (E12.trans e13)) _ _ cmq)⟩) (S.fr _ _ ((E12.trans e13) _ _ ckq))
          rw [dict_at ao.nd ha] at g1
          refine ⟨mq, _, rfl, g1, ?_⟩
          walk_at "rd"
          have g2 := dgetL (f := V.int) (ws := movL ties h' sides) (.inr ⟨_, S.fr _ _ ((e11.trans (e12.trans e13)) _ _ cda)⟩) (S.fr _ _ (e13 _ _ ctq))
          have g3 := dict_atI (show NdK (movL ties h' sides) from (tally_spec _).1) hmv
          unfold waysK at g3
          rw [g3] at g2
          refine ⟨a, _, rfl, g2, ?_⟩
          walk_at "rd"
          refine ⟨_, _, rfl, rfl, Sz.wide ((z3.mul z6).mono (by decide)) (z2.mono (by decide)), ?_⟩
          walk_at "rd"
          refine ⟨_, _, rfl, rfl, Sz.wide (z2.mono (by decide)) ((z4.mul z5).mono (by decide)), ?_⟩
          walk_at "rd"
          have p1 : 0 ≤ (lowF (A, tt ^ (r + 1))).1 * ((lowF (c, tt ^ r)).2 * rows) := Int.mul_nonneg a4.1 (Int.mul_nonneg (by omega) (by omega))
          have p2 : 0 ≤ (lowF (c, tt ^ r)).1 * more * (lowF (A, tt ^ (r + 1))).2 := Int.mul_nonneg (Int.mul_nonneg l4.1 mv.1) (by omega)
          have p3 : 0 < (lowF (A, tt ^ (r + 1))).2 * ((lowF (c, tt ^ r)).2 * rows) := Int.mul_pos a2 (Int.mul_pos l2 (by omega))
          refine r_callF S ((lowF (A, tt ^ (r + 1))).1 * ((lowF (c, tt ^ r)).2 * rows) + (lowF (c, tt ^ r)).1 * more * (lowF (A, tt ^ (r + 1))).2, (lowF (A, tt ^ (r + 1))).2 * ((lowF (c, tt ^ r)).2 * rows)) ⟨rfl, by show 0 ≤ _ + _; omega, p3, (z2.mul (z4.mul z5)).mono (by decide)⟩ ?_
          rintro v N F14 H15 S e14 ⟨rfl, d14⟩
          rw [step] at d14
          obtain ⟨na, rfl, sn⟩ := tieD_at d14
          walk_at "rd"
          refine s_dputL S 0 rfl ((e13.trans e14) _ _ ctq) (by rw [dictK_len]; omega) fun H16 S => ?_
          rw [dictK_put] at S
          have eG : gI many ties sides r sh i there + gJ many ties sides r h' (j + 1) there = A + c * facF many sides h' * more := by
            rw [gJ_snoc ej, if_pos rfl, ← Int.add_assoc, hA, hc]
          refine ⟨_, _, S, e11.trans (e12.trans (e13.trans e14)), putA fs2 there na, _, _, _, _, _, rfl, rfl, FrAt.put fa2 (e12.trans (e13.trans e14)) HT ?_ fun U hU => ?_, fun q hq => ?_⟩
          · show SqT K F14 na [.int (lowF (gI many ties sides r sh i there + gJ many ties sides r h' (j + 1) there, tt ^ (r + 1))).1, .int (lowF (gI many ties sides r sh i there + gJ many ties sides r h' (j + 1) there, tt ^ (r + 1))).2]
            rw [eG]
            exact sn
          · show gI many ties sides r sh i U + gJ many ties sides r h' (j + 1) U = gI many ties sides r sh i U + gJ many ties sides r h' j U
            rw [gJ_snoc ej, if_neg (fun z : there = U => hU z.symm), Int.add_zero]
          · rcases putA_keys q hq with z | z
            · rw [z]
              rcases ao.closed _ ha (there, more) hmv with y | y
              · exact y
              · cases y
            · obtain ⟨p0, hp0, e0⟩ := List.mem_map.mp z
              rw [← e0]
              exact subf2 p0 hp0
        · rintro σ' F11 H12 M' S e11 ⟨fs2, x9, x10, x11, x12, x13, rfl, rfl, fa2, subf2⟩
          have ef : (fun T => gI many ties sides r sh i T + gJ many ties sides r h' (movL ties h' sides).length T) = gI many ties sides r sh (i + 1) := funext fun T => by
            show gI many ties sides r sh i T + gJ many ties sides r h' (movL ties h' sides).length T = _
            rw [gJ_full W (by omega) HO, gI_snoc ei]
          rw [ef] at fa2
          exact ⟨_, _, S, e8.trans (e9.trans (e10.trans e11)), fs2, _, _, _, _, _, _, _, rfl, rfl, fa2, subf2⟩
      · rintro σ' F8 H9 M' S e8 ⟨fs, x7, x8, x9, x10, x11, x12, x13, rfl, rfl, fa, subf⟩
        have ef : gI many ties sides r sh sh.length = prU many ties sides (r + 1) := funext fun T => gI_full fr7 T
        rw [ef] at fa
        walk_at "rd"
        refine s_frz S 0 rfl trivial fun od2 F9 H10 S e9 cf => ?_
        walk_at "rd"
        exact ⟨_, _, S, e7.trans (e8.trans e9), fq, od2, fs, _, _, _, _, _, _, _, _, _, rfl, rfl, cf, fa.ex e9, subf⟩
    · rintro σ' F7 H8 M' S e7 ⟨dq, odr, sh, x5, x6, x7, x8, x9, x10, x11, x12, x13, rfl, rfl, cdq, fr7, subr⟩
      have pp := pow600 tle.1 tle.2 rounds.toNat (by omega)
      walk_at "rd"
      refine r_dget2 ?_
      walk_at "rd"
      refine ⟨dq, rfl, .inr ⟨_, .inr ⟨_, S.fr _ _ cdq⟩⟩, ?_⟩
      walk_at "rd"
      refine ⟨Nat.zero_le _, s_new S fun te2 F8 H9 S e8 c8 => ?_⟩
      walk_at "rd"
      refine ⟨by show 2 ≤ sizeLine; decide, s_new S fun df F9 H10 S e9 c9 => ?_⟩
      obtain ⟨ga, eg, sg⟩ := (fr7.ex (e8.trans e9)).get pp.1 [] (SqT.of c9)
      refine ⟨_, dgetL (k := []) (.inr ⟨_, S.fr _ _ ((e8.trans e9) _ _ cdq)⟩) (S.fr _ _ (e9 _ _ c8)), ?_⟩
      rw [eg]
      walk_at "rd"
      refine k _ [] _ _ S ⟨rfl, ?_⟩
      rw [htt]
      exact .tup sg (.cons (.int _) (.cons (.int _) .nil))

end

end
section
local macro_rules | `(tactic| walk_at "rd1") => `(tactic| (first
  | (with_reducible refine r_seq ?_) | (with_reducible refine r_asg ?_) | (with_reducible refine r_asgG ?_) | (with_reducible refine r_par ?_) | (with_reducible refine r_if ?_) | (with_reducible refine r_ret ?_) | (with_reducible refine r_drop ?_) | (with_reducible refine r_next ?_)
  | ((with_reducible refine' r_var ?hx ?_); (case hx => exact rfl)) | (with_reducible refine r_c ?_) | (with_reducible refine r_op ?_) | (with_reducible refine r_un ?_) | (with_reducible refine r_I0 ?_) | ((with_reducible refine r_I ?_ ?_); (· first | (show (0 : Int) < _; omega) | exact Or.inr ⟨by omega, by omega⟩ | exact Or.inl ⟨by omega, by omega⟩ | exact ⟨by omega, by omega, by decide⟩)) | (with_reducible refine r_U ?_)
  | (with_reducible refine r_test ?_) | (with_reducible refine r_B ?_) | (with_reducible refine r_bl ?_) | (with_reducible refine r_eqI ?_) | (with_reducible refine r_neI ?_)
  | ((with_reducible refine r_eq ?_ ?_); (· exact rfl)) | ((with_reducible refine r_ne ?_ ?_); (· exact rfl))
  | (with_reducible refine r_nil ?_) | (with_reducible refine r_cons ?_) | (with_reducible refine r_tup ?_) | (with_reducible refine r_lst ?_) | (with_reducible refine r_call ?_) | (with_reducible refine r_cb ?_)
  | (with_reducible refine r_and ?_) | (with_reducible refine r_or ?_) | (with_reducible refine r_not ?_) | (with_reducible refine r_andV ?_) | (with_reducible refine r_orV ?_) | (with_reducible refine r_notV ?_) | (with_reducible refine r_ifE ?_) | (with_reducible refine r_gSub ?_) | ((with_reducible refine' r_sIn ?h ?_); (case h => assumption)) | ((with_reducible refine' r_sNotIn ?h ?_); (case h => assumption)) | (with_reducible refine r_sadd ?_) | ((with_reducible refine' r_inI ?h ?_); (case h => assumption)) | ((with_reducible refine' r_notInI ?h ?_); (case h => assumption)) | ((with_reducible refine' r_eqNil ?h ?g ?_); (case h => assumption); (case g => assumption)) | ((with_reducible refine' r_neNil ?h ?g ?_); (case h => assumption); (case g => assumption)) | (with_reducible refine r_lstRg ?_) | (with_reducible refine r_rg1 ?_) | (with_reducible refine r_min2 ?_) | (with_reducible refine r_par2 ?_) | (with_reducible refine r_partI ?_) | (with_reducible refine r_lc ?_) | (with_reducible refine r_yes ?_) | (with_reducible refine r_iZipA ?_) | (with_reducible refine r_isN ?_) | ((with_reducible refine' iteRT ?hh ?_); (case hh => exact rfl)) | ((with_reducible refine' iteRF ?hh ?_); (case hh => exact rfl)) | ((with_reducible refine' r_isiT ?ty ?hk ?_); (case ty => first | assumption | exact tyx_L (by assumption) | exact tyx_T (by assumption) | exact .base (.non) | exact .base (.bl _) | exact .base (.int _) | exact .base (.str _)); (case hk => decide +kernel)) | ((with_reducible refine' r_isiF ?ty ?hk ?_); (case ty => first | assumption | exact tyx_L (by assumption) | exact tyx_T (by assumption) | exact .base (.non) | exact .base (.bl _) | exact .base (.int _) | exact .base (.str _)); (case hk => decide +kernel)) | (with_reducible refine r_for ?_) | (with_reducible refine r_iList ?_) | (with_reducible refine r_iTup ?_) | (with_reducible refine r_iRng1 ?_) | (with_reducible refine r_iRng2 ?_) | (with_reducible refine r_iEnum ?_) | (with_reducible refine r_iZip ?_) | (with_reducible refine r_gName ?_) | ((with_reducible refine' r_gTup2 ?hn ?hs ?_); (case hn => exact rfl); (case hs => first | assumption | exact SqT.of upd_same)) | (with_reducible refine r_bm ?_) | (with_reducible refine r_bm0 ?_) | (with_reducible refine r_sl ?_) | (with_reducible refine r_noPart ?_) | (with_reducible refine r_part ?_) | (with_reducible refine r_partI ?_) | ((refine' ⟨_, _, rfl, ?hl, ?_⟩); (case hl => first | exact Or.inl (by assumption) | exact Or.inr (by assumption)))
  | ((with_reducible refine' r_ixL ?hl ?ha ?_); (case hl => assumption); (case ha => first | exact rfl | assumption)) | ((with_reducible refine' r_ixT ?hl ?ha ?_); (case hl => assumption); (case ha => first | exact rfl | assumption))
  | ((with_reducible refine' r_setL ?hl ?hj ?_); (case hl => assumption); (case hj => first | exact rfl | assumption))))
local macro_rules | `(tactic| walk_at "rd") => `(tactic| repeat (walk_at "rd1"))

section
variable {P : Program} {w : World} {K : PySem.W.Frag} {mg : Str → Option Value} {base : Heap}

def sp_blend : Sp := fun vs H Q _ => ∃ cell at' : Int, vs = [.int cell, .int at'] ∧ 0 ≤ at' ∧ ∀ r : Int, 0 ≤ r → Q (.int r) H
theorem ok_l_blend0 (T : Env K mg) : FnOk P w K mg base CX0 1 T.a__law_blend T.fd__law_blend ["cell", "at"] sp_blend := by
  have nd := sc__law_blend.nd
  refine T.F__law_blend.ok sc__law_blend (fun vs H Q E h => ?_) (fun cdv A outer s H vs Q E hr h => ?_)
  · obtain ⟨c, a, rfl, _⟩ := h
    rfl
  · obtain ⟨cell, at', rfl, h0, k⟩ := h
    refine ⟨_, (pss_cons (ps_if (pt_cmpR op_ge (pv 0) (pe_op op_pow pe_int pe_int) (nomark _)) (pss_one (ps_ret (pv 0))) pss_nil)
      (pss_cons (ps_set (i := 2) nd rfl (.inl rfl) (pe_op op_mod (pe_op op_add (pe_op op_add (pe_op op_mul (pe_op op_mod (pv 0) pe_int) pe_int) (pe_op op_mul (pv 1) pe_int)) pe_int) pe_int))
      (pss_cons (ps_set (i := 3) nd rfl (.inl rfl) (pe_op op_mod (pe_op op_add (pe_op op_add (pe_op op_mul (pv 2) (pv 2)) (pe_op op_mul (pv 1) pe_int)) (pe_op op_mod (pv 0) pe_int)) pe_int))
      (pss_cons (ps_set (i := 4) nd rfl (.inl rfl) (pe_op op_mod (pe_op op_add (pe_op op_add (pe_op op_mul (pv 3) (pv 3)) (pe_op op_mul (pv 2) pe_int)) pe_int) pe_int))
      (pss_one (ps_ret (pe_op op_add (pe_op op_mul (pe_op op_add (pe_op op_mul (pv 2) pe_int) (pv 3)) pe_int) (pv 4)))))))), ?_⟩
    walk_at "rd"
    refine ite2 (fun hc => ?_) (fun hc => ?_)
    · walk_at "rd"
      refine k _ ?_
      have e : (10 : Int) ^ Int.toNat 18 = 1000000000000000000 := rfl
      have := of_decide_eq_true hc
      omega
    · walk_at "rd"
      exact k _ (by omega)

def sp_pick : Sp := fun vs H Q _ => ∃ (p c : Addr) (upto : Int), vs = [.ref p, .int upto] ∧ PotC H p c ∧ 0 < upto ∧ upto.natAbs < 2 ^ 1000 ∧ ∀ (r : Int) (H' : Hp), 0 ≤ r → r < upto → PotC H' p c → ExB p H H' → Q (.int r) H'
theorem ok_l_pick0 (T : Env K mg) : FnOk P w K mg base CX0 2 T.a__law_pick T.fd__law_pick ["pot", "upto"] sp_pick := by
  have nd := sc__law_pick.nd
  have G__law_blend : FnOk P w K mg base CX0 1 T.a__law_blend T.fd__law_blend ["cell", "at"] sp_blend := ok_l_blend0 T
  refine T.F__law_pick.ok sc__law_pick (fun vs H Q E h => ?_) (fun cdv A outer s H vs Q E hr h => ?_)
  · obtain ⟨p, c, a, rfl, _⟩ := h
    rfl
  · obtain ⟨p, c, upto, rfl, hP, hu0, hu1, k⟩ := h
    obtain ⟨cs, at', r, hp, hc, hcp, h0, hr0, hl⟩ := hP
    have sp : SqL K H p [.ref c, .int at', .int r] := SqL.of hp
    have sc : SqL K H c (cs.map V.int) := SqL.of hc
    refine ⟨_, (Evl.pss_cut (ps_if (pt_cmpR op_lt (pe_ix ix_list (pv 0) pe_int (fun _ _ => rfl)) (pv 1) (nomark _)) (pss_cons (ps_set (i := 2) nd rfl (.inl rfl) (pe_ix ix_list (pv 0) pe_int (fun _ _ => rfl)))
      (pss_cons (ps_set (i := 3) nd rfl (.inl rfl) (pe_op op_mul pe_int (pv 2)))
      (Evl.pss_cut (ps_if (pt_cmpR op_lt (pv 2) (pe_callB (id := "len") call_len_seq (by rfl) T.n_len PySem.boot_len (pa_cons (pe_ix ix_list (pv 0) pe_int (fun _ _ => rfl)) pa_nil)) (nomark _)) (pss_one (ps_set (i := 3) nd rfl (.inl rfl) (pe_ix ix_list (pe_ix ix_list (pv 0) pe_int (fun _ _ => rfl)) (pv 2) (fun _ _ => rfl)))) (pss_one (ps_if (pt_cmpR (op_neD hr.units) (pe_ix ix_list (pv 0) pe_int (fun _ _ => rfl)) (pe_lst pa_nil) (nomark _)) (pss_one (ps_set (i := 3) nd rfl (.inl rfl) (pe_op op_mod (pe_ix ix_list (pe_ix ix_list (pv 0) pe_int (fun _ _ => rfl)) (pe_op op_mod (pe_op op_add (pe_op op_mul (pv 2) pe_int) pe_int) (pe_callB (id := "len") call_len_seq (by rfl) T.n_len PySem.boot_len (pa_cons (pe_ix ix_list (pv 0) pe_int (fun _ _ => rfl)) pa_nil))) (fun _ _ => rfl)) (pe_op op_add (pe_op op_pow pe_int pe_int) (pe_op op_mul pe_int (pv 2)))))) pss_nil)))
      (pss_cons (ps_asg (pe_op op_add (pv 2) pe_int) (pg_sub (pv 0) pe_int set_list))
      (pss_one (ps_asg (pe_call G__law_blend (hr.mono (by decide)) (by rfl) T.g__law_blend T.F__law_blend.kp T.b__law_blend .nil pass0 (pa_cons (pv 3) (pa_cons (pv 2) pa_nil))) (pg_sub (pv 0) pe_int set_list))))))) pss_nil)
      (pss_cons (ps_set (i := 4) nd rfl (.inl rfl) (pe_op op_mod (pe_ix ix_list (pv 0) pe_int (fun _ _ => rfl)) (pv 1)))
      (pss_cons (ps_asg (pe_op op_fdivW (pe_ix ix_list (pv 0) pe_int (fun _ _ => rfl)) (pv 1)) (pg_sub (pv 0) pe_int set_list))
      (pss_one (ps_ret (pv 4)))))), ?_⟩
    refine ⟨fun σ' H' => ∃ x2 x3 x4, σ' = [some (.ref p), some (.int upto), x2, x3, x4] ∧ ExB p H H' ∧ ∃ at2 r2 : Int, 0 ≤ at2 ∧ 0 ≤ r2 ∧ H' p = some (.lst [.ref c, .int at2, .int r2]) ∧ H' c = some (.lst (cs.map V.int)), ?_, ?_⟩
    · walk_at "rd"
      refine ite2 (fun hc1 => ?_) (fun hc1 => ?_)
      · walk_at "rd"
        refine ⟨fun σ' H' => ∃ cell : Int, σ' = [some (.ref p), some (.int upto), some (.int at'), some (.int cell), none] ∧ Evl.Ex H H', ?_, ?_⟩
        · walk_at "rd"
          refine ite2 (fun hc2 => ?_) (fun hc2 => ?_)
          · have ha : atI (cs.map V.int) at' = some (.int (cs.getD at'.toNat 0)) := atI_int h0 (by
              have := of_decide_eq_true hc2
              rw [List.length_map] at this
              omega)
            walk_at "rd"
            exact ⟨_, rfl, Evl.Ex.refl _⟩
          · walk_at "rd"
            refine ⟨Nat.zero_le _, fun q hq => ?_⟩
            have ex : Evl.Ex H (upd H q (.lst [])) := Evl.Ex.new hq
            have sp1 := Evl.ex_l ex sp
            have sc1 := Evl.ex_l ex sc
            refine ⟨_, _, dp_ints sc1, dp_ints (cs := []) (SqL.of upd_same), shaped_ints cs, shaped_ints [], ?_⟩
            walk_at "rd"
            refine ite2 (fun hc3 => ?_) (fun hc3 => ?_)
            · have hn : cs ≠ [] := by
                rintro rfl
                exact absurd hc3 (by decide)
              have hlen : 0 < cs.length := List.length_pos_iff.mpr hn
              walk_at "rd"
              refine ⟨_, _, rfl, rfl, (by rw [List.length_map]; omega), ?_⟩
              have hm0 := Int.emod_nonneg (at' * 7 + 1) (b := ((cs.map V.int).length : Int)) (by rw [List.length_map]; omega)
              have hm1 := Int.emod_lt_of_pos (at' * 7 + 1) (b := ((cs.map V.int).length : Int)) (by rw [List.length_map]; omega)
              have ha : atI (cs.map V.int) ((at' * 7 + 1) % ((cs.map V.int).length : Int)) = some (.int (cs.getD ((at' * 7 + 1) % ((cs.map V.int).length : Int)).toNat 0)) := atI_int hm0 (by
                rw [List.length_map] at hm1 ⊢
                omega)
              walk_at "rd"
              refine ⟨_, _, rfl, rfl, (by have e : (10 : Int) ^ Int.toNat 17 = 100000000000000000 := rfl; omega), ?_⟩
              exact ⟨_, rfl, ex⟩
            · walk_at "rd"
              exact ⟨_, rfl, ex⟩
        · rintro σ' H' ⟨cell, rfl, ex⟩
          have hp1 := ex p _ hp
          have sp1 := Evl.ex_l ex sp
          walk_at "rd"
          refine ⟨cell, at', rfl, h0, fun r2 hr2 => ?_⟩
          walk_at "rd"
          refine r_setL upd_same (by exact rfl) ?_
          refine ⟨_, _, _, rfl, ?_, at' + 1, r2, by omega, hr2, ?_, ?_⟩
          · exact (ExB.of ex).trans (ExB.upd.trans ExB.upd)
          · exact upd_same
          · rw [upd_ne hcp, upd_ne hcp]
            exact ex c _ hc
      · walk_at "rd"
        exact ⟨_, _, _, rfl, ExB.refl _ _, at', r, h0, hr0, hp, hc⟩
    · rintro σ' H' ⟨x2, x3, x4, rfl, ex, at2, r2, ha2, hr2, hp2, hc2⟩
      have sp2 : SqL K H' p [.ref c, .int at2, .int r2] := SqL.of hp2
      walk_at "rd"
      refine r_I (wide_div hu0 hu1 (by decide) (by decide)) ?_
      walk_at "rd"
      refine k _ _ (Int.emod_nonneg _ (by omega)) (Int.emod_lt_of_pos _ hu0) ⟨cs, at2, r2 / upto, upd_same, ?_, hcp, ha2, Int.ediv_nonneg hr2 (by omega), hl⟩ (ex.trans ExB.upd)
      rw [upd_ne hcp]
      exact hc2

def A_pick : Int → List V → Hp → Prop := fun u vs _ => vs = [.int u] ∧ 0 < u ∧ u.natAbs < 2 ^ 1000
def B_pick : Int → V → List (Addr × Cel) → Hp → Prop := fun u v N _ => N = [] ∧ ∃ r : Int, v = .int r ∧ 0 ≤ r ∧ r < u
theorem PotS.c {F H : Hp} {p : Addr} (h : PotS F H p) (fr : Evl.Ex F H) (hF : F p = none) : ∃ c, PotC H p c := by
  obtain ⟨c, cs, a, r, h1, h2, h3, h4, h5⟩ := h
  exact ⟨c, cs, a, r, h1, fr _ _ h2, Hp.ne (Hp.some_ne h2) hF, h3, h4, h5⟩
theorem ok_l_pick (T : Env K mg) : FnOk P w K mg base CX0 2 T.a__law_pick T.fd__law_pick ["pot", "upto"] (SpP A_pick B_pick) := by
  refine (ok_l_pick0 T).imp fun vs H Q E h => ?_
  obtain ⟨u, F, p, r, rfl, fr, hF, hP, ⟨rfl, h0, h1⟩, k⟩ := h
  obtain ⟨c, cs, a, r, g1, g2, g3, g4, g5⟩ := hP
  have hc : c ≠ p := Hp.ne (Hp.some_ne g2) hF
  refine ⟨p, c, u, rfl, ⟨cs, a, r, g1, fr _ _ g2, hc, g3, g4, g5⟩, h0, h1, fun x H' x0 x1 P' e => ?_⟩
  obtain ⟨cs', a', r', q1, q2, q3, q4, q5, q6⟩ := P'
  have q2' := e c _ hc (fr _ _ g2)
  rw [q2] at q2'
  have q2' := HO.lst.inj (Option.some.inj q2')
  refine k (.int x) [] F H' ⟨fun b o hb n => e b o (by simpa using n) hb, fun b hb => ?_, Evl.Ex.refl _, fun b hb => .inl hb, fun b o hb => e b o (Hp.ne (Hp.some_ne hb) hF) (fr _ _ hb), fun m hm => ?_, by simp, fun m hm o e => by rw [List.nil_append, List.mem_singleton] at hm; subst hm; cases e⟩ ⟨rfl, x, rfl, x0, x1⟩
  · cases z : H b with
    | none => rfl
    | some o =>
      by_cases q : b = p
      · rw [q, q1] at hb; cases hb
      · rw [e b o q z] at hb; cases hb
  · rw [List.nil_append, List.mem_singleton] at hm
    subst hm
    exact ⟨⟨⟨c, cs', a', r', q1, by rw [q2']; exact g2, q4, q5, q6⟩, .inl List.mem_cons_self⟩, hF⟩

end

end
section
local macro_rules | `(tactic| walk_at "ex") => `(tactic| first | exact Evl.Ex.refl _ | assumption | ((refine' Evl.Ex.trans ?x ?y); (case y => assumption); (case x => walk_at "ex")))
local macro_rules | `(tactic| walk_at "hc") => `(tactic| first
  | assumption
  | ((refine' Sep.rdM ?S 0 ?k); (case S => assumption); (case k => exact rfl)) | ((refine' Sep.rdM ?S 1 ?k); (case S => assumption); (case k => exact rfl)) | ((refine' Sep.rdM ?S 2 ?k); (case S => assumption); (case k => exact rfl)) | ((refine' Sep.rdM ?S 3 ?k); (case S => assumption); (case k => exact rfl)) | ((refine' Sep.rdM ?S 4 ?k); (case S => assumption); (case k => exact rfl))
  | ((refine' Sep.rdC ?S ?e ?h); (case S => assumption); (case h => assumption); (case e => walk_at "ex")))
local macro_rules | `(tactic| walk_at "hl") => `(tactic| first
  | assumption
  | ((refine' SqL.of (Sep.rdM ?S 0 ?k)); (case S => assumption); (case k => exact rfl)) | ((refine' SqL.of (Sep.rdM ?S 1 ?k)); (case S => assumption); (case k => exact rfl)) | ((refine' SqL.of (Sep.rdM ?S 2 ?k)); (case S => assumption); (case k => exact rfl)) | ((refine' SqL.of (Sep.rdM ?S 3 ?k)); (case S => assumption); (case k => exact rfl)) | ((refine' SqL.of (Sep.rdM ?S 4 ?k)); (case S => assumption); (case k => exact rfl))
  | ((refine' Sep.rdL ?S ?e ?h); (case S => assumption); (case h => assumption); (case e => walk_at "ex"))
  | ((refine' Sep.rdT ?S ?e ?h); (case S => assumption); (case h => assumption); (case e => walk_at "ex"))
  | ((refine' SqL.of (Sep.rdC ?S ?e ?h)); (case S => assumption); (case h => assumption); (case e => walk_at "ex"))
  | ((refine' SqT.of (Sep.rdC ?S ?e ?h)); (case S => assumption); (case h => assumption); (case e => walk_at "ex"))
  | ((refine' SqL.of ?h); (case h => assumption)) | ((refine' SqT.of ?h); (case h => assumption))
  | ((refine' Evl.ex_l ?e ?h); (case h => assumption); (case e => walk_at "ex")) | ((refine' Evl.ex_t ?e ?h); (case h => assumption); (case e => walk_at "ex"))
  | ((refine' SqL.of (?e _ _ ?h)); (case h => assumption); (case e => walk_at "ex")) | ((refine' SqT.of (?e _ _ ?h)); (case h => assumption); (case e => walk_at "ex")))
local macro_rules | `(tactic| walk_at "hs") => `(tactic| walk_at "hc")
local macro_rules | `(tactic| walk_at "dp") => `(tactic| first
  | assumption
  | ((refine' Sep.rdD ?S ?e ?h); (case S => assumption); (case h => assumption); (case e => walk_at "ex"))
  | ((refine' Dp.ex ?e _ _ ?h); (case h => assumption); (case e => walk_at "ex"))
  | ((refine' DpAll.ex ?e _ _ ?h); (case h => assumption); (case e => walk_at "ex"))
  | (refine' dp_intsD ?h; (case h => walk_at "hl")))
local macro_rules | `(tactic| walk_at "rd1") => `(tactic| (first
  | (with_reducible refine r_seq ?_)
  | (with_reducible refine r_asg ?_)
  | (with_reducible refine r_asgG ?_)
  | (with_reducible refine r_par ?_)
  | (with_reducible refine r_if ?_)
  | (with_reducible refine r_ret ?_)
  | (with_reducible refine r_drop ?_)
  | (with_reducible refine r_next ?_)
  | ((with_reducible refine' r_var ?hx ?_); (case hx => exact rfl))
  | (with_reducible refine r_c ?_)
  | (with_reducible refine r_op ?_)
  | (with_reducible refine r_un ?_)
  | (with_reducible refine r_I0 ?_)
  | ((with_reducible refine' r_I ?_ ?_); (· first | (show (0 : Int) < _; omega) | exact Or.inr ⟨by omega, by omega⟩ | exact Or.inl ⟨by omega, by omega⟩ | exact ⟨by omega, by omega, by decide⟩))
  | (with_reducible refine r_U ?_)
  | (with_reducible refine r_test ?_)
  | (with_reducible refine r_B ?_)
  | (with_reducible refine r_bl ?_)
  | (with_reducible refine r_eqI ?_)
  | (with_reducible refine r_neI ?_)
  | ((with_reducible refine' r_eq ?_ ?_); (· exact rfl))
  | ((with_reducible refine' r_ne ?_ ?_); (· exact rfl))
  | (with_reducible refine r_nil ?_)
  | (with_reducible refine r_cons ?_)
  | (with_reducible refine s_tup ?_)
  | (with_reducible refine s_lst ?_)
  | (with_reducible refine r_call ?_)
  | (with_reducible refine r_cb ?_)
  | (with_reducible refine r_and ?_)
  | (with_reducible refine r_or ?_)
  | (with_reducible refine r_not ?_)
  | (with_reducible refine r_andV ?_)
  | (with_reducible refine r_orV ?_)
  | (with_reducible refine r_notV ?_)
  | (with_reducible refine r_ifE ?_)
  | (with_reducible refine r_gSub ?_)
  | (with_reducible refine r_sadd ?_)
  | (with_reducible refine s_lstRg ?_)
  | (with_reducible refine r_rg1 ?_)
  | (with_reducible refine r_min2 ?_)
  | (with_reducible refine r_par2 ?_)
  | (with_reducible refine r_partI ?_)
  | (with_reducible refine s_lc ?_)
  | (with_reducible refine s_dc ?_)
  | (with_reducible refine r_yes ?_)
  | (with_reducible refine r_iZipA ?_)
  | (with_reducible refine r_isN ?_)
  | (with_reducible refine r_for ?_)
  | (with_reducible refine r_iList ?_)
  | (with_reducible refine r_iTup ?_)
  | (with_reducible refine r_iRng1 ?_)
  | (with_reducible refine r_iRng2 ?_)
  | (with_reducible refine r_iEnum ?_)
  | (with_reducible refine r_iZip ?_)
  | (with_reducible refine r_gName ?_)
  | (with_reducible refine r_isNV ?_)
  | (with_reducible refine r_notNV ?_)
  | (with_reducible refine r_bm ?_)
  | (with_reducible refine r_bm0 ?_)
  | (with_reducible refine r_sl ?_)
  | (with_reducible refine r_noPart ?_)
  | (with_reducible refine r_part ?_)
  | (with_reducible refine r_chain ?_)
  | (with_reducible refine r_iKeys ?_)
  | (with_reducible refine r_iItems ?_)
  | (with_reducible refine r_frz ?_)
  | (with_reducible refine r_dput ?_)
  | (with_reducible refine r_dget ?_)
  | (with_reducible refine r_din ?_)
  | (with_reducible refine r_dnotin ?_)
  | (with_reducible refine r_break ?_)
  | ((with_reducible refine' r_sIn ?h ?_); (case h => walk_at "hs"))
  | ((with_reducible refine' r_sNotIn ?h ?_); (case h => walk_at "hs"))
  | ((with_reducible refine' r_inI ?h ?_); (case h => walk_at "hl"))
  | ((with_reducible refine' r_notInI ?h ?_); (case h => walk_at "hl"))
  | ((with_reducible refine' r_eqNil ?h ?g ?_); (case h => walk_at "hl"); (case g => walk_at "hl"))
  | ((with_reducible refine' r_neNil ?h ?g ?_); (case h => walk_at "hl"); (case g => walk_at "hl"))
  | ((with_reducible refine' iteRT ?hh ?_); (case hh => exact rfl))
  | ((with_reducible refine' iteRF ?hh ?_); (case hh => exact rfl))
  | ((with_reducible refine' r_isiT ?ty ?hk ?_); (case ty => (first | assumption | exact tyx_L (by assumption) | exact tyx_T (by assumption) | exact .base (.non) | exact .base (.bl _) | exact .base (.int _) | exact .base (.str _) | exact tyx_L (by walk_at "hl") | exact tyx_T (by walk_at "hl"))); (case hk => decide +kernel))
  | ((with_reducible refine' r_isiF ?ty ?hk ?_); (case ty => (first | assumption | exact tyx_L (by assumption) | exact tyx_T (by assumption) | exact .base (.non) | exact .base (.bl _) | exact .base (.int _) | exact .base (.str _) | exact tyx_L (by walk_at "hl") | exact tyx_T (by walk_at "hl"))); (case hk => decide +kernel))
  | ((with_reducible refine' r_gTup2 ?hn ?hs ?_); (case hn => exact rfl); (case hs => walk_at "hl"))
  | ((with_reducible refine' s_list ?hl ?_); (case hl => first | exact Or.inl (by walk_at "hl") | exact Or.inr (by walk_at "hl")))
  | ((with_reducible refine' s_tupN ?hl ?_); (case hl => walk_at "hl"))
  | ((with_reducible refine' s_sortN ?hl ?_); (case hl => walk_at "hl"))
  | ((refine' ⟨_, _, rfl, ?hl, ?_⟩); (case hl => first | exact Or.inl (by walk_at "hl") | exact Or.inr (by walk_at "hl")))
  | ((with_reducible refine' r_ixL ?hl ?ha ?_); (case hl => walk_at "hl"); (case ha => first | exact rfl | assumption))
  | ((with_reducible refine' r_ixT ?hl ?ha ?_); (case hl => walk_at "hl"); (case ha => first | exact rfl | assumption))))
local macro_rules | `(tactic| walk_at "rd") => `(tactic| repeat (walk_at "rd1"))

section
variable {P : Program} {w : World} {K : PySem.W.Frag} {mg : Str → Option Value} {base : Heap}

def A_pot (K : PySem.W.Frag) : List Int → List V → Hp → Prop := fun ns vs F => ∃ a, vs = [.ref a] ∧ SqL K F a (ns.map V.int) ∧ ns.length ≤ 63
def B_pot : List Int → V → List (Addr × Cel) → Hp → Prop := fun _ v N _ => ∃ p, v = .ref p ∧ N = [(p, .pot)]
theorem ok_l_pot (T : Env K mg) : FnOk P w K mg base CX0 1 T.a__law_pot T.fd__law_pot ["script"] (SpF (A_pot K) B_pot) := by
  have nd := sc__law_pot.nd
  refine T.F__law_pot.ok sc__law_pot (fun vs H Q E h => ?_) (fun cdv A outer s H vs Q E hr h => ?_)
  · obtain ⟨x, F, _, ⟨a, rfl, _⟩, _⟩ := h
    rfl
  · obtain ⟨ns, F, fr, ⟨a, rfl, hS, hl⟩, k⟩ := h
    have S := Sep.start0 fr
    refine ⟨_, (pss_cons (ps_set (i := 1) nd rfl (.inl rfl) (pe_callTy call_listN (by rfl) T.n_list (by decide +kernel) (pa_cons (pe_slice sl_list (pv 0) po_none (po_some pe_int)) pa_nil)))
      (pss_cons (ps_for PassesOwn.never rfl (pi_enum (by rfl) T.n_enumerate (pa_cons (pe_slice sl_list (pv 0) (po_some pe_int) (po_some pe_int)) pa_nil)) (pg_tup rfl (pgs_cons (pg_name (i := 2) nd rfl (.inl rfl)) (pgs_cons (pg_name (i := 3) nd rfl (.inl rfl)) pgs_nil))) (pss_one (ps_asg (pe_op op_add (pe_ix ix_list (pv 1) (pe_op op_mod (pv 2) pe_int) (fun _ _ => rfl)) (pv 3)) (pg_sub (pv 1) (pe_op op_mod (pv 2) pe_int) set_list))))
      (pss_one (ps_ret (pe_lst (pa_cons (pv 1) (pa_cons pe_int (pa_cons pe_int pa_nil)))))))), ?_⟩
    walk_at "rd"
    refine s_slL (by walk_at "hl") (s_new S fun q F1 H1 S e1 c1 => ?_)
    walk_at "rd"
    refine s_own S fun c H2 S => ?_
    walk_at "rd"
    refine s_slL (by walk_at "hl") (s_new S fun q2 F3 H3 S e3 c3 => ?_)
    refine ⟨q2, _, rfl, by walk_at "hl", ?_⟩
    have e12 : cutV (ns.map V.int) none (some 12) = (ns.take 12).map V.int := by
      rw [cutV_map, show ((12 : Int)) = ((12 : Nat) : Int) from rfl, cutG_take]
    have e63 : cutV (ns.map V.int) (some 12) (some 63) = (cutG ns (some 12) (some 63)).map V.int := cutV_map ..
    have l63 := (cutG_len ns 12 63).2
    rw [e12] at S
    rw [e63] at c3
    refine s_forE (fun i σ' F' M' => ∃ (x2 x3 : Option V) (cs : List Int), σ' = [some (.ref a), some (.ref c), x2, x3] ∧ M' = [(c, .is (.lst (cs.map V.int)))] ∧ cs.length = (ns.take 12).length) S (SqL.of c3) ⟨none, none, ns.take 12, rfl, rfl, rfl⟩ ?_ ?_
    · rintro i x t σ' F4 F5 H5 M' ei S e4 e5 ct ⟨x2, x3, cs, rfl, rfl, h2⟩
      rw [List.getElem?_map] at ei
      cases e : (cutG ns (some 12) (some 63))[i]? with
      | none => rw [e] at ei; cases ei
      | some z =>
        rw [e] at ei
        cases ei
        have hlen : cs.length = 12 := by
          rw [h2, List.length_take]
          have : ¬ ns.length ≤ 12 := fun q => by
            have l := l63 q
            have lt := (List.getElem?_eq_some_iff.mp e).1
            have e1 : ((12 : Nat) : Int) = 12 := rfl
            have e2 : ((63 : Nat) : Int) = 63 := rfl
            rw [e1, e2] at l
            omega
          omega
        have ha : atI (cs.map V.int) ((i : Int) % 12) = some (.int (cs.getD ((i : Int) % 12).toNat 0)) := atI_int (by omega) (by omega)
        have hx : ixN (cs.map V.int).length ((i : Int) % 12) = some ((i : Int) % 12).toNat := by
          unfold ixN
          rw [if_pos (by omega), if_pos (by rw [List.length_map]; omega)]
        walk_at "rd"
        refine s_setL S 0 rfl hx fun H6 S => ?_
        refine ⟨F5, _, S, e4.trans e5, _, _, cs.set ((i : Int) % 12).toNat (cs.getD ((i : Int) % 12).toNat 0 + z), rfl, ?_, by rw [List.length_set]; exact h2⟩
        rw [List.map_set]
        rfl
    · rintro σ' F4 H4 M' S e4 ⟨x2, x3, cs, rfl, rfl, h2⟩
      walk_at "rd"
      obtain ⟨F5, S, e5, cc⟩ := S.frz 0 rfl
      refine ⟨(by show 3 ≤ sizeLine; decide), s_own S fun p H5 S => ?_⟩
      have S := S.topot 0 rfl ⟨c, cs, 0, 0, S.rdM 0 rfl, cc, Int.le_refl _, Int.le_refl _, by rw [h2, List.length_take]; omega⟩
      exact k _ _ _ _ S ⟨p, rfl, rfl⟩

end

end
section
local macro_rules | `(tactic| walk_at "ex") => `(tactic| first | exact Evl.Ex.refl _ | assumption | ((refine' Evl.Ex.trans ?x ?y); (case y => assumption); (case x => walk_at "ex")))
local macro_rules | `(tactic| walk_at "hc") => `(tactic| first
  | assumption
  | ((refine' Sep.rdM ?S 0 ?k); (case S => assumption); (case k => exact rfl)) | ((refine' Sep.rdM ?S 1 ?k); (case S => assumption); (case k => exact rfl)) | ((refine' Sep.rdM ?S 2 ?k); (case S => assumption); (case k => exact rfl)) | ((refine' Sep.rdM ?S 3 ?k); (case S => assumption); (case k => exact rfl)) | ((refine' Sep.rdM ?S 4 ?k); (case S => assumption); (case k => exact rfl))
  | ((refine' Sep.rdC ?S ?e ?h); (case S => assumption); (case h => assumption); (case e => walk_at "ex")))
local macro_rules | `(tactic| walk_at "hl") => `(tactic| first
  | assumption
  | ((refine' SqL.of (Sep.rdM ?S 0 ?k)); (case S => assumption); (case k => exact rfl)) | ((refine' SqL.of (Sep.rdM ?S 1 ?k)); (case S => assumption); (case k => exact rfl)) | ((refine' SqL.of (Sep.rdM ?S 2 ?k)); (case S => assumption); (case k => exact rfl)) | ((refine' SqL.of (Sep.rdM ?S 3 ?k)); (case S => assumption); (case k => exact rfl)) | ((refine' SqL.of (Sep.rdM ?S 4 ?k)); (case S => assumption); (case k => exact rfl))
  | ((refine' Sep.rdL ?S ?e ?h); (case S => assumption); (case h => assumption); (case e => walk_at "ex"))
  | ((refine' Sep.rdT ?S ?e ?h); (case S => assumption); (case h => assumption); (case e => walk_at "ex"))
  | ((refine' SqL.of (Sep.rdC ?S ?e ?h)); (case S => assumption); (case h => assumption); (case e => walk_at "ex"))
  | ((refine' SqT.of (Sep.rdC ?S ?e ?h)); (case S => assumption); (case h => assumption); (case e => walk_at "ex"))
  | ((refine' SqL.of ?h); (case h => assumption)) | ((refine' SqT.of ?h); (case h => assumption))
  | ((refine' Evl.ex_l ?e ?h); (case h => assumption); (case e => walk_at "ex")) | ((refine' Evl.ex_t ?e ?h); (case h => assumption); (case e => walk_at "ex"))
  | ((refine' SqL.of (?e _ _ ?h)); (case h => assumption); (case e => walk_at "ex")) | ((refine' SqT.of (?e _ _ ?h)); (case h => assumption); (case e => walk_at "ex")))
local macro_rules | `(tactic| walk_at "hs") => `(tactic| walk_at "hc")
local macro_rules | `(tactic| walk_at "dp") => `(tactic| first
  | assumption
  | ((refine' Sep.rdD ?S ?e ?h); (case S => assumption); (case h => assumption); (case e => walk_at "ex"))
  | ((refine' Dp.ex ?e _ _ ?h); (case h => assumption); (case e => walk_at "ex"))
  | ((refine' DpAll.ex ?e _ _ ?h); (case h => assumption); (case e => walk_at "ex"))
  | (refine' dp_intsD ?h; (case h => walk_at "hl")))
local macro_rules | `(tactic| walk_at "rd1") => `(tactic| (first
  | (with_reducible refine r_seq ?_)
  | (with_reducible refine r_asg ?_)
  | (with_reducible refine r_asgG ?_)
  | (with_reducible refine r_par ?_)
  | (with_reducible refine r_if ?_)
  | (with_reducible refine r_ret ?_)
  | (with_reducible refine r_drop ?_)
  | (with_reducible refine r_next ?_)
  | ((with_reducible refine' r_var ?hx ?_); (case hx => exact rfl))
  | (with_reducible refine r_c ?_)
  | (with_reducible refine r_op ?_)
  | (with_reducible refine r_un ?_)
  | (with_reducible refine r_I0 ?_)
  | ((with_reducible refine' r_I ?_ ?_); (· first | (show (0 : Int) < _; omega) | exact Or.inr ⟨by omega, by omega⟩ | exact Or.inl ⟨by omega, by omega⟩ | exact ⟨by omega, by omega, by decide⟩))
  | (with_reducible refine r_U ?_)
  | (with_reducible refine r_test ?_)
  | (with_reducible refine r_B ?_)
  | (with_reducible refine r_bl ?_)
  | (with_reducible refine r_eqI ?_)
  | (with_reducible refine r_neI ?_)
  | ((with_reducible refine' r_eq ?_ ?_); (· exact rfl))
  | ((with_reducible refine' r_ne ?_ ?_); (· exact rfl))
  | (with_reducible refine r_nil ?_)
  | (with_reducible refine r_cons ?_)
  | (with_reducible refine s_tup ?_)
  | (with_reducible refine s_lst ?_)
  | (with_reducible refine r_call ?_)
  | (with_reducible refine r_cb ?_)
  | (with_reducible refine r_and ?_)
  | (with_reducible refine r_or ?_)
  | (with_reducible refine r_not ?_)
  | (with_reducible refine r_andV ?_)
  | (with_reducible refine r_orV ?_)
  | (with_reducible refine r_notV ?_)
  | (with_reducible refine r_ifE ?_)
  | (with_reducible refine r_gSub ?_)
  | (with_reducible refine r_sadd ?_)
  | (with_reducible refine s_lstRg ?_)
  | (with_reducible refine r_rg1 ?_)
  | (with_reducible refine r_min2 ?_)
  | (with_reducible refine r_par2 ?_)
  | (with_reducible refine r_partI ?_)
  | (with_reducible refine s_lc ?_)
  | (with_reducible refine s_dc ?_)
  | (with_reducible refine r_yes ?_)
  | (with_reducible refine r_iZipA ?_)
  | (with_reducible refine r_isN ?_)
  | (with_reducible refine r_for ?_)
  | (with_reducible refine r_iList ?_)
  | (with_reducible refine r_iTup ?_)
  | (with_reducible refine r_iRng1 ?_)
  | (with_reducible refine r_iRng2 ?_)
  | (with_reducible refine r_iEnum ?_)
  | (with_reducible refine r_iZip ?_)
  | (with_reducible refine r_gName ?_)
  | (with_reducible refine r_isNV ?_)
  | (with_reducible refine r_notNV ?_)
  | (with_reducible refine r_bm ?_)
  | (with_reducible refine r_bm0 ?_)
  | (with_reducible refine r_sl ?_)
  | (with_reducible refine r_noPart ?_)
  | (with_reducible refine r_part ?_)
  | (with_reducible refine r_chain ?_)
  | (with_reducible refine r_iKeys ?_)
  | (with_reducible refine r_iItems ?_)
  | (with_reducible refine r_frz ?_)
  | (with_reducible refine r_dput ?_)
  | (with_reducible refine r_dget ?_)
  | (with_reducible refine r_din ?_)
  | (with_reducible refine r_dnotin ?_)
  | (with_reducible refine r_break ?_)
  | ((with_reducible refine' r_sIn ?h ?_); (case h => walk_at "hs"))
  | ((with_reducible refine' r_sNotIn ?h ?_); (case h => walk_at "hs"))
  | ((with_reducible refine' r_inI ?h ?_); (case h => walk_at "hl"))
  | ((with_reducible refine' r_notInI ?h ?_); (case h => walk_at "hl"))
  | ((with_reducible refine' r_eqNil ?h ?g ?_); (case h => walk_at "hl"); (case g => walk_at "hl"))
  | ((with_reducible refine' r_neNil ?h ?g ?_); (case h => walk_at "hl"); (case g => walk_at "hl"))
  | ((with_reducible refine' iteRT ?hh ?_); (case hh => exact rfl))
  | ((with_reducible refine' iteRF ?hh ?_); (case hh => exact rfl))
  | ((with_reducible refine' r_isiT ?ty ?hk ?_); (case ty => (first | assumption | exact tyx_L (by assumption) | exact tyx_T (by assumption) | exact .base (.non) | exact .base (.bl _) | exact .base (.int _) | exact .base (.str _) | exact tyx_L (by walk_at "hl") | exact tyx_T (by walk_at "hl"))); (case hk => decide +kernel))
  | ((with_reducible refine' r_isiF ?ty ?hk ?_); (case ty => (first | assumption | exact tyx_L (by assumption) | exact tyx_T (by assumption) | exact .base (.non) | exact .base (.bl _) | exact .base (.int _) | exact .base (.str _) | exact tyx_L (by walk_at "hl") | exact tyx_T (by walk_at "hl"))); (case hk => decide +kernel))
  | ((with_reducible refine' r_gTup2 ?hn ?hs ?_); (case hn => exact rfl); (case hs => walk_at "hl"))
  | ((with_reducible refine' s_list ?hl ?_); (case hl => first | exact Or.inl (by walk_at "hl") | exact Or.inr (by walk_at "hl")))
  | ((with_reducible refine' s_tupN ?hl ?_); (case hl => walk_at "hl"))
  | ((with_reducible refine' s_sortN ?hl ?_); (case hl => walk_at "hl"))
  | ((refine' ⟨_, _, rfl, ?hl, ?_⟩); (case hl => first | exact Or.inl (by walk_at "hl") | exact Or.inr (by walk_at "hl")))
  | ((with_reducible refine' r_ixL ?hl ?ha ?_); (case hl => walk_at "hl"); (case ha => first | exact rfl | assumption))
  | ((with_reducible refine' r_ixT ?hl ?ha ?_); (case hl => walk_at "hl"); (case ha => first | exact rfl | assumption))))
local macro_rules | `(tactic| walk_at "rd") => `(tactic| repeat (walk_at "rd1"))

section
variable {P : Program} {w : World} {K : PySem.W.Frag} {mg : Str → Option Value} {base : Heap}

def A_web : Int → List V → Hp → Prop := fun most vs _ => vs = [.int most] ∧ 1 ≤ most ∧ most ≤ 60
def B_web (K : PySem.W.Frag) : Int → V → List (Addr × Cel) → Hp → Prop := fun most v N F => N = [] ∧ ∃ many ties, many ≤ most ∧ WebOk many ties ∧ Dp K F v (webD many ties)
theorem ok_l_web (T : Env K mg) : FnOk P w K mg base CX0 3 T.a__law_web T.fd__law_web ["pot", "most"] (SpP A_web (B_web K)) := by
  have nd := sc__law_web.nd
  have G__law_pick : FnOk P w K mg base CX0 2 T.a__law_pick T.fd__law_pick ["pot", "upto"] (SpP A_pick B_pick) := ok_l_pick T
  refine T.F__law_web.ok sc__law_web (fun vs H Q E h => ?_) (fun cdv A outer s H vs Q E hr h => ?_)
  · obtain ⟨x, F, p, r, rfl, _, _, _, ⟨rfl, _⟩, _⟩ := h
    rfl
  · obtain ⟨most, F, p, r, rfl, fr, hF, hP, ⟨rfl, hm1, hm2⟩, k⟩ := h
    have S := Sep.startP fr hF hP
    refine ⟨_, (pss_cons (ps_set (i := 2) nd rfl (.inl rfl) (pe_op op_add pe_int (pe_call G__law_pick (hr.mono (by decide)) (by rfl) T.g__law_pick T.F__law_pick.kp T.b__law_pick .nil pass0 (pa_cons (pv 0) (pa_cons (pv 1) pa_nil)))))
      (pss_cons (ps_set (i := 3) nd rfl (.inl rfl) (pe_call G__law_pick (hr.mono (by decide)) (by rfl) T.g__law_pick T.F__law_pick.kp T.b__law_pick .nil pass0 (pa_cons (pv 0) (pa_cons pe_int pa_nil))))
      (pss_cons (ps_set (i := 4) nd rfl (.inl rfl) (pe_op op_add pe_int (pe_call G__law_pick (hr.mono (by decide)) (by rfl) T.g__law_pick T.F__law_pick.kp T.b__law_pick .nil pass0 (pa_cons (pv 0) (pa_cons pe_int pa_nil)))))
      (pss_cons (ps_set (i := 5) nd rfl (.inr rfl) (pe_listRg rfl (by rfl) T.n_list (prg_1 (by rfl) T.n_range (pv 2))))
      (pss_cons (ps_setLc (i := 6) (own := [("k", 13)]) (g := gName 13) (tt := tYes) (te := (tBM K "list" rPopAt (tVar 5) (tCons (tCall (SpP A_pick B_pick) [] E0 (tCons (tVar 0) (tCons (tCB (Evl.rLenS K) (tCons (tVar 5) tNil)) tNil))) tNil))) rfl nd rfl rfl (sw_true rfl rfl rfl (by decide +kernel)) (pi_range1 (by rfl) T.n_range (pa_cons (pv 2) pa_nil)) (blkOk_by (N := ["pot", "most", "many", "way", "share", "order", "places", "ties", "one", "other", "here", "there", "drawn", "k"]) (sc := defScope s__law_web) (by decide +kernel)) (fun _ _ _ _ _ => (pg_name (i := 13) nd rfl (.inl rfl))) (fun _ _ _ _ _ => pts_nil) (fun _ _ _ _ _ => (pe_bm PySem.F.plainAttrs_list PySem.F.slot_list_pop PySem.F.type_list_pop mt_popAt (pv 5) (pa_cons (pe_call G__law_pick (hr.mono (by decide)) (by rfl) T.g__law_pick T.F__law_pick.kp T.b__law_pick .nil pass0 (pa_cons (pv 0) (pa_cons (pe_callB (id := "len") call_len_seq (by rfl) T.n_len PySem.boot_len (pa_cons (pv 5) pa_nil)) pa_nil))) pa_nil))))
      (pss_cons (ps_set (i := 7) nd rfl (.inl rfl) (pe_lst pa_nil))
      (pss_cons (ps_for PassesOwn.never rfl (pi_range1 (by rfl) T.n_range (pa_cons (pv 2) pa_nil)) (pg_name (i := 8) nd rfl (.inl rfl)) (pss_one (ps_for PassesOwn.never rfl (pi_range2 (by rfl) T.n_range (pa_cons (pe_op op_add (pv 8) pe_int) (pa_cons (pv 2) pa_nil))) (pg_name (i := 9) nd rfl (.inl rfl)) (pss_cons (ps_par (i := 10) (j := 11) (by rfl) nd rfl rfl (by decide) rfl rfl (pa_cons (pe_ix ix_list (pv 6) (pv 8) (fun _ _ => rfl)) (pa_cons (pe_ix ix_list (pv 6) (pv 9) (fun _ _ => rfl)) pa_nil)) (by rfl))
      (pss_cons (ps_set (i := 12) nd rfl (.inl rfl) (pe_cmpR op_lt (pe_call G__law_pick (hr.mono (by decide)) (by rfl) T.g__law_pick T.F__law_pick.kp T.b__law_pick .nil pass0 (pa_cons (pv 0) (pa_cons pe_int pa_nil))) (pv 4) (nomark _)))
      (Evl.pss_cut (ps_if (pt_cmpR op_eq (pv 3) pe_int (nomark _)) (pss_one (ps_set (i := 12) nd rfl (.inl rfl) (pe_or (pe_cmpR op_eq (pv 9) (pe_op op_add (pv 8) pe_int) (nomark _)) (pe_one (pe_and (pe_cmpR op_eq (pv 8) pe_int (nomark _)) (pe_and (pe_cmpR op_eq (pv 9) (pe_op op_sub (pv 2) pe_int) (nomark _)) (pe_one (pe_cmpR op_gt (pv 4) pe_int (nomark _))))))))) pss_nil)
      (Evl.pss_cut (ps_if (pt_cmpR op_eq (pv 3) pe_int (nomark _)) (pss_one (ps_set (i := 12) nd rfl (.inl rfl) (pe_cmpR op_eq (pv 8) pe_int (nomark _)))) pss_nil)
      (pss_one (ps_if (pt_val (pv 12)) (pss_one (ps_expr (pe_bm PySem.F.plainAttrs_list PySem.F.slot_list_append PySem.F.type_list_append mt_append (pv 7) (pa_cons (pe_tup (pa_cons (pe_callB (id := "min") (call_min2 rfl) (by rfl) T.n_min (by decide +kernel) (pa_cons (pv 10) (pa_cons (pv 11) pa_nil))) (pa_cons (pe_callB (id := "max") (call_max2 rfl) (by rfl) T.n_max (by decide +kernel) (pa_cons (pv 10) (pa_cons (pv 11) pa_nil))) pa_nil))) pa_nil)))) pss_nil)))))))))
      (pss_one (ps_ret (pe_tup (pa_cons (pv 2) (pa_cons (pe_callTy call_tupN (by rfl) T.n_tuple (by decide +kernel) (pa_cons (pe_callB (id := "sorted") cr_sortedPN (by rfl) T.n_sorted (by decide +kernel) (pa_cons (pv 7) pa_nil)) pa_nil)) pa_nil)))))))))))), ?_⟩
    walk_at "rd"
    refine r_callP S 0 rfl most ⟨rfl, by omega, small_up (by omega) (by omega)⟩ fun v N F1 H1 S e1 ⟨z, r1, ev, h10, h11⟩ => ?_
    subst z ev
    walk_at "rd"
    refine r_callP S 0 rfl 6 ⟨rfl, by omega, small_up (by omega) (by omega)⟩ fun v N F2 H2 S e2 ⟨z, way, ev, h20, h21⟩ => ?_
    subst z ev
    walk_at "rd"
    refine r_callP S 0 rfl 5 ⟨rfl, by omega, small_up (by omega) (by omega)⟩ fun v N F3 H3 S e3 ⟨z, r3, ev, h30, h31⟩ => ?_
    subst z ev
    obtain ⟨many, rfl⟩ : ∃ many, r1 = many - 1 := ⟨r1 + 1, by omega⟩
    have hmany : 1 + (many - 1) = many := by omega
    rw [hmany]
    walk_at "rd"
    refine ⟨⟨by omega, by omega, by omega, by omega, by omega⟩, ?_⟩
    rw [rgV_eq]
    refine s_own S fun o H4 S => ?_
    walk_at "rd"
    refine ⟨many, rfl, by omega, by omega, ?_⟩
    refine s_lcI srcR (fun i acc F' M' => ∃ rem ac : List Int, acc = ac.map V.int ∧ M' = [(o, .is (.lst (rem.map V.int))), (p, .pot)] ∧ rem.length + i = many.toNat ∧ ac.length = i ∧ (ac ++ rem).Perm (rgI many)) S ⟨rgI many, [], rfl, rfl, by rw [rgI_len]; rfl, rfl, List.Perm.refl _⟩ (fun _ _ _ _ _ m hm => by cases hm) ?_ ?_
    · rintro i x _ acc D F5 F6 H6 M' hi S e5 e6 rfl ⟨rem, ac, rfl, rfl, h3, h4, h5⟩
      have hi := (List.getElem?_eq_some_iff.mp hi).1
      rw [List.length_map, List.length_range] at hi
      walk_at "rd"
      refine ⟨rfl, ?_⟩
      walk_at "rd"
      refine ⟨tyL (by walk_at "hl"), ?_⟩
      walk_at "rd"
      refine r_callP S 2 rfl _ ⟨rfl, by rw [List.length_map]; omega, small_up (by rw [List.length_map]; omega) (by rw [List.length_map]; omega)⟩ fun v N F7 H7 S e7 ⟨z, r, ev, hr0, hr1⟩ => ?_
      subst z ev
      rw [List.length_map] at hr1
      have hlt : r.toNat < rem.length := by omega
      have hy : (rem.map V.int)[r.toNat]? = some (.int rem[r.toNat]) := by
        rw [List.getElem?_map, List.getElem?_eq_getElem hlt]
        rfl
      walk_at "rd"
      refine s_popAt S 1 rfl hr0 (by rw [List.length_map]; exact hr1) (by rw [List.length_map]; omega) hy fun H8 S => ?_
      rw [map_eraseIdx] at S
      refine CI.put S (by walk_at "ex") (by rw [List.length_map]; omega) ⟨rem.eraseIdx r.toNat, ac ++ [rem[r.toNat]], by rw [List.map_append]; rfl, rfl, ?_, by rw [List.length_append]; simp [h4], ?_⟩
      · rw [List.length_eraseIdx_of_lt hlt]
        omega
      · refine List.Perm.trans ?_ h5
        rw [List.append_assoc]
        exact List.Perm.append_left _ (eraseIdx_perm rem r.toNat _ (List.getElem?_eq_getElem hlt))
    · rintro D acc F5 H5 M' S e5 ⟨rem, pl, rfl, rfl, h3, h4, h5⟩
      rw [List.length_map, List.length_range] at h3
      have hrem : rem = [] := List.length_eq_zero_iff.mp (by omega)
      rw [hrem, List.append_nil] at h5
      have hpl : pl.length = many.toNat := by rw [h5.length_eq, rgI_len]
      have pn : pl.Nodup := h5.nodup_iff.mpr (rgI_nd many)
      have S := S.drop 1
      clear h3 h4 hrem
      walk_at "rd"
      refine ⟨Nat.zero_le _, s_own S fun tl H6 S => ?_⟩
      walk_at "rd"
      refine ⟨many, rfl, by omega, by omega, ?_⟩
      refine s_forR (fun i σ' F' M' => ∃ (x8 x9 x10 x11 x12 : Option V) (rs : List V) (ps : List (Int × Int)), σ' = [some (.ref p), some (.int most), some (.int many), some (.int way), some (.int (1 + r3)), some (.ref o), some (.ref D), some (.ref tl), x8, x9, x10, x11, x12, none] ∧ M' = [(tl, .is (.lst rs)), (D, .is (.lst (pl.map V.int))), (p, .pot)] ∧ TupsAt F' rs ps ∧ PsOk pl ps i 0 ∧ rs.length ≤ i * 60) S ⟨none, none, none, none, none, [], [], rfl, rfl, .nil, ⟨List.nodup_nil, fun t ht => (by cases ht)⟩, Nat.zero_le _⟩ ?_ ?_
      · rintro i σ6 F6 H7 M' hi S e6 ⟨x8, x9, x10, x11, x12, rs, ps, rfl, rfl, g4, g5, g6⟩
        walk_at "rd"
        refine ⟨⟨by omega, by omega, by omega, by omega⟩, ?_⟩
        refine s_forR (fun j σ' F' M' => ∃ (x9 x10 x11 x12 : Option V) (rs : List V) (ps : List (Int × Int)), σ' = [some (.ref p), some (.int most), some (.int many), some (.int way), some (.int (1 + r3)), some (.ref o), some (.ref D), some (.ref tl), some (.int (0 + (i : Int))), x9, x10, x11, x12, none] ∧ M' = [(tl, .is (.lst rs)), (D, .is (.lst (pl.map V.int))), (p, .pot)] ∧ TupsAt F' rs ps ∧ PsOk pl ps i (i + 1 + j) ∧ rs.length ≤ i * 60 + j) S ⟨x9, x10, x11, x12, rs, ps, rfl, rfl, g4, g5.mono (by omega), g6⟩ ?_ ?_
        · rintro j σ8 F7 H9 M' hj S e7 ⟨x9, x10, x11, x12, rs, ps, rfl, rfl, g4, g5, g6⟩
          have a1 : atI (pl.map V.int) (0 + (i : Int)) = some (.int (pl.getD i 0)) := by
            have := atI_int (cs := pl) (i := 0 + (i : Int)) (by omega) (by omega)
            rw [show (0 + (i : Int)).toNat = i by omega] at this
            exact this
          have a2 : atI (pl.map V.int) (0 + (i : Int) + 1 + (j : Int)) = some (.int (pl.getD (i + 1 + j) 0)) := by
            have := atI_int (cs := pl) (i := 0 + (i : Int) + 1 + (j : Int)) (by omega) (by omega)
            rw [show (0 + (i : Int) + 1 + (j : Int)).toNat = i + 1 + j by omega] at this
            exact this
          walk_at "rd"
          refine r_callP S 2 rfl 6 ⟨rfl, by omega, small_up (by omega) (by omega)⟩ fun v N F8 HA S e8 ⟨z, r, ev, hr0, hr1⟩ => ?_
          subst z ev
          have g4 := g4.mono (ExT.of e8)
          walk_at "rd"
          refine ⟨fun σ' H' => ∃ b : Bool, σ' = [some (.ref p), some (.int most), some (.int many), some (.int way), some (.int (1 + r3)), some (.ref o), some (.ref D), some (.ref tl), some (.int (0 + (i : Int))), some (.int (0 + (i : Int) + 1 + (j : Int))), some (.int (pl.getD i 0)), some (.int (pl.getD (i + 1 + j) 0)), some (.bl b), none] ∧ H' = HA, ?_, ?_⟩
          · walk_at "rd"
            refine iteB (fun _ => ?_) (fun _ => ?_)
            · walk_at "rd"
              refine iteB (fun _ => ?_) (fun _ => ?_)
              · exact ⟨_, rfl, rfl⟩
              · walk_at "rd"
                refine iteB (fun _ => ?_) (fun _ => ?_)
                · walk_at "rd"
                  refine iteB (fun _ => ?_) (fun _ => ?_)
                  · walk_at "rd"
                    exact ⟨_, rfl, rfl⟩
                  · exact ⟨_, rfl, rfl⟩
                · exact ⟨_, rfl, rfl⟩
            · walk_at "rd"
              exact ⟨_, rfl, rfl⟩
          · rintro σ' H' ⟨b, rfl, rfl⟩
            refine ⟨fun σ' H'' => ∃ b : Bool, σ' = [some (.ref p), some (.int most), some (.int many), some (.int way), some (.int (1 + r3)), some (.ref o), some (.ref D), some (.ref tl), some (.int (0 + (i : Int))), some (.int (0 + (i : Int) + 1 + (j : Int))), some (.int (pl.getD i 0)), some (.int (pl.getD (i + 1 + j) 0)), some (.bl b), none] ∧ H'' = H', ?_, ?_⟩
            · walk_at "rd"
              refine iteB (fun _ => ?_) (fun _ => ?_)
              · walk_at "rd"
                exact ⟨_, rfl, rfl⟩
              · walk_at "rd"
                exact ⟨_, rfl, rfl⟩
            · rintro σ'' H'' ⟨b, rfl, rfl⟩
              walk_at "rd"
              refine iteB (fun _ => ?_) (fun _ => ?_)
              · walk_at "rd"
                refine ⟨tyL (by walk_at "hl"), ?_⟩
                walk_at "rd"
                refine ⟨(by show 2 ≤ sizeLine; decide), s_new S fun t F9 HB S e9 ct => ?_⟩
                walk_at "rd"
                refine s_app S 0 rfl (by omega) fun HC S => ?_
                exact ⟨_, _, S, by walk_at "ex", _, _, _, _, rs ++ [.ref t], ps ++ [fP pl i (i + 1 + j)], rfl, rfl, TupsAt.snoc ct (g4.mono (ExT.of e9)), (g5.snoc pn (by omega) (by omega)).mono (by omega), by rw [List.length_append]; simp; omega⟩
              · walk_at "rd"
                exact ⟨_, _, S, by walk_at "ex", _, _, _, _, rs, ps, rfl, rfl, g4, g5.mono (by omega), by omega⟩
        · rintro σ8 F7 H8 M' S e7 ⟨x9, x10, x11, x12, rs, ps, rfl, rfl, g4, g5, g6⟩
          exact ⟨_, _, S, by walk_at "ex", _, x9, x10, x11, x12, rs, ps, rfl, rfl, g4, g5.mono (by omega), by omega⟩
      · rintro σ6 F6 H7 M' S e6 ⟨x8, x9, x10, x11, x12, rs, ps, rfl, rfl, g4, g5, g6⟩
        walk_at "rd"
        refine ⟨tl, rs, pairOf F6, rfl, by walk_at "hl", fun x hx => ?_, fun ys hs hb => s_own S fun q H8 S => ?_⟩
        · obtain ⟨t, et, ht⟩ := g4.all x hx
          exact ⟨t, et, S.fr _ _ ht⟩
        walk_at "rd"
        refine s_new S fun l F9 H9 S e9 cl => ?_
        walk_at "rd"
        refine ⟨(by show 2 ≤ sizeLine; decide), s_new S fun f F10 H10 S e10 cf => ?_⟩
        have t1 : TupsAt F6 ys (ys.map (pairOf F6)) := tupsAt_of ys fun x hx => g4.all x (hb.perm.mem_iff.mp hx)
        have pp : (ys.map (pairOf F6)).Perm ps := by
          rw [← g4.map]
          exact hb.perm.map _
        refine k _ [] _ _ (S.sub (by simp)) ⟨rfl, many, ys.map (pairOf F6), by omega, ⟨by omega, by omega, fun t ht => ?_, sorted_up g5.nd pp ?_⟩, web_dp (SqT.of cf) (SqT.of (e10 _ _ cl)) ((t1.mono (ExT.of (e9.trans e10))).dp)⟩
        · exact g5.valid h5 t (pp.mem_iff.mp ht)
        · exact List.Pairwise.map _ (fun a b h => h) hs

end

end
section
local macro_rules | `(tactic| walk_at "rd1") => `(tactic| (first
  | (with_reducible refine r_seq ?_) | (with_reducible refine r_asg ?_) | (with_reducible refine r_asgG ?_) | (with_reducible refine r_par ?_) | (with_reducible refine r_if ?_) | (with_reducible refine r_ret ?_) | (with_reducible refine r_drop ?_) | (with_reducible refine r_next ?_)
  | ((with_reducible refine' r_var ?hx ?_); (case hx => exact rfl)) | (with_reducible refine r_c ?_) | (with_reducible refine r_op ?_) | (with_reducible refine r_un ?_) | (with_reducible refine r_I0 ?_) | ((with_reducible refine r_I ?_ ?_); (· first | (show (0 : Int) < _; omega) | exact Or.inr ⟨by omega, by omega⟩ | exact Or.inl ⟨by omega, by omega⟩ | exact ⟨by omega, by omega, by decide⟩)) | (with_reducible refine r_U ?_)
  | (with_reducible refine r_test ?_) | (with_reducible refine r_B ?_) | (with_reducible refine r_bl ?_) | (with_reducible refine r_eqI ?_) | (with_reducible refine r_neI ?_)
  | ((with_reducible refine r_eq ?_ ?_); (· exact rfl)) | ((with_reducible refine r_ne ?_ ?_); (· exact rfl))
  | (with_reducible refine r_nil ?_) | (with_reducible refine r_cons ?_) | (with_reducible refine r_tup ?_) | (with_reducible refine r_lst ?_) | (with_reducible refine r_call ?_) | (with_reducible refine r_cb ?_)
  | (with_reducible refine r_and ?_) | (with_reducible refine r_or ?_) | (with_reducible refine r_not ?_) | (with_reducible refine r_andV ?_) | (with_reducible refine r_orV ?_) | (with_reducible refine r_notV ?_) | (with_reducible refine r_ifE ?_) | (with_reducible refine r_gSub ?_) | (with_reducible refine r_lstRg ?_) | (with_reducible refine r_rg1 ?_) | (with_reducible refine r_min2 ?_) | (with_reducible refine r_par2 ?_) | (with_reducible refine r_partI ?_) | (with_reducible refine r_lc ?_) | (with_reducible refine r_yes ?_) | (with_reducible refine r_iZipA ?_) | (with_reducible refine r_isN ?_) | ((with_reducible refine' iteRT ?hh ?_); (case hh => exact rfl)) | ((with_reducible refine' iteRF ?hh ?_); (case hh => exact rfl)) | ((with_reducible refine' r_isiT ?ty ?hk ?_); (case ty => first | assumption | exact tyx_L (by assumption) | exact tyx_T (by assumption) | exact .base (.non) | exact .base (.bl _) | exact .base (.int _) | exact .base (.str _)); (case hk => decide +kernel)) | ((with_reducible refine' r_isiF ?ty ?hk ?_); (case ty => first | assumption | exact tyx_L (by assumption) | exact tyx_T (by assumption) | exact .base (.non) | exact .base (.bl _) | exact .base (.int _) | exact .base (.str _)); (case hk => decide +kernel)) | (with_reducible refine r_for ?_) | (with_reducible refine r_iList ?_) | (with_reducible refine r_iTup ?_) | (with_reducible refine r_iRng1 ?_) | (with_reducible refine r_iRng2 ?_) | (with_reducible refine r_iEnum ?_) | (with_reducible refine r_iZip ?_) | (with_reducible refine r_gName ?_) | ((with_reducible refine' r_gTup2 ?hn ?hs ?_); (case hn => exact rfl); (case hs => first | assumption | exact SqT.of upd_same)) | (with_reducible refine r_bm ?_) | (with_reducible refine r_bm0 ?_) | (with_reducible refine r_sl ?_) | (with_reducible refine r_noPart ?_) | (with_reducible refine r_part ?_) | (with_reducible refine r_partI ?_) | ((refine' ⟨_, _, rfl, ?hl, ?_⟩); (case hl => first | exact Or.inl (by assumption) | exact Or.inr (by assumption)))
  | ((with_reducible refine' r_ixL ?hl ?ha ?_); (case hl => assumption); (case ha => first | exact rfl | assumption)) | ((with_reducible refine' r_ixT ?hl ?ha ?_); (case hl => assumption); (case ha => first | exact rfl | assumption))
  | ((with_reducible refine' r_setL ?hl ?hj ?_); (case hl => assumption); (case hj => first | exact rfl | assumption))))
local macro_rules | `(tactic| walk_at "rd") => `(tactic| repeat (walk_at "rd1"))

section
variable {P : Program} {w : World} {K : PySem.W.Frag} {mg : Str → Option Value} {base : Heap}

/-- the two represent one datum of depth below n -/
def sp_same (K : PySem.W.Frag) (n : Nat) : Sp := fun vs H Q _ => ∃ (v u : V) (d : PyData), vs = [v, u] ∧ Dp K H v d ∧ Dp K H u d ∧ d.depth < n ∧ wd d = true ∧ ∀ H', Evl.Ex H H' → Q (.bl true) H'
theorem ok_same0 (T : Env K mg) : FnOk P w K mg base CX0 1 T.a__law_same T.fd__law_same ["found", "due"] (sp_same K 0) := by
  refine T.F__law_same.ok sc__law_same (fun vs H Q E h => ?_) (fun cdv A outer s H vs Q E hr h => ?_)
  · obtain ⟨v, u, d, rfl, _⟩ := h
    rfl
  · obtain ⟨v, u, d, _, _, _, h, _⟩ := h
    exact absurd h (Nat.not_lt_zero _)
theorem ok_sameS (T : Env K mg) {n : Nat} (G__law_same : FnOk P w K mg base CX0 (n + 1) T.a__law_same T.fd__law_same ["found", "due"] (sp_same K n)) : FnOk P w K mg base CX0 (n + 2) T.a__law_same T.fd__law_same ["found", "due"] (sp_same K (n + 1)) := by
  have nd := sc__law_same.nd
  refine T.F__law_same.ok sc__law_same (fun vs H Q E h => ?_) (fun cdv A outer s H vs Q E hr h => ?_)
  · obtain ⟨v, u, d, rfl, _⟩ := h
    rfl
  · obtain ⟨v, u, d, rfl, hv, hu, hn, hw, k⟩ := h
    refine ⟨_, (pss_cons (ps_if (PW.pt (pw_or (pt_cmpR op_isN (pv 1) pe_non (nomark _)) (pw_or1 (pt_cmpR op_isN (pv 0) pe_non (nomark _))))) (pss_one (ps_ret (pe_and (pe_cmpR op_isN (pv 1) pe_non (nomark _)) (pe_one (pe_cmpR op_isN (pv 0) pe_non (nomark _)))))) pss_nil)
      (pss_cons (ps_if (PW.pt (pw_or (pt_val (pe_callB (id := "isinstance") call_isi (by rfl) T.n_isinstance (by decide +kernel) (pa_cons (pv 1) (pa_cons (pe_bltn (v := .ty "bool") (u := .type "bool") (by rfl) T.n_bool (by decide +kernel) rfl) pa_nil)))) (pw_or1 (pt_val (pe_callB (id := "isinstance") call_isi (by rfl) T.n_isinstance (by decide +kernel) (pa_cons (pv 0) (pa_cons (pe_bltn (v := .ty "bool") (u := .type "bool") (by rfl) T.n_bool (by decide +kernel) rfl) pa_nil))))))) (pss_one (ps_ret (pe_and (pe_callB (id := "isinstance") call_isi (by rfl) T.n_isinstance (by decide +kernel) (pa_cons (pv 1) (pa_cons (pe_bltn (v := .ty "bool") (u := .type "bool") (by rfl) T.n_bool (by decide +kernel) rfl) pa_nil))) (pe_and (pe_callB (id := "isinstance") call_isi (by rfl) T.n_isinstance (by decide +kernel) (pa_cons (pv 0) (pa_cons (pe_bltn (v := .ty "bool") (u := .type "bool") (by rfl) T.n_bool (by decide +kernel) rfl) pa_nil))) (pe_one (pe_cmpR op_eq (pv 0) (pv 1) (nomark _))))))) pss_nil)
      (pss_cons (ps_if (PW.pt (pw_or (pt_val (pe_callB (id := "isinstance") call_isi (by rfl) T.n_isinstance (by decide +kernel) (pa_cons (pv 1) (pa_cons (pe_bltn (v := .ty "int") (u := .type "int") (by rfl) T.n_int (by decide +kernel) rfl) pa_nil)))) (pw_or1 (pt_val (pe_callB (id := "isinstance") call_isi (by rfl) T.n_isinstance (by decide +kernel) (pa_cons (pv 1) (pa_cons (pe_bltn (v := .ty "str") (u := .type "str") (by rfl) T.n_str (by decide +kernel) rfl) pa_nil))))))) (pss_one (ps_ret (pe_and (pe_cmpR op_eq (pe_callB (id := "isinstance") call_isi (by rfl) T.n_isinstance (by decide +kernel) (pa_cons (pv 0) (pa_cons (pe_bltn (v := .ty "int") (u := .type "int") (by rfl) T.n_int (by decide +kernel) rfl) pa_nil))) (pe_callB (id := "isinstance") call_isi (by rfl) T.n_isinstance (by decide +kernel) (pa_cons (pv 1) (pa_cons (pe_bltn (v := .ty "int") (u := .type "int") (by rfl) T.n_int (by decide +kernel) rfl) pa_nil))) (nomark _)) (pe_one (pe_cmpR op_eq (pv 0) (pv 1) (nomark _)))))) pss_nil)
      (pss_cons (ps_if (PW.pt (pw_or (pt_cmpR op_ne (pe_callB (id := "isinstance") call_isi (by rfl) T.n_isinstance (by decide +kernel) (pa_cons (pv 1) (pa_cons (pe_bltn (v := .ty "tuple") (u := .type "tuple") (by rfl) T.n_tuple (by decide +kernel) rfl) pa_nil))) (pe_callB (id := "isinstance") call_isi (by rfl) T.n_isinstance (by decide +kernel) (pa_cons (pv 0) (pa_cons (pe_bltn (v := .ty "tuple") (u := .type "tuple") (by rfl) T.n_tuple (by decide +kernel) rfl) pa_nil))) (nomark _)) (pw_or1 (pt_cmpR op_ne (pe_callB (id := "isinstance") call_isi (by rfl) T.n_isinstance (by decide +kernel) (pa_cons (pv 1) (pa_cons (pe_bltn (v := .ty "list") (u := .type "list") (by rfl) T.n_list (by decide +kernel) rfl) pa_nil))) (pe_callB (id := "isinstance") call_isi (by rfl) T.n_isinstance (by decide +kernel) (pa_cons (pv 0) (pa_cons (pe_bltn (v := .ty "list") (u := .type "list") (by rfl) T.n_list (by decide +kernel) rfl) pa_nil))) (nomark _))))) (pss_one (ps_ret pe_bl)) pss_nil)
      (pss_cons (ps_if (pt_cmpR op_ne (pe_callB (id := "len") call_len_seq (by rfl) T.n_len PySem.boot_len (pa_cons (pv 0) pa_nil)) (pe_callB (id := "len") call_len_seq (by rfl) T.n_len PySem.boot_len (pa_cons (pv 1) pa_nil)) (nomark _)) (pss_one (ps_ret pe_bl)) pss_nil)
      (pss_one (ps_ret (pe_cmpR op_notIn_seq pe_bl (pe_lc (own := [("one", 2), ("other", 3)]) (g := (gTup K 2 (gCons (gName 2) (gCons (gName 3) gNil)))) (tt := tYes) (te := (tCall (sp_same K n) [] E0 (tCons (tVar 2) (tCons (tVar 3) tNil)))) rfl nd (RZ.pi_zipA (by rfl) T.n_zip (pa_cons (pv 0) (pa_cons (pv 1) pa_nil))) (blkOk_by (N := ["found", "due", "one", "other"]) (sc := defScope s__law_same) (by decide +kernel)) (fun _ _ _ _ _ => (pg_tup rfl (pgs_cons (pg_name (i := 2) nd rfl (.inl rfl)) (pgs_cons (pg_name (i := 3) nd rfl (.inl rfl)) pgs_nil)))) (fun _ _ _ _ _ => pts_nil) (fun _ _ _ _ _ => (pe_call G__law_same hr (by rfl) T.g__law_same T.F__law_same.kp T.b__law_same .nil pass0 (pa_cons (pv 2) (pa_cons (pv 3) pa_nil))))) rfl)))))))), ?_⟩
    cases hv with
    | non =>
      cases hu
      walk_at "rd"
      exact k _ (Evl.Ex.refl _)
    | bl b =>
      cases hu
      walk_at "rd"
      show Q (.bl (decide (V.bl b = V.bl b))) _
      rw [decide_eq_true rfl]
      exact k _ (Evl.Ex.refl _)
    | int i =>
      cases hu
      walk_at "rd"
      show Q (.bl (decide (i = i))) _
      rw [decide_eq_true rfl]
      exact k _ (Evl.Ex.refl _)
    | str z =>
      cases hu
      walk_at "rd"
      show Q (.bl (decide (V.str z = V.str z))) _
      rw [decide_eq_true rfl]
      exact k _ (Evl.Ex.refl _)
    | lst h1 h2 =>
      rename_i a1 xs1 ds
      cases hu with
      | lst g1 g2 =>
        rename_i a2 xs2
        have l1 := dpAll_get h2
        have l2 := dpAll_get g2
        rw [wd, Bool.and_eq_true] at hw
        rw [PyData.depth] at hn
        have hl := of_decide_eq_true hw.1
        walk_at "rd"
        refine iteRF (by rw [l1.1, l2.1]; simp) ?_
        walk_at "rd"
        refine ⟨_, _, _, _, rfl, .inl ⟨h1, g1, fun D hD => ?_⟩⟩
        have nD : H D = none := hD
        refine lc_it (walk_zip (xs := xs1) (ys := xs2) rfl) (fun i H' => H' D = some (.lst (List.replicate i (.bl true))) ∧ Evl.Ex H H') ?_ ?_ ?_ ?_
        · exact ⟨upd_same, Evl.Ex.new hD⟩
        · rintro i H' _ ⟨_, e⟩
          exact ⟨Evl.ex_l e h1, Evl.ex_l e g1⟩
        · rintro i v H1 H2 hi ⟨hd, e⟩ ⟨t, x, y, rfl, ht, rfl, ex, ey⟩
          obtain ⟨d1, e1, p1⟩ := l1.2 i x ex
          obtain ⟨d2, e2, p2⟩ := l2.2 i y ey
          rw [e1] at e2
          cases e2
          have e' := e.trans (Evl.Ex.new (o := .tup [x, y]) ht)
          have m1 : d1 ∈ ds := List.mem_of_getElem? e1
          have m2 := depthAll_mem m1
          have Dt : D ≠ t := ne_of_none hd ht
          walk_at "rd"
          refine ⟨rfl, ?_⟩
          walk_at "rd"
          refine ⟨x, y, d1, rfl, Dp.ex e' _ _ p1, Dp.ex e' _ _ p2, by omega, wdAll_mem hw.2 m1, fun H3 e3 => ⟨_, e3 D _ (by rw [upd_ne Dt]; exact hd), Evl.sz_lt (by rw [List.length_replicate]; rw [l1.1, l2.1] at hi; omega), ?_, (e'.trans e3).mut nD⟩⟩
          rw [upd_same, List.replicate_succ']
        · rintro H' ⟨hd, e⟩
          refine ⟨D, _, rfl, .inl (SqL.of hd), rfl, flat_rep _, ?_⟩
          rw [inV_rep]
          exact k _ e
    | tup h1 h2 =>
      rename_i a1 xs1 ds
      cases hu with
      | tup g1 g2 =>
        rename_i a2 xs2
        have l1 := dpAll_get h2
        have l2 := dpAll_get g2
        rw [wd, Bool.and_eq_true] at hw
        rw [PyData.depth] at hn
        have hl := of_decide_eq_true hw.1
        walk_at "rd"
        refine iteRF (by rw [l1.1, l2.1]; simp) ?_
        walk_at "rd"
        refine ⟨_, _, _, _, rfl, .inr ⟨h1, g1, fun D hD => ?_⟩⟩
        have nD : H D = none := hD
        refine lc_it (walk_zipT (xs := xs1) (ys := xs2) rfl) (fun i H' => H' D = some (.lst (List.replicate i (.bl true))) ∧ Evl.Ex H H') ?_ ?_ ?_ ?_
        · exact ⟨upd_same, Evl.Ex.new hD⟩
        · rintro i H' _ ⟨_, e⟩
          exact ⟨Evl.ex_t e h1, Evl.ex_t e g1⟩
        · rintro i v H1 H2 hi ⟨hd, e⟩ ⟨t, x, y, rfl, ht, rfl, ex, ey⟩
          obtain ⟨d1, e1, p1⟩ := l1.2 i x ex
          obtain ⟨d2, e2, p2⟩ := l2.2 i y ey
          rw [e1] at e2
          cases e2
          have e' := e.trans (Evl.Ex.new (o := .tup [x, y]) ht)
          have m1 : d1 ∈ ds := List.mem_of_getElem? e1
          have m2 := depthAll_mem m1
          have Dt : D ≠ t := ne_of_none hd ht
          walk_at "rd"
          refine ⟨rfl, ?_⟩
          walk_at "rd"
          refine ⟨x, y, d1, rfl, Dp.ex e' _ _ p1, Dp.ex e' _ _ p2, by omega, wdAll_mem hw.2 m1, fun H3 e3 => ⟨_, e3 D _ (by rw [upd_ne Dt]; exact hd), Evl.sz_lt (by rw [List.length_replicate]; rw [l1.1, l2.1] at hi; omega), ?_, (e'.trans e3).mut nD⟩⟩
          rw [upd_same, List.replicate_succ']
        · rintro H' ⟨hd, e⟩
          refine ⟨D, _, rfl, .inl (SqL.of hd), rfl, flat_rep _, ?_⟩
          rw [inV_rep]
          exact k _ e

end

end
section
local macro_rules | `(tactic| walk_at "ex") => `(tactic| first | exact Evl.Ex.refl _ | assumption | ((refine' Evl.Ex.trans ?x ?y); (case y => assumption); (case x => walk_at "ex")))
local macro_rules | `(tactic| walk_at "hc") => `(tactic| first
  | assumption
  | ((refine' Sep.rdM ?S 0 ?k); (case S => assumption); (case k => exact rfl)) | ((refine' Sep.rdM ?S 1 ?k); (case S => assumption); (case k => exact rfl)) | ((refine' Sep.rdM ?S 2 ?k); (case S => assumption); (case k => exact rfl)) | ((refine' Sep.rdM ?S 3 ?k); (case S => assumption); (case k => exact rfl)) | ((refine' Sep.rdM ?S 4 ?k); (case S => assumption); (case k => exact rfl))
  | ((refine' Sep.rdC ?S ?e ?h); (case S => assumption); (case h => assumption); (case e => walk_at "ex")))
local macro_rules | `(tactic| walk_at "hl") => `(tactic| first
  | assumption
  | ((refine' SqL.of (Sep.rdM ?S 0 ?k)); (case S => assumption); (case k => exact rfl)) | ((refine' SqL.of (Sep.rdM ?S 1 ?k)); (case S => assumption); (case k => exact rfl)) | ((refine' SqL.of (Sep.rdM ?S 2 ?k)); (case S => assumption); (case k => exact rfl)) | ((refine' SqL.of (Sep.rdM ?S 3 ?k)); (case S => assumption); (case k => exact rfl)) | ((refine' SqL.of (Sep.rdM ?S 4 ?k)); (case S => assumption); (case k => exact rfl))
  | ((refine' Sep.rdL ?S ?e ?h); (case S => assumption); (case h => assumption); (case e => walk_at "ex"))
  | ((refine' Sep.rdT ?S ?e ?h); (case S => assumption); (case h => assumption); (case e => walk_at "ex"))
  | ((refine' SqL.of (Sep.rdC ?S ?e ?h)); (case S => assumption); (case h => assumption); (case e => walk_at "ex"))
  | ((refine' SqT.of (Sep.rdC ?S ?e ?h)); (case S => assumption); (case h => assumption); (case e => walk_at "ex"))
  | ((refine' SqL.of ?h); (case h => assumption)) | ((refine' SqT.of ?h); (case h => assumption))
  | ((refine' Evl.ex_l ?e ?h); (case h => assumption); (case e => walk_at "ex")) | ((refine' Evl.ex_t ?e ?h); (case h => assumption); (case e => walk_at "ex"))
  | ((refine' SqL.of (?e _ _ ?h)); (case h => assumption); (case e => walk_at "ex")) | ((refine' SqT.of (?e _ _ ?h)); (case h => assumption); (case e => walk_at "ex")))
local macro_rules | `(tactic| walk_at "hs") => `(tactic| walk_at "hc")
local macro_rules | `(tactic| walk_at "dp") => `(tactic| first
  | assumption
  | ((refine' Sep.rdD ?S ?e ?h); (case S => assumption); (case h => assumption); (case e => walk_at "ex"))
  | ((refine' Dp.ex ?e _ _ ?h); (case h => assumption); (case e => walk_at "ex"))
  | ((refine' DpAll.ex ?e _ _ ?h); (case h => assumption); (case e => walk_at "ex"))
  | (refine' dp_intsD ?h; (case h => walk_at "hl")))
local macro_rules | `(tactic| walk_at "rd1") => `(tactic| (first
  | (with_reducible refine r_seq ?_)
  | (with_reducible refine r_asg ?_)
  | (with_reducible refine r_asgG ?_)
  | (with_reducible refine r_par ?_)
  | (with_reducible refine r_if ?_)
  | (with_reducible refine r_ret ?_)
  | (with_reducible refine r_drop ?_)
  | (with_reducible refine r_next ?_)
  | ((with_reducible refine' r_var ?hx ?_); (case hx => exact rfl))
  | (with_reducible refine r_c ?_)
  | (with_reducible refine r_op ?_)
  | (with_reducible refine r_un ?_)
  | (with_reducible refine r_I0 ?_)
  | ((with_reducible refine' r_I ?_ ?_); (· first | (show (0 : Int) < _; omega) | exact Or.inr ⟨by omega, by omega⟩ | exact Or.inl ⟨by omega, by omega⟩ | exact ⟨by omega, by omega, by decide⟩))
  | (with_reducible refine r_U ?_)
  | (with_reducible refine r_test ?_)
  | (with_reducible refine r_B ?_)
  | (with_reducible refine r_bl ?_)
  | (with_reducible refine r_eqI ?_)
  | (with_reducible refine r_neI ?_)
  | ((with_reducible refine' r_eq ?_ ?_); (· exact rfl))
  | ((with_reducible refine' r_ne ?_ ?_); (· exact rfl))
  | (with_reducible refine r_nil ?_)
  | (with_reducible refine r_cons ?_)
  | (with_reducible refine s_tup ?_)
  | (with_reducible refine s_lst ?_)
  | (with_reducible refine r_call ?_)
  | (with_reducible refine r_cb ?_)
  | (with_reducible refine r_and ?_)
  | (with_reducible refine r_or ?_)
  | (with_reducible refine r_not ?_)
  | (with_reducible refine r_andV ?_)
  | (with_reducible refine r_orV ?_)
  | (with_reducible refine r_notV ?_)
  | (with_reducible refine r_ifE ?_)
  | (with_reducible refine r_gSub ?_)
  | (with_reducible refine r_sadd ?_)
  | (with_reducible refine s_lstRg ?_)
  | (with_reducible refine r_rg1 ?_)
  | (with_reducible refine r_min2 ?_)
  | (with_reducible refine r_par2 ?_)
  | (with_reducible refine r_partI ?_)
  | (with_reducible refine s_lc ?_)
  | (with_reducible refine s_dc ?_)
  | (with_reducible refine r_yes ?_)
  | (with_reducible refine r_iZipA ?_)
  | (with_reducible refine r_isN ?_)
  | (with_reducible refine r_for ?_)
  | (with_reducible refine r_iList ?_)
  | (with_reducible refine r_iTup ?_)
  | (with_reducible refine r_iRng1 ?_)
  | (with_reducible refine r_iRng2 ?_)
  | (with_reducible refine r_iEnum ?_)
  | (with_reducible refine r_iZip ?_)
  | (with_reducible refine r_gName ?_)
  | (with_reducible refine r_isNV ?_)
  | (with_reducible refine r_notNV ?_)
  | (with_reducible refine r_bm ?_)
  | (with_reducible refine r_bm0 ?_)
  | (with_reducible refine r_sl ?_)
  | (with_reducible refine r_noPart ?_)
  | (with_reducible refine r_part ?_)
  | (with_reducible refine r_chain ?_)
  | (with_reducible refine r_iKeys ?_)
  | (with_reducible refine r_iItems ?_)
  | (with_reducible refine r_frz ?_)
  | (with_reducible refine r_dput ?_)
  | (with_reducible refine r_dget ?_)
  | (with_reducible refine r_din ?_)
  | (with_reducible refine r_dnotin ?_)
  | (with_reducible refine r_break ?_)
  | ((with_reducible refine' r_sIn ?h ?_); (case h => walk_at "hs"))
  | ((with_reducible refine' r_sNotIn ?h ?_); (case h => walk_at "hs"))
  | ((with_reducible refine' r_inI ?h ?_); (case h => walk_at "hl"))
  | ((with_reducible refine' r_notInI ?h ?_); (case h => walk_at "hl"))
  | ((with_reducible refine' r_eqNil ?h ?g ?_); (case h => walk_at "hl"); (case g => walk_at "hl"))
  | ((with_reducible refine' r_neNil ?h ?g ?_); (case h => walk_at "hl"); (case g => walk_at "hl"))
  | ((with_reducible refine' iteRT ?hh ?_); (case hh => exact rfl))
  | ((with_reducible refine' iteRF ?hh ?_); (case hh => exact rfl))
  | ((with_reducible refine' r_isiT ?ty ?hk ?_); (case ty => (first | assumption | exact tyx_L (by assumption) | exact tyx_T (by assumption) | exact .base (.non) | exact .base (.bl _) | exact .base (.int _) | exact .base (.str _) | exact tyx_L (by walk_at "hl") | exact tyx_T (by walk_at "hl"))); (case hk => decide +kernel))
  | ((with_reducible refine' r_isiF ?ty ?hk ?_); (case ty => (first | assumption | exact tyx_L (by assumption) | exact tyx_T (by assumption) | exact .base (.non) | exact .base (.bl _) | exact .base (.int _) | exact .base (.str _) | exact tyx_L (by walk_at "hl") | exact tyx_T (by walk_at "hl"))); (case hk => decide +kernel))
  | ((with_reducible refine' r_gTup2 ?hn ?hs ?_); (case hn => exact rfl); (case hs => walk_at "hl"))
  | ((with_reducible refine' s_list ?hl ?_); (case hl => first | exact Or.inl (by walk_at "hl") | exact Or.inr (by walk_at "hl")))
  | ((with_reducible refine' s_tupN ?hl ?_); (case hl => walk_at "hl"))
  | ((with_reducible refine' s_sortN ?hl ?_); (case hl => walk_at "hl"))
  | ((refine' ⟨_, _, rfl, ?hl, ?_⟩); (case hl => first | exact Or.inl (by walk_at "hl") | exact Or.inr (by walk_at "hl")))
  | ((with_reducible refine' r_ixL ?hl ?ha ?_); (case hl => walk_at "hl"); (case ha => first | exact rfl | assumption))
  | ((with_reducible refine' r_ixT ?hl ?ha ?_); (case hl => walk_at "hl"); (case ha => first | exact rfl | assumption))))
local macro_rules | `(tactic| walk_at "rd") => `(tactic| repeat (walk_at "rd1"))

section
variable {P : Program} {w : World} {K : PySem.W.Frag} {mg : Str → Option Value} {base : Heap}

def A_same (K : PySem.W.Frag) (n : Nat) : PyData → List V → Hp → Prop := fun d vs F => ∃ v u, vs = [v, u] ∧ Dp K F v d ∧ Dp K F u d ∧ d.depth < n ∧ wd d = true
def B_same : PyData → V → List (Addr × Cel) → Hp → Prop := fun _ v N _ => v = .bl true ∧ N = []
theorem ok_l_same (T : Env K mg) : FnOk P w K mg base CX0 6 T.a__law_same T.fd__law_same ["found", "due"] (SpF (A_same K 5) B_same) := by
  refine (ok_sameS T (ok_sameS T (ok_sameS T (ok_sameS T (ok_sameS T (ok_same0 T)))))).imp fun vs H Q E h => ?_
  obtain ⟨d, F, fr, ⟨v, u, rfl, h1, h2, h3, h4⟩, k⟩ := h
  exact ⟨v, u, d, rfl, Dp.ex fr _ _ h1, Dp.ex fr _ _ h2, h3, h4, fun H' e => k _ [] F H' (Sep.scal fr e) ⟨rfl, rfl⟩⟩

end

end
section
local macro_rules | `(tactic| walk_at "ex") => `(tactic| first | exact Evl.Ex.refl _ | assumption | ((refine' Evl.Ex.trans ?x ?y); (case y => assumption); (case x => walk_at "ex")))
local macro_rules | `(tactic| walk_at "hc") => `(tactic| first
  | assumption
  | ((refine' Sep.rdM ?S 0 ?k); (case S => assumption); (case k => exact rfl)) | ((refine' Sep.rdM ?S 1 ?k); (case S => assumption); (case k => exact rfl)) | ((refine' Sep.rdM ?S 2 ?k); (case S => assumption); (case k => exact rfl)) | ((refine' Sep.rdM ?S 3 ?k); (case S => assumption); (case k => exact rfl)) | ((refine' Sep.rdM ?S 4 ?k); (case S => assumption); (case k => exact rfl))
  | ((refine' Sep.rdC ?S ?e ?h); (case S => assumption); (case h => assumption); (case e => walk_at "ex")))
local macro_rules | `(tactic| walk_at "hl") => `(tactic| first
  | assumption
  | ((refine' SqL.of (Sep.rdM ?S 0 ?k)); (case S => assumption); (case k => exact rfl)) | ((refine' SqL.of (Sep.rdM ?S 1 ?k)); (case S => assumption); (case k => exact rfl)) | ((refine' SqL.of (Sep.rdM ?S 2 ?k)); (case S => assumption); (case k => exact rfl)) | ((refine' SqL.of (Sep.rdM ?S 3 ?k)); (case S => assumption); (case k => exact rfl)) | ((refine' SqL.of (Sep.rdM ?S 4 ?k)); (case S => assumption); (case k => exact rfl))
  | ((refine' Sep.rdL ?S ?e ?h); (case S => assumption); (case h => assumption); (case e => walk_at "ex"))
  | ((refine' Sep.rdT ?S ?e ?h); (case S => assumption); (case h => assumption); (case e => walk_at "ex"))
  | ((refine' SqL.of (Sep.rdC ?S ?e ?h)); (case S => assumption); (case h => assumption); (case e => walk_at "ex"))
  | ((refine' SqT.of (Sep.rdC ?S ?e ?h)); (case S => assumption); (case h => assumption); (case e => walk_at "ex"))
  | ((refine' SqL.of ?h); (case h => assumption)) | ((refine' SqT.of ?h); (case h => assumption))
  | ((refine' Evl.ex_l ?e ?h); (case h => assumption); (case e => walk_at "ex")) | ((refine' Evl.ex_t ?e ?h); (case h => assumption); (case e => walk_at "ex"))
  | ((refine' SqL.of (?e _ _ ?h)); (case h => assumption); (case e => walk_at "ex")) | ((refine' SqT.of (?e _ _ ?h)); (case h => assumption); (case e => walk_at "ex")))
local macro_rules | `(tactic| walk_at "hs") => `(tactic| walk_at "hc")
local macro_rules | `(tactic| walk_at "dp") => `(tactic| first
  | assumption
  | ((refine' Sep.rdD ?S ?e ?h); (case S => assumption); (case h => assumption); (case e => walk_at "ex"))
  | ((refine' Dp.ex ?e _ _ ?h); (case h => assumption); (case e => walk_at "ex"))
  | ((refine' DpAll.ex ?e _ _ ?h); (case h => assumption); (case e => walk_at "ex"))
  | (refine' dp_intsD ?h; (case h => walk_at "hl")))
local macro_rules | `(tactic| walk_at "rd1") => `(tactic| (first
  | (with_reducible refine r_seq ?_)
  | (with_reducible refine r_asg ?_)
  | (with_reducible refine r_asgG ?_)
  | (with_reducible refine r_par ?_)
  | (with_reducible refine r_if ?_)
  | (with_reducible refine r_ret ?_)
  | (with_reducible refine r_drop ?_)
  | (with_reducible refine r_next ?_)
  | ((with_reducible refine' r_var ?hx ?_); (case hx => exact rfl))
  | (with_reducible refine r_c ?_)
  | (with_reducible refine r_op ?_)
  | (with_reducible refine r_un ?_)
  | (with_reducible refine r_I0 ?_)
  | ((with_reducible refine' r_I ?_ ?_); (· first | (show (0 : Int) < _; omega) | exact Or.inr ⟨by omega, by omega⟩ | exact Or.inl ⟨by omega, by omega⟩ | exact ⟨by omega, by omega, by decide⟩))
  | (with_reducible refine r_U ?_)
  | (with_reducible refine r_test ?_)
  | (with_reducible refine r_B ?_)
  | (with_reducible refine r_bl ?_)
  | (with_reducible refine r_eqI ?_)
  | (with_reducible refine r_neI ?_)
  | ((with_reducible refine' r_eq ?_ ?_); (· exact rfl))
  | ((with_reducible refine' r_ne ?_ ?_); (· exact rfl))
  | (with_reducible refine r_nil ?_)
  | (with_reducible refine r_cons ?_)
  | (with_reducible refine s_tup ?_)
  | (with_reducible refine s_lst ?_)
  | (with_reducible refine r_call ?_)
  | (with_reducible refine r_cb ?_)
  | (with_reducible refine r_and ?_)
  | (with_reducible refine r_or ?_)
  | (with_reducible refine r_not ?_)
  | (with_reducible refine r_andV ?_)
  | (with_reducible refine r_orV ?_)
  | (with_reducible refine r_notV ?_)
  | (with_reducible refine r_ifE ?_)
  | (with_reducible refine r_gSub ?_)
  | (with_reducible refine r_sadd ?_)
  | (with_reducible refine s_lstRg ?_)
  | (with_reducible refine r_rg1 ?_)
  | (with_reducible refine r_min2 ?_)
  | (with_reducible refine r_par2 ?_)
  | (with_reducible refine r_partI ?_)
  | (with_reducible refine s_lc ?_)
  | (with_reducible refine s_dc ?_)
  | (with_reducible refine r_yes ?_)
  | (with_reducible refine r_iZipA ?_)
  | (with_reducible refine r_isN ?_)
  | (with_reducible refine r_for ?_)
  | (with_reducible refine r_iList ?_)
  | (with_reducible refine r_iTup ?_)
  | (with_reducible refine r_iRng1 ?_)
  | (with_reducible refine r_iRng2 ?_)
  | (with_reducible refine r_iEnum ?_)
  | (with_reducible refine r_iZip ?_)
  | (with_reducible refine r_gName ?_)
  | (with_reducible refine r_isNV ?_)
  | (with_reducible refine r_notNV ?_)
  | (with_reducible refine r_bm ?_)
  | (with_reducible refine r_bm0 ?_)
  | (with_reducible refine r_sl ?_)
  | (with_reducible refine r_noPart ?_)
  | (with_reducible refine r_part ?_)
  | (with_reducible refine r_chain ?_)
  | (with_reducible refine r_iKeys ?_)
  | (with_reducible refine r_iItems ?_)
  | (with_reducible refine r_frz ?_)
  | (with_reducible refine r_dput ?_)
  | (with_reducible refine r_dget ?_)
  | (with_reducible refine r_din ?_)
  | (with_reducible refine r_dnotin ?_)
  | (with_reducible refine r_break ?_)
  | ((with_reducible refine' r_sIn ?h ?_); (case h => walk_at "hs"))
  | ((with_reducible refine' r_sNotIn ?h ?_); (case h => walk_at "hs"))
  | ((with_reducible refine' r_inI ?h ?_); (case h => walk_at "hl"))
  | ((with_reducible refine' r_notInI ?h ?_); (case h => walk_at "hl"))
  | ((with_reducible refine' r_eqNil ?h ?g ?_); (case h => walk_at "hl"); (case g => walk_at "hl"))
  | ((with_reducible refine' r_neNil ?h ?g ?_); (case h => walk_at "hl"); (case g => walk_at "hl"))
  | ((with_reducible refine' iteRT ?hh ?_); (case hh => exact rfl))
  | ((with_reducible refine' iteRF ?hh ?_); (case hh => exact rfl))
  | ((with_reducible refine' r_isiT ?ty ?hk ?_); (case ty => (first | assumption | exact tyx_L (by assumption) | exact tyx_T (by assumption) | exact .base (.non) | exact .base (.bl _) | exact .base (.int _) | exact .base (.str _) | exact tyx_L (by walk_at "hl") | exact tyx_T (by walk_at "hl"))); (case hk => decide +kernel))
  | ((with_reducible refine' r_isiF ?ty ?hk ?_); (case ty => (first | assumption | exact tyx_L (by assumption) | exact tyx_T (by assumption) | exact .base (.non) | exact .base (.bl _) | exact .base (.int _) | exact .base (.str _) | exact tyx_L (by walk_at "hl") | exact tyx_T (by walk_at "hl"))); (case hk => decide +kernel))
  | ((with_reducible refine' r_gTup2 ?hn ?hs ?_); (case hn => exact rfl); (case hs => walk_at "hl"))
  | ((with_reducible refine' s_list ?hl ?_); (case hl => first | exact Or.inl (by walk_at "hl") | exact Or.inr (by walk_at "hl")))
  | ((with_reducible refine' s_tupN ?hl ?_); (case hl => walk_at "hl"))
  | ((with_reducible refine' s_sortN ?hl ?_); (case hl => walk_at "hl"))
  | ((refine' ⟨_, _, rfl, ?hl, ?_⟩); (case hl => first | exact Or.inl (by walk_at "hl") | exact Or.inr (by walk_at "hl")))
  | ((with_reducible refine' r_ixL ?hl ?ha ?_); (case hl => walk_at "hl"); (case ha => first | exact rfl | assumption))
  | ((with_reducible refine' r_ixT ?hl ?ha ?_); (case hl => walk_at "hl"); (case ha => first | exact rfl | assumption))))
local macro_rules | `(tactic| walk_at "rd") => `(tactic| repeat (walk_at "rd1"))

section
variable {P : Program} {w : World} {K : PySem.W.Frag} {mg : Str → Option Value} {base : Heap}

theorem frac_same (f : Int × Int) : (tieD f).depth < 5 ∧ wd (tieD f) = true := ⟨(by unfold tieD; simp [PyData.depth, PyData.depthAll]), (by unfold tieD; simp [wd, wdAll])⟩
def sp_law (K : PySem.W.Frag) : Sp := fun vs H Q _ => ∃ (a : Addr) (ns : List Int), vs = [.ref a] ∧ SqL K H a (ns.map V.int) ∧ ns.length ≤ 63 ∧ ∀ H', Q (.bl true) H'
theorem ok_law {f : Addr} {fd : FuncData} (T : Env K mg) (F : Fun K "law" "law" s_law f fd) : FnOk P w K mg base CX0 7 f fd ["script"] (sp_law K) := by
  have nd := sc_law.nd
  have G__law_pot : FnOk P w K mg base CX0 1 T.a__law_pot T.fd__law_pot ["script"] (SpF (A_pot K) B_pot) := ok_l_pot T
  have G__law_web : FnOk P w K mg base CX0 3 T.a__law_web T.fd__law_web ["pot", "most"] (SpP A_web (B_web K)) := ok_l_web T
  have G__law_pick : FnOk P w K mg base CX0 2 T.a__law_pick T.fd__law_pick ["pot", "upto"] (SpP A_pick B_pick) := ok_l_pick T
  have G__law_same : FnOk P w K mg base CX0 6 T.a__law_same T.fd__law_same ["found", "due"] (SpF (A_same K 5) B_same) := ok_l_same T
  have G_chance_behind : FnOk P w K mg base CX0 5 T.a_chance_behind T.fd_chance_behind ["web", "sides", "rounds"] (SpF (A_cb K) (B_cb K)) := ok_chance_behind T
  have G__law_due : FnOk P w K mg base CX0 4 T.a__law_due T.fd__law_due ["web", "sides", "rounds"] (SpF (A_cb K) (B_cb K)) := ok_l_due T
  refine F.ok sc_law (fun vs H Q E h => ?_) (fun cdv A outer s H vs Q E hr h => ?_)
  · obtain ⟨a, ns, rfl, _⟩ := h
    rfl
  · obtain ⟨a, ns, rfl, hS, hn, k⟩ := h
    have S := Sep.start0 (Evl.Ex.refl H)
    refine ⟨_, (pss_cons (ps_set (i := 1) nd rfl (.inl rfl) (pe_call G__law_pot (hr.mono (by decide)) (by rfl) T.g__law_pot T.F__law_pot.kp T.b__law_pot .nil pass0 (pa_cons (pv 0) pa_nil)))
      (pss_cons (ps_set (i := 2) nd rfl (.inl rfl) (pe_call G__law_web (hr.mono (by decide)) (by rfl) T.g__law_web T.F__law_web.kp T.b__law_web .nil pass0 (pa_cons (pv 1) (pa_cons pe_int pa_nil))))
      (pss_cons (ps_set (i := 3) nd rfl (.inl rfl) (pe_op op_add pe_int (pe_call G__law_pick (hr.mono (by decide)) (by rfl) T.g__law_pick T.F__law_pick.kp T.b__law_pick .nil pass0 (pa_cons (pv 1) (pa_cons pe_int pa_nil)))))
      (pss_cons (ps_for PassesOwn.never rfl (pi_list (pe_lst (pa_cons pe_int (pa_cons pe_int (pa_cons (pe_op op_add pe_int (pe_call G__law_pick (hr.mono (by decide)) (by rfl) T.g__law_pick T.F__law_pick.kp T.b__law_pick .nil pass0 (pa_cons (pv 1) (pa_cons pe_int pa_nil)))) pa_nil))))) (pg_name (i := 4) nd rfl (.inl rfl)) (pss_one (ps_if (pt_not (pt_val (pe_call G__law_same (hr.mono (by decide)) (by rfl) T.g__law_same T.F__law_same.kp T.b__law_same .nil pass0 (pa_cons (pe_call G_chance_behind (hr.mono (by decide)) (by rfl) T.g_chance_behind T.F_chance_behind.kp T.b_chance_behind .nil pass0 (pa_cons (pv 2) (pa_cons (pv 3) (pa_cons (pv 4) pa_nil)))) (pa_cons (pe_call G__law_due (hr.mono (by decide)) (by rfl) T.g__law_due T.F__law_due.kp T.b__law_due .nil pass0 (pa_cons (pv 2) (pa_cons (pv 3) (pa_cons (pv 4) pa_nil)))) pa_nil))))) (pss_one (ps_ret pe_bl)) pss_nil)))
      (pss_cons (ps_set (i := 2) nd rfl (.inl rfl) (pe_call G__law_web (hr.mono (by decide)) (by rfl) T.g__law_web T.F__law_web.kp T.b__law_web .nil pass0 (pa_cons (pv 1) (pa_cons pe_int pa_nil))))
      (pss_cons (ps_set (i := 3) nd rfl (.inl rfl) (pe_op op_add pe_int (pe_call G__law_pick (hr.mono (by decide)) (by rfl) T.g__law_pick T.F__law_pick.kp T.b__law_pick .nil pass0 (pa_cons (pv 1) (pa_cons pe_int pa_nil)))))
      (pss_cons (ps_set (i := 4) nd rfl (.inl rfl) (pe_call G__law_pick (hr.mono (by decide)) (by rfl) T.g__law_pick T.F__law_pick.kp T.b__law_pick .nil pass0 (pa_cons (pv 1) (pa_cons pe_int pa_nil))))
      (pss_one (ps_ret (pe_call G__law_same (hr.mono (by decide)) (by rfl) T.g__law_same T.F__law_same.kp T.b__law_same .nil pass0 (pa_cons (pe_call G_chance_behind (hr.mono (by decide)) (by rfl) T.g_chance_behind T.F_chance_behind.kp T.b_chance_behind .nil pass0 (pa_cons (pv 2) (pa_cons (pv 3) (pa_cons (pv 4) pa_nil)))) (pa_cons (pe_call G__law_due (hr.mono (by decide)) (by rfl) T.g__law_due T.F__law_due.kp T.b__law_due .nil pass0 (pa_cons (pv 2) (pa_cons (pv 3) (pa_cons (pv 4) pa_nil)))) pa_nil)))))))))))), ?_⟩
    walk_at "rd"
    refine r_callF S ns ⟨a, rfl, hS, hn⟩ ?_
    rintro v N F1 H1 S e1 ⟨p, rfl, rfl⟩
    walk_at "rd"
    refine r_callP S 0 rfl 4 ⟨rfl, by omega, by omega⟩ ?_
    rintro v N F4 H4 S e4 ⟨rfl, many, ties, hm, W, hw⟩
    walk_at "rd"
    refine r_callP S 0 rfl 3 ⟨rfl, by omega, small_up (by omega) (by omega)⟩ fun v N F5 H5 S e5 ⟨z, n1, ev, n10, n11⟩ => ?_
    subst z ev
    walk_at "rd"
    have sd1 : 2 ≤ 2 + n1 := by omega
    have sd2 : 2 + n1 ≤ 4 := by omega
    generalize 2 + n1 = sides at *
    refine r_callP S 0 rfl 5 ⟨rfl, by omega, small_up (by omega) (by omega)⟩ fun v N F6 H6 S e6 ⟨z, n2, ev, n20, n21⟩ => ?_
    subst z ev
    walk_at "rd"
    refine ⟨by show 3 ≤ sizeLine; decide, s_new S fun lq F7 H7 S e7 c7 => ?_⟩
    walk_at "rd"
    refine ⟨lq, rfl, ⟨_, SqL.of (S.fr _ _ c7)⟩, ?_⟩
    have same : ∀ (mn : Int) (ts : List (Int × Int)), True := fun _ _ => trivial
    refine s_for (fun _ σ' F' M' => ∃ x2 x3 x4 : Option V, σ' = [some (.ref a), some (.ref p), x2, x3, x4] ∧ x2 = some _ ∧ x3 = some (.int sides) ∧ M' = [(p, .pot)]) (srcI (K := K) (ns := [0, 1, 1 + n2]) (SqL.of c7)) S ⟨_, _, none, rfl, rfl, rfl, rfl⟩ (fun _ _ _ _ _ m hm => by cases hm) ?_ ?_
    · rintro i rounds x σ' F8 F9 H9 M' ei S e8 e9 rfl ⟨x2, x3, x4, rfl, rfl, rfl, rfl⟩
      have hr := List.mem_of_getElem? ei
      have hr0 : 0 ≤ rounds ∧ rounds ≤ 60 := by
        simp only [List.mem_cons, List.not_mem_nil, or_false] at hr
        rcases hr with e | e | e <;> omega
      have E9 := e5.trans (e6.trans (e7.trans (e8.trans e9)))
      walk_at "rd"
      refine r_callF S (many, ties, sides, rounds) ⟨_, rfl, Dp.ex E9 _ _ hw, W, by omega, sd1, sd2, hr0.1, hr0.2⟩ ?_
      rintro v N F10 H10 S e10 ⟨rfl, d10⟩
      walk_at "rd"
      refine r_callF S (many, ties, sides, rounds) ⟨_, rfl, Dp.ex (E9.trans e10) _ _ hw, W, by omega, sd1, sd2, hr0.1, hr0.2⟩ ?_
      rintro v N F11 H11 S e11 ⟨rfl, d11⟩
      walk_at "rd"
      refine r_callF S (tieD (lowF (prU many ties sides rounds.toNat [], (sides ^ many.toNat) ^ rounds.toNat))) ⟨_, _, rfl, Dp.ex e11 _ _ d10, d11, (frac_same _).1, (frac_same _).2⟩ ?_
      rintro v N F12 H12 S e12 ⟨rfl, rfl⟩
      walk_at "rd"
      exact ⟨_, _, S, e8.trans (e9.trans (e10.trans (e11.trans e12))), _, _, _, rfl, rfl, rfl, rfl⟩
    · rintro σ' F8 H8 M' S e8 ⟨x2, x3, x4, rfl, rfl, rfl, rfl⟩
      walk_at "rd"
      refine r_callP S 0 rfl 5 ⟨rfl, by omega, by omega⟩ ?_
      rintro v N F9 H9 S e9 ⟨rfl, many2, ties2, hm2, W2, hw2⟩
      walk_at "rd"
      refine r_callP S 0 rfl 3 ⟨rfl, by omega, small_up (by omega) (by omega)⟩ fun v N F10 H10 S e10 ⟨z, n3, ev, n30, n31⟩ => ?_
      subst z ev
      walk_at "rd"
      have td1 : 2 ≤ 2 + n3 := by omega
      have td2 : 2 + n3 ≤ 4 := by omega
      generalize 2 + n3 = sides2 at *
      refine r_callP S 0 rfl 61 ⟨rfl, by omega, small_up (by omega) (by omega)⟩ fun v N F11 H11 S e11 ⟨z, rounds, ev, n40, n41⟩ => ?_
      subst z ev
      walk_at "rd"
      refine r_callF S (many2, ties2, sides2, rounds) ⟨_, rfl, Dp.ex (e10.trans e11) _ _ hw2, W2, by omega, td1, td2, by omega, by omega⟩ ?_
      rintro v N F12 H12 S e12 ⟨rfl, d12⟩
      walk_at "rd"
      refine r_callF S (many2, ties2, sides2, rounds) ⟨_, rfl, Dp.ex (e10.trans (e11.trans e12)) _ _ hw2, W2, by omega, td1, td2, by omega, by omega⟩ ?_
      rintro v N F13 H13 S e13 ⟨rfl, d13⟩
      walk_at "rd"
      refine r_callF S (tieD (lowF (prU many2 ties2 sides2 rounds.toNat [], (sides2 ^ many2.toNat) ^ rounds.toNat))) ⟨_, _, rfl, Dp.ex e13 _ _ d12, d13, (frac_same _).1, (frac_same _).2⟩ ?_
      rintro v N F14 H14 S e14 ⟨rfl, rfl⟩
      exact k _

end

end
theorem all_mk {l : PySem.W.OpenLaw} {w : World} {K : PySem.W.Frag} {h : Heap} {mg : Str → Option Value} {fa : Addr} (X : K.In h) (G : h.Ns mainGlobals mg) (hfa : mg "law" = some (.ref fa))
    {f0 : Addr} {od0 an0 : Option Addr} {sl0 : Array (Option Value)} {oc0 kV0 dc0 pm0 cd0 ct0 : Value}
    (a0 : PySem.W.nsIn K mainGlobals "near_left" = some (some (.ref f0))) (l0 : K.lookup f0 = some ⟨oc0, od0, .func (PySem.W.fnOf "near_left" "near_left" (defArgs s_near_left) (defBody s_near_left) (defScope s_near_left) .none kV0 dc0 pm0 an0 cd0 ct0), sl0⟩) (c0 : PySem.W.codeIn K cd0 "near_left" = true) (k0 : PySem.W.keepIn K (.ref f0) = true)
    {f1 : Addr} {od1 an1 : Option Addr} {sl1 : Array (Option Value)} {oc1 kV1 dc1 pm1 cd1 ct1 : Value}
    (a1 : PySem.W.nsIn K mainGlobals "least_of" = some (some (.ref f1))) (l1 : K.lookup f1 = some ⟨oc1, od1, .func (PySem.W.fnOf "least_of" "least_of" (defArgs s_least_of) (defBody s_least_of) (defScope s_least_of) .none kV1 dc1 pm1 an1 cd1 ct1), sl1⟩) (c1 : PySem.W.codeIn K cd1 "least_of" = true) (k1 : PySem.W.keepIn K (.ref f1) = true)
    {f2 : Addr} {od2 an2 : Option Addr} {sl2 : Array (Option Value)} {oc2 kV2 dc2 pm2 cd2 ct2 : Value}
    (a2 : PySem.W.nsIn K mainGlobals "out_by" = some (some (.ref f2))) (l2 : K.lookup f2 = some ⟨oc2, od2, .func (PySem.W.fnOf "out_by" "out_by" (defArgs s_out_by) (defBody s_out_by) (defScope s_out_by) .none kV2 dc2 pm2 an2 cd2 ct2), sl2⟩) (c2 : PySem.W.codeIn K cd2 "out_by" = true) (k2 : PySem.W.keepIn K (.ref f2) = true)
    {f3 : Addr} {od3 an3 : Option Addr} {sl3 : Array (Option Value)} {oc3 kV3 dc3 pm3 cd3 ct3 : Value}
    (a3 : PySem.W.nsIn K mainGlobals "left_behind" = some (some (.ref f3))) (l3 : K.lookup f3 = some ⟨oc3, od3, .func (PySem.W.fnOf "left_behind" "left_behind" (defArgs s_left_behind) (defBody s_left_behind) (defScope s_left_behind) .none kV3 dc3 pm3 an3 cd3 ct3), sl3⟩) (c3 : PySem.W.codeIn K cd3 "left_behind" = true) (k3 : PySem.W.keepIn K (.ref f3) = true)
    {f4 : Addr} {od4 an4 : Option Addr} {sl4 : Array (Option Value)} {oc4 kV4 dc4 pm4 cd4 ct4 : Value}
    (a4 : PySem.W.nsIn K mainGlobals "fraction_of" = some (some (.ref f4))) (l4 : K.lookup f4 = some ⟨oc4, od4, .func (PySem.W.fnOf "fraction_of" "fraction_of" (defArgs s_fraction_of) (defBody s_fraction_of) (defScope s_fraction_of) .none kV4 dc4 pm4 an4 cd4 ct4), sl4⟩) (c4 : PySem.W.codeIn K cd4 "fraction_of" = true) (k4 : PySem.W.keepIn K (.ref f4) = true)
    {f5 : Addr} {od5 an5 : Option Addr} {sl5 : Array (Option Value)} {oc5 kV5 dc5 pm5 cd5 ct5 : Value}
    (a5 : PySem.W.nsIn K mainGlobals "rows_of_draws" = some (some (.ref f5))) (l5 : K.lookup f5 = some ⟨oc5, od5, .func (PySem.W.fnOf "rows_of_draws" "rows_of_draws" (defArgs s_rows_of_draws) (defBody s_rows_of_draws) (defScope s_rows_of_draws) .none kV5 dc5 pm5 an5 cd5 ct5), sl5⟩) (c5 : PySem.W.codeIn K cd5 "rows_of_draws" = true) (k5 : PySem.W.keepIn K (.ref f5) = true)
    {f6 : Addr} {od6 an6 : Option Addr} {sl6 : Array (Option Value)} {oc6 kV6 dc6 pm6 cd6 ct6 : Value}
    (a6 : PySem.W.nsIn K mainGlobals "chosen_ways" = some (some (.ref f6))) (l6 : K.lookup f6 = some ⟨oc6, od6, .func (PySem.W.fnOf "chosen_ways" "chosen_ways" (defArgs s_chosen_ways) (defBody s_chosen_ways) (defScope s_chosen_ways) .none kV6 dc6 pm6 an6 cd6 ct6), sl6⟩) (c6 : PySem.W.codeIn K cd6 "chosen_ways" = true) (k6 : PySem.W.keepIn K (.ref f6) = true)
    {f7 : Addr} {od7 an7 : Option Addr} {sl7 : Array (Option Value)} {oc7 kV7 dc7 pm7 cd7 ct7 : Value}
    (a7 : PySem.W.nsIn K mainGlobals "ways_from" = some (some (.ref f7))) (l7 : K.lookup f7 = some ⟨oc7, od7, .func (PySem.W.fnOf "ways_from" "ways_from" (defArgs s_ways_from) (defBody s_ways_from) (defScope s_ways_from) .none kV7 dc7 pm7 an7 cd7 ct7), sl7⟩) (c7 : PySem.W.codeIn K cd7 "ways_from" = true) (k7 : PySem.W.keepIn K (.ref f7) = true)
    {f8 : Addr} {od8 an8 : Option Addr} {sl8 : Array (Option Value)} {oc8 kV8 dc8 pm8 cd8 ct8 : Value}
    (a8 : PySem.W.nsIn K mainGlobals "all_ways" = some (some (.ref f8))) (l8 : K.lookup f8 = some ⟨oc8, od8, .func (PySem.W.fnOf "all_ways" "all_ways" (defArgs s_all_ways) (defBody s_all_ways) (defScope s_all_ways) .none kV8 dc8 pm8 an8 cd8 ct8), sl8⟩) (c8 : PySem.W.codeIn K cd8 "all_ways" = true) (k8 : PySem.W.keepIn K (.ref f8) = true)
    {f9 : Addr} {od9 an9 : Option Addr} {sl9 : Array (Option Value)} {oc9 kV9 dc9 pm9 cd9 ct9 : Value}
    (a9 : PySem.W.nsIn K mainGlobals "ways_behind" = some (some (.ref f9))) (l9 : K.lookup f9 = some ⟨oc9, od9, .func (PySem.W.fnOf "ways_behind" "ways_behind" (defArgs s_ways_behind) (defBody s_ways_behind) (defScope s_ways_behind) .none kV9 dc9 pm9 an9 cd9 ct9), sl9⟩) (c9 : PySem.W.codeIn K cd9 "ways_behind" = true) (k9 : PySem.W.keepIn K (.ref f9) = true)
    {f10 : Addr} {od10 an10 : Option Addr} {sl10 : Array (Option Value)} {oc10 kV10 dc10 pm10 cd10 ct10 : Value}
    (a10 : PySem.W.nsIn K mainGlobals "chance_behind" = some (some (.ref f10))) (l10 : K.lookup f10 = some ⟨oc10, od10, .func (PySem.W.fnOf "chance_behind" "chance_behind" (defArgs s_chance_behind) (defBody s_chance_behind) (defScope s_chance_behind) .none kV10 dc10 pm10 an10 cd10 ct10), sl10⟩) (c10 : PySem.W.codeIn K cd10 "chance_behind" = true) (k10 : PySem.W.keepIn K (.ref f10) = true)
    {f11 : Addr} {od11 an11 : Option Addr} {sl11 : Array (Option Value)} {oc11 kV11 dc11 pm11 cd11 ct11 : Value}
    (a11 : PySem.W.nsIn K mainGlobals "_law_blend" = some (some (.ref f11))) (l11 : K.lookup f11 = some ⟨oc11, od11, .func (PySem.W.fnOf "_law_blend" "_law_blend" (defArgs s__law_blend) (defBody s__law_blend) (defScope s__law_blend) .none kV11 dc11 pm11 an11 cd11 ct11), sl11⟩) (c11 : PySem.W.codeIn K cd11 "_law_blend" = true) (k11 : PySem.W.keepIn K (.ref f11) = true)
    {f12 : Addr} {od12 an12 : Option Addr} {sl12 : Array (Option Value)} {oc12 kV12 dc12 pm12 cd12 ct12 : Value}
    (a12 : PySem.W.nsIn K mainGlobals "_law_pot" = some (some (.ref f12))) (l12 : K.lookup f12 = some ⟨oc12, od12, .func (PySem.W.fnOf "_law_pot" "_law_pot" (defArgs s__law_pot) (defBody s__law_pot) (defScope s__law_pot) .none kV12 dc12 pm12 an12 cd12 ct12), sl12⟩) (c12 : PySem.W.codeIn K cd12 "_law_pot" = true) (k12 : PySem.W.keepIn K (.ref f12) = true)
    {f13 : Addr} {od13 an13 : Option Addr} {sl13 : Array (Option Value)} {oc13 kV13 dc13 pm13 cd13 ct13 : Value}
    (a13 : PySem.W.nsIn K mainGlobals "_law_pick" = some (some (.ref f13))) (l13 : K.lookup f13 = some ⟨oc13, od13, .func (PySem.W.fnOf "_law_pick" "_law_pick" (defArgs s__law_pick) (defBody s__law_pick) (defScope s__law_pick) .none kV13 dc13 pm13 an13 cd13 ct13), sl13⟩) (c13 : PySem.W.codeIn K cd13 "_law_pick" = true) (k13 : PySem.W.keepIn K (.ref f13) = true)
    {f14 : Addr} {od14 an14 : Option Addr} {sl14 : Array (Option Value)} {oc14 kV14 dc14 pm14 cd14 ct14 : Value}
    (a14 : PySem.W.nsIn K mainGlobals "_law_same" = some (some (.ref f14))) (l14 : K.lookup f14 = some ⟨oc14, od14, .func (PySem.W.fnOf "_law_same" "_law_same" (defArgs s__law_same) (defBody s__law_same) (defScope s__law_same) .none kV14 dc14 pm14 an14 cd14 ct14), sl14⟩) (c14 : PySem.W.codeIn K cd14 "_law_same" = true) (k14 : PySem.W.keepIn K (.ref f14) = true)
    {f15 : Addr} {od15 an15 : Option Addr} {sl15 : Array (Option Value)} {oc15 kV15 dc15 pm15 cd15 ct15 : Value}
    (a15 : PySem.W.nsIn K mainGlobals "_law_web" = some (some (.ref f15))) (l15 : K.lookup f15 = some ⟨oc15, od15, .func (PySem.W.fnOf "_law_web" "_law_web" (defArgs s__law_web) (defBody s__law_web) (defScope s__law_web) .none kV15 dc15 pm15 an15 cd15 ct15), sl15⟩) (c15 : PySem.W.codeIn K cd15 "_law_web" = true) (k15 : PySem.W.keepIn K (.ref f15) = true)
    {f16 : Addr} {od16 an16 : Option Addr} {sl16 : Array (Option Value)} {oc16 kV16 dc16 pm16 cd16 ct16 : Value}
    (a16 : PySem.W.nsIn K mainGlobals "_law_beside" = some (some (.ref f16))) (l16 : K.lookup f16 = some ⟨oc16, od16, .func (PySem.W.fnOf "_law_beside" "_law_beside" (defArgs s__law_beside) (defBody s__law_beside) (defScope s__law_beside) .none kV16 dc16 pm16 an16 cd16 ct16), sl16⟩) (c16 : PySem.W.codeIn K cd16 "_law_beside" = true) (k16 : PySem.W.keepIn K (.ref f16) = true)
    {f17 : Addr} {od17 an17 : Option Addr} {sl17 : Array (Option Value)} {oc17 kV17 dc17 pm17 cd17 ct17 : Value}
    (a17 : PySem.W.nsIn K mainGlobals "_law_lowest" = some (some (.ref f17))) (l17 : K.lookup f17 = some ⟨oc17, od17, .func (PySem.W.fnOf "_law_lowest" "_law_lowest" (defArgs s__law_lowest) (defBody s__law_lowest) (defScope s__law_lowest) .none kV17 dc17 pm17 an17 cd17 ct17), sl17⟩) (c17 : PySem.W.codeIn K cd17 "_law_lowest" = true) (k17 : PySem.W.keepIn K (.ref f17) = true)
    {f18 : Addr} {od18 an18 : Option Addr} {sl18 : Array (Option Value)} {oc18 kV18 dc18 pm18 cd18 ct18 : Value}
    (a18 : PySem.W.nsIn K mainGlobals "_law_draws" = some (some (.ref f18))) (l18 : K.lookup f18 = some ⟨oc18, od18, .func (PySem.W.fnOf "_law_draws" "_law_draws" (defArgs s__law_draws) (defBody s__law_draws) (defScope s__law_draws) .none kV18 dc18 pm18 an18 cd18 ct18), sl18⟩) (c18 : PySem.W.codeIn K cd18 "_law_draws" = true) (k18 : PySem.W.keepIn K (.ref f18) = true)
    {f19 : Addr} {od19 an19 : Option Addr} {sl19 : Array (Option Value)} {oc19 kV19 dc19 pm19 cd19 ct19 : Value}
    (a19 : PySem.W.nsIn K mainGlobals "_law_behind" = some (some (.ref f19))) (l19 : K.lookup f19 = some ⟨oc19, od19, .func (PySem.W.fnOf "_law_behind" "_law_behind" (defArgs s__law_behind) (defBody s__law_behind) (defScope s__law_behind) .none kV19 dc19 pm19 an19 cd19 ct19), sl19⟩) (c19 : PySem.W.codeIn K cd19 "_law_behind" = true) (k19 : PySem.W.keepIn K (.ref f19) = true)
    {f20 : Addr} {od20 an20 : Option Addr} {sl20 : Array (Option Value)} {oc20 kV20 dc20 pm20 cd20 ct20 : Value}
    (a20 : PySem.W.nsIn K mainGlobals "_law_moves" = some (some (.ref f20))) (l20 : K.lookup f20 = some ⟨oc20, od20, .func (PySem.W.fnOf "_law_moves" "_law_moves" (defArgs s__law_moves) (defBody s__law_moves) (defScope s__law_moves) .none kV20 dc20 pm20 an20 cd20 ct20), sl20⟩) (c20 : PySem.W.codeIn K cd20 "_law_moves" = true) (k20 : PySem.W.keepIn K (.ref f20) = true)
    {f21 : Addr} {od21 an21 : Option Addr} {sl21 : Array (Option Value)} {oc21 kV21 dc21 pm21 cd21 ct21 : Value}
    (a21 : PySem.W.nsIn K mainGlobals "_law_all_moves" = some (some (.ref f21))) (l21 : K.lookup f21 = some ⟨oc21, od21, .func (PySem.W.fnOf "_law_all_moves" "_law_all_moves" (defArgs s__law_all_moves) (defBody s__law_all_moves) (defScope s__law_all_moves) .none kV21 dc21 pm21 an21 cd21 ct21), sl21⟩) (c21 : PySem.W.codeIn K cd21 "_law_all_moves" = true) (k21 : PySem.W.keepIn K (.ref f21) = true)
    {f22 : Addr} {od22 an22 : Option Addr} {sl22 : Array (Option Value)} {oc22 kV22 dc22 pm22 cd22 ct22 : Value}
    (a22 : PySem.W.nsIn K mainGlobals "_law_due" = some (some (.ref f22))) (l22 : K.lookup f22 = some ⟨oc22, od22, .func (PySem.W.fnOf "_law_due" "_law_due" (defArgs s__law_due) (defBody s__law_due) (defScope s__law_due) .none kV22 dc22 pm22 an22 cd22 ct22), sl22⟩) (c22 : PySem.W.codeIn K cd22 "_law_due" = true) (k22 : PySem.W.keepIn K (.ref f22) = true)
    {f23 : Addr} {od23 an23 : Option Addr} {sl23 : Array (Option Value)} {oc23 kV23 dc23 pm23 cd23 ct23 : Value}
    (a23 : PySem.W.nsIn K mainGlobals "law" = some (some (.ref f23))) (l23 : K.lookup f23 = some ⟨oc23, od23, .func (PySem.W.fnOf "law" "law" (defArgs s_law) (defBody s_law) (defScope s_law) .none kV23 dc23 pm23 an23 cd23 ct23), sl23⟩) (c23 : PySem.W.codeIn K cd23 "law" = true) (k23 : PySem.W.keepIn K (.ref f23) = true)
    (gt_gcd : PySem.W.nsIn K mainGlobals "gcd" = some (some (.builtin "math.gcd")))
    (z_set : PySem.W.nsIn K mainGlobals "set" = some none)
    (z_range : PySem.W.nsIn K mainGlobals "range" = some none)
    (z_max : PySem.W.nsIn K mainGlobals "max" = some none)
    (z_sum : PySem.W.nsIn K mainGlobals "sum" = some none)
    (z_list : PySem.W.nsIn K mainGlobals "list" = some none)
    (z_enumerate : PySem.W.nsIn K mainGlobals "enumerate" = some none)
    (z_tuple : PySem.W.nsIn K mainGlobals "tuple" = some none)
    (z_all : PySem.W.nsIn K mainGlobals "all" = some none)
    (z_any : PySem.W.nsIn K mainGlobals "any" = some none)
    (z_isinstance : PySem.W.nsIn K mainGlobals "isinstance" = some none)
    (z_bool : PySem.W.nsIn K mainGlobals "bool" = some none)
    (z_int : PySem.W.nsIn K mainGlobals "int" = some none)
    (z_str : PySem.W.nsIn K mainGlobals "str" = some none)
    (z_len : PySem.W.nsIn K mainGlobals "len" = some none)
    (z_sorted : PySem.W.nsIn K mainGlobals "sorted" = some none)
    (z_zip : PySem.W.nsIn K mainGlobals "zip" = some none)
    (z_min : PySem.W.nsIn K mainGlobals "min" = some none)
    : ∃ fd : FuncData, (∀ (s : Shared) (v : Value), BindsTo s fd ⟨[v], []⟩ [("script", v)]) ∧ ∀ base : Heap, K.In base → base.Ns mainGlobals mg → FnOk l.prog w K mg base CX0 7 fa fd ["script"] (sp_law K) := by
  have e := hfa.symm.trans (PySem.W.mg_of X G a23)
  cases e
  have F0 := fun_mk (st := s_near_left) l0 c0 k0
  have F1 := fun_mk (st := s_least_of) l1 c1 k1
  have F2 := fun_mk (st := s_out_by) l2 c2 k2
  have F3 := fun_mk (st := s_left_behind) l3 c3 k3
  have F4 := fun_mk (st := s_fraction_of) l4 c4 k4
  have F5 := fun_mk (st := s_rows_of_draws) l5 c5 k5
  have F6 := fun_mk (st := s_chosen_ways) l6 c6 k6
  have F7 := fun_mk (st := s_ways_from) l7 c7 k7
  have F8 := fun_mk (st := s_all_ways) l8 c8 k8
  have F9 := fun_mk (st := s_ways_behind) l9 c9 k9
  have F10 := fun_mk (st := s_chance_behind) l10 c10 k10
  have F11 := fun_mk (st := s__law_blend) l11 c11 k11
  have F12 := fun_mk (st := s__law_pot) l12 c12 k12
  have F13 := fun_mk (st := s__law_pick) l13 c13 k13
  have F14 := fun_mk (st := s__law_same) l14 c14 k14
  have F15 := fun_mk (st := s__law_web) l15 c15 k15
  have F16 := fun_mk (st := s__law_beside) l16 c16 k16
  have F17 := fun_mk (st := s__law_lowest) l17 c17 k17
  have F18 := fun_mk (st := s__law_draws) l18 c18 k18
  have F19 := fun_mk (st := s__law_behind) l19 c19 k19
  have F20 := fun_mk (st := s__law_moves) l20 c20 k20
  have F21 := fun_mk (st := s__law_all_moves) l21 c21 k21
  have F22 := fun_mk (st := s__law_due) l22 c22 k22
  have F23 := fun_mk (st := s_law) l23 c23 k23
  have b0 := F0.binds (ps := ["web", "left"]) fun _ _ _ _ _ _ us hl => match us, hl with | [_, _], _ => rfl
  have b1 := F1.binds (ps := ["near", "numbers"]) fun _ _ _ _ _ _ us hl => match us, hl with | [_, _], _ => rfl
  have b2 := F2.binds (ps := ["near", "chosen"]) fun _ _ _ _ _ _ us hl => match us, hl with | [_, _], _ => rfl
  have b3 := F3.binds (ps := ["near", "chosen", "out"]) fun _ _ _ _ _ _ us hl => match us, hl with | [_, _, _], _ => rfl
  have b4 := F4.binds (ps := ["over", "under"]) fun _ _ _ _ _ _ us hl => match us, hl with | [_, _], _ => rfl
  have b5 := F5.binds (ps := ["web", "sides", "near"]) fun _ _ _ _ _ _ us hl => match us, hl with | [_, _, _], _ => rfl
  have b6 := F6.binds (ps := ["near", "rows"]) fun _ _ _ _ _ _ us hl => match us, hl with | [_, _], _ => rfl
  have b7 := F7.binds (ps := ["web", "sides", "here"]) fun _ _ _ _ _ _ us hl => match us, hl with | [_, _, _], _ => rfl
  have b8 := F8.binds (ps := ["web", "sides"]) fun _ _ _ _ _ _ us hl => match us, hl with | [_, _], _ => rfl
  have b9 := F9.binds (ps := ["ways", "counts"]) fun _ _ _ _ _ _ us hl => match us, hl with | [_, _], _ => rfl
  have b10 := F10.binds (ps := ["web", "sides", "rounds"]) fun _ _ _ _ _ _ us hl => match us, hl with | [_, _, _], _ => rfl
  have b11 := F11.binds (ps := ["cell", "at"]) fun _ _ _ _ _ _ us hl => match us, hl with | [_, _], _ => rfl
  have b12 := F12.binds (ps := ["script"]) fun _ _ _ _ _ _ us hl => match us, hl with | [_], _ => rfl
  have b13 := F13.binds (ps := ["pot", "upto"]) fun _ _ _ _ _ _ us hl => match us, hl with | [_, _], _ => rfl
  have b14 := F14.binds (ps := ["found", "due"]) fun _ _ _ _ _ _ us hl => match us, hl with | [_, _], _ => rfl
  have b15 := F15.binds (ps := ["pot", "most"]) fun _ _ _ _ _ _ us hl => match us, hl with | [_, _], _ => rfl
  have b16 := F16.binds (ps := ["web"]) fun _ _ _ _ _ _ us hl => match us, hl with | [_], _ => rfl
  have b17 := F17.binds (ps := ["over", "under"]) fun _ _ _ _ _ _ us hl => match us, hl with | [_, _], _ => rfl
  have b18 := F18.binds (ps := ["many", "sides"]) fun _ _ _ _ _ _ us hl => match us, hl with | [_, _], _ => rfl
  have b19 := F19.binds (ps := ["beside", "houses", "drawn"]) fun _ _ _ _ _ _ us hl => match us, hl with | [_, _, _], _ => rfl
  have b20 := F20.binds (ps := ["web", "sides", "houses"]) fun _ _ _ _ _ _ us hl => match us, hl with | [_, _, _], _ => rfl
  have b21 := F21.binds (ps := ["web", "sides"]) fun _ _ _ _ _ _ us hl => match us, hl with | [_, _], _ => rfl
  have b22 := F22.binds (ps := ["web", "sides", "rounds"]) fun _ _ _ _ _ _ us hl => match us, hl with | [_, _, _], _ => rfl
  have T : Env K mg := { a_near_left := _, fd_near_left := _, F_near_left := F0, b_near_left := b0, g_near_left := PySem.W.mg_of X G a0, a_least_of := _, fd_least_of := _, F_least_of := F1, b_least_of := b1, g_least_of := PySem.W.mg_of X G a1, a_out_by := _, fd_out_by := _, F_out_by := F2, b_out_by := b2, g_out_by := PySem.W.mg_of X G a2, a_left_behind := _, fd_left_behind := _, F_left_behind := F3, b_left_behind := b3, g_left_behind := PySem.W.mg_of X G a3, a_fraction_of := _, fd_fraction_of := _, F_fraction_of := F4, b_fraction_of := b4, g_fraction_of := PySem.W.mg_of X G a4, a_rows_of_draws := _, fd_rows_of_draws := _, F_rows_of_draws := F5, b_rows_of_draws := b5, g_rows_of_draws := PySem.W.mg_of X G a5, a_chosen_ways := _, fd_chosen_ways := _, F_chosen_ways := F6, b_chosen_ways := b6, g_chosen_ways := PySem.W.mg_of X G a6, a_ways_from := _, fd_ways_from := _, F_ways_from := F7, b_ways_from := b7, g_ways_from := PySem.W.mg_of X G a7, a_all_ways := _, fd_all_ways := _, F_all_ways := F8, b_all_ways := b8, g_all_ways := PySem.W.mg_of X G a8, a_ways_behind := _, fd_ways_behind := _, F_ways_behind := F9, b_ways_behind := b9, g_ways_behind := PySem.W.mg_of X G a9, a_chance_behind := _, fd_chance_behind := _, F_chance_behind := F10, b_chance_behind := b10, g_chance_behind := PySem.W.mg_of X G a10, a__law_blend := _, fd__law_blend := _, F__law_blend := F11, b__law_blend := b11, g__law_blend := PySem.W.mg_of X G a11, a__law_pot := _, fd__law_pot := _, F__law_pot := F12, b__law_pot := b12, g__law_pot := PySem.W.mg_of X G a12, a__law_pick := _, fd__law_pick := _, F__law_pick := F13, b__law_pick := b13, g__law_pick := PySem.W.mg_of X G a13, a__law_same := _, fd__law_same := _, F__law_same := F14, b__law_same := b14, g__law_same := PySem.W.mg_of X G a14, a__law_web := _, fd__law_web := _, F__law_web := F15, b__law_web := b15, g__law_web := PySem.W.mg_of X G a15, a__law_beside := _, fd__law_beside := _, F__law_beside := F16, b__law_beside := b16, g__law_beside := PySem.W.mg_of X G a16, a__law_lowest := _, fd__law_lowest := _, F__law_lowest := F17, b__law_lowest := b17, g__law_lowest := PySem.W.mg_of X G a17, a__law_draws := _, fd__law_draws := _, F__law_draws := F18, b__law_draws := b18, g__law_draws := PySem.W.mg_of X G a18, a__law_behind := _, fd__law_behind := _, F__law_behind := F19, b__law_behind := b19, g__law_behind := PySem.W.mg_of X G a19, a__law_moves := _, fd__law_moves := _, F__law_moves := F20, b__law_moves := b20, g__law_moves := PySem.W.mg_of X G a20, a__law_all_moves := _, fd__law_all_moves := _, F__law_all_moves := F21, b__law_all_moves := b21, g__law_all_moves := PySem.W.mg_of X G a21, a__law_due := _, fd__law_due := _, F__law_due := F22, b__law_due := b22, g__law_due := PySem.W.mg_of X G a22, g_gcd := PySem.W.mg_of X G gt_gcd, n_set := PySem.W.mg_none_of X G z_set, n_range := PySem.W.mg_none_of X G z_range, n_max := PySem.W.mg_none_of X G z_max, n_sum := PySem.W.mg_none_of X G z_sum, n_list := PySem.W.mg_none_of X G z_list, n_enumerate := PySem.W.mg_none_of X G z_enumerate, n_tuple := PySem.W.mg_none_of X G z_tuple, n_all := PySem.W.mg_none_of X G z_all, n_any := PySem.W.mg_none_of X G z_any, n_isinstance := PySem.W.mg_none_of X G z_isinstance, n_bool := PySem.W.mg_none_of X G z_bool, n_int := PySem.W.mg_none_of X G z_int, n_str := PySem.W.mg_none_of X G z_str, n_len := PySem.W.mg_none_of X G z_len, n_sorted := PySem.W.mg_none_of X G z_sorted, n_zip := PySem.W.mg_none_of X G z_zip, n_min := PySem.W.mg_none_of X G z_min }
  exact ⟨PySem.W.fnOf "law" "law" (defArgs s_law) (defBody s_law) (defScope s_law) .none kV23 dc23 pm23 an23 cd23 ct23, fun s v => .of_eq rfl, fun base _ _ => ok_law T F23⟩
end Fa
open PySem PySem.W PyProof.Rows
set_option maxHeartbeats 0 in
theorem PySem.Challenge.cw_fullapart_k33_none_left_behind_rounds_holds : PySem.Challenge.rw_fullapart_k33_none_left_behind_rounds.Holds := by
  w_on; o_law; k_head; (case hw => w_witness2)
  k_fill
  refine L2.walk_of (l := PySem.Challenge.rw_fullapart_k33_none_left_behind_rounds) (n := 63) (k := 7) (x := "script") (CX := fun _ => L2.CX0) (sp := fun w => Fa.sp_law _) rfl (by decide) rfl ⟨rfl, by decide, by decide⟩ (fun w h Y => PySem.W.kIn_of Y) ?F (fun _ _ a ns hl _ hS => ⟨a, ns, rfl, hS, hl, fun _ => rfl⟩) (fun _ _ _ _ _ h => h)
  case F =>
    intro w mg fa h KX G hmg
    refine' Fa.all_mk KX G hmg ?a0 ?l0 ?c0 ?k0 ?a1 ?l1 ?c1 ?k1 ?a2 ?l2 ?c2 ?k2 ?a3 ?l3 ?c3 ?k3 ?a4 ?l4 ?c4 ?k4 ?a5 ?l5 ?c5 ?k5 ?a6 ?l6 ?c6 ?k6 ?a7 ?l7 ?c7 ?k7 ?a8 ?l8 ?c8 ?k8 ?a9 ?l9 ?c9 ?k9 ?a10 ?l10 ?c10 ?k10 ?a11 ?l11 ?c11 ?k11 ?a12 ?l12 ?c12 ?k12 ?a13 ?l13 ?c13 ?k13 ?a14 ?l14 ?c14 ?k14 ?a15 ?l15 ?c15 ?k15 ?a16 ?l16 ?c16 ?k16 ?a17 ?l17 ?c17 ?k17 ?a18 ?l18 ?c18 ?k18 ?a19 ?l19 ?c19 ?k19 ?a20 ?l20 ?c20 ?k20 ?a21 ?l21 ?c21 ?k21 ?a22 ?l22 ?c22 ?k22 ?a23 ?l23 ?c23 ?k23 ?gt_gcd ?z_set ?z_range ?z_max ?z_sum ?z_list ?z_enumerate ?z_tuple ?z_all ?z_any ?z_isinstance ?z_bool ?z_int ?z_str ?z_len ?z_sorted ?z_zip ?z_min
    (case a0 => k_is); (case l0 => k_is); (case c0 => k_is); (case k0 => k_is); (case a1 => k_is); (case l1 => k_is); (case c1 => k_is); (case k1 => k_is); (case a2 => k_is); (case l2 => k_is); (case c2 => k_is); (case k2 => k_is); (case a3 => k_is); (case l3 => k_is); (case c3 => k_is); (case k3 => k_is); (case a4 => k_is); (case l4 => k_is); (case c4 => k_is); (case k4 => k_is); (case a5 => k_is); (case l5 => k_is); (case c5 => k_is); (case k5 => k_is); (case a6 => k_is); (case l6 => k_is); (case c6 => k_is); (case k6 => k_is); (case a7 => k_is); (case l7 => k_is); (case c7 => k_is); (case k7 => k_is); (case a8 => k_is); (case l8 => k_is); (case c8 => k_is); (case k8 => k_is); (case a9 => k_is); (case l9 => k_is); (case c9 => k_is); (case k9 => k_is); (case a10 => k_is); (case l10 => k_is); (case c10 => k_is); (case k10 => k_is); (case a11 => k_is); (case l11 => k_is); (case c11 => k_is); (case k11 => k_is); (case a12 => k_is); (case l12 => k_is); (case c12 => k_is); (case k12 => k_is); (case a13 => k_is); (case l13 => k_is); (case c13 => k_is); (case k13 => k_is); (case a14 => k_is); (case l14 => k_is); (case c14 => k_is); (case k14 => k_is); (case a15 => k_is); (case l15 => k_is); (case c15 => k_is); (case k15 => k_is); (case a16 => k_is); (case l16 => k_is); (case c16 => k_is); (case k16 => k_is); (case a17 => k_is); (case l17 => k_is); (case c17 => k_is); (case k17 => k_is); (case a18 => k_is); (case l18 => k_is); (case c18 => k_is); (case k18 => k_is); (case a19 => k_is); (case l19 => k_is); (case c19 => k_is); (case k19 => k_is); (case a20 => k_is); (case l20 => k_is); (case c20 => k_is); (case k20 => k_is); (case a21 => k_is); (case l21 => k_is); (case c21 => k_is); (case k21 => k_is); (case a22 => k_is); (case l22 => k_is); (case c22 => k_is); (case k22 => k_is); (case a23 => k_is); (case l23 => k_is); (case c23 => k_is); (case k23 => k_is); (case gt_gcd => k_is); (case z_set => k_is); (case z_range => k_is); (case z_max => k_is); (case z_sum => k_is); (case z_list => k_is); (case z_enumerate => k_is); (case z_tuple => k_is); (case z_all => k_is); (case z_any => k_is); (case z_isinstance => k_is); (case z_bool => k_is); (case z_int => k_is); (case z_str => k_is); (case z_len => k_is); (case z_sorted => k_is); (case z_zip => k_is); (case z_min => k_is)
