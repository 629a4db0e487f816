import PyProof.Rows.All
import Wide.All
import OpenK.AllK
import Wide.FinOn
import HandS.ForMost
import HandS.Gcd
import HandS.Wide
import HandS.IsInst
import HandS.Deep
import HandS.TupAny
import HandS.TupMul
import HandS.Flow
import HandS.Style
import HandS.Zip
import HandS.Rev
import HandS.Exc
import HandS.TryOnly
import HandS.WordsExc
import HandS.CallSlots
import HandS.Conv
import HandS.Defaults
import HandS.NoneIn
import HandS.More
import HandS.SetFor
import KE.DataFind
import PyProof.TupleOfSeq
import HandS.RepeatKit
import PyProof.P3Eq
import KE.KStateDown
import HandS.Head0
import HandS.Head1
import HandS.Head2
import HandS.Head3
import HandS.HeadEnd
import HandS.HeadHook1
import HandS.HeadHook2
import PySem.Challenge.RW_raytrain_k07_empty_regions_and_their_pap
set_option Elab.async false
set_option linter.all false
set_option maxRecDepth 100000
set_option maxHeartbeats 4000000
namespace ZCmb
open PySem PySem.Spec PyProof.Rows L2
open Sem (wp)
theorem mro_cmb : mroOf (.type "itertools.combinations") = pure [.type "itertools.combinations", .type "object"] := by rw [mroOf_type]; kernel_rfl
theorem lookup_cmb_new : typeLookup (.type "itertools.combinations") "__new__" = pure (some (.builtin "itertools.combinations.__new__")) := by rw [typeLookup_type, builtinLookup_eq_fast]; kernel_rfl
theorem slot_cmb_init : Slot "itertools.combinations" "__init__" "object.__init__" :=
  .of (owner := "object") (n := "__init__") (by rw [typeLookup_type, builtinLookup_eq_fast]; kernel_rfl) (by decide +kernel) (by decide +kernel) (by decide +kernel)
    (by first | exact .inl (by decide +kernel) | exact .inr (by decide +kernel)) (by rw [isSubtype_type]; kernel_rfl)
theorem sub_cmb : isSubtype (.type "itertools.combinations") (.type "itertools.combinations") = pure true := by rw [isSubtype_type]; kernel_rfl
theorem called_cmb : TypeCalled "itertools.combinations" "itertools.combinations.__new__" "object.__init__" :=
  ⟨by decide +kernel, by decide +kernel, ⟨_, _, mro_cmb⟩, madeBy_type mro_cmb lookup_cmb_new (by decide +kernel), by decide +kernel, sub_cmb, slot_cmb_init⟩
theorem typeCall_cmb_2 (a b : Value) : checkTypeCall "itertools.combinations" ⟨[a, b], []⟩ = pure () := by kernel_rfl
theorem newCall_cmb_2 (a b : Value) : checkBuiltinCall "itertools.combinations.__new__" ⟨[.type "itertools.combinations", a, b], []⟩ = pure () := by kernel_rfl
theorem entry_cmb_new : entryFor table "itertools.combinations.__new__" = some Builtin.«itertools.combinations.__new__» := entryFor_of_tree (by kernel_rfl)
theorem slot_cmb_iter : Slot "itertools.combinations" "__iter__" "itertools.combinations.__iter__" :=
  .of (owner := "itertools.combinations") (n := "__iter__") (by rw [typeLookup_type, builtinLookup_eq_fast]; kernel_rfl) (by decide +kernel) (by decide +kernel) (by decide +kernel)
    (by first | exact .inl (by decide +kernel) | exact .inr (by decide +kernel)) sub_cmb
theorem slot_cmb_next : Slot "itertools.combinations" "__next__" "itertools.combinations.__next__" :=
  .of (owner := "itertools.combinations") (n := "__next__") (by rw [typeLookup_type, builtinLookup_eq_fast]; kernel_rfl) (by decide +kernel) (by decide +kernel) (by decide +kernel)
    (by first | exact .inl (by decide +kernel) | exact .inr (by decide +kernel)) sub_cmb
theorem entry_cmb_iter : entryFor table "itertools.combinations.__iter__" = some Builtin.«dict_keyiterator.__iter__» :=
  entryFor_alias (id' := "dict_keyiterator.__iter__") (by kernel_rfl) (by first | rfl | decide +kernel | (unfold String.splitOn; simp +decide [String.splitOnAux])) (by decide +kernel) (by kernel_rfl)
theorem entry_cmb_next : entryFor table "itertools.combinations.__next__" = some Builtin.«itertools.combinations.__next__» := entryFor_of_tree (by kernel_rfl)
theorem owner_cmb : Manifest.owners.lookup (String.ofList ['s', 'n', 'o', 'i', 't', 'a', 'n', 'i', 'b', 'm', 'o', 'c', '.', 's', 'l', 'o', 'o', 't', 'r', 'e', 't', 'i'].reverse) = some Manifest.sig_itertools_combinations := by kernel_rfl
theorem args_cmb_iter (a : Value) : argsOk "itertools.combinations.__iter__" ⟨[a], []⟩ := by
  unfold argsOk; rw [signature?_of (id := "itertools.combinations.__iter__") (n := ['_', '_', 'r', 'e', 't', 'i', '_', '_']) (o := ['s', 'n', 'o', 'i', 't', 'a', 'n', 'i', 'b', 'm', 'o', 'c', '.', 's', 'l', 'o', 'o', 't', 'r', 'e', 't', 'i']) (by kernel_rfl) owner_cmb]; kernel_rfl
theorem args_cmb_next (a : Value) : argsOk "itertools.combinations.__next__" ⟨[a], []⟩ := by
  unfold argsOk; rw [signature?_of (id := "itertools.combinations.__next__") (n := ['_', '_', 't', 'x', 'e', 'n', '_', '_']) (o := ['s', 'n', 'o', 'i', 't', 'a', 'n', 'i', 'b', 'm', 'o', 'c', '.', 's', 'l', 'o', 'o', 't', 'r', 'e', 't', 'i']) (by kernel_rfl) owner_cmb]; kernel_rfl
theorem noDict_cmb : typeHasDict (.type "itertools.combinations") = false := by decide +kernel
/-- the object: pool, state (0 at the beginning, 1 within, 2 at the end), what was handed out last, the indexes -/
def cmbO (pool : Addr) (st : Int) (last : Value) (idx : List Nat) : Obj := { cls := .type "itertools.combinations", dict := none, data := .fields (([.ref pool, rawInt st, last] ++ idx.map fun (i : Nat) => rawInt i).toArray), slots := #[] }
abbrev IsCmb (h : Heap) (it pool : Addr) (st : Int) (last : Value) (idx : List Nat) : Prop := h.get? it = some (cmbO pool st last idx)
end ZCmb
namespace ZCmb
open PySem PySem.Spec PyProof.Rows L2
open Sem (wp)
/-- what collecting a value gives: values with P, nothing lost -/
def Cols (A : Around) (src : Value) (P : List Value → Prop) (s : Shared) : Prop := ∀ (prog : Program) (w : World) (Q : List Value → Shared → Prop) (E : Value → Shared → Prop),
  (∀ (h' : Heap) (tk : Nat) (us : List Value), (∀ b o', s.heap.get? b = some o' → h'.get? b = some o') → P us → us.length ≤ sizeLine → Q us { s with heap := h', toks := tk }) → wpAny (model prog w) A (collect src) Q E s
theorem meets_cmb_new (src : Value) (r : Nat) (t : Tok) (hr : r ≤ 10) (P : List Value → Prop) :
    Meets (Builtin.«itertools.combinations.__new__» ⟨[.type "itertools.combinations", src, .int (r : Int) t], []⟩)
      (fun A R s => Cols A.in1 src P s ∧ ∀ (h2 h' : Heap) (tk : Nat) (us : List Value), (∀ b o', s.heap.get? b = some o' → h2.get? b = some o') → (∀ b o', h2.get? b = some o' → h'.get? b = some o') → h'.IsTuple h2.objs.size us.toArray → P us → IsCmb h' (h2.objs.size + 1) h2.objs.size (if r > us.length then 2 else 0) .none (List.range r) →
        R (.ok (.ret (.ref (h2.objs.size + 1)))) { s with heap := h', toks := tk }) :=
  .of_wp fun prog w A R s h => by
    obtain ⟨hp, g, dd, tk, os⟩ := s
    obtain ⟨hcol, h⟩ := h
    have hsub : isSubtype (.type "itertools.combinations") (.type ("itertools." ++ "combinations")) = pure true := by
      rw [show "itertools." ++ "combinations" = "itertools.combinations" from by decide]
      exact sub_cmb
    have hdn := noDict_cmb
    have hn : ¬ ((decide ((r : Int) < -(2 ^ 63 : Int)) || decide ((r : Int) ≥ (2 ^ 63 : Int))) = true) := by
      have a : decide ((r : Int) < -(2 ^ 63 : Int)) = false := decide_eq_false (by omega)
      have b : decide ((r : Int) ≥ (2 ^ 63 : Int)) = false := decide_eq_false (by omega)
      rw [a, b]
      decide
    have h0 : ¬ ((r : Int) < 0) := by omega
    have h1 : ¬ (Builtin.Itertools.itTooMany (r : Int) = true) := by
      unfold Builtin.Itertools.itTooMany
      rw [decide_eq_true_eq]
      omega
    repeat (first
      | (refine wpAny_bind (hcol _ _ _ _ (fun h2 tk2 us hk hP hsz => ?_)))
      | (refine wpAny_ite_false (decide_eq_false h0) ?_)
      | (rw [if_neg h0])
      | (rw [if_neg h1])
      | (rw [if_neg (show ¬ (([Value.ref _, rawInt _, Value.none] ++ List.map (fun (i : Nat) => rawInt i) (List.range (r : Int).toNat)).toArray.size > sizeLine + 2) from by simp [sizeLine_eq]; omega)])
      | wp_step
      | simp only [List.head?_cons, Option.some_or, List.getElem?_cons_succ, List.getElem?_cons_zero, List.length_cons, List.length_nil, List.forIn_nil]
      | (refine wpAny_ite_false (by simpa using hn) ?_))
    refine ⟨_, rfl, ?_⟩
    have e1 : (if ((r : Int).toNat > us.length) then (2 : Int) else 0) = if r > us.length then 2 else 0 := by simp
    have e2 : (h2.push { cls := .type "tuple", data := .seq us.toArray }).objs.size = h2.objs.size + 1 := Heap.size_push ..
    have := Heap.get?_push_size (h2.push { cls := .type "tuple", data := .seq us.toArray }) (o := cmbO h2.objs.size (if r > us.length then 2 else 0) .none (List.range r)) rfl
    rw [← e1] at this
    rw [e2]
    rw [e2] at this
    refine h h2 _ tk2 us hk (fun b o' e => Heap.get?_push_of_some _ (Heap.get?_push_of_some _ e)) ⟨_, Heap.get?_push_of_some _ (Heap.get?_push_size _ rfl), rfl, _, rfl⟩ hP ?_
    rw [e1] at this
    exact this
section
variable {prog : Program} {w : World} {A : Around} {E : Value → Shared → Prop} {s : Shared}
theorem call_cmb {src : Value} {r : Nat} {t : Tok} {P : List Value → Prop} {Q : Value → Shared → Prop} (hr : r ≤ 10) (hcol : Cols A.in1.in1 src P s)
    (h : ∀ (h2 h' : Heap) (tk : Nat) (us : List Value), (∀ b o', s.heap.get? b = some o' → h2.get? b = some o') → (∀ b o', h2.get? b = some o' → h'.get? b = some o') → h'.IsTuple h2.objs.size us.toArray → P us → IsCmb h' (h2.objs.size + 1) h2.objs.size (if r > us.length then 2 else 0) .none (List.range r) → Q (.ref (h2.objs.size + 1)) { s with heap := h', toks := tk }) :
    wpAny (model prog w) A (call (.type "itertools.combinations") [src, .int (r : Int) t]) Q E s := by
  refine callType_new called_cmb (by decide +kernel) (typeCall_cmb_2 _ _) (newCall_cmb_2 _ _) (fun obj => F.args_object_init_3 obj _ _) entry_cmb_new (meets_cmb_new src r t hr P) ?_
  exact ⟨hcol, fun h2 h' tk us a1 a2 a3 a4 a5 => ⟨⟨_, a5, rfl⟩, h h2 h' tk us a1 a2 a3 a4 a5⟩⟩
theorem cols_list {l : Addr} {T : String} {items : Array Value} {o : Obj} {n : Nat} (hT : T = "list" ∨ T = "tuple") (hsz : items.size ≤ sizeLine) (ho : s.heap.get? l = some o) (hc : o.cls = .type T) (hd : o.data = .seq items n) : Cols A (.ref l) (fun us => us = items.toList) s :=
  fun prog w Q E h => wpAny_collect_seq l hT ho hc hd (fun h' hk => h h' s.toks _ hk rfl (by simpa using hsz)) hsz
theorem cols_range {r : Addr} {a b : Int} {t u v : Tok} (hh : A.handled = none) (hr : IsRange s.heap r a b 1 t u v) (ok : RgOk a b) : Cols A (.ref r) (fun us => Vals (rgV a b) us) s := by
  obtain ⟨b1, b2, b3, b4, b5⟩ := ok
  intro prog w Q E h
  refine collect_range (n := (b - a).toNat) hh hr (small_one b1 b2 b3 b4) (rangeSize_nat a b) b5 fun h' tk acc hk hi => h h' tk _ hk (vals_rg hi) ?_
  have := (vals_rg hi).length
  rw [rgV_length] at this
  rw [← this, sizeLine_eq]
  omega
end
end ZCmb
namespace ZCmb
open PySem PySem.Spec PyProof.Rows L2
open Sem (wp)
/-- the step of the indexes -/
def nxt (n : Nat) (indices : List Nat) : Option (List Nat) :=
  let r := indices.length
  match (List.range r).reverse.find? fun i => indices.getD i 0 != i + n - r with
  | none => none
  | some i => some (indices.take i ++ (List.range (r - i)).map (indices.getD i 0 + 1 + ·))
def pk (items : Array Value) (idx : List Nat) : List Value := idx.map fun i => items.getD i .none
section
variable {prog : Program} {w : World} {A : Around} {E : Value → Shared → Prop} {s : Shared}
theorem map_raw {f : Value → Nat} (h : ∀ i : Nat, f (rawInt i) = i) (idx : List Nat) : (idx.map fun (i : Nat) => rawInt i).map f = idx := by
  induction idx with
  | nil => rfl
  | cons i idx ih => simp only [List.map_cons, ih, h]
theorem numbers {it pool : Addr} {st : Int} {last : Value} {idx : List Nat} {Q : List Nat → Shared → Prop} (h : IsCmb s.heap it pool st last idx) (q : Q idx s) : wpAny (model prog w) A (Builtin.Itertools.itNumbersFrom (.ref it) 3) Q E s := by
  unfold Builtin.Itertools.itNumbersFrom
  refine wpAny_bind (wpAny_load h ?_)
  refine wpAny_pure ?_
  have : (([.ref pool, rawInt st, last] ++ idx.map fun (i : Nat) => rawInt i).toArray.toList.drop 3) = idx.map fun (i : Nat) => rawInt i := rfl
  rw [this, map_raw (fun i => rfl)]
  exact q
theorem poolItems {pool : Addr} {items : Array Value} {Q : Array Value → Shared → Prop} (h : s.heap.IsTuple pool items) (q : Q items s) : wpAny (model prog w) A (Builtin.Itertools.itPoolItems (.ref pool)) Q E s := by
  obtain ⟨o, ho, _, n, hd⟩ := h
  unfold Builtin.Itertools.itPoolItems
  exact wpAny_bind (wpAny_seqItems ho hd (wpAny_pure q))
theorem hand_out {it pool : Addr} {last : Value} {st : Int} {idx : List Nat} {items : Array Value} {Q : Fin → Shared → Prop} (hi : IsCmb s.heap it pool st last idx) (hp : s.heap.IsTuple pool items) (hne : pool ≠ it) (hl : idx.length ≤ 10)
    (hQ : ∀ h' q, IsCmb h' it pool st (.ref q) idx → q = s.heap.objs.size → h'.get? q = some { cls := .type "tuple", data := .seq (pk items idx).toArray } → (∀ b o, b ≠ it → s.heap.get? b = some o → h'.get? b = some o) → Q (.done (.ret (.ref q))) { s with heap := h' }) :
    wpAny (model prog w) A (do
      let result ← (do
        let items ← Builtin.Itertools.itPoolItems (.ref pool)
        newTuple (idx.map fun i => items.getD i .none))
      let before ← field (.ref it) 2
      setField (.ref it) 2 result
      letGo [before] [result]
      ret result : Sem Fin) Q E s := by
  refine wpAny_bind (wpAny_bind (poolItems hp ?_))
  refine wpAny_newTuple ?_ (by rw [List.length_map, sizeLine_eq]; omega)
  have hi1 : IsCmb (s.heap.push { cls := .type "tuple", data := .seq (pk items idx).toArray }) it pool st last idx := Heap.get?_push_of_some _ hi
  refine wpAny_bind (wpAny_field hi1 rfl (x := last) rfl ?_)
  refine wpAny_bind (wpAny_setField_rec hi1 (by simp) fun h1 hi2 hs1 => ?_)
  replace hi2 : IsCmb h1 it pool st (.ref s.heap.objs.size) idx := hi2
  refine wpAny_bind (wpAny_letGo (wpAny_pure ?_))
  have hlt : it < s.heap.objs.size := Heap.lt_size hi
  exact hQ h1 s.heap.objs.size hi2 rfl (hs1.extBut _ _ (Nat.ne_of_gt hlt) (Heap.get?_push_size _ rfl)) fun b o hb e => hs1.extBut _ _ hb (Heap.get?_push_of_some _ e)
theorem next_first {it pool : Addr} {last : Value} {idx : List Nat} {items : Array Value} {Q : Fin → Shared → Prop} (hi : IsCmb s.heap it pool 0 last idx) (hp : s.heap.IsTuple pool items) (hne : pool ≠ it) (hl : idx.length ≤ 10)
    (hQ : ∀ h' q, IsCmb h' it pool 1 (.ref q) idx → q = s.heap.objs.size → h'.get? q = some { cls := .type "tuple", data := .seq (pk items idx).toArray } → (∀ b o, b ≠ it → s.heap.get? b = some o → h'.get? b = some o) → Q (.done (.ret (.ref q))) { s with heap := h' }) :
    wpAny (model prog w) A (Builtin.«itertools.combinations.__next__» ⟨[.ref it], []⟩) Q E s := by
  show wpAny _ _ (field (.ref it) 0 >>= _) _ _ _
  refine wpAny_bind (wpAny_field hi rfl (x := .ref pool) rfl ?_)
  show wpAny _ _ (Builtin.Itertools.itNumbersFrom (.ref it) 3 >>= _) _ _ _
  refine wpAny_bind (numbers hi ?_)
  show wpAny _ _ (Builtin.Itertools.itIntField (.ref it) 1 >>= _) _ _ _
  unfold Builtin.Itertools.itIntField
  refine wpAny_bind (wpAny_bind (wpAny_field hi rfl (x := rawInt 0) rfl (wpAny_pure ?_)))
  show wpAny _ _ (setField (.ref it) 1 (rawInt 1) >>= _) _ _ _
  refine wpAny_bind (wpAny_setField_rec hi (by simp) fun h1 hi1 hs1 => ?_)
  replace hi1 : IsCmb h1 it pool 1 last idx := hi1
  have hp1 : h1.IsTuple pool items := hp.extBut hs1.extBut hne
  exact hand_out hi1 hp1 hne hl fun h' q a1 a2 a3 a4 => hQ h' q a1 (a2.trans hs1.1) a3 fun b o hb e => a4 b o hb (hs1.extBut _ _ hb e)
/-- a step within -/
theorem next_more {it pool : Addr} {last : Value} {idx idx' : List Nat} {items : Array Value} {Q : Fin → Shared → Prop} (hi : IsCmb s.heap it pool 1 last idx) (hp : s.heap.IsTuple pool items) (hne : pool ≠ it) (hx : nxt items.size idx = some idx') (hl : idx'.length ≤ 10)
    (hQ : ∀ h' q, IsCmb h' it pool 1 (.ref q) idx' → q = s.heap.objs.size → h'.get? q = some { cls := .type "tuple", data := .seq (pk items idx').toArray } → (∀ b o, b ≠ it → s.heap.get? b = some o → h'.get? b = some o) → Q (.done (.ret (.ref q))) { s with heap := h' }) :
    wpAny (model prog w) A (Builtin.«itertools.combinations.__next__» ⟨[.ref it], []⟩) Q E s := by
  show wpAny _ _ (field (.ref it) 0 >>= _) _ _ _
  refine wpAny_bind (wpAny_field hi rfl (x := .ref pool) rfl ?_)
  show wpAny _ _ (Builtin.Itertools.itNumbersFrom (.ref it) 3 >>= _) _ _ _
  refine wpAny_bind (numbers hi ?_)
  show wpAny _ _ (Builtin.Itertools.itIntField (.ref it) 1 >>= _) _ _ _
  unfold Builtin.Itertools.itIntField
  refine wpAny_bind (wpAny_bind (wpAny_field hi rfl (x := rawInt 1) rfl (wpAny_pure ?_)))
  show wpAny _ _ (Builtin.Itertools.itPoolItems (.ref pool) >>= _) _ _ _
  refine wpAny_bind (poolItems hp ?_)
  show wpAny _ _ (match nxt items.size idx with | some next => (Builtin.Itertools.itSetNumbersFrom (.ref it) 3 next >>= fun _ => _) | none => _) _ _ _
  rw [hx]
  show wpAny _ _ (Builtin.Itertools.itSetNumbersFrom (.ref it) 3 idx' >>= _) _ _ _
  unfold Builtin.Itertools.itSetNumbersFrom
  refine wpAny_bind (wpAny_updateFields hi rfl ?_ (by simp [sizeLine_eq]; omega))
  have hs1 : Heap.SameBut it s.heap (s.heap.update it (Obj.mapFields (fun fs => fs.extract 0 3 ++ (List.map (fun (n : Nat) => rawInt n) idx').toArray))) := Heap.SameBut.update ..
  have hi1 : IsCmb (s.heap.update it (Obj.mapFields (fun fs => fs.extract 0 3 ++ (List.map (fun (n : Nat) => rawInt n) idx').toArray))) it pool 1 last idx' := by
    rw [IsCmb, Heap.get?_update_self _ hi rfl]
    simp [cmbO, Obj.mapFields]
  generalize s.heap.update it (Obj.mapFields (fun fs => fs.extract 0 3 ++ (List.map (fun (n : Nat) => rawInt n) idx').toArray)) = h1 at *
  have hp1 : h1.IsTuple pool items := hp.extBut hs1.extBut hne
  exact hand_out hi1 hp1 hne hl fun h' q a1 a2 a3 a4 => hQ h' q a1 (a2.trans hs1.1) a3 fun b o hb e => a4 b o hb (hs1.extBut _ _ hb e)
theorem next_stop {it pool : Addr} {last : Value} {idx : List Nat} {items : Array Value} {Q : Fin → Shared → Prop} (hh : A.handled = none) (hi : IsCmb s.heap it pool 1 last idx) (hp : s.heap.IsTuple pool items) (hne : pool ≠ it) (hx : nxt items.size idx = none)
    (hE : ∀ h' e, (∀ b o, b ≠ it → s.heap.get? b = some o → h'.get? b = some o) → (∃ o, h'.get? e = some o ∧ o.cls = .type "StopIteration") → E (.ref e) { s with heap := h' }) :
    wpAny (model prog w) A (Builtin.«itertools.combinations.__next__» ⟨[.ref it], []⟩) Q E s := by
  show wpAny _ _ (field (.ref it) 0 >>= _) _ _ _
  refine wpAny_bind (wpAny_field hi rfl (x := .ref pool) rfl ?_)
  show wpAny _ _ (Builtin.Itertools.itNumbersFrom (.ref it) 3 >>= _) _ _ _
  refine wpAny_bind (numbers hi ?_)
  show wpAny _ _ (Builtin.Itertools.itIntField (.ref it) 1 >>= _) _ _ _
  unfold Builtin.Itertools.itIntField
  refine wpAny_bind (wpAny_bind (wpAny_field hi rfl (x := rawInt 1) rfl (wpAny_pure ?_)))
  show wpAny _ _ (Builtin.Itertools.itPoolItems (.ref pool) >>= _) _ _ _
  refine wpAny_bind (poolItems hp ?_)
  show wpAny _ _ (match nxt items.size idx with | some next => _ | none => (setField (.ref it) 1 (rawInt 2) >>= fun _ => Builtin.Itertools.itStop)) _ _ _
  rw [hx]
  show wpAny _ _ (setField (.ref it) 1 (rawInt 2) >>= fun _ => Builtin.Itertools.itStop) _ _ _
  refine wpAny_bind (wpAny_setField_rec hi (by simp) fun h1 hi1 hs1 => ?_)
  unfold Builtin.Itertools.itStop
  show wpAny _ _ (newExc (.type "StopIteration") [] >>= _) _ _ _
  refine wpAny_bind ?_
  simp only [newExc, newTuple]
  refine wpAny_bind (wpAny_newObj_type ?_ (by size_fits))
  refine wpAny_bind (m := firstArgMember _ _) (wpAny_of_eq (a := Value.none) (by first | rfl | (simp only [firstArgMember]; rfl)) ?_)
  refine wpAny_newObj_type ?_ (by size_fits)
  simp only [raiseNew]
  refine wpAny_bind (wpAny_handled ?_)
  first | rw [show A.in1.handled = none from hh] | rw [hh]
  refine wpAny_bind (wpAny_pure (wpAny_throw ?_))
  exact hE _ _ (((hs1.extBut).push _).push _) ⟨_, Heap.get?_push_size _ rfl, rfl⟩
theorem next_ended {it pool : Addr} {last : Value} {idx : List Nat} {Q : Fin → Shared → Prop} (hh : A.handled = none) (hi : IsCmb s.heap it pool 2 last idx)
    (hE : ∀ h' e, (∀ b o, b ≠ it → s.heap.get? b = some o → h'.get? b = some o) → (∃ o, h'.get? e = some o ∧ o.cls = .type "StopIteration") → E (.ref e) { s with heap := h' }) :
    wpAny (model prog w) A (Builtin.«itertools.combinations.__next__» ⟨[.ref it], []⟩) Q E s := by
  show wpAny _ _ (field (.ref it) 0 >>= _) _ _ _
  refine wpAny_bind (wpAny_field hi rfl (x := .ref pool) rfl ?_)
  show wpAny _ _ (Builtin.Itertools.itNumbersFrom (.ref it) 3 >>= _) _ _ _
  refine wpAny_bind (numbers hi ?_)
  show wpAny _ _ (Builtin.Itertools.itIntField (.ref it) 1 >>= _) _ _ _
  unfold Builtin.Itertools.itIntField
  refine wpAny_bind (wpAny_bind (wpAny_field hi rfl (x := rawInt 2) rfl (wpAny_pure ?_)))
  show wpAny _ _ (rule "itertools.combinations.ended" >>= fun _ => Builtin.Itertools.itStop) _ _ _
  refine wpAny_bind (wpAny_rule ?_)
  unfold Builtin.Itertools.itStop
  show wpAny _ _ (newExc (.type "StopIteration") [] >>= _) _ _ _
  refine wpAny_bind ?_
  simp only [newExc, newTuple]
  refine wpAny_bind (wpAny_newObj_type ?_ (by size_fits))
  refine wpAny_bind (m := firstArgMember _ _) (wpAny_of_eq (a := Value.none) (by first | rfl | (simp only [firstArgMember]; rfl)) ?_)
  refine wpAny_newObj_type ?_ (by size_fits)
  simp only [raiseNew]
  refine wpAny_bind (wpAny_handled ?_)
  first | rw [show A.in1.handled = none from hh] | rw [hh]
  refine wpAny_bind (wpAny_pure (wpAny_throw ?_))
  exact hE _ _ (fun b o _ e => Heap.get?_push_of_some _ (Heap.get?_push_of_some _ e)) ⟨_, Heap.get?_push_size _ rfl, rfl⟩
end
end ZCmb
namespace ZCmb
open PySem PySem.Spec PyProof.Rows L2
open Sem (wp)
/-- the indexes at turn i, if there is one -/
def seqI (n r : Nat) : Nat → Option (List Nat)
  | 0 => if r > n then none else some (List.range r)
  | i + 1 => (seqI n r i).bind (nxt n)
theorem nxt_len {n : Nat} {a b : List Nat} (h : nxt n a = some b) : b.length = a.length := by
  unfold nxt at h
  simp only at h
  split at h
  · cases h
  · rename_i i hi
    cases h
    have := List.mem_of_find?_eq_some hi
    rw [List.mem_reverse, List.mem_range] at this
    rw [List.length_append, List.length_take, List.length_map, List.length_range]
    omega
theorem seqI_len {n r : Nat} : ∀ {i : Nat} {a : List Nat}, seqI n r i = some a → a.length = r
  | 0, a, h => by
    unfold seqI at h
    split at h
    · cases h
    · cases h; exact List.length_range
  | i + 1, a, h => by
    unfold seqI at h
    cases hx : seqI n r i with
    | none => rw [hx] at h; cases h
    | some b =>
      rw [hx] at h
      rw [nxt_len h]
      exact seqI_len hx
def Itcm (its : List V) (r : Nat) : It :=
  ⟨fun i H => (seqI its.length r i).isSome = true,
    fun i H v H' => ∃ T a, v = .ref T ∧ H T = none ∧ H' = upd H T (.tup (a.map fun j => its.getD j .non)) ∧ seqI its.length r i = some a,
    fun i H => seqI its.length r i = none⟩
section
variable {prog : Program} {w : World} {A : Around} {E : Value → Shared → Prop} {s : Shared}
theorem iter_cmb {it pool : Addr} {st : Int} {last : Value} {idx : List Nat} {Q : Value → Shared → Prop} (hit : IsCmb s.heap it pool st last idx) (h : Q (.ref it) s) : wpAny (model prog w) A (pyIter (.ref it)) Q E s := by
  have hT : s.TypeIs (.ref it) "itertools.combinations" := ⟨_, hit, rfl⟩
  refine wpAny_pyIter_slot hT slot_cmb_iter (wpAny_call_entry slot_cmb_iter hT entry_cmb_iter ?_ (args_cmb_iter _))
  show wpAny _ _ (ret (.ref it)) _ _ s
  exact wpAny_pure ⟨_, rfl, "itertools.combinations", _, hT, slot_cmb_next.lookup, h⟩
theorem pyNext_cmb {it pool : Addr} {st : Int} {last : Value} {idx : List Nat} {Q : Option Value → Shared → Prop} (hit : IsCmb s.heap it pool st last idx)
    (h : wpAny (model prog w) A.in1 (Builtin.«itertools.combinations.__next__» ⟨[.ref it], []⟩) (fun fin s' => ∃ v, fin = .done (.ret v) ∧ Q (some v) s') (fun e s' => ∃ a o, e = .ref a ∧ s'.heap.get? a = some o ∧ o.cls = .type "StopIteration" ∧ Q none s') s) : wpAny (model prog w) A (pyNext (.ref it)) Q E s := by
  have hT : s.TypeIs (.ref it) "itertools.combinations" := ⟨_, hit, rfl⟩
  unfold pyNext
  refine wpAny_bind (wpAny_attempt (wpAny_callSpecial?_slot (name := Str.ofString "__next__") hT slot_cmb_next (wpAny_call_entry slot_cmb_next hT entry_cmb_next ?_ (args_cmb_next _))))
  refine wpAny_mono h (fun fin s' ⟨v, e, q⟩ => ⟨v, e, wpAny_pure q⟩) (fun e s' ⟨a, o, e1, ho, hc, q⟩ => ?_)
  subst e1
  exact wpAny_bind (wpAny_isInstance (T := "StopIteration") (b := true) ⟨o, ho, hc⟩ isSubtype_stop (wpAny_pure q))
end
/-- what stands at turn i -/
def Tn (its : List V) (r : Nat) (pool it : Addr) (i : Nat) (h : Heap) : Prop := ∃ us, Vals its us ∧ h.IsTuple pool us.toArray ∧
  ((i = 0 ∧ IsCmb h it pool (if r > its.length then 2 else 0) .none (List.range r)) ∨ ∃ j idx last, i = j + 1 ∧ seqI its.length r j = some idx ∧ IsCmb h it pool 1 last idx)
theorem pk_vals {its : List V} {us : List Value} (h : Vals its us) (idx : List Nat) : Vals (idx.map fun j => its.getD j .non) (pk us.toArray idx) := by
  induction idx with
  | nil => exact .nil
  | cons j idx ih =>
    refine .cons ?_ ih
    show RelV (its.getD j .non) (us.toArray.getD j .none)
    rw [List.getD_eq_getElem?_getD, Array.getD_eq_getD_getElem?, List.getElem?_toArray]
    cases hx : its[j]? with
    | none =>
      have hu : us[j]? = none := by
        rw [List.getElem?_eq_none_iff] at hx ⊢
        rw [← h.length]
        exact hx
      rw [hu]
      exact rfl
    | some x =>
      obtain ⟨u, hu, ru⟩ := h.get hx
      rw [hu]
      exact ru
theorem turn_cmb {P : Program} {w : World} {K : PySem.W.Frag} {tg : Expr} {its : List V} {r : Nat} {pool it : Addr} (hr : r ≤ 10) (hne : pool ≠ it) : Turn P w K tg (Itcm its r) [it, pool] it (Tn its r pool it) where
  mem := by simp
  obj := fun i h st c hc => by
    obtain ⟨us, rv, ⟨o, ho, _, n, hd⟩, q⟩ := st
    have hi : ∃ st last idx, IsCmb h it pool st last idx := by
      rcases q with ⟨_, q⟩ | ⟨_, _, _, _, _, q⟩
      · exact ⟨_, _, _, q⟩
      · exact ⟨_, _, _, q⟩
    obtain ⟨st, last, idx, hi⟩ := hi
    have e' : c = it ∨ c = pool := by simpa using hc
    rcases e' with q | q
    · rw [q]; exact ⟨_, hi, fun v q => nomatch q⟩
    · rw [q]; exact ⟨o, ho, fun v q => by rw [hd] at q; cases q⟩
  keep := fun i h h' st k => by
    obtain ⟨us, rv, ⟨o, ho, hc, n, hd⟩, q⟩ := st
    refine ⟨us, rv, ⟨o, k pool (by simp) _ ho, hc, n, hd⟩, ?_⟩
    rcases q with ⟨e, q⟩ | ⟨j, idx, last, e1, e2, q⟩
    · exact .inl ⟨e, k it (by simp) _ q⟩
    · exact .inr ⟨j, idx, last, e1, e2, k it (by simp) _ q⟩
  item := by
    intro X hP hw hK hc i pins s σ H E I hf st hg
    subst hP hw hK
    obtain ⟨us, rv, hp, q⟩ := st
    have hlen := rv.length
    have hsz : us.toArray.size = its.length := by rw [List.size_toArray]; exact hlen.symm
    -- what every step ends with
    have fin : ∀ (a : List Nat) (h' : Heap) (t : Addr), seqI its.length r i = some a → IsCmb h' it pool 1 (.ref t) a → t = s.heap.objs.size → h'.get? t = some { cls := .type "tuple", data := .seq (pk us.toArray a).toArray } → (∀ b o, b ≠ it → s.heap.get? b = some o → h'.get? b = some o) →
        ∃ u, some (Value.ref t) = some u ∧ wpAny (model X.prog X.w) X.A (letOwnedTupleGo tg (.ref it) u) (fun _ s2 => ∃ x H', Inv X pins σ H' s2 ∧ RelV x u ∧ (Itcm its r).yld i H x H' ∧ Tn its r pool it (i + 1) s2.heap ∧ ∀ b ∈ [it, pool], H' b = none) E { s with heap := h' } := by
      intro a h' t hs hi ht hT hk
      refine ⟨_, rfl, go_of (o := cmbO pool 1 (.ref t) a) hi rfl rfl (by decide) ?_⟩
      have ha := seqI_len hs
      have new : ObjOk X.prog X.w (upd H t (.tup (a.map fun j => its.getD j .non))) h' t (.tup (a.map fun j => its.getD j .non)) :=
        ⟨by rw [List.length_map, sizeLine_eq]; omega, pk us.toArray a, pk_vals rv a, ⟨_, hT, rfl, _, rfl⟩⟩
      have I1 : Inv X pins σ (upd H t (.tup (a.map fun j => its.getD j .non))) { s with heap := h' } :=
        I.turnedNew (t' := s.toks) (ch := [it, pool]) (fun c o hb q => hk c o (fun q' => hb (by simp [q'])) q) hf (by rw [ht]; exact Nat.le_refl _) new
      have hit : it < s.heap.objs.size := by
        rcases q with ⟨_, q⟩ | ⟨_, _, _, _, _, q⟩ <;> exact Heap.lt_size q
      have hpl : pool < s.heap.objs.size := by
        obtain ⟨o, ho, _⟩ := hp
        exact Heap.lt_size ho
      refine ⟨.ref t, _, I1, rfl, ⟨t, a, rfl, by rw [ht]; exact I.hok.fresh (Nat.le_refl _), rfl, hs⟩, ⟨us, rv, ?_, .inr ⟨i, a, _, rfl, hs, hi⟩⟩, fun c hcm => ?_⟩
      · obtain ⟨o, ho, hc, n, hd⟩ := hp
        exact ⟨o, hk _ _ hne ho, hc, n, hd⟩
      · have e' : c = it ∨ c = pool := by simpa using hcm
        have hlt : c < s.heap.objs.size := by rcases e' with q | q <;> rw [q] <;> assumption
        rw [upd_ne (by rw [ht]; exact Nat.ne_of_lt hlt)]
        exact (hf c hcm).1
    rcases q with ⟨rfl, q⟩ | ⟨j, idx, last, rfl, e2, q⟩
    · have hle : ¬ r > its.length := fun z => by
        have : (seqI its.length r 0).isSome = true := hg
        unfold seqI at this
        rw [if_pos z] at this
        cases this
      rw [if_neg hle] at q
      have hs : seqI its.length r 0 = some (List.range r) := if_neg hle
      refine pyNext_cmb q (next_first q hp hne (by rw [List.length_range]; exact hr) fun h' t a1 a2 a3 a4 => ⟨_, rfl, ?_⟩)
      exact fin _ h' t hs a1 a2 a3 a4
    · have hs : (seqI its.length r (j + 1)).isSome = true := hg
      cases hx : seqI its.length r (j + 1) with
      | none => rw [hx] at hs; cases hs
      | some idx' =>
        have hn : nxt its.length idx = some idx' := by
          have := hx
          unfold seqI at this
          rw [e2] at this
          exact this
        refine pyNext_cmb q (next_more q hp hne (by rw [hsz]; exact hn) (by rw [seqI_len hx]; exact hr) fun h' t a1 a2 a3 a4 => ⟨_, rfl, ?_⟩)
        exact fin _ h' t hx a1 a2 a3 a4
  done := by
    intro X hP hw hK hc i pins s σ H E I hf st hg
    subst hP hw hK
    obtain ⟨us, rv, hp, q⟩ := st
    have hsz : us.toArray.size = its.length := by rw [List.size_toArray]; exact rv.length.symm
    have hg : seqI its.length r i = none := hg
    have hh : X.A.in1.handled = none := I.ok.hd hc
    rcases q with ⟨rfl, q⟩ | ⟨j, idx, last, rfl, e2, q⟩
    · have hle : r > its.length := by
        unfold seqI at hg
        by_cases z : r > its.length
        · exact z
        · rw [if_neg z] at hg; cases hg
      rw [if_pos hle] at q
      refine pyNext_cmb q (next_ended hh q fun h' e hk ⟨o, ho, hc⟩ => ⟨e, o, rfl, ho, hc, rfl, ?_⟩)
      exact I.turnedL (t' := s.toks) (ch := [it, pool]) (fun c o hb q => hk c o (fun q' => hb (by simp [q'])) q) hf
    · have hn : nxt its.length idx = none := by
        unfold seqI at hg
        rw [e2] at hg
        exact hg
      refine pyNext_cmb q (next_stop hh q hp hne (by rw [hsz]; exact hn) fun h' e hk ⟨o, ho, hc⟩ => ⟨e, o, rfl, ho, hc, rfl, ?_⟩)
      exact I.turnedL (t' := s.toks) (ch := [it, pool]) (fun c o hb q => hk c o (fun q' => hb (by simp [q'])) q) hf
  self := fun A i s Q E st h => by
    obtain ⟨us, rv, hp, q⟩ := st
    rcases q with ⟨_, q⟩ | ⟨_, _, _, _, _, q⟩ <;> exact iter_cmb q h
end ZCmb
namespace ZCmb
open PySem PySem.Spec PyProof.Rows L2
open Sem (wp)
section
variable {X : Cx} {tg e e2 : Expr} {te : TE} {ta : TA} {p pos p2 : Pos} {k : Nat}
theorem pie {pins : List (Addr × Obj)} {s1 : Shared} {σ : L2.St} {H1 : Hp} {R : It → Hp → Prop} {xs : List V} {r : Nat} (I1 : Inv X pins σ H1 s1) (hr : r ≤ 10) {us : List Value} {h2 h' : Heap} {tk : Nat} (rv : Vals xs us) (k1 : ∀ b o', s1.heap.get? b = some o' → h2.get? b = some o')
    (k2 : ∀ b o', h2.get? b = some o' → h'.get? b = some o') (a5 : h'.IsTuple h2.objs.size us.toArray) (a7 : IsCmb h' (h2.objs.size + 1) h2.objs.size (if r > us.length then 2 else 0) .none (List.range r)) (q : R (Itcm xs r) H1) :
    wpAny (model X.prog X.w) X.A (pyIter (.ref (h2.objs.size + 1))) (PIE X pins σ tg R) X.xe { s1 with heap := h', toks := tk } := by
  refine iter_cmb a7 ?_
  have I2 : Inv X pins σ H1 { s1 with heap := h2, toks := tk } := I1.kept (t' := tk) k1
  have I3 : Inv X pins σ H1 { s1 with heap := h', toks := tk } := I1.kept (t' := tk) fun b o e => k2 b o (k1 b o e)
  refine ⟨h2.objs.size + 1, [h2.objs.size + 1, h2.objs.size], _, _, H1, rfl, I3, turn_cmb hr (Nat.succ_ne_self _).symm, ⟨us, rv, a5, .inl ⟨rfl, by rw [rv.length]; exact a7⟩⟩, fun c hc => ?_, q⟩
  have hle : h2.objs.size ≤ c := by
    have e' : c = h2.objs.size + 1 ∨ c = h2.objs.size := by simpa using hc
    rcases e' with z | z <;> rw [z]
    · exact Nat.le_succ _
    · exact Nat.le_refl _
  have hf : FpOk X pins H1 c := I2.fpOk (s := { s1 with heap := h2, toks := tk }) hle (I2.hok.fresh hle)
  exact hf
def iCmb (K : PySem.W.Frag) (ta : TA) : TI := fun σ H R => ta σ H fun vs H1 => ∃ a xs, ∃ r : Nat, vs = [.ref a, .int (r : Int)] ∧ r ≤ 10 ∧ SqL K H1 a xs ∧ R (Itcm xs r) H1
theorem pi_cmb (hg : Gl X "combinations") (hm : X.mg "combinations" = some (.type "itertools.combinations")) (ha : PA X [e, e2] ta)
    (hs : starEach [e, e2] X.env = (false, eval e X.env) :: starEach [e2] X.env := by rfl) (hpl : (backTo pos (starEach [e2] X.env)).any (·.1) = false := by rfl) :
    PI X tg (.Call (.Name "combinations" p) [e, e2] [] pos) (iCmb X.K ta) := by
  refine ⟨fun pins s σ H R I h => ?_⟩
  refine Call_ (ld_glob I hg hm (PyProof.Rows.callWith_type1 (thn (ha.run pos pins s σ H _ I h) fun us s1 ⟨vs, H1, I1, r1, q1⟩ => ?_) hs hpl))
  obtain ⟨a, xs, r, rfl, hr, hq, q⟩ := q1
  cases r1 with
  | cons r1 rr =>
    cases rr with
    | cons r2 rr =>
      cases rr
      cases r1
      obtain ⟨t, rfl⟩ := r2
      obtain ⟨its, rv, p1, hz⟩ := I1.list hq
      obtain ⟨o, ho, hc, n, hd⟩ := p1.isList
      refine call_cmb hr (cols_list (.inl rfl) (by rw [List.size_toArray, ← rv.length]; exact hz) ho hc hd) fun h2 h' tk us k1 k2 a5 hP a7 => ?_
      subst hP
      exact pie I1 hr (by simpa using rv) k1 k2 a5 a7 q
/-- combinations(range(..), r) -/
def iCmbR (te : L2.St → Hp → (Int → Int → Hp → Prop) → Prop) (r : Nat) : TI := fun σ H R => te σ H fun a b H1 => RgOk a b ∧ R (Itcm (rgV a b) r) H1
theorem pi_cmbR {tr : L2.St → Hp → (Int → Int → Hp → Prop) → Prop} {r : Nat} (hc : X.calm = true) (hr : r ≤ 10) (hg : Gl X "combinations") (hm : X.mg "combinations" = some (.type "itertools.combinations")) (he : PRg X e tr)
    (na : starEach [e, .Constant (.int (r : Int)) k p2] X.env = (false, eval e X.env) :: starEach [.Constant (.int (r : Int)) k p2] X.env := by rfl) :
    PI X tg (.Call (.Name "combinations" p) [e, .Constant (.int (r : Int)) k p2] [] pos) (iCmbR tr r) := by
  refine ⟨fun pins s σ H R I h => ?_⟩
  refine Call_ (ld_glob I hg hm (PyProof.Rows.callWith_type1 (args_cons (thn (he pins s σ H _ I h) fun x s1 ⟨q, a, b, t, u, v, H1, ex, hrg, I1, ok, q1⟩ => args_cons (wpAny_Constant_int (args_nil ?_)) (by rfl)) na) na (by rfl)))
  subst ex
  have I2 := I1.tok (s1.toks + 1)
  refine call_cmb hr (cols_range (I1.ok.hd hc) hrg ok) fun h2 h' tk us k1 k2 a5 hP a7 => ?_
  exact pie (s1 := { s1 with toks := s1.toks + 1 }) I2 hr hP k1 k2 a5 a7 q1
end
end ZCmb
namespace Z
open PySem PySem.Spec PyProof.Rows L2
def rRemD (K : PySem.W.Frag) : V → List V → Hp → VK → Prop := fun x xs H Q => ∃ (l : Addr) (y : V) (d : PyData) (ds : List PyData) (ws : List V) (j : Nat) (z : PyData), x = V.ref l ∧ xs = [y] ∧ H l = some (.lst ws) ∧ DpAll K H ws ds ∧ Dp K H y d ∧
  SeqAt.shaped (.list ds) = true ∧ SeqAt.shaped d = true ∧ ds[j]? = some z ∧ PyData.eqv z d = true ∧ (∀ (m : Nat) (z' : PyData), m < j → ds[m]? = some z' → PyData.eqv z' d = false) ∧ Q .non (upd H l (.lst (ws.eraseIdx j)))
theorem mt_removeD {X : Cx} (hu : X.A.units + 65 < cLine) : MtR X "list.remove" (rRemD X.K) := by
  intro pins s σ H x xs v us Q I rx rxs h
  obtain ⟨l, y, d, ds, ws, j, z, rfl, rfl, hH, ha, hy, sl, sd, hz, hzj, hno, q⟩ := h
  cases rx
  obtain ⟨uy, rfl, ry⟩ := rxs.one
  obtain ⟨bs, r1⟩ := Dp.reads I d y uy hy ry
  have hxs : PyData.canLayAll0 ds = true := SeqAt.canLay_of_shaped sl
  have hroom : X.A.units + 1 + min (PyData.depthAll ds) d.depth < cLine := room_in_shaped sd hu
  obtain ⟨zz, its, n, r, hl, e⟩ := I.lstM hH
  obtain ⟨as, h4⟩ := Dp.readsAll I ds _ its ha r
  have hn : its.length = ds.length := SeqAt.ReadsAll.length ds its as h4
  have hmap : its.map (SeqAt.readOf s.heap) = ds := SeqAt.readsAll_map ds its as hxs h4
  obtain ⟨hjd, _⟩ := List.getElem?_eq_some_iff.mp hz
  have hjl : j < its.length := by omega
  have hj : j < its.toArray.size := by simpa using hjl
  have at_ : ∀ (m : Nat) (hm : m < its.toArray.size) (z' : PyData), ds[m]? = some z' → SeqAt.readOf s.heap its.toArray[m] = z' := by
    intro m hm z' hz'
    have hml : m < its.length := by simpa using hm
    rw [← hmap, List.getElem?_map, List.getElem?_eq_getElem hml] at hz'
    have e1 : SeqAt.readOf s.heap its[m] = z' := Option.some.inj (show some (SeqAt.readOf s.heap its[m]) = some z' from hz')
    simpa using e1
  refine call_meets PySem.F.slot_list_remove ⟨_, e, rfl⟩ PySem.F.entry_list_remove (PySem.F.args_list_remove_2 _ _)
    (SeqAt.list_removeAt l its.toArray n none #[] uy (fun u => PyData.eqv (SeqAt.readOf s.heap u) d) j hj ?_ ?_ (by rw [List.size_toArray]; omega)) ⟨e, SeqAt.items_eqAt (vs := its.toArray) (show ReadsAll s.heap its.toArray.toList ds as from h4) r1 hxs (SeqAt.canLay_of_shaped sd) hroom, ?_⟩
  · show PyData.eqv (SeqAt.readOf s.heap its.toArray[j]) d = true
    rw [at_ j hj z hz]
    exact hzj
  · intro m hm hmj
    obtain ⟨z', hz'⟩ : ∃ z', ds[m]? = some z' := ⟨_, List.getElem?_eq_getElem (by omega)⟩
    show PyData.eqv (SeqAt.readOf s.heap its.toArray[m]) d = false
    rw [at_ m hm z' hz']
    exact hno m z' hmj hz'
  · refine ⟨.non, _, I.lset (its' := its.eraseIdx j) (t' := s.toks) hH e ?_ (r.eraseIdx j) ?_, rfl, q⟩
    · show its.toArray.eraseIdxIfInBounds j = (its.eraseIdx j).toArray
      rw [List.eraseIdxIfInBounds_toArray]
    · have z2 := r.length
      have z3 := (r.eraseIdx j).length
      have z4 := len_erase its j
      omega
def rInTD (K : PySem.W.Frag) : R2 := fun x y H Q => ∃ d ds, Dp K H x d ∧ Dp K H y (.tuple ds) ∧ SeqAt.shaped d = true ∧ SeqAt.shaped (.tuple ds) = true ∧ Q (.bl (ds.any fun z => PyData.eqv z d)) H
def rNotInTD (K : PySem.W.Frag) : R2 := fun x y H Q => ∃ d ds, Dp K H x d ∧ Dp K H y (.tuple ds) ∧ SeqAt.shaped d = true ∧ SeqAt.shaped (.tuple ds) = true ∧ Q (.bl (!ds.any fun z => PyData.eqv z d)) H
theorem op_inTD {X : Cx} (hu : X.A.units + 65 < cLine) : OpR X (compareOp .In) (rInTD X.K) := by
  intro pins s σ H x y v u Q I rx ry h
  obtain ⟨d, ds, hd, he, sd, se, q⟩ := h
  obtain ⟨as, r1⟩ := Dp.reads I d x v hd rx
  obtain ⟨bs, r2⟩ := Dp.reads I (.tuple ds) y u he ry
  exact SeqAt.in_tuple_reads r2 r1 (SeqAt.canLay_of_shaped se) (SeqAt.canLay_of_shaped sd) (room_in_shaped sd hu) ⟨.bl _, H, I, rfl, q⟩
theorem op_notInTD {X : Cx} (hu : X.A.units + 65 < cLine) : OpR X (compareOp .NotIn) (rNotInTD X.K) := by
  intro pins s σ H x y v u Q I rx ry h
  obtain ⟨d, ds, hd, he, sd, se, q⟩ := h
  obtain ⟨as, r1⟩ := Dp.reads I d x v hd rx
  obtain ⟨bs, r2⟩ := Dp.reads I (.tuple ds) y u he ry
  exact SeqAt.notIn_tuple_reads r2 r1 (SeqAt.canLay_of_shaped se) (SeqAt.canLay_of_shaped sd) (room_in_shaped sd hu) ⟨.bl _, H, I, rfl, q⟩
end Z
set_option maxHeartbeats 1000000
namespace ZRev
open PySem PySem.Spec PyProof.Rows L2
open Sem (wp)
section
variable {prog : Program} {w : World} {A : Around} {E : Value → Shared → Prop} {s : Shared}
theorem extend_rev {R : Result → Shared → Prop} {it l : Addr} {items : Array Value} (hh : A.handled = none) (hit : s.heap.IsRevIter it l ((items.size : Int) - 1)) (hl : s.heap.IsList l items) (hne : l ≠ it) (hn : items.size ≤ sizeLine)
    (S : Addr) (res : Value) (c₀ : Nat) (hSi : S ≠ it) (hSl : S ≠ l) (hS : s.heap.get? S = some { cls := .type "list", data := .seq #[] c₀ })
    (hR : ∀ h' tk acc' c', (∀ b o, b ≠ S → b ≠ it → s.heap.get? b = some o → h'.get? b = some o) → h'.get? S = some { cls := .type "list", dict := none, data := .seq acc' c', slots := #[] } →
      ItemsOf (fun i v => items[items.size - 1 - i]? = some v) acc' items.size → R (.ok (.ret res)) { s with heap := h', toks := tk }) :
    wpAny (model prog w) A.in1 (Builtin.List.listExtendWith (.ref S) (.ref it) res)
      (fun fin s' => match fin with | .done f => R (.ok f) s' | .again c' => c'.quiet = true ∧ codeAny (model prog w) A c' R s') (fun e s' => R (.error e) s') s := by
  have W := (Walks.listRev (prog := prog) (w := w) (A := A.in1) hh it l hne items).toS
  have hSf : S ∉ [it, l] := by simp only [List.mem_cons, List.not_mem_nil, or_false, not_or]; exact ⟨hSi, hSl⟩
  have hT : s.TypeIs (.ref it) "list_reverseiterator" := Heap.IsRevIter.typeIs hit
  have h1 : Builtin.List.listSameRef (.ref S) (.ref it) = false := by simp [Builtin.List.listSameRef, hSi]
  unfold Builtin.List.listExtendWith
  refine wpAny_bind (wpAny_typeOf hT ?_)
  rw [if_neg (by rw [h1]; decide)]
  refine wpAny_bind (wpAny_pyIter_revIter hit ?_)
  refine wpAny_bind (wpAny_holding ?_)
  unfold Builtin.List.listLengthHint
  refine wpAny_bind (wpAny_specialOf hT RT.nolen_lri ?_)
  show wpAny _ A.in1 (specialOf (Value.ref it) (Str.ofString "__length_hint__") >>= _) _ _ _
  refine wpAny_bind (wpAny_specialOf hT RT.hint_lri ?_)
  generalize hid : ("list_reverseiterator.__length_hint__" : String) = id0
  wp_delta
  rw [show splitId id0 = some ("list_reverseiterator", "__length_hint__") from by subst hid; decide +kernel]
  subst hid
  refine wpAny_bind (wpAny_isInstance (b := true) hT (by rw [isSubtype_type]; kernel_rfl) ?_)
  refine wpAny_pure ?_
  rw [if_neg (by decide)]
  have e0 : ((items.size : Nat) : Int) - 1 - ((0 : Nat) : Int) = (items.size : Int) - 1 := by omega
  refine wpAny_pure ⟨plainId_quiet F.plain_extend_loop _, codeAny_extend_loopS W hn _ hSf _ items.size 0 _ _ _ rfl (Nat.zero_le _) ⟨Nat.zero_le _, by rw [e0]; exact hit, hl⟩ hS (ItemsOf.nil _) fun s' acc' c' hm hS' hacc => ?_⟩
  rw [Moved.eq_with hm]
  refine hR s'.heap s'.toks acc' c' (fun b o hb hb2 e => hm.heap b o (fun hmem => ?_) e) hS' hacc
  rcases List.mem_cons.mp hmem with e' | hmem
  · exact hb e'
  · exact hb2 (List.mem_singleton.mp hmem)
theorem list_init_rev {R : Result → Shared → Prop} {it l : Addr} {items : Array Value} (hh : A.handled = none) (hit : s.heap.IsRevIter it l ((items.size : Int) - 1)) (hl : s.heap.IsList l items) (hne : l ≠ it) (hn : items.size ≤ sizeLine)
    (S : Addr) (hSi : S ≠ it) (hSl : S ≠ l) (hS : s.heap.get? S = some { cls := .type "list", data := .seq #[] })
    (hR : ∀ h' tk acc' c', (∀ b o, b ≠ S → b ≠ it → s.heap.get? b = some o → h'.get? b = some o) → h'.get? S = some { cls := .type "list", dict := none, data := .seq acc' c', slots := #[] } →
      ItemsOf (fun i v => items[items.size - 1 - i]? = some v) acc' items.size → R (.ok (.ret .none)) { s with heap := h', toks := tk }) :
    wpAny (model prog w) A.in1 (Builtin.«list.__init__» ⟨[.ref S, .ref it], []⟩)
      (fun fin s' => match fin with | .done f => R (.ok f) s' | .again c' => c'.quiet = true ∧ codeAny (model prog w) A c' R s') (fun e s' => R (.error e) s') s := by
  show wpAny _ A.in1 (do let old ← Builtin.List.listItems (.ref S); Builtin.List.listUpdate (.ref S) (fun _ => #[]); letGo old.toList.reverse; Builtin.List.listExtendWith (.ref S) (.ref it) .none) _ _ s
  refine wpAny_bind ?_
  unfold Builtin.List.listItems
  refine wpAny_bind (wpAny_seqItems hS rfl (wpAny_pure ?_))
  show wpAny _ A.in1 (updateSeq S (fun _ => #[]) >>= fun _ => letGo (#[] : Array Value).toList.reverse >>= fun _ => Builtin.List.listExtendWith (.ref S) (.ref it) .none) _ _ s
  refine wpAny_bind (wpAny_updateSeq hS rfl ?_)
  have hS₂ := Heap.get?_update_self (Obj.mapSeq (fun _ => (#[] : Array Value))) hS rfl
  have oth : ∀ b o, b ≠ S → s.heap.get? b = some o → (s.heap.update S (Obj.mapSeq (fun _ => (#[] : Array Value)))).get? b = some o :=
    fun b o hb e => (Heap.get?_update_other _ _ (Ne.symm hb)).trans e
  refine wpAny_bind (wpAny_letGo ?_)
  have hit1 : (s.heap.update S (Obj.mapSeq (fun _ => (#[] : Array Value)))).IsRevIter it l ((items.size : Int) - 1) := hit.at fun o e => oth _ _ (Ne.symm hSi) e
  have hl1 : (s.heap.update S (Obj.mapSeq (fun _ => (#[] : Array Value)))).IsList l items := by
    obtain ⟨o, h1, h2⟩ := hl
    exact ⟨o, oth _ _ (Ne.symm hSl) h1, h2⟩
  refine extend_rev (s := { s with heap := s.heap.update S (Obj.mapSeq (fun _ => (#[] : Array Value))) }) hh hit1 hl1 hne hn S .none _ hSi hSl hS₂ fun h' tk acc' c' hk hS' hacc => ?_
  exact hR h' tk acc' c' (fun b o hb hb2 e => hk b o hb hb2 (oth b o hb e)) hS' hacc
theorem call_list_rev {Q : Value → Shared → Prop} {it l : Addr} {items : Array Value} (hh : A.handled = none) (hit : s.heap.IsRevIter it l ((items.size : Int) - 1)) (hl : s.heap.IsList l items) (hne : l ≠ it) (hn : items.size ≤ sizeLine)
    (hQ : ∀ h' tk acc' c', (∀ b o, b ≠ it → s.heap.get? b = some o → h'.get? b = some o) →
      h'.get? s.heap.objs.size = some { cls := .type "list", dict := none, data := .seq acc' c', slots := #[] } → ItemsOf (fun i v => items[items.size - 1 - i]? = some v) acc' items.size → Q (.ref s.heap.objs.size) { s with heap := h', toks := tk }) :
    wpAny (model prog w) A (call (.type "list") [.ref it]) Q E s := by
  obtain ⟨oi, hoi, _⟩ := id hit
  obtain ⟨ol, hol, _⟩ := id hl
  have hSi : s.heap.objs.size ≠ it := Nat.ne_of_gt (Heap.lt_size hoi)
  have hSl : s.heap.objs.size ≠ l := Nat.ne_of_gt (Heap.lt_size hol)
  refine callType_codes (Q₁ := fun obj s₁ => obj = .ref s.heap.objs.size ∧ s₁ = { s with heap := s.heap.push { cls := .type "list", data := .seq #[] } }) F.called_list (F.typeCall_list_1 _) F.entry_list_init
    (code_list_new _ ⟨rfl, rfl⟩) fun obj s₁ h₁ => ?_
  obtain ⟨rfl, rfl⟩ := h₁
  have hS : (s.heap.push { cls := .type "list", data := .seq #[] }).get? s.heap.objs.size = some { cls := .type "list", data := .seq #[] } := Heap.get?_push_size _ rfl
  have hit1 : (s.heap.push { cls := .type "list", data := .seq #[] }).IsRevIter it l ((items.size : Int) - 1) := hit.at fun o e => Heap.get?_push_of_some _ e
  refine ⟨⟨_, hS, rfl⟩, F.args_list_init_2 _ _, list_init_rev (A := A.in1) (s := { s with heap := s.heap.push { cls := .type "list", data := .seq #[] } }) hh hit1 (hl.push _) hne hn _ hSi hSl hS fun h' tk acc' c' hk hS' hacc => ?_⟩
  exact ⟨rfl, hQ h' tk acc' c' (fun b o hb e => hk b o (Nat.ne_of_lt (Heap.lt_size e)) hb (Heap.get?_push_of_some _ e)) hS' hacc⟩
end
/-- list(reversed(x)), x a list: a new list -/
def tLstRev (K : PySem.W.Frag) (te : TE) : TE := fun σ H Q => te σ H fun v H1 => ∃ (a : Addr) (xs : List V), v = .ref a ∧ SqL K H1 a xs ∧ ∀ q, H1 q = none → Q (.ref q) (upd H1 q (.lst xs.reverse))
section
variable {X : Cx}
theorem pe_lstRev {e : Expr} {te : TE} {p p2 pos pos2 : Pos} (hc : X.calm = true) (hg : Gl X "list") (hm : X.mg "list" = none) (hg2 : Gl X "reversed") (hm2 : X.mg "reversed" = none) (he : PE X e te)
    (hs : starEach [e] X.env = (false, eval e X.env) :: starEach [] X.env)
    (hs2 : starEach [.Call (.Name "reversed" p2) [e] [] pos2] X.env = (false, eval (.Call (.Name "reversed" p2) [e] [] pos2) X.env) :: starEach [] X.env := by rfl) :
    PE X (.Call (.Name "list" p) [.Call (.Name "reversed" p2) [e] [] pos2] [] pos) (tLstRev X.K te) := by
  refine ⟨fun pins s σ H Q I h => ?_⟩
  refine Call_ (ld_blt I hg hm (show bootBuiltins "list" = some (.type "list") from by decide +kernel) (PyProof.Rows.callWith_type1 (args_cons (Call_ (ld_blt I hg2 hm2 PyProof.Rows.boot_reversed (PyProof.Rows.callWith_type1 (args_cons (thn (he.run pins s σ H _ I h) fun u s1 ⟨v, H1, I1, r1, q1⟩ => args_nil ?_) hs) hs rfl))) hs2) hs2 rfl))
  obtain ⟨a, xs, ev, hq, q⟩ := q1
  subst ev
  obtain rfl : u = Value.ref a := r1
  obtain ⟨its, rv, p', hz⟩ := I1.list hq
  refine call_reversed_list p'.isList (args_nil ?_)
  have k0 : ∀ b o, s1.heap.get? b = some o → (s1.heap.push (revObj a ((its.toArray.size : Int) - 1))).get? b = some o := fun b o e => Heap.get?_push_of_some _ e
  have I2 : Inv X pins σ H1 { s1 with heap := s1.heap.push (revObj a ((its.toArray.size : Int) - 1)) } := I1.kept (t' := s1.toks) k0
  obtain ⟨f0, f1, f2, f3, f4, f5⟩ := I1.fpOk (H' := H1) (b := s1.heap.objs.size) (Nat.le_refl _) (I1.hok.fresh (Nat.le_refl _))
  have hl := p'.isList
  obtain ⟨ol, hol, _⟩ := id hl
  have hne : a ≠ s1.heap.objs.size := Nat.ne_of_lt (Heap.lt_size hol)
  have hn : its.toArray.size ≤ sizeLine := by rw [List.size_toArray, ← rv.length]; exact hz
  refine call_list_rev (s := { s1 with heap := s1.heap.push (revObj a ((its.toArray.size : Int) - 1)) }) (I1.ok.hd hc) ⟨_, Heap.get?_push_size _ rfl, rfl, rfl⟩ (hl.push _) hne hn fun h' tk acc c' hk hS' hi => ?_
  have hsz : (s1.heap.push (revObj a ((its.toArray.size : Int) - 1))).objs.size = s1.heap.objs.size + 1 := Heap.size_push ..
  have hS2 : h'.get? (s1.heap.objs.size + 1) = some { cls := .type "list", dict := none, data := .seq acc c', slots := #[] } := by rw [← hsz]; exact hS'
  have g1 : Value.ref (s1.heap.push (revObj a ((its.toArray.size : Int) - 1))).objs.size = .ref (s1.heap.objs.size + 1) := by rw [hsz]
  show EP X pins σ Q (Value.ref (s1.heap.push (revObj a ((its.toArray.size : Int) - 1))).objs.size) _
  rw [g1]
  refine ⟨.ref (s1.heap.objs.size + 1), upd H1 (s1.heap.objs.size + 1) (.lst xs.reverse), I1.laid (t' := tk) (fun b o e => hk b o (Nat.ne_of_lt (Heap.lt_size e)) (Heap.get?_push_of_some _ e)) (Nat.le_succ _) (show ObjOk X.prog X.w _ h' _ (.lst xs.reverse) from ⟨by rw [List.length_reverse]; exact hz, acc.toList, c', RT.vals_rev rv hi, ?_⟩), rfl, q _ (I1.hok.fresh (Nat.le_succ _))⟩
  rw [Array.toArray_toList]
  exact hS2
end
end ZRev
set_option maxHeartbeats 1000000
namespace Z
open PySem PySem.Spec PyProof.Rows L2
open PySem.Sem (wp)
def SeqK (t : Bool) (h : Heap) (l : Addr) (xs : Array Value) : Prop := cond t (h.IsTuple l xs) (h.IsList l xs)
def ItrK (t : Bool) (h : Heap) (i l : Addr) (k : Nat) : Prop := cond t (h.IsTupleIter i l k) (h.IsListIter i l k)
def nmK (t : Bool) : String := cond t "tuple_iterator" "list_iterator"
theorem SeqK.up {t : Bool} {h h' : Heap} {l : Addr} {xs : Array Value} (s : SeqK t h l xs) (k : ∀ o, h.get? l = some o → h'.get? l = some o) : SeqK t h' l xs := by
  cases t with
  | true =>
    obtain ⟨o, e, r⟩ := (show h.IsTuple l xs from s)
    exact (show h'.IsTuple l xs from ⟨o, k o e, r⟩)
  | false => exact Heap.IsList.at (show h.IsList l xs from s) k
theorem ItrK.up {t : Bool} {h h' : Heap} {i l : Addr} {n : Nat} (s : ItrK t h i l n) (k : ∀ o, h.get? i = some o → h'.get? i = some o) : ItrK t h' i l n := by
  cases t with
  | true => exact Heap.IsTupleIter.at (show h.IsTupleIter i l n from s) k
  | false => exact Heap.IsListIter.at (show h.IsListIter i l n from s) k
theorem ItrK.lt {t : Bool} {h : Heap} {i l : Addr} {n : Nat} (s : ItrK t h i l n) : i < h.objs.size := by
  cases t with
  | true => obtain ⟨_, e, _⟩ := (show h.IsTupleIter i l n from s); exact Heap.lt_size e
  | false => obtain ⟨_, e, _⟩ := (show h.IsListIter i l n from s); exact Heap.lt_size e
theorem ItrK.ob {t : Bool} {h : Heap} {i l : Addr} {n : Nat} (s : ItrK t h i l n) : ∃ o, h.get? i = some o ∧ ∀ v, o.data ≠ .cell v := by
  cases t with
  | true => obtain ⟨o, e, _, d⟩ := (show h.IsTupleIter i l n from s); exact ⟨o, e, fun v q => by rw [d] at q; cases q⟩
  | false => obtain ⟨o, e, _, d⟩ := (show h.IsListIter i l n from s); exact ⟨o, e, fun v q => by rw [d] at q; cases q⟩
section
variable {prog : Program} {w : World} {A : Around} {E : Value → Shared → Prop} {s : Shared}
theorem nxK_item {t : Bool} {it l : Addr} {i : Nat} {items : Array Value} {x : Value} {Q : Value → Shared → Prop} (hit : ItrK t s.heap it l i) (hl : SeqK t s.heap l items) (hx : items[i]? = some x)
    (hQ : ∀ h', ItrK t h' it l (i + 1) → Heap.SameBut it s.heap h' → Q x { s with heap := h' }) : wpAny (model prog w) A (Builtin.SmallTypes.nextOf (.ref it)) Q E s := by
  cases t with
  | true => exact RZ.nextOf_tuple_item hit hl hx hQ
  | false => exact wpAny_nextOf_list_item hit hl hx hQ
theorem nxK_end {t : Bool} {it l : Addr} {i : Nat} {items : Array Value} {Q : Value → Shared → Prop} (hh : A.handled = none) (hit : ItrK t s.heap it l i) (hl : SeqK t s.heap l items) (hx : items[i]? = none)
    (hE : ∀ h' e, Heap.ExtBut it s.heap h' → (∃ o, h'.get? e = some o ∧ o.cls = .type "StopIteration") → E (.ref e) { s with heap := h' }) : wpAny (model prog w) A (Builtin.SmallTypes.nextOf (.ref it)) Q E s := by
  cases t with
  | true => exact RZ.nextOf_tuple_end hh hit hl hx hE
  | false => exact wpAny_nextOf_list_end hh hit hl hx hE
/-- what a zip stands on: itself, its pairs, its two iterators, the two rows -/
structure ZpK (t1 t2 : Bool) (h : Heap) (z TI TO i1 i2 l1 l2 : Addr) (k1 k2 : Nat) (xs ys : Array Value) (a b : Value) : Prop where
  D : ZipApart z TI TO i1 i2 l1 l2
  z : IsZip h z TI TO .none
  ti : IsPair h TI (.ref i1) (.ref i2)
  to : IsPair h TO a b
  j1 : ItrK t1 h i1 l1 k1
  j2 : ItrK t2 h i2 l2 k2
  r1 : SeqK t1 h l1 xs
  r2 : SeqK t2 h l2 ys
/-- all but the zip, the pair that is handed out, and the iterators stays -/
def Stay (z TO i1 i2 : Addr) (h h' : Heap) : Prop := ∀ c o, c ≠ z → c ≠ TO → c ≠ i1 → c ≠ i2 → h.get? c = some o → h'.get? c = some o
theorem sbk {b : Addr} {h h' : Heap} (s : Heap.SameBut b h h') {c : Addr} (n : c ≠ b) : ∀ o, h.get? c = some o → h'.get? c = some o := fun o e => s.extBut c o n e
theorem zipK_item {t1 t2 : Bool} {z TI TO i1 i2 l1 l2 : Addr} {k1 k2 : Nat} {xs ys : Array Value} {x y a b : Value} {Q : Value → Shared → Prop} (Z : ZpK t1 t2 s.heap z TI TO i1 i2 l1 l2 k1 k2 xs ys a b) (hx : xs[k1]? = some x) (hy : ys[k2]? = some y)
    (hQ : ∀ h', IsZip h' z TI TO (rawInt s.heap.objs.size) → IsPair h' TO x y → ItrK t1 h' i1 l1 (k1 + 1) → ItrK t2 h' i2 l2 (k2 + 1) → IsPair h' s.heap.objs.size x y → h'.objs.size = s.heap.objs.size + 1 → Stay z TO i1 i2 s.heap h' → Q (.ref s.heap.objs.size) { s with heap := h' }) :
    wpAny (model prog w) A (Builtin.«zip.__next__» ⟨[.ref z], []⟩) (fun fin s' => ∃ v, fin = .done (.ret v) ∧ Q v s') E s := by
  obtain ⟨D, hz, hTI, hTO, h1, h2, hl1, hl2⟩ := Z
  show wpAny _ _ (field (.ref z) 2 >>= _) _ _ _; refine wpAny_bind (wpAny_field hz rfl (x := .bool false) rfl ?_)
  show wpAny _ _ (field (.ref z) 3 >>= _) _ _ _; refine wpAny_bind (wpAny_field hz rfl (x := .ref TI) rfl (wpAny_bind (wpAny_seqItems hTI rfl ?_)))
  show wpAny _ _ (Builtin.SmallTypes.ownedTupleIsFree (.ref z) >>= _) _ _ _; refine wpAny_bind ?_; unfold Builtin.SmallTypes.ownedTupleIsFree
  refine wpAny_bind (wpAny_field hz rfl (x := .none) rfl (wpAny_pure ?_)); simp only [if_true]
  refine wpAny_bind (wpAny_rule (wpAny_bind (wpAny_field hz rfl (x := .ref TO) rfl ?_)))
  refine wpAny_bind (wpAny_setField_rec hz (by simp) fun g1 hz1 c1 => ?_); replace hz1 : IsZip g1 z TI TO .ellipsis := hz1
  refine wpAny_bind ?_; simp only [List.zipIdx_cons, List.zipIdx_nil, List.forIn_cons, List.forIn_nil]
  refine wpAny_bind (wpAny_bind (wpAny_onRaise ?_)); show wpAny _ _ (Builtin.SmallTypes.nextOf (.ref i1) >>= _) _ _ _
  refine wpAny_bind (nxK_item (h1.up (sbk c1 D.i1z)) (hl1.up (sbk c1 D.l1z)) hx fun g2 j1 c2 => wpAny_pure ?_)
  have o2 : IsPair g2 TO a b := sbk c2 D.TOi1 _ (sbk c1 D.TOz _ hTO)
  refine wpAny_bind (wpAny_seqItems o2 rfl (wpAny_bind (wpAny_updateSeq_pair o2 fun g3 o3 c3 => ?_))); replace o3 : IsPair g3 TO x b := o3
  refine wpAny_bind (wpAny_letGo (wpAny_pure ?_)); refine wpAny_bind (wpAny_bind (wpAny_onRaise ?_)); show wpAny _ _ (Builtin.SmallTypes.nextOf (.ref i2) >>= _) _ _ _
  refine wpAny_bind (nxK_item (h2.up fun o e => sbk c3 D.TOi2.symm _ (sbk c2 D.i12.symm _ (sbk c1 D.i2z _ e))) (hl2.up fun o e => sbk c3 D.l2TO _ (sbk c2 D.l2i1 _ (sbk c1 D.l2z _ e))) hy fun g4 j2 c4 => wpAny_pure ?_)
  have o4 : IsPair g4 TO x b := sbk c4 D.TOi2 _ o3
  refine wpAny_bind (wpAny_seqItems o4 rfl (wpAny_bind (wpAny_updateSeq_pair o4 fun g5 o5 c5 => ?_))); replace o5 : IsPair g5 TO x y := o5
  refine wpAny_bind (wpAny_letGo (wpAny_pure (wpAny_pure (wpAny_bind (wpAny_seqItems o5 rfl (wpAny_bind (wpAny_newTuple ?_)))))))
  have n5 : g5.objs.size = s.heap.objs.size := by rw [c5.1, c4.1, c3.1, c2.1, c1.1]
  have z5 : IsZip g5 z TI TO .ellipsis := sbk c5 D.TOz.symm _ (sbk c4 D.i2z.symm _ (sbk c3 D.TOz.symm _ (sbk c2 D.i1z.symm _ hz1)))
  have k5 : Stay z TO i1 i2 s.heap g5 := fun c o q1 q2 q3 q4 e => sbk c5 q2 _ (sbk c4 q4 _ (sbk c3 q2 _ (sbk c2 q3 _ (sbk c1 q1 _ e))))
  have a1 : ItrK t1 g5 i1 l1 (k1 + 1) := j1.up fun o e => sbk c5 D.TOi1.symm _ (sbk c4 D.i12 _ (sbk c3 D.TOi1.symm _ e))
  have a2 : ItrK t2 g5 i2 l2 (k2 + 1) := j2.up fun o e => sbk c5 D.TOi2.symm _ e
  have lz : z < g5.objs.size := Heap.lt_size z5
  show wpAny _ _ (Builtin.SmallTypes.ownedTupleHandOut (.ref z) (.ref g5.objs.size) >>= _) _ _ _; refine wpAny_bind ?_; unfold Builtin.SmallTypes.ownedTupleHandOut
  have z6 : IsZip (g5.push { cls := .type "tuple", data := .seq #[x, y] }) z TI TO .ellipsis := Heap.get?_push_of_some _ z5
  refine wpAny_bind (wpAny_setField_rec z6 (by simp) fun g7 z7 c7 => ?_); replace z7 : IsZip g7 z TI TO (rawInt g5.objs.size) := z7
  refine wpAny_setField_rec z7 (by simp) fun g8 z8 c8 => ?_; replace z8 : IsZip g8 z TI TO (rawInt g5.objs.size) := z8
  have up : ∀ c o, c ≠ z → g5.get? c = some o → g8.get? c = some o := fun c o q e => sbk c8 q _ (sbk c7 q _ (Heap.get?_push_of_some _ e))
  have t8 : IsPair g8 g5.objs.size x y := sbk c8 (Nat.ne_of_gt lz) _ (sbk c7 (Nat.ne_of_gt lz) _ (Heap.get?_push_size _ rfl))
  have n8 : g8.objs.size = g5.objs.size + 1 := by rw [c8.1, c7.1, Heap.size_push]
  rw [n5] at z8 t8 n8; refine wpAny_pure ⟨_, rfl, ?_⟩; show Q (.ref g5.objs.size) _; rw [n5]
  exact hQ g8 z8 (up _ _ D.TOz o5) (a1.up fun o e => up _ o D.i1z e) (a2.up fun o e => up _ o D.i2z e) t8 n8 fun c o q1 q2 q3 q4 e => up c o q1 (k5 c o q1 q2 q3 q4 e)
theorem zipK_end {t1 t2 : Bool} {z TI TO i1 i2 l1 l2 : Addr} {k1 k2 : Nat} {xs ys : Array Value} {a b : Value} {Q : Fin → Shared → Prop} (hh : A.handled = none) (Z : ZpK t1 t2 s.heap z TI TO i1 i2 l1 l2 k1 k2 xs ys a b) (hend : xs[k1]? = none ∨ ys[k2]? = none)
    (hE : ∀ h' e, Stay z TO i1 i2 s.heap h' → (∃ o, h'.get? e = some o ∧ o.cls = .type "StopIteration") → E (.ref e) { s with heap := h' }) : wpAny (model prog w) A (Builtin.«zip.__next__» ⟨[.ref z], []⟩) Q E s := by
  obtain ⟨D, hz, hTI, hTO, h1, h2, hl1, hl2⟩ := Z
  show wpAny _ _ (field (.ref z) 2 >>= _) _ _ _; refine wpAny_bind (wpAny_field hz rfl (x := .bool false) rfl ?_)
  show wpAny _ _ (field (.ref z) 3 >>= _) _ _ _; refine wpAny_bind (wpAny_field hz rfl (x := .ref TI) rfl (wpAny_bind (wpAny_seqItems hTI rfl ?_)))
  show wpAny _ _ (Builtin.SmallTypes.ownedTupleIsFree (.ref z) >>= _) _ _ _; refine wpAny_bind ?_; unfold Builtin.SmallTypes.ownedTupleIsFree
  refine wpAny_bind (wpAny_field hz rfl (x := .none) rfl (wpAny_pure ?_)); simp only [if_true]
  refine wpAny_bind (wpAny_rule (wpAny_bind (wpAny_field hz rfl (x := .ref TO) rfl ?_)))
  refine wpAny_bind (wpAny_setField_rec hz (by simp) fun g1 hz1 c1 => ?_); replace hz1 : IsZip g1 z TI TO .ellipsis := hz1
  refine wpAny_bind ?_; simp only [List.zipIdx_cons, List.zipIdx_nil, List.forIn_cons, List.forIn_nil]
  refine wpAny_bind (wpAny_bind (wpAny_onRaise ?_)); show wpAny _ _ (Builtin.SmallTypes.nextOf (.ref i1) >>= _) _ _ _
  have fin : ∀ (g : Heap) (e : Addr), IsZip g z TI TO .ellipsis → (∀ c o, c ≠ z → c ≠ TO → c ≠ i1 → c ≠ i2 → s.heap.get? c = some o → g.get? c = some o) → (∃ o, g.get? e = some o ∧ o.cls = .type "StopIteration") → ∀ g', Heap.SameBut z g g' → E (.ref e) { s with heap := g' } := fun g e q1 q2 ⟨o, q3, q4⟩ g' q5 =>
    hE g' e (fun c o n1 n2 n3 n4 w => sbk q5 n1 _ (q2 c o n1 n2 n3 n4 w)) ⟨o, sbk q5 (fun w => by subst w; rw [q1] at q3; cases q3; simp at q4) _ q3, q4⟩
  cases hx : xs[k1]? with
  | none =>
    refine wpAny_bind (nxK_end hh (h1.up (sbk c1 D.i1z)) (hl1.up (sbk c1 D.l1z)) hx fun g2 e c2 he => ?_)
    have z2 : IsZip g2 z TI TO .ellipsis := c2 _ _ D.i1z.symm hz1
    exact wpAny_setField_rec z2 (by simp) fun g3 _ c3 => fin g2 e z2 (fun c o n1 _ n3 _ w => c2 _ _ n3 (sbk c1 n1 _ w)) he g3 c3
  | some x =>
    have hy : ys[k2]? = none := by exact hend.resolve_left fun q => by rw [hx] at q; cases q
    refine wpAny_bind (nxK_item (h1.up (sbk c1 D.i1z)) (hl1.up (sbk c1 D.l1z)) hx fun g2 j1 c2 => wpAny_pure ?_)
    have o2 : IsPair g2 TO a b := sbk c2 D.TOi1 _ (sbk c1 D.TOz _ hTO)
    refine wpAny_bind (wpAny_seqItems o2 rfl (wpAny_bind (wpAny_updateSeq_pair o2 fun g3 o3 c3 => ?_)))
    refine wpAny_bind (wpAny_letGo (wpAny_pure ?_)); refine wpAny_bind (wpAny_bind (wpAny_onRaise ?_)); show wpAny _ _ (Builtin.SmallTypes.nextOf (.ref i2) >>= _) _ _ _
    refine wpAny_bind (nxK_end hh (h2.up fun o e => sbk c3 D.TOi2.symm _ (sbk c2 D.i12.symm _ (sbk c1 D.i2z _ e))) (hl2.up fun o e => sbk c3 D.l2TO _ (sbk c2 D.l2i1 _ (sbk c1 D.l2z _ e))) hy fun g4 e c4 he => ?_)
    have z4 : IsZip g4 z TI TO .ellipsis := c4 _ _ D.i2z.symm (sbk c3 D.TOz.symm _ (sbk c2 D.i1z.symm _ hz1))
    exact wpAny_setField_rec z4 (by simp) fun g5 _ c5 => fin g4 e z4 (fun c o n1 n2 n3 n4 w => c4 _ _ n4 (sbk c3 n2 _ (sbk c2 n3 _ (sbk c1 n1 _ w)))) he g5 c5
theorem pnK_item {t1 t2 : Bool} {z TI TO i1 i2 l1 l2 : Addr} {k1 k2 : Nat} {xs ys : Array Value} {x y a b : Value} {Q : Option Value → Shared → Prop} (Z : ZpK t1 t2 s.heap z TI TO i1 i2 l1 l2 k1 k2 xs ys a b) (hx : xs[k1]? = some x) (hy : ys[k2]? = some y)
    (hQ : ∀ h', IsZip h' z TI TO (rawInt s.heap.objs.size) → IsPair h' TO x y → ItrK t1 h' i1 l1 (k1 + 1) → ItrK t2 h' i2 l2 (k2 + 1) → IsPair h' s.heap.objs.size x y → h'.objs.size = s.heap.objs.size + 1 → Stay z TO i1 i2 s.heap h' → Q (some (.ref s.heap.objs.size)) { s with heap := h' }) :
    wpAny (model prog w) A (pyNext (.ref z)) Q E s := by
  have hT : s.TypeIs (.ref z) "zip" := ⟨_, Z.z, rfl⟩
  unfold pyNext
  exact wpAny_bind (wpAny_attempt (wpAny_callSpecial?_slot (name := Str.ofString "__next__") hT F.slot_zip_next (wpAny_call_entry F.slot_zip_next hT F.entry_zip_next (zipK_item Z hx hy fun h' a1 a2 a3 a4 a5 a6 a7 => wpAny_pure (hQ h' a1 a2 a3 a4 a5 a6 a7)) (F.args_zip_next_1 _))))
theorem pnK_end {t1 t2 : Bool} {z TI TO i1 i2 l1 l2 : Addr} {k1 k2 : Nat} {xs ys : Array Value} {a b : Value} {Q : Option Value → Shared → Prop} (hh : A.handled = none) (Z : ZpK t1 t2 s.heap z TI TO i1 i2 l1 l2 k1 k2 xs ys a b) (hend : xs[k1]? = none ∨ ys[k2]? = none)
    (hQ : ∀ h', Stay z TO i1 i2 s.heap h' → Q none { s with heap := h' }) : wpAny (model prog w) A (pyNext (.ref z)) Q E s := by
  have hT : s.TypeIs (.ref z) "zip" := ⟨_, Z.z, rfl⟩
  unfold pyNext
  refine wpAny_bind (wpAny_attempt (wpAny_callSpecial?_slot (name := Str.ofString "__next__") hT F.slot_zip_next (wpAny_call_entry F.slot_zip_next hT F.entry_zip_next (zipK_end hh Z hend fun h' e hk ⟨o, ho, hc⟩ => ?_) (F.args_zip_next_1 _))))
  exact wpAny_bind (wpAny_isInstance (T := "StopIteration") (b := true) ⟨o, ho, hc⟩ isSubtype_stop (wpAny_pure (hQ _ hk)))
end
abbrev zk1 (t1 : Bool) (h : Heap) (l1 : Addr) : Heap := h.push { cls := .type (nmK t1), data := .fields #[.ref l1, .int 0 0] }
abbrev zk2 (t1 t2 : Bool) (h : Heap) (l1 l2 : Addr) : Heap := (zk1 t1 h l1).push { cls := .type (nmK t2), data := .fields #[.ref l2, .int 0 0] }
abbrev zk3 (t1 t2 : Bool) (h : Heap) (l1 l2 : Addr) : Heap := (zk2 t1 t2 h l1 l2).push { cls := .type "tuple", data := .seq #[.ref h.objs.size, .ref (zk1 t1 h l1).objs.size] }
abbrev zk4 (t1 t2 : Bool) (h : Heap) (l1 l2 : Addr) : Heap := (zk3 t1 t2 h l1 l2).push { cls := .type "tuple", data := .seq #[.none, .none] }
abbrev zk5 (t1 t2 : Bool) (h : Heap) (l1 l2 : Addr) : Heap := (zk4 t1 t2 h l1 l2).push { cls := .type "zip", data := .fields #[.none, .bool false, .bool false, .ref (zk2 t1 t2 h l1 l2).objs.size, .ref (zk3 t1 t2 h l1 l2).objs.size] }
theorem meets_zipTL (l1 l2 : Addr) (xs ys : Array Value) :
    Meets (Builtin.«zip.__new__» ⟨[.type "zip", .ref l1, .ref l2], []⟩) (fun _ R s => s.heap.IsTuple l1 xs ∧ s.heap.IsList l2 ys ∧ R (.ok (.ret (.ref (zk4 true false s.heap l1 l2).objs.size))) { s with heap := zk5 true false s.heap l1 l2 }) :=
  .of_wp fun prog w A R s h => by
    obtain ⟨hp, g, d, tk, os⟩ := s
    obtain ⟨hl1, hl2, h⟩ := h
    have hsub := sub_zip
    have q1 : Heap.IsTuple (Shared.heap ⟨hp, g, d, tk, os⟩) l1 xs := hl1
    have q2 : Heap.IsList (Shared.heap ⟨hp.push { cls := .type "tuple_iterator", data := .fields #[.ref l1, .int 0 0] }, g, d, tk, os⟩) l2 ys := Heap.IsList.push hl2 _
    wp_walk using wpAny_pyIter_tuple q1, wpAny_pyIter_list q2
    exact ⟨_, rfl, h⟩
section
variable {prog : Program} {w : World} {A : Around} {E : Value → Shared → Prop} {s : Shared}
theorem call_zipTL {l1 l2 : Addr} {xs ys : Array Value} {Q : Value → Shared → Prop} (hl1 : s.heap.IsTuple l1 xs) (hl2 : s.heap.IsList l2 ys)
    (h : ∀ h', IsZip h' (s.heap.objs.size + 4) (s.heap.objs.size + 2) (s.heap.objs.size + 3) .none → IsPair h' (s.heap.objs.size + 2) (.ref s.heap.objs.size) (.ref (s.heap.objs.size + 1)) → IsPair h' (s.heap.objs.size + 3) .none .none →
      ItrK true h' s.heap.objs.size l1 0 → ItrK false h' (s.heap.objs.size + 1) l2 0 → (∀ c o, s.heap.get? c = some o → h'.get? c = some o) → Q (.ref (s.heap.objs.size + 4)) { s with heap := h' }) :
    wpAny (model prog w) A (call (.type "zip") [.ref l1, .ref l2]) Q E s := by
  refine callType_new F.called_zip (by decide) (F.typeCall_zip_2 _ _) (F.newCall_zip_2 _ _) (fun obj => F.args_object_init_3 obj _ _) F.entry_zip_new (meets_zipTL l1 l2 xs ys) ⟨hl1, hl2, ?_⟩
  have n1 : (zk1 true s.heap l1).objs.size = s.heap.objs.size + 1 := Heap.size_push ..
  have n2 : (zk2 true false s.heap l1 l2).objs.size = s.heap.objs.size + 2 := by rw [Heap.size_push, n1]
  have n3 : (zk3 true false s.heap l1 l2).objs.size = s.heap.objs.size + 3 := by rw [Heap.size_push, n2]
  have n4 : (zk4 true false s.heap l1 l2).objs.size = s.heap.objs.size + 4 := by rw [Heap.size_push, n3]
  have up : ∀ (g : Heap) (o o2 : Obj) (c : Addr), g.get? c = some o → (g.push o2).get? c = some o := fun g o o2 c e => Heap.get?_push_of_some _ e
  have m5 : (zk5 true false s.heap l1 l2).get? (zk4 true false s.heap l1 l2).objs.size = some _ := Heap.get?_push_size _ rfl
  have m4 : (zk5 true false s.heap l1 l2).get? (zk3 true false s.heap l1 l2).objs.size = some _ := up _ _ _ _ (Heap.get?_push_size _ rfl)
  have m3 : (zk5 true false s.heap l1 l2).get? (zk2 true false s.heap l1 l2).objs.size = some _ := up _ _ _ _ (up _ _ _ _ (Heap.get?_push_size _ rfl))
  have m2 : (zk5 true false s.heap l1 l2).get? (zk1 true s.heap l1).objs.size = some _ := up _ _ _ _ (up _ _ _ _ (up _ _ _ _ (Heap.get?_push_size _ rfl)))
  have m1 : (zk5 true false s.heap l1 l2).get? s.heap.objs.size = some _ := up _ _ _ _ (up _ _ _ _ (up _ _ _ _ (up _ _ _ _ (Heap.get?_push_size _ rfl))))
  show _ ∧ _
  rw [n2, n3, n4] at m5; rw [n1, n2] at m3; rw [n3] at m4; rw [n1] at m2; rw [n4]
  exact ⟨⟨_, m5, rfl⟩, h _ m5 m3 m4 (show Heap.IsTupleIter _ _ _ _ from ⟨_, m1, rfl, rfl⟩) (show Heap.IsListIter _ _ _ _ from ⟨_, m2, rfl, rfl⟩) fun c o e => up _ _ _ _ (up _ _ _ _ (up _ _ _ _ (up _ _ _ _ (up _ _ _ _ e))))⟩
end
/-- a tuple at a, a list at b, as they stand at each turn, the items in new pairs -/
def ItzM (K : PySem.W.Frag) (a b : Addr) : It :=
  ⟨fun i H => ∃ (xs ys : List V) (x y : V), SqT K H a xs ∧ SqL K H b ys ∧ xs[i]? = some x ∧ ys[i]? = some y,
    fun i H v H' => ∃ T x y, v = .ref T ∧ H T = none ∧ H' = upd H T (.tup [x, y]) ∧ (∀ xs, SqT K H a xs → xs[i]? = some x) ∧ ∀ ys, SqL K H b ys → ys[i]? = some y,
    fun i H => ∃ xs ys : List V, SqT K H a xs ∧ SqL K H b ys ∧ (xs.length ≤ i ∨ ys.length ≤ i)⟩
theorem in5 {c z TI TO i1 i2 : Addr} (h : c ∈ [z, TI, TO, i1, i2]) : c = z ∨ c = TI ∨ c = TO ∨ c = i1 ∨ c = i2 := by simpa using h
theorem turn_zipM {P : Program} {w : World} {K : PySem.W.Frag} {elts : List Expr} {kk : Nat} {tpos : Pos} {a b z TI TO i1 i2 : Addr} (D : ZipApart z TI TO i1 i2 a b) :
    Turn P w K (.Tuple elts kk tpos) (ItzM K a b) [z, TI, TO, i1, i2] z (fun i h => IsZip h z TI TO .none ∧ IsPair h TI (.ref i1) (.ref i2) ∧ (∃ x y, IsPair h TO x y) ∧ ItrK true h i1 a i ∧ ItrK false h i2 b i) where
  mem := by simp
  obj := fun i h st c hc => by
    obtain ⟨hz, hTI, ⟨x, y, hTO⟩, j1, j2⟩ := st
    rcases in5 hc with q | q | q | q | q <;> subst q
    · exact ⟨_, hz, fun v q => nomatch q⟩
    · exact ⟨_, hTI, fun v q => nomatch q⟩
    · exact ⟨_, hTO, fun v q => nomatch q⟩
    · exact j1.ob
    · exact j2.ob
  keep := fun i h h' st k => by
    obtain ⟨hz, hTI, ⟨x, y, hTO⟩, j1, j2⟩ := st
    exact ⟨k z (by simp) _ hz, k TI (by simp) _ hTI, ⟨x, y, k TO (by simp) _ hTO⟩, j1.up (k i1 (by simp)), j2.up (k i2 (by simp))⟩
  item := by
    intro X hP hw hK hc i pins s σ H E I hf st hg
    subst hP hw hK
    obtain ⟨hz, hTI, ⟨x0, y0, hTO⟩, j1, j2⟩ := st
    obtain ⟨xs, ys, x, y, hqx, hqy, hx, hy⟩ := hg
    obtain ⟨its, rv, p, _⟩ := I.tuple hqx
    obtain ⟨its2, rv2, p2, _⟩ := I.list hqy
    obtain ⟨u, hu, ru⟩ := rv.get hx
    obtain ⟨u2, hu2, ru2⟩ := rv2.get hy
    have lz : z < s.heap.objs.size := Heap.lt_size hz
    have ZZ : ZpK true false s.heap z TI TO i1 i2 a b i i its.toArray its2.toArray x0 y0 := ⟨D, hz, hTI, hTO, j1, j2, p, p2.isList⟩
    refine pnK_item ZZ (x := u) (y := u2) (by simpa using hu) (by simpa using hu2) fun h' z' TO' j1' j2' hT hsz hk => ?_
    refine ⟨_, rfl, wpAny_letOwnedTupleGo_zip (s := { s with heap := h' }) z' fun h'' z'' sb => ?_⟩
    have hT2 : h''.get? s.heap.objs.size = some { cls := .type "tuple", data := .seq #[u, u2] } := (sb.2 _ (Nat.ne_of_gt lz)).trans hT
    have nw : ObjOk X.prog X.w (upd H s.heap.objs.size (.tup [x, y])) h'' s.heap.objs.size (.tup [x, y]) := ⟨by show 2 ≤ sizeLine; decide, [u, u2], .cons ru (.cons ru2 .nil), ⟨_, hT2, rfl, _, rfl⟩⟩
    have out : ∀ c o, c ∉ [z, TI, TO, i1, i2] → s.heap.get? c = some o → h''.get? c = some o := fun c o hb q => (sb.2 c fun w => hb (by simp [w])).trans (hk c o (fun w => hb (by simp [w])) (fun w => hb (by simp [w])) (fun w => hb (by simp [w])) (fun w => hb (by simp [w])) q)
    have I1 : Inv X pins σ (upd H s.heap.objs.size (.tup [x, y])) { s with heap := h'' } := I.turnedNew (t' := s.toks) (ch := [z, TI, TO, i1, i2]) out hf (Nat.le_refl _) nw
    refine ⟨.ref s.heap.objs.size, _, I1, rfl, ⟨_, x, y, rfl, I.hok.fresh (Nat.le_refl _), rfl, fun l hl => by rw [I.tuple_inj hl hqx]; exact hx, fun l hl => by rw [I.list_inj hl hqy]; exact hy⟩,
      ⟨z'', (sb.2 _ D.TIz).trans (hk _ _ D.TIz D.TITO D.TIi1 D.TIi2 hTI), ⟨u, u2, (sb.2 _ D.TOz).trans TO'⟩, j1'.up fun o q => (sb.2 _ D.i1z).trans q, j2'.up fun o q => (sb.2 _ D.i2z).trans q⟩, fun c hcm => ?_⟩
    have hlt : c < s.heap.objs.size := by
      rcases in5 hcm with q | q | q | q | q <;> subst q
      · exact lz
      · exact Heap.lt_size hTI
      · exact Heap.lt_size hTO
      · exact j1.lt
      · exact j2.lt
    rw [upd_ne (Nat.ne_of_lt hlt)]
    exact (hf c hcm).1
  done := by
    intro X hP hw hK hc i pins s σ H E I hf st hg
    subst hP hw hK
    obtain ⟨hz, hTI, ⟨x0, y0, hTO⟩, j1, j2⟩ := st
    obtain ⟨xs, ys, hqx, hqy, hend⟩ := hg
    obtain ⟨its, rv, p, _⟩ := I.tuple hqx
    obtain ⟨its2, rv2, p2, _⟩ := I.list hqy
    have l1 := rv.length
    have l2 := rv2.length
    have he : its.toArray[i]? = none ∨ its2.toArray[i]? = none := hend.imp (fun q => by simp; omega) (fun q => by simp; omega)
    have ZZ : ZpK true false s.heap z TI TO i1 i2 a b i i its.toArray its2.toArray x0 y0 := ⟨D, hz, hTI, hTO, j1, j2, p, p2.isList⟩
    exact pnK_end (I.ok.hd hc) ZZ he fun h' hk => ⟨rfl, I.turnedL (t' := s.toks) (ch := [z, TI, TO, i1, i2]) (fun c o hb q => hk c o (fun w => hb (by simp [w])) (fun w => hb (by simp [w])) (fun w => hb (by simp [w])) (fun w => hb (by simp [w])) q) hf⟩
  self := fun A i s Q E st h => wpAny_pyIter_zip st.1 h
/-- zip of two tuples, or of a tuple and a list -/
def iZipM (K : PySem.W.Frag) (ta : TA) : TI := fun σ H R => ta σ H fun vs H1 => ∃ a b xs ys, vs = [.ref a, .ref b] ∧ SqT K H1 a xs ∧ ((SqT K H1 b ys ∧ R (RZ.ItzT K a b) H1) ∨ (SqL K H1 b ys ∧ R (ItzM K a b) H1))
theorem pi_zipM {X : Cx} {e e2 : Expr} {ta : TA} {p pos tpos : Pos} {elts : List Expr} {kk : Nat} (hg : Gl X "zip") (hm : X.mg "zip" = none) (ha : PA X [e, e2] ta)
    (hs : starEach [e, e2] X.env = (false, eval e X.env) :: starEach [e2] X.env := by rfl) (hpl : (backTo pos (starEach [e2] X.env)).any (·.1) = false := by rfl) :
    PI X (.Tuple elts kk tpos) (.Call (.Name "zip" p) [e, e2] [] pos) (iZipM X.K ta) := by
  refine ⟨fun pins s σ H R I h => Call_ (ld_blt I hg hm PyProof.Rows.boot_zip (PyProof.Rows.callWith_type1 (thn (ha.run pos pins s σ H _ I h) fun us s1 ⟨vs, H1, I1, r1, q1⟩ => ?_) hs hpl))⟩
  obtain ⟨a, b, xs, ys, ex, hqx, q1⟩ := q1
  subst ex
  obtain ⟨rfl⟩ : us = [.ref a, .ref b] := by
    cases r1 with
    | cons r rr => cases rr with
      | cons r' rr => cases rr; cases r; cases r'; rfl
  have fresh5 : ∀ c, c ∈ [s1.heap.objs.size + 4, s1.heap.objs.size + 2, s1.heap.objs.size + 3, s1.heap.objs.size, s1.heap.objs.size + 1] → FpOk X pins H1 c := fun c hcm => by
    have hle : s1.heap.objs.size ≤ c := by rcases in5 hcm with q | q | q | q | q <;> subst q <;> omega
    exact I1.fpOk hle (I1.hok.fresh hle)
  obtain ⟨its, rv, p1, _⟩ := I1.tuple hqx
  obtain ⟨o1, ho1, _⟩ := id p1
  rcases q1 with ⟨hqy, q⟩ | ⟨hqy, q⟩
  · obtain ⟨its2, rv2, p2, _⟩ := I1.tuple hqy
    obtain ⟨o2, ho2, _⟩ := id p2
    refine RZ.call_zipT (show s1.heap.IsTuple a its.toArray from p1) (show s1.heap.IsTuple b its2.toArray from p2) fun h' hz hTI hTO h1 h2 hsz hk => wpAny_pyIter_zip hz ?_
    exact ⟨_, [s1.heap.objs.size + 4, s1.heap.objs.size + 2, s1.heap.objs.size + 3, s1.heap.objs.size, s1.heap.objs.size + 1], _, _, H1, rfl, I1.kept (t' := s1.toks) hk, RZ.turn_zipT (PySem.W.ktu_apart s1.heap.objs.size a b (Heap.lt_size ho1) (Heap.lt_size ho2)), ⟨hz, hTI, ⟨_, _, hTO⟩, h1, h2⟩, fresh5, q⟩
  · obtain ⟨its2, rv2, p2, _⟩ := I1.list hqy
    refine call_zipTL (show s1.heap.IsTuple a its.toArray from p1) p2.isList fun h' hz hTI hTO h1 h2 hk => wpAny_pyIter_zip hz ?_
    exact ⟨_, [s1.heap.objs.size + 4, s1.heap.objs.size + 2, s1.heap.objs.size + 3, s1.heap.objs.size, s1.heap.objs.size + 1], _, _, H1, rfl, I1.kept (t' := s1.toks) hk, turn_zipM (PySem.W.ktu_apart s1.heap.objs.size a b (Heap.lt_size ho1) p2.lt), ⟨hz, hTI, ⟨_, _, hTO⟩, h1, h2⟩, fresh5, q⟩
end Z
namespace Z
open PySem PySem.Spec PyProof.Rows L2
inductive D where
  | non | bl (b : Bool) | int (i : Int) | str (s : Str) | tup (ds : List D) | lst (ds : List D) | rol (ds : List D) | fn (x : Str)
  deriving Inhabited
inductive Mo where
  | frz | own | lck
  deriving DecidableEq, Inhabited
abbrev Sl := Option (D × Mo)
abbrev En := List Sl
structure Ex where
  cls : Nat
  args : List D
  deriving Inhabited
inductive Out (α : Type) where
  | ok (a : α) (e : En)
  | ex (x : Ex) (e : En)
  | bad
abbrev Zm (α : Type) := En → Out α
def Out.bind {α β : Type} : Out α → (α → Zm β) → Out β
  | .ok a e, g => g a e
  | .ex x e, _ => .ex x e
  | .bad, _ => .bad
@[simp] theorem Out.bind_ok {α β : Type} (a : α) (e : En) (g : α → Zm β) : Out.bind (.ok a e) g = g a e := rfl
@[simp] theorem Out.bind_ex {α β : Type} (x : Ex) (e : En) (g : α → Zm β) : Out.bind (.ex x e) g = .ex x e := rfl
@[simp] theorem Out.bind_bad {α β : Type} (g : α → Zm β) : Out.bind (.bad) g = .bad := rfl
/-- an Option as an outcome -/
def lift {α : Type} (o : Option α) : Zm α := fun e => match o with | some a => .ok a e | none => .bad
@[simp] theorem lift_some {α : Type} (a : α) (e : En) : lift (some a) e = .ok a e := rfl
@[simp] theorem lift_none {α : Type} (e : En) : lift (none : Option α) e = .bad := rfl
mutual
def toP : D → PyData
  | .non => .none
  | .bl b => .bool b
  | .int i => .int i
  | .str s => .str s
  | .tup ds => .tuple (toPs ds)
  | .lst ds => .list (toPs ds)
  | .rol _ => .dict []
  | .fn _ => .dict []
def toPs : List D → List PyData
  | [] => []
  | d :: ds => toP d :: toPs ds
end
def D.eqv (a b : D) : Bool := PyData.eqv (toP a) (toP b)
def D.ok (a : D) : Bool := SeqAt.shaped (toP a)
inductive Ty5 where
  | tuple | int | bool | list | str
  deriving DecidableEq, Inhabited
def Ty5.nm : Ty5 → String
  | .tuple => "tuple" | .int => "int" | .bool => "bool" | .list => "list" | .str => "str"
def isiD : D → Ty5 → Option Bool
  | .bl _, .bool => some true | .bl _, .int => some true | .int _, .int => some true | .str _, .str => some true | .tup _, .tuple => some true | .lst _, .list => some true
  | .rol _, _ => none
  | .fn _, _ => none
  | _, _ => some false
inductive Pr where
  | add | sub | mul | fdiv | mod | pow | neg | eq | ne | lt | le | gt | ge | isn | notn | inn | notin | ix | sl (lo hi : Bool)
  | int | abs | len | isi (T : Ty5) | list | gcd | isb | nisb | repr | lrev | min
  deriving DecidableEq, Inhabited
def pAdd : D → D → Option (D × Bool)
  | .int i, .int j => some (.int (i + j), false)
  | .lst a, .lst b => if a.length + b.length ≤ sizeLine then some (.lst (a ++ b), true) else none
  | .tup a, .tup b => if a.length + b.length ≤ sizeLine then some (.tup (a ++ b), false) else none
  | .str a, .str b => if a.length + b.length ≤ sizeLine then some (.str (a ++ b), false) else none
  | _, _ => none
def pSub : D → D → Option (D × Bool)
  | .int i, .int j => some (.int (i - j), false)
  | _, _ => none
/-- * of two factors, one of them short, or both together of less than a million bits -/
def CMulZ (i j : Int) : Prop := i.natAbs < 2 ^ 64 ∨ j.natAbs < 2 ^ 64 ∨ i.natAbs.log2 + j.natAbs.log2 < 1000000
instance (i j : Int) : Decidable (CMulZ i j) := inferInstanceAs (Decidable (_ ∨ _))
theorem CMulZ.ok {i j : Int} (h : CMulZ i j) : IntMulOk i j := by
  rcases h with h | h | h
  · exact IntMulOk.of_left (intBits_le_64 (by omega) (by omega))
  · exact IntMulOk.of_right (intBits_le_64 (by omega) (by omega))
  · exact CMulW.ok h
theorem op_mulZ {X : Cx} : OpR X (binaryOp .Mult) (rI CMulZ fun i j => .int (i * j)) := opI fun _ _ _ _ _ _ _ hc q => mul_int q hc.ok
def pMul : D → D → Option (D × Bool)
  | .int i, .int j => if CMulZ i j then some (.int (i * j), false) else none
  | .lst a, .int k => if -(2 ^ 63) ≤ k ∧ k < 2 ^ 63 ∧ a.length * k.toNat ≤ sizeLine then some (.lst (List.replicate k.toNat a).flatten, true) else none
  | _, _ => none
def pFdiv : D → D → Option (D × Bool)
  | .int i, .int j => if 0 < j ∧ j.natAbs.log2 < 9000 then some (.int (i / j), false) else if j < 0 ∧ j.natAbs.log2 < 9000 then some (.int (Int.fdiv i j), false) else none
  | _, _ => none
/-- // by what is not 0 -/
theorem op_fdivZ {X : Cx} : OpR X (binaryOp .FloorDiv) (rI (fun _ j => j ≠ 0 ∧ j.natAbs.log2 < 9000) fun i j => .int (Int.fdiv i j)) := opI fun i j _ _ _ _ _ hc q => floordiv_int hc.1 q (.inl (PyProof.noPylong_of_log2 hc.2))
def pMod : D → D → Option (D × Bool)
  | .int i, .int j => if 0 < j then some (.int (i % j), false) else none
  | _, _ => none
def pPow : D → D → Option (D × Bool)
  | .int i, .int j => if 0 ≤ j ∧ j ≤ 1000000 ∧ i.natAbs < 2 ^ 64 then some (.int (i ^ j.toNat), false) else none
  | _, _ => none
def pCmp (f : Int → Int → Bool) : D → D → Option (D × Bool)
  | .int i, .int j => some (.bl (f i j), false)
  | _, _ => none
def isNonD : D → Bool
  | .non => true
  | _ => false
def pIn (neg : Bool) (a : D) : D → Option (D × Bool)
  | .lst b => if a.ok && (D.lst b).ok then some (.bl (if neg then !b.any fun z => z.eqv a else b.any fun z => z.eqv a), false) else none
  | .tup b => if a.ok && (D.tup b).ok then some (.bl (if neg then !b.any fun z => z.eqv a else b.any fun z => z.eqv a), false) else none
  | _ => none
def pIx : D → D → Option (D × Bool)
  | .lst a, .int i => (atI a i).map (·, false)
  | .tup a, .int i => (atI a i).map (·, false)
  | .rol a, .int i => (atI a i).map (·, false)
  | _, _ => none
def cutD (a : List D) (lo hi : Option Int) : List D := (a.drop (HT.sIx a.length 0 lo)).take (HT.sIx a.length a.length hi - HT.sIx a.length 0 lo)
def pSl (lo hi : Option Int) : D → Option (D × Bool)
  | .lst a => some (.lst (cutD a lo hi), true)
  | .tup a => some (.tup (cutD a lo hi), false)
  | _ => none
def pInt : D → Option (D × Bool)
  | .int i => some (.int i, false)
  | .bl k => some (.int (if k then 1 else 0), false)
  | _ => none
def pAbs : D → Option (D × Bool)
  | .int i => some (.int (if i < 0 then -i else i), false)
  | _ => none
def pNeg : D → Option (D × Bool)
  | .int i => some (.int (-i), false)
  | _ => none
def pLen : D → Option (D × Bool)
  | .lst a => some (.int a.length, false)
  | .tup a => some (.int a.length, false)
  | .rol a => some (.int a.length, false)
  | _ => none
def pList : D → Option (D × Bool)
  | .lst a => some (.lst a, true)
  | .tup a => some (.lst a, true)
  | _ => none
def intsOf : List D → Option (List Int)
  | [] => some []
  | .int i :: ds => (intsOf ds).map (i :: ·)
  | _ :: _ => none
def minOf (i : Int) (is : List Int) : Int := is.foldl (fun a b => if b < a then b else a) i
/-- min(x) of whole numbers -/
def pMin : D → Option (D × Bool)
  | .lst ds => match intsOf ds with
    | some (i :: is) => some (.int (minOf i is), false)
    | _ => none
  | _ => none
/-- list(reversed(x)) -/
def pLrev : D → Option (D × Bool)
  | .lst a => some (.lst a.reverse, true)
  | _ => none
def pGcd : D → D → Option (D × Bool)
  | .int i, .int j => some (.int ((Nat.gcd i.natAbs j.natAbs : Nat) : Int), false)
  | _, _ => none
def pIsb : D → D → Option (D × Bool)
  | .bl i, .bl j => some (.bl (decide (i = j)), false)
  | _, _ => none
def pNisb : D → D → Option (D × Bool)
  | .bl i, .bl j => some (.bl (!decide (i = j)), false)
  | _, _ => none
/-- texts of any signs -/
def pEqS : D → D → Option (D × Bool)
  | .str x, .str y => some (.bl (decide (x = y)), false)
  | _, _ => none
def pNeS : D → D → Option (D × Bool)
  | .str x, .str y => some (.bl (!decide (x = y)), false)
  | _, _ => none
/-- data whose text can be made -/
def D.shw (d : D) : Bool := d.ok && (toP d).showable && decide ((toP d).depth ≤ 60) && decide ((toP d).shown.length ≤ 1000000)
def pRepr (d : D) : Option (D × Bool) := if d.shw then some (.str (toP d).shown, false) else none
/-- an operation on data: the value, whether it is a new list -/
def prB : Pr → List D → Option (D × Bool)
  | .add, [a, b] => pAdd a b
  | .sub, [a, b] => pSub a b
  | .mul, [a, b] => pMul a b
  | .fdiv, [a, b] => pFdiv a b
  | .mod, [a, b] => pMod a b
  | .pow, [a, b] => pPow a b
  | .neg, [a] => pNeg a
  | .eq, [a, b] => if a.ok && b.ok then some (.bl (a.eqv b), false) else pEqS a b
  | .ne, [a, b] => if a.ok && b.ok then some (.bl (!a.eqv b), false) else pNeS a b
  | .lt, [a, b] => pCmp (fun i j => decide (i < j)) a b
  | .le, [a, b] => pCmp (fun i j => decide (i ≤ j)) a b
  | .gt, [a, b] => pCmp (fun i j => decide (j < i)) a b
  | .ge, [a, b] => pCmp (fun i j => decide (j ≤ i)) a b
  | .isn, [d] => some (.bl (isNonD d), false)
  | .notn, [d] => some (.bl (!isNonD d), false)
  | .inn, [a, b] => pIn false a b
  | .notin, [a, b] => pIn true a b
  | .ix, [a, b] => pIx a b
  | .sl true true, [a, .int i, .int j] => pSl (some i) (some j) a
  | .sl true false, [a, .int i] => pSl (some i) none a
  | .sl false true, [a, .int j] => pSl none (some j) a
  | .sl false false, [a] => pSl none none a
  | .int, [a] => pInt a
  | .abs, [a] => pAbs a
  | .min, [a] => pMin a
  | .len, [a] => pLen a
  | .isi T, [d] => (isiD d T).map fun b => (.bl b, false)
  | .list, [a] => pList a
  | .lrev, [a] => pLrev a
  | .gcd, [a, b] => pGcd a b
  | .isb, [a, b] => pIsb a b
  | .repr, [a] => pRepr a
  | .nisb, [a, b] => pNisb a b
  | _, _ => none
inductive IG where
  | nm (i : Nat) | tp (l : List Nat)
  deriving DecidableEq, Inhabited
def tgIn (own : List Nat) : IG → Bool
  | .nm i => own.contains i
  | .tp l => l.all own.contains
/-- a pattern's item; a pattern -/
inductive IP0 where
  | wild | cap (i : Nat) | lit (s : Str)
  deriving Inhabited
inductive IP where
  | wild | seq (ps : List IP0) | lit (s : Str)
  deriving Inhabited
mutual
inductive IE where
  | var (i : Nat) | cst (d : D) | op (p : Pr) (args : List IA) | and (a b : IE) | or (a b : IE) | not (a : IE)
  | ife (c : IT) (a b : IE) | call (f : Nat) (args : List IA) | tup (es : List IE) | lst (es : List IE)
  | chain (p q : Pr) (a b c : IE)
  | comp (own : List Nat) (tg : IG) (src : II) (cond : List IT) (elt : IE)
  | callv (i : Nat) (tb : List (Str × Nat)) (args : List IA)
inductive IA where
  | at (i : Nat) | val (e : IE)
inductive IT where
  | val (a : IA) | and (a b : IT) | or (a b : IT) | not (a : IT)
inductive II where
  | over (a : IA) | range (a b : IE) | enum (a : IA) | cmb (a : IA) (r : Nat) | cmbR (e : IE) (r : Nat) | rev (a : IA) | zipt (a b : IA)
end
inductive IS where
  | set (i : Nat) (e : IE)
  | unp (l : List Nat) (e : IE)
  | par (l : List Nat) (es : List IE)
  | setix (i : Nat) (k v : IE)
  | app (i : Nat) (e : IE)
  | ext (i : Nat) (e : IE)
  | rev (i : Nat)
  | ins (i : Nat) (k v : IE)
  | rem (i : Nat) (e : IE)
  | parix (i : Nat) (k l e : IE)
  | unpl (l : List Nat) (e : IE)
  | no
  | ife (c : IT) (a b : List IS)
  | forr (tg : IG) (src : II) (body : List IS)
  | whil (c : IT) (body : List IS)
  | mt (i : Nat) (p : IP) (hit miss : List IS)
  | ret (e : IE)
  | retv (i : Nat)
  | retn
  | brk | cont | pass
def m0 : IP0 → D → Option (Option (List Nat × List D))
  | .wild, _ => some (some ([], []))
  | .cap i, d => some (some ([i], [d]))
  | .lit s, .str t => some (if t = s then some ([], []) else none)
  | .lit _, _ => none
def mEach : List IP0 → List D → Option (Option (List Nat × List D))
  | [], [] => some (some ([], []))
  | p :: ps, d :: ds => match m0 p d with
    | some (some a) => match mEach ps ds with
      | some (some b) => some (some (a.1 ++ b.1, a.2 ++ b.2))
      | some none => some none
      | none => none
    | some none => some none
    | none => none
  | _, _ => none
def mP : IP → D → Option (Option (List Nat × List D))
  | .wild, _ => some (some ([], []))
  | .lit s, d => m0 (.lit s) d
  | .seq ps, .tup ds => if ds.length = ps.length then mEach ps ds else some none
  | .seq _, _ => none
inductive PV where
  | val (d : D) | at (i : Nat)
def fill1 (env : En) : PV → Option D
  | .val d => some d
  | .at i => match env[i]? with | some (some (d, _)) => some d | _ => none
def fill (env : En) : List PV → Option (List D)
  | [] => some []
  | p :: ps => match fill1 env p, fill env ps with | some d, some ds => some (d :: ds) | _, _ => none
def argv1 (env : En) : PV → Option (D × Mo)
  | .val d => some (d, .frz)
  | .at i => match env[i]? with | some (some (d, m)) => some (d, m) | _ => none
def argv (env : En) : List PV → Option (List (D × Mo))
  | [] => some []
  | p :: ps => match argv1 env p, argv env ps with | some d, some ds => some (d :: ds) | _, _ => none
/-- the owned names among the arguments -/
def ownIx (env : En) : List PV → List Nat
  | [] => []
  | .at i :: ps => match env[i]? with | some (some (_, .own)) => i :: ownIx env ps | _ => ownIx env ps
  | .val _ :: ps => ownIx env ps
/-- the owned names behind a call -/
def wb (env0 : En) : List PV → List (D × Mo) → En → En
  | .at i :: ps, o :: os, env => match env0[i]? with | some (some (_, .own)) => wb env0 ps os (env.set i (some o)) | _ => wb env0 ps os env
  | .val _ :: ps, _ :: os, env => wb env0 ps os env
  | _, _, env => env
inductive CR where
  | ok (d : D) (fr : Bool) (outs : List (D × Mo))
  | bad
abbrev Cl := Nat → List (D × Mo) → CR
def doCall (C : Cl) (f : Nat) (ps : List PV) : Zm (D × Bool) := fun env =>
  if (ownIx env ps).Nodup then
    match argv env ps with
    | some as => match C f as with
      | .ok d fr outs => .ok (d, fr) (wb env ps outs env)
      | .bad => .bad
    | none => .bad
  else .bad
def truthy : D → Option Bool
  | .non => some false
  | .bl b => some b
  | .int i => some (decide (i ≠ 0))
  | .str s => none
  | .tup ds => some (!ds.isEmpty)
  | .lst ds => some (!ds.isEmpty)
  | .rol _ => none
  | .fn _ => none
def getV (i : Nat) : Zm (D × Bool) := fun env => match env[i]? with
  | some (some (d, .frz)) => .ok (d, false) env
  | some (some (d, .own)) => .ok (d, false) (env.set i (some (d, .frz)))
  | _ => .bad
def peek (i : Nat) : Zm PV := fun env => match env[i]? with
  | some (some _) => .ok (.at i) env
  | _ => .bad
/-- a store; pin: the names that must stay -/
def setS (pin : Nat → Bool) (i : Nat) (d : D) (fr : Bool) : Zm Unit := fun env => match env[i]? with
  | some (some (_, .lck)) => .bad
  | some _ => if pin i then .bad else .ok () (env.set i (some (d, if fr then .own else .frz)))
  | none => .bad
def setAll (pin : Nat → Bool) : List Nat → List D → Zm Unit
  | [], [], env => .ok () env
  | i :: is, d :: ds, env => (setS pin i d false env).bind fun _ => setAll pin is ds
  | _, _, _ => .bad
def setG (pin : Nat → Bool) : IG → D → Zm Unit
  | .nm i, d => setS pin i d false
  | .tp l, .tup ds => setAll pin l ds
  | .tp _, _ => fun _ => .bad
/-- what a loop walks, and the name that is locked -/
def seqOf : D → Option (List D)
  | .lst ds => some ds
  | .tup ds => some ds
  | .rol ds => some ds
  | _ => none
def seqL : D → Option (List D)
  | .lst ds => some ds
  | .rol ds => some ds
  | _ => none
def lockOf (env : En) : PV → Option Nat
  | .at i => match env[i]? with | some (some (_, .own)) => some i | _ => none
  | .val _ => none
def lock (o : Option Nat) (env : En) : En := match o with
  | some i => match env[i]? with | some (some (d, _)) => env.set i (some (d, .lck)) | _ => env
  | none => env
def unlock (o : Option Nat) (env : En) : En := match o with
  | some i => match env[i]? with | some (some (d, _)) => env.set i (some (d, .own)) | _ => env
  | none => env
def Out.mapEn {α : Type} (f : En → En) : Out α → Out α
  | .ok a e => .ok a (f e)
  | .ex x e => .ex x (f e)
  | .bad => .bad
inductive Fl where
  | nx | bk | ct | rt (d : D) (fr : Bool)
/-- a for loop over the items -/
def loopFor (f : D → Zm Fl) : List D → Zm Fl
  | [], env => .ok .nx env
  | d :: ds, env => (f d env).bind fun fl => match fl with
    | .nx => loopFor f ds
    | .ct => loopFor f ds
    | .bk => fun e => .ok .nx e
    | .rt d fr => fun e => .ok (.rt d fr) e
def loopWhile (c : Zm Bool) (f : Zm Fl) : Nat → Zm Fl
  | 0, _ => .bad
  | n + 1, env => (c env).bind fun b => if b then fun e => (f e).bind fun fl => match fl with
      | .nx => loopWhile c f n
      | .ct => loopWhile c f n
      | .bk => fun e => .ok .nx e
      | .rt d fr => fun e => .ok (.rt d fr) e
    else fun e => .ok .nx e
/-- a comprehension's items: what a turn gives, if anything -/
def loopLc (f : D → Zm (Option D)) : List D → List D → Zm (List D)
  | [], acc, env => .ok acc env
  | d :: ds, acc, env => (f d env).bind fun o => match o with
    | some x => if acc.length < sizeLine then loopLc f ds (acc ++ [x]) else fun _ => .bad
    | none => loopLc f ds acc
def wipeE (env : En) : List Nat → En
  | [] => env
  | v :: vs => (wipeE env vs).set v none
/-- the block's own names have no owned lists -/
def plainAt (env : En) (l : List Nat) : Bool := l.all fun i => match env[i]? with | some none => true | some (some (_, .frz)) => true | _ => false
/-- all choices of r of n indexes -/
def combAux (n : Nat) : Nat → Option (List Nat) → Option (List (List Nat))
  | _, none => some []
  | 0, some _ => none
  | f + 1, some a => (combAux n f (ZCmb.nxt n a)).map (a :: ·)
def combs (n r : Nat) : Option (List (List Nat)) := combAux n 5000 (if r > n then none else some (List.range r))
def rangeD (a : Int) : Nat → List D
  | 0 => []
  | n + 1 => .int a :: rangeD (a + 1) n
def restore (env0 env : En) : List Nat → En
  | [] => env
  | v :: vs => (restore env0 env vs).set v ((env0[v]?).getD none)
def WF : Nat := 1000000000000000000000000
end Z
namespace Z
open PySem PySem.Spec PyProof.Rows L2
section
variable (C : Cl)
mutual
def evE : IE → Zm (D × Bool)
  | .var i, env => getV i env
  | .cst d, env => .ok (d, false) env
  | .op p as, env => (evAs as env).bind fun l env => match fill env l with
    | some ds => lift (prB p ds) env
    | none => .bad
  | .and a b, env => (evE a env).bind fun x => match x with
    | (.bl true, _) => evE b
    | (.bl false, _) => fun env => .ok (.bl false, false) env
    | _ => fun _ => .bad
  | .or a b, env => (evE a env).bind fun x => match x with
    | (.bl false, _) => evE b
    | (.bl true, _) => fun env => .ok (.bl true, false) env
    | _ => fun _ => .bad
  | .not a, env => (evE a env).bind fun x => match x with
    | (.bl b, _) => fun env => .ok (.bl (!b), false) env
    | _ => fun _ => .bad
  | .ife c a b, env => (evT c env).bind fun x env => if x then evE a env else evE b env
  | .call f as, env => (evAs as env).bind fun l => doCall C f l
  | .callv i tb as, env => match env[i]? with
    | some (some (.fn x, .frz)) => match tb.lookup x with
      | some f => (evAs as env).bind fun l => doCall C f l
      | none => .bad
    | _ => .bad
  | .tup es, env => (evEs es env).bind fun ds env => if ds.length ≤ sizeLine then .ok (.tup ds, false) env else .bad
  | .lst es, env => (evEs es env).bind fun ds env => if ds.length ≤ sizeLine then .ok (.lst ds, true) env else .bad
  | .chain p q a b c, env => (evE a env).bind fun x env => (evE b env).bind (fun y env => match prB p [x.1, y.1] with
    | some (.bl true, _) => (evE c env).bind fun z env => lift (prB q [y.1, z.1]) env
    | some (.bl false, _) => .ok (.bl false, false) env
    | _ => .bad)
  | .comp own tg src cond elt, env => (evI src env).bind fun x env0 =>
    let env1 := lock x.2 env0
    if plainAt env1 own then
      ((loopLc (fun d env => (setG (fun _ => false) tg d env).bind fun _ env => (evTs cond env).bind (fun b env =>
        if b then (evE elt env).bind (fun x env => .ok (some x.1) (wipeE env own)) else .ok none (wipeE env own))) x.1 [] (wipeE env1 own)).bind fun ds env => .ok (.lst ds, true) env).mapEn (fun e => unlock x.2 (restore env1 e own))
    else .bad
def evA : IA → Zm PV
  | .at i, env => peek i env
  | .val e, env => (evE e env).bind fun x env => .ok (.val x.1) env
def evAs : List IA → Zm (List PV)
  | [], env => .ok [] env
  | a :: as, env => (evA a env).bind fun p env => (evAs as env).bind (fun ps env => .ok (p :: ps) env)
def evEs : List IE → Zm (List D)
  | [], env => .ok [] env
  | e :: es, env => (evE e env).bind fun x env => (evEs es env).bind (fun xs env => .ok (x.1 :: xs) env)
def evT : IT → Zm Bool
  | .val a, env => (evA a env).bind fun p env => match fill1 env p with
    | some d => lift (truthy d) env
    | none => .bad
  | .and a b, env => (evT a env).bind fun x env => if x then evT b env else .ok false env
  | .or a b, env => (evT a env).bind fun x env => if x then .ok true env else evT b env
  | .not a, env => (evT a env).bind fun x env => .ok (!x) env
def evTs : List IT → Zm Bool
  | [], env => .ok true env
  | c :: cs, env => (evT c env).bind fun x env => if x then evTs cs env else .ok false env
def evI : II → Zm (List D × Option Nat)
  | .over a, env => (evA a env).bind fun p env => match fill1 env p with
    | some d => match seqOf d with
      | some ds => .ok (ds, lockOf env p) env
      | none => .bad
    | none => .bad
  | .range a b, env => (evE a env).bind fun x env => (evE b env).bind (fun y env => match x.1, y.1 with
    | .int i, .int j => if -(2 ^ 62) ≤ i ∧ i < 2 ^ 62 ∧ -(2 ^ 62) ≤ j ∧ j < 2 ^ 62 then .ok (rangeD i (j - i).toNat, none) env else .bad
    | _, _ => .bad)
  | .cmb a r, env => (evA a env).bind fun p env => match fill1 env p with
    | some (.lst ds) => match combs ds.length r with
      | some L => .ok (L.map fun idx => D.tup (idx.map fun j => ds.getD j .non), none) env
      | none => .bad
    | _ => .bad
  | .cmbR e r, env => (evE e env).bind fun x env => match x.1 with
    | .int n => if 0 ≤ n ∧ n ≤ 1000 then match combs n.toNat r with
      | some L => .ok (L.map fun idx => D.tup (idx.map fun (j : Nat) => ((List.range n.toNat).map fun (k : Nat) => D.int (k : Int)).getD j .non), none) env
      | none => .bad else .bad
    | _ => .bad
  | .rev a, env => (evA a env).bind fun p env => match fill1 env p with
    | some (.lst ds) => .ok (ds.reverse, lockOf env p) env
    | _ => .bad
  | .zipt a b, env => (evA a env).bind fun p env => (evA b env).bind (fun q env => match fill1 env p, fill1 env q with
    | some (.tup xs), some (.tup ys) => .ok (List.zipWith (fun x y => D.tup [x, y]) xs ys, none) env
    | some (.tup xs), some (.lst ys) => .ok (List.zipWith (fun x y => D.tup [x, y]) xs ys, lockOf env q) env
    | _, _ => .bad)
  | .enum a, env => (evA a env).bind fun p env => match fill1 env p with
    | some d => match seqL d with
      | some ds => .ok ((List.range ds.length).zipWith (fun (k : Nat) d => D.tup [.int (k : Int), d]) ds, lockOf env p) env
      | none => .bad
    | none => .bad
end
/-- xs[k] = d, for a list of a name -/
def wrI (i : Nat) (k : IE) (d : D) : Zm Unit := fun env => (peek i env).bind fun _ env => (evE C k env).bind fun y env => match env[i]? with
  | some (some (.lst ds, .own)) => match y.1 with
    | .int j => match ixN ds.length j with
      | some n => .ok () (env.set i (some (.lst (ds.set n d), .own)))
      | none => .bad
    | _ => .bad
  | _ => .bad
variable (pin : Nat → Bool)
mutual
def evS : IS → Zm Fl
  | .set i e, env => (evE C e env).bind fun x env => (setS pin i x.1 x.2 env).bind fun _ env => .ok Fl.nx env
  | .unp l e, env => (evE C e env).bind fun x env => (setG pin (.tp l) x.1 env).bind fun _ env => .ok Fl.nx env
  | .par l es, env => (evEs C es env).bind fun ds env => (setAll pin l ds env).bind fun _ env => .ok Fl.nx env
  | .setix i k v, env => (evE C v env).bind fun x env => (peek i env).bind fun _ env => (evE C k env).bind (fun y env => match env[i]? with
    | some (some (.lst ds, .own)) => match y.1 with
      | .int j => match ixN ds.length j with
        | some n => .ok Fl.nx (env.set i (some (.lst (ds.set n x.1), .own)))
        | none => .bad
      | _ => .bad
    | _ => .bad)
  | .app i e, env => match env[i]? with
    | some (some (.lst _, _)) => (evE C e env).bind fun x env => match env[i]? with
      | some (some (.lst ds, .own)) => if ds.length < sizeLine then .ok Fl.nx (env.set i (some (.lst (ds ++ [x.1]), .own))) else .bad
      | _ => .bad
    | _ => .bad
  | .ext i e, env => match env[i]? with
    | some (some (.lst _, _)) => (evE C e env).bind fun x env => match x.1 with
      | .lst xs => match env[i]? with
        | some (some (.lst ds, .own)) => if ds.length + xs.length ≤ sizeLine then .ok Fl.nx (env.set i (some (.lst (ds ++ xs), .own))) else .bad
        | _ => .bad
      | _ => .bad
    | _ => .bad
  | .rev i, env => match env[i]? with
    | some (some (.lst ds, .own)) => .ok Fl.nx (env.set i (some (.lst ds.reverse, .own)))
    | _ => .bad
  | .ins i k e, env => match env[i]? with
    | some (some (.lst _, _)) => (evE C k env).bind fun y env => (evE C e env).bind (fun x env => match env[i]? with
      | some (some (.lst ds, .own)) => match y.1 with
        | .int j => if 0 ≤ j ∧ j < 2 ^ 63 ∧ ds.length < sizeLine then .ok Fl.nx (env.set i (some (.lst (ds.take j.toNat ++ [x.1] ++ ds.drop j.toNat), .own))) else .bad
        | _ => .bad
      | _ => .bad)
    | _ => .bad
  | .rem i e, env => match env[i]? with
    | some (some (.lst _, _)) => (evE C e env).bind fun x env => match env[i]? with
      | some (some (.lst ds, .own)) => if x.1.ok && (D.lst ds).ok then match ds.findIdx? (fun z => z.eqv x.1) with
          | some j => .ok Fl.nx (env.set i (some (.lst (ds.eraseIdx j), .own)))
          | none => .bad
        else .bad
      | _ => .bad
    | _ => .bad
  | .unpl l e, env => (evE C e env).bind fun x env => match x.1 with
    | .lst ds => (setAll pin l ds env).bind fun _ env => .ok Fl.nx env
    | _ => .bad
  | .parix i k l e, env => (evE C e env).bind fun x env => match x.1 with
    | .tup [a, b] => (wrI C i k a env).bind fun _ env => (wrI C i l b env).bind fun _ env => .ok Fl.nx env
    | _ => .bad
  | .no, _ => .bad
  | .ife c a b, env => (evT C c env).bind fun x env => if x then evSs a env else evSs b env
  | .forr tg src body, env => (evI C src env).bind fun x env =>
    (loopFor (fun d env => (setG pin tg d env).bind fun _ env => evSs body env) x.1 (lock x.2 env)).mapEn (unlock x.2)
  | .whil c body, env => loopWhile (evT C c) (evSs body) WF env
  | .mt i p hit miss, env => match env[i]? with
    | some (some (d, .frz)) => match mP p d with
      | some (some bs) => (setAll pin bs.1 bs.2 env).bind fun _ env => evSs hit env
      | some none => evSs miss env
      | none => .bad
    | _ => .bad
  | .ret e, env => (evE C e env).bind fun x env => .ok (Fl.rt x.1 x.2) env
  | .retv i, env => match env[i]? with
    | some (some (d, .own)) => if pin i then (getV i env).bind fun x env => .ok (Fl.rt x.1 false) env else .ok (Fl.rt d true) (env.set i none)
    | some (some (d, .frz)) => .ok (Fl.rt d false) env
    | _ => .bad
  | .retn, env => .ok (Fl.rt .non false) env
  | .brk, env => .ok Fl.bk env
  | .cont, env => .ok Fl.ct env
  | .pass, env => .ok Fl.nx env
def evSs : List IS → Zm Fl
  | [], env => .ok Fl.nx env
  | s :: ss, env => (evS s env).bind fun fl env => match fl with
    | .nx => evSs ss env
    | .bk => .ok Fl.bk env
    | .ct => .ok Fl.ct env
    | .rt d fr => .ok (Fl.rt d fr) env
end
end
structure Fn where
  np : Nat
  dv : List D
  n : Nat
  body : List IS
def pinOf (bs : List (D × Mo)) : Nat → Bool := fun i => match bs[i]? with | some (_, .own) => true | _ => false
/-- what a def does with all its arguments -/
def runFull (C : Cl) (F : Fn) (bs : List (D × Mo)) : CR :=
  if bs.length = F.np then
    match evSs C (pinOf bs) F.body (bs.map some ++ List.replicate (F.n - F.np) none) with
    | .ok (.rt d fr) env => .ok d fr ((env.take F.np).map fun s => s.getD (.non, .frz))
    | .ok .nx env => .ok .non false ((env.take F.np).map fun s => s.getD (.non, .frz))
    | _ => .bad
  else .bad
def withDv (F : Fn) (as : List (D × Mo)) : List (D × Mo) := as ++ (F.dv.drop (F.dv.length - (F.np - as.length))).map fun d => (d, Mo.frz)
def callK (T : Nat → Option Fn) : Nat → Cl
  | 0, _, _ => .bad
  | k + 1, f, as => match T f with
    | some F => runFull (callK T k) F (withDv F as)
    | none => .bad
end Z
namespace Z
open PySem PySem.Spec PyProof.Rows L2
abbrev Mk := Addr → Prop
def KList (K : PySem.W.Frag) (a : Addr) (xs : List V) : Prop :=
  ∃ (o : Obj) (its : Array Value) (n : Nat), K.lookup a = some o ∧ o.cls = .type "list" ∧ o.dict = none ∧ o.data = .seq its n ∧ its.size ≤ sizeLine ∧ Vals xs its.toList
def RolL (K : PySem.W.Frag) (M : Mk) (H : Hp) (a : Addr) (xs : List V) : Prop :=
  (H a = some (.lst xs) ∧ ¬ M a) ∨ (∃ o, H a = some (.frz o (.lst xs))) ∨ KList K a xs
theorem RolL.sq {K : PySem.W.Frag} {M : Mk} {H : Hp} {a : Addr} {xs : List V} (h : RolL K M H a xs) : SqL K H a xs := by
  rcases h with ⟨h, _⟩ | h | h
  · exact .inl (.inl h)
  · exact .inl (.inr h)
  · exact .inr h
mutual
inductive Rep (K : PySem.W.Frag) (M : Mk) (H : Hp) : D → V → Prop
  | non : Rep K M H .non .non
  | bl (b : Bool) : Rep K M H (.bl b) (.bl b)
  | int (i : Int) : Rep K M H (.int i) (.int i)
  | str (s : Str) : Rep K M H (.str s) (.str s)
  | tup {a : Addr} {xs : List V} {ds : List D} : SqT K H a xs → Reps K M H ds xs → Rep K M H (.tup ds) (.ref a)
  | lst {a : Addr} {xs : List V} {ds : List D} : H a = some (.lst xs) → ¬ M a → Reps K M H ds xs → Rep K M H (.lst ds) (.ref a)
  | rol {a : Addr} {xs : List V} {ds : List D} : RolL K M H a xs → Reps K M H ds xs → Rep K M H (.rol ds) (.ref a)
  | fn {a : Addr} {x : Str} : PySem.W.nsIn K mainGlobals x = some (some (.ref a)) → Rep K M H (.fn x) (.ref a)
inductive Reps (K : PySem.W.Frag) (M : Mk) (H : Hp) : List D → List V → Prop
  | nil : Reps K M H [] []
  | cons {d : D} {ds : List D} {v : V} {vs : List V} : Rep K M H d v → Reps K M H ds vs → Reps K M H (d :: ds) (v :: vs)
end
def SlotRep (K : PySem.W.Frag) (M : Mk) (H : Hp) (d : D) (m : Mo) (v : V) : Prop := match m with
  | .frz => Rep K M H d v
  | _ => ∃ ds a xs, d = .lst ds ∧ v = .ref a ∧ M a ∧ H a = some (.lst xs) ∧ Reps K M H ds xs
def OwnAt (σ : L2.St) (env : En) (i : Nat) (a : Addr) : Prop := ∃ d, env[i]? = some (some (d, .own)) ∧ σ[i]? = some (some (.ref a))
def Wr (σ : L2.St) (env : En) (a : Addr) : Prop := ∃ i, OwnAt σ env i a
def Held (σ : L2.St) (env : En) (i : Nat) (a : Addr) : Prop := ∃ d m, m ≠ Mo.frz ∧ env[i]? = some (some (d, m)) ∧ σ[i]? = some (some (.ref a))
def IsL (env : En) (i : Nat) : Prop := ∃ d, env[i]? = some (some (d, .lck))
structure EnvOk (K : PySem.W.Frag) (M : Mk) (H : Hp) (σ : L2.St) (env : En) : Prop where
  len : σ.length = env.length
  slot : ∀ (i : Nat) (d : D) (m : Mo), env[i]? = some (some (d, m)) → ∃ v, σ[i]? = some (some v) ∧ SlotRep K M H d m v
  apart : ∀ (i j : Nat) (a : Addr), i ≠ j → OwnAt σ env i a → Held σ env j a → False
  mok : ∀ a, M a → ∃ xs, H a = some (.lst xs)
theorem OwnAt.held {σ : L2.St} {env : En} {i : Nat} {a : Addr} (h : OwnAt σ env i a) : Held σ env i a := by
  obtain ⟨d, h1, h2⟩ := h
  exact ⟨d, .own, by decide, h1, h2⟩
section
variable {K : PySem.W.Frag} {M M' : Mk} {H H' : Hp} {σ : L2.St} {env : En}
theorem EnvOk.held_m (e : EnvOk K M H σ env) {i : Nat} {a : Addr} (h : Held σ env i a) : M a := by
  obtain ⟨d, m, hm, h1, h2⟩ := h
  obtain ⟨v, h3, h4⟩ := e.slot i d m h1
  rw [h2] at h3
  cases h3
  cases m with
  | frz => exact absurd rfl hm
  | own => obtain ⟨ds, b, xs, _, e2, h5, _⟩ := h4; cases e2; exact h5
  | lck => obtain ⟨ds, b, xs, _, e2, h5, _⟩ := h4; cases e2; exact h5
theorem EnvOk.wr_m (e : EnvOk K M H σ env) {a : Addr} (h : Wr σ env a) : M a := by
  obtain ⟨i, h⟩ := h
  exact e.held_m h.held
/-- how the frozen data stay: (W: what may be written) -/
structure Keeps (M : Mk) (H : Hp) (M' : Mk) (H' : Hp) : Prop where
  heap : ∀ a o, H a = some o → ¬ M a → H' a = some o
  mold : ∀ a, H a ≠ none → M' a → M a
theorem SqT.keeps {a : Addr} {xs : List V} (mok : ∀ a, M a → ∃ xs, H a = some (.lst xs)) (k : Keeps M H M' H') (h : SqT K H a xs) : SqT K H' a xs := by
  have go : ∀ o, H a = some o → (∀ ys, o ≠ .lst ys) → H' a = some o := fun o e n => k.heap a o e fun hm => by
    obtain ⟨ys, e2⟩ := mok a hm
    rw [e] at e2
    exact n ys (Option.some.inj e2)
  rcases h with (h | ⟨o, h⟩) | h
  · exact .inl (.inl (go _ h (fun _ z => nomatch z)))
  · exact .inl (.inr ⟨o, go _ h (fun _ z => nomatch z)⟩)
  · exact .inr h
theorem RolL.keeps {a : Addr} {xs : List V} (mok : ∀ a, M a → ∃ xs, H a = some (.lst xs)) (k : Keeps M H M' H') (h : RolL K M H a xs) : RolL K M' H' a xs := by
  rcases h with ⟨h, n⟩ | ⟨o, h⟩ | h
  · exact .inl ⟨k.heap _ _ h n, fun z => n (k.mold a (by rw [h]; simp) z)⟩
  · refine .inr (.inl ⟨o, k.heap a _ h fun hm => ?_⟩)
    obtain ⟨ys, e2⟩ := mok a hm
    rw [h] at e2
    cases e2
  · exact .inr (.inr h)
mutual
theorem Rep.keeps (mok : ∀ a, M a → ∃ xs, H a = some (.lst xs)) (k : Keeps M H M' H') : ∀ {d : D} {v : V}, Rep K M H d v → Rep K M' H' d v
  | _, _, .non => .non
  | _, _, .bl b => .bl b
  | _, _, .int i => .int i
  | _, _, .str s => .str s
  | _, _, .tup h r => .tup (SqT.keeps mok k h) (Reps.keeps mok k r)
  | _, _, .lst (a := a) h n r => .lst (k.heap _ _ h n) (fun z => n (k.mold a (by rw [h]; simp) z)) (Reps.keeps mok k r)
  | _, _, .rol h r => .rol (h.keeps mok k) (Reps.keeps mok k r)
  | _, _, .fn h => .fn h
theorem Reps.keeps (mok : ∀ a, M a → ∃ xs, H a = some (.lst xs)) (k : Keeps M H M' H') : ∀ {ds : List D} {vs : List V}, Reps K M H ds vs → Reps K M' H' ds vs
  | _, _, .nil => .nil
  | _, _, .cons h r => .cons (Rep.keeps mok k h) (Reps.keeps mok k r)
end
theorem Reps.length : ∀ {ds : List D} {vs : List V}, Reps K M H ds vs → ds.length = vs.length
  | _, _, .nil => rfl
  | _, _, .cons _ r => congrArg (· + 1) r.length
theorem Reps.get : ∀ {ds : List D} {vs : List V} {i : Nat} {d : D}, Reps K M H ds vs → ds[i]? = some d → ∃ v, vs[i]? = some v ∧ Rep K M H d v
  | _, _, _, _, .nil, e => by simp at e
  | _, _, 0, _, .cons h _, e => by simp at e; subst e; exact ⟨_, rfl, h⟩
  | _, _, i + 1, d, .cons _ r, e => by
    obtain ⟨v, h1, h2⟩ := Reps.get (i := i) (d := d) r (by simpa using e)
    exact ⟨v, by simpa using h1, h2⟩
theorem Reps.append : ∀ {ds es : List D} {vs ws : List V}, Reps K M H ds vs → Reps K M H es ws → Reps K M H (ds ++ es) (vs ++ ws)
  | _, _, _, _, .nil, s => s
  | _, _, _, _, .cons h r, s => .cons h (Reps.append r s)
theorem Reps.reverse : ∀ {ds : List D} {vs : List V}, Reps K M H ds vs → Reps K M H ds.reverse vs.reverse
  | _, _, .nil => .nil
  | _, _, .cons h r => by rw [List.reverse_cons, List.reverse_cons]; exact Reps.append (Reps.reverse r) (.cons h .nil)
theorem Reps.drop : ∀ {ds : List D} {vs : List V} (n : Nat), Reps K M H ds vs → Reps K M H (ds.drop n) (vs.drop n)
  | _, _, 0, r => r
  | _, _, _ + 1, .nil => .nil
  | _, _, n + 1, .cons _ r => Reps.drop n r
theorem Reps.take : ∀ {ds : List D} {vs : List V} (n : Nat), Reps K M H ds vs → Reps K M H (ds.take n) (vs.take n)
  | _, _, 0, _ => .nil
  | _, _, _ + 1, .nil => .nil
  | _, _, n + 1, .cons h r => .cons h (Reps.take n r)
theorem Reps.set {d : D} {v : V} (h : Rep K M H d v) : ∀ {ds : List D} {vs : List V} (n : Nat), Reps K M H ds vs → Reps K M H (ds.set n d) (vs.set n v)
  | _, _, _, .nil => .nil
  | _, _, 0, .cons _ r => .cons h r
  | _, _, n + 1, .cons q r => .cons q (Reps.set h n r)
/-- a new object -/
theorem keeps_upd {p : Addr} {o : HO} (hp : H p = none) (M' : Mk) (hM : ∀ a, M' a → M a ∨ a = p) : Keeps M H M' (upd H p o) :=
  ⟨fun a u e _ => by rw [upd_ne (ne_of_none e hp)]; exact e, fun a n z => (hM a z).elim id fun e => by rw [e, hp] at n; exact absurd rfl n⟩
theorem SlotRep.keeps {d : D} {m : Mo} {v : V} (mok : ∀ a, M a → ∃ xs, H a = some (.lst xs)) (k : Keeps M H M' H') (hm : m ≠ .frz → ∀ a, v = .ref a → M' a ∧ ∀ o, H a = some o → H' a = some o) (h : SlotRep K M H d m v) : SlotRep K M' H' d m v := by
  cases m with
  | frz => exact Rep.keeps mok k h
  | own =>
    obtain ⟨ds, a, xs, e1, e2, h1, h2, h3⟩ := h
    obtain ⟨z1, z2⟩ := hm (by decide) a e2
    exact ⟨ds, a, xs, e1, e2, z1, z2 _ h2, h3.keeps mok k⟩
  | lck =>
    obtain ⟨ds, a, xs, e1, e2, h1, h2, h3⟩ := h
    obtain ⟨z1, z2⟩ := hm (by decide) a e2
    exact ⟨ds, a, xs, e1, e2, z1, z2 _ h2, h3.keeps mok k⟩
/-- the same names over a heap in which more stands -/
theorem EnvOk.more (e : EnvOk K M H σ env) (k : Keeps M H M' H') (hM : ∀ a, M a → M' a) (hH : ∀ a o, H a = some o → H' a = some o) (mok : ∀ a, M' a → ∃ xs, H' a = some (.lst xs)) : EnvOk K M' H' σ env :=
  ⟨e.len, fun i d m h => by
    obtain ⟨v, h1, h2⟩ := e.slot i d m h
    refine ⟨v, h1, h2.keeps e.mok k fun hm a ea => ⟨hM a (e.held_m ⟨d, m, hm, h, by rw [h1, ea]⟩), hH a⟩⟩, e.apart, mok⟩
end
/-- from one place to the next -/
structure Stp (pin : Nat → Bool) (M : Mk) (H : Hp) (σ : L2.St) (env : En) (M' : Mk) (H' : Hp) (σ' : L2.St) (env' : En) : Prop where
  heap : ∀ a o, H a = some o → ¬ Wr σ env a → H' a = some o
  dom : ∀ a, H a ≠ none → H' a ≠ none
  mold : ∀ a, H a ≠ none → M' a → M a
  mkeep : ∀ a, M a → ¬ Wr σ env a → M' a
  wr : ∀ (i : Nat) (a : Addr), OwnAt σ' env' i a → OwnAt σ env i a ∨ H a = none
  lck : ∀ i, IsL env' i ↔ IsL env i
  lkσ : ∀ i, IsL env i → σ'[i]? = σ[i]?
  pinσ : ∀ i, pin i = true → σ'[i]? = σ[i]?
  pinS : ∀ i, pin i = true → (∃ s, env[i]? = some (some s)) → ∃ s, env'[i]? = some (some s)
section
variable {K : PySem.W.Frag} {pin : Nat → Bool} {M M' M1 M2 : Mk} {H H' H1 H2 : Hp} {σ σ' σ1 σ2 : L2.St} {env env' env1 env2 : En}
theorem Stp.refl : Stp pin M H σ env M H σ env :=
  ⟨fun _ _ h _ => h, fun _ h => h, fun _ _ h => h, fun _ h _ => h, fun _ _ h => .inl h, fun _ => Iff.rfl, fun _ _ => rfl, fun _ _ => rfl, fun _ _ h => h⟩
theorem Stp.trans (mok : ∀ a, M a → ∃ xs, H a = some (.lst xs)) (a : Stp pin M H σ env M1 H1 σ1 env1) (b : Stp pin M1 H1 σ1 env1 M2 H2 σ2 env2) : Stp pin M H σ env M2 H2 σ2 env2 := by
  have nw : ∀ x, H x ≠ none → ¬ Wr σ env x → ¬ Wr σ1 env1 x := fun x hn hw ⟨i, z⟩ => (a.wr i x z).elim (fun y => hw ⟨i, y⟩) hn
  refine ⟨fun x o e n => b.heap x o (a.heap x o e n) (nw x (by rw [e]; simp) n), fun x n => b.dom x (a.dom x n), fun x n m => a.mold x n (b.mold x (a.dom x n) m), fun x m n => ?_, fun i x w => ?_, fun i => (b.lck i).trans (a.lck i), fun i l => ?_, fun i p => (b.pinσ i p).trans (a.pinσ i p), fun i p s => b.pinS i p (a.pinS i p s)⟩
  · obtain ⟨ys, e⟩ := mok x m
    exact b.mkeep x (a.mkeep x m n) (nw x (by rw [e]; simp) n)
  · rcases b.wr i x w with q | q
    · exact a.wr i x q
    · refine .inr ?_
      cases e : H x with
      | none => rfl
      | some o => exact absurd q (a.dom x (by rw [e]; simp))
  · exact (b.lkσ i ((a.lck i).mpr l)).trans (a.lkσ i l)
theorem Stp.keeps (e : EnvOk K M H σ env) (s : Stp pin M H σ env M' H' σ' env') : Keeps M H M' H' :=
  ⟨fun a o h n => s.heap a o h fun w => n (e.wr_m w), s.mold⟩
theorem Stp.weak {pin' : Nat → Bool} (h : ∀ i, pin' i = true → pin i = true) (s : Stp pin M H σ env M' H' σ' env') : Stp pin' M H σ env M' H' σ' env' :=
  ⟨s.heap, s.dom, s.mold, s.mkeep, s.wr, s.lck, s.lkσ, fun i p => s.pinσ i (h i p), fun i p => s.pinS i (h i p)⟩
end
end Z
namespace Z
open PySem PySem.Spec PyProof.Rows L2
abbrev allP : Nat → Bool := fun _ => true
/-- a value that comes: frozen, or a new list that nobody holds -/
def Res (K : PySem.W.Frag) (M' : Mk) (H' : Hp) (σ : L2.St) (env' : En) (H : Hp) (d : D) (fr : Bool) (v : V) : Prop := match fr with
  | false => Rep K M' H' d v
  | true => ∃ ds a xs, d = .lst ds ∧ v = .ref a ∧ H a = none ∧ M' a ∧ H' a = some (.lst xs) ∧ Reps K M' H' ds xs ∧ ∀ i, ¬ Held σ env' i a
section
variable {K : PySem.W.Frag} {pin : Nat → Bool} {M M' M1 M2 : Mk} {H H' H1 H2 : Hp} {σ σ' σ1 σ2 : L2.St} {env env' env1 env2 : En}
/-- what nobody holds is let go -/
theorem EnvOk.drop (e : EnvOk K M H σ env) (a : Addr) (h : ∀ i, ¬ Held σ env i a) : EnvOk K (fun b => M b ∧ b ≠ a) H σ env :=
  ⟨e.len, fun i d m hi => by
    obtain ⟨v, h1, h2⟩ := e.slot i d m hi
    refine ⟨v, h1, h2.keeps e.mok ⟨fun _ _ q _ => q, fun _ _ z => z.1⟩ fun hm b eb => ⟨⟨e.held_m ⟨d, m, hm, hi, by rw [h1, eb]⟩, fun z => ?_⟩, fun _ q => q⟩⟩
    subst eb
    subst z
    exact h i ⟨d, m, hm, hi, h1⟩, e.apart, fun b z => e.mok b z.1⟩
theorem Stp.drop (mok : ∀ a, M a → ∃ xs, H a = some (.lst xs)) (s : Stp pin M H σ env M' H' σ' env') {a : Addr} (h : H a = none ∨ Wr σ env a) : Stp pin M H σ env (fun b => M' b ∧ b ≠ a) H' σ' env' :=
  ⟨s.heap, s.dom, fun b n z => s.mold b n z.1, fun b m n => ⟨s.mkeep b m n, fun z => by
    subst z
    rcases h with h | h
    · obtain ⟨ys, q⟩ := mok b m
      rw [h] at q
      cases q
    · exact n h⟩, s.wr, s.lck, s.lkσ, s.pinσ, s.pinS⟩
theorem Res.freeze {d : D} {fr : Bool} {v : V} (e : EnvOk K M H σ env) (e' : EnvOk K M' H' σ' env') (s : Stp pin M H σ env M' H' σ' env') (r : Res K M' H' σ' env' H d fr v) :
    ∃ M2, EnvOk K M2 H' σ' env' ∧ Stp pin M H σ env M2 H' σ' env' ∧ Rep K M2 H' d v := by
  cases fr with
  | false => exact ⟨M', e', s, r⟩
  | true =>
    obtain ⟨ds, a, xs, rfl, rfl, h0, hm, h1, h2, h3⟩ := r
    exact ⟨_, e'.drop a h3, s.drop e.mok (.inl h0), .lst h1 (fun z => z.2 rfl) (h2.keeps e'.mok ⟨fun _ _ q _ => q, fun _ _ z => z.1⟩)⟩
/-- a result seen from further back -/
theorem Res.back {d : D} {fr : Bool} {v : V} {env0 : En} {σ0 : L2.St} {M0 : Mk} {H0 : Hp} (s : Stp pin M0 H0 σ0 env0 M H σ env) (r : Res K M' H' σ' env' H d fr v) : Res K M' H' σ' env' H0 d fr v := by
  cases fr with
  | false => exact r
  | true =>
    obtain ⟨ds, a, xs, e1, e2, h0, hr⟩ := r
    refine ⟨ds, a, xs, e1, e2, ?_, hr⟩
    cases q : H0 a with
    | none => rfl
    | some o => exact absurd h0 (s.dom a (by rw [q]; simp))
theorem set_get {α : Type} {l : List α} {i j : Nat} {x y : α} (h : (l.set i x)[j]? = some y) : (i = j ∧ x = y ∧ i < l.length) ∨ (i ≠ j ∧ l[j]? = some y) := by
  by_cases e : i = j
  · subst e
    by_cases hl : i < l.length
    · rw [List.getElem?_set_self hl] at h
      exact .inl ⟨rfl, Option.some.inj h, hl⟩
    · rw [List.getElem?_eq_none (by simpa using hl)] at h
      cases h
  · rw [List.getElem?_set_ne e] at h
    exact .inr ⟨e, h⟩
theorem lt_of_get {α : Type} {l : List α} {i : Nat} {x : α} (h : l[i]? = some x) : i < l.length := (List.getElem?_eq_some_iff.mp h).1
/-- a name is read, to be kept -/
theorem getV_ok {i : Nat} {d : D} {fr : Bool} (e : EnvOk K M H σ env) (h : getV i env = .ok (d, fr) env') :
    ∃ v, σ[i]? = some (some v) ∧ fr = false ∧ ∃ M', EnvOk K M' H σ env' ∧ Stp allP M H σ env M' H σ env' ∧ Rep K M' H d v := by
  unfold getV at h
  split at h
  · rename_i d' q
    cases h
    obtain ⟨v, h1, h2⟩ := e.slot i d .frz q
    exact ⟨v, h1, rfl, M, e, .refl, h2⟩
  · rename_i d' q
    cases h
    obtain ⟨v, h1, ds, a, xs, rfl, rfl, h2, h3, h4⟩ := e.slot i d .own q
    have hO : OwnAt σ env i a := ⟨_, q, h1⟩
    have hl := lt_of_get q
    have kp : Keeps M H (fun b => M b ∧ b ≠ a) H := ⟨fun _ _ q _ => q, fun _ _ z => z.1⟩
    have rp : Rep K (fun b => M b ∧ b ≠ a) H (.lst ds) (.ref a) := .lst h3 (fun z => z.2 rfl) (h4.keeps e.mok kp)
    refine ⟨.ref a, h1, rfl, _, ⟨by rw [List.length_set]; exact e.len, fun j d m hj => ?_, fun j k b hn ho hh => ?_, fun b z => e.mok b z.1⟩, ⟨fun _ _ h _ => h, fun _ h => h, fun _ _ z => z.1, fun b m n => ⟨m, fun z => n ⟨i, z ▸ hO⟩⟩, fun j b w => ?_, fun j => ⟨?_, ?_⟩, fun _ _ => rfl, fun _ _ => rfl, fun j _ hj => ?_⟩, rp⟩
    · rcases set_get hj with ⟨rfl, z, _⟩ | ⟨n, hj⟩
      · cases z
        exact ⟨_, h1, rp⟩
      · obtain ⟨v, g1, g2⟩ := e.slot j d m hj
        refine ⟨v, g1, g2.keeps e.mok kp fun hm b eb => ⟨⟨e.held_m ⟨d, m, hm, hj, by rw [g1, eb]⟩, fun z => ?_⟩, fun _ q => q⟩⟩
        subst eb
        subst z
        exact e.apart i j b n hO ⟨d, m, hm, hj, g1⟩
    · obtain ⟨d1, g1, g2⟩ := ho
      rcases set_get g1 with ⟨rfl, z, _⟩ | ⟨n1, g1⟩
      · cases z
      · obtain ⟨d2, m2, hm2, g3, g4⟩ := hh
        rcases set_get g3 with ⟨rfl, z, _⟩ | ⟨n2, g3⟩
        · cases z
          exact hm2 rfl
        · exact e.apart j k b hn ⟨d1, g1, g2⟩ ⟨d2, m2, hm2, g3, g4⟩
    · obtain ⟨d1, g1, g2⟩ := w
      rcases set_get g1 with ⟨rfl, z, _⟩ | ⟨n1, g1⟩
      · cases z
      · exact .inl ⟨d1, g1, g2⟩
    · rintro ⟨d1, g1⟩
      rcases set_get g1 with ⟨rfl, z, _⟩ | ⟨n1, g1⟩
      · cases z
      · exact ⟨d1, g1⟩
    · rintro ⟨d1, g1⟩
      refine ⟨d1, ?_⟩
      rw [List.getElem?_set_ne (fun z => by subst z; rw [q] at g1; cases g1)]
      exact g1
    · obtain ⟨t, ht⟩ := hj
      by_cases z : i = j
      · subst z
        exact ⟨_, List.getElem?_set_self hl⟩
      · exact ⟨t, by rw [List.getElem?_set_ne z]; exact ht⟩
  · cases h
/-- more stands in the heap -/
theorem Stp.grow (e : EnvOk K M H σ env) (hH : ∀ a o, H a = some o → H' a = some o) (h1 : ∀ a, H a ≠ none → M' a → M a) (h2 : ∀ a, M a → M' a) : Stp allP M H σ env M' H' σ env :=
  ⟨fun a o h _ => hH a o h, fun a n => by
    cases q : H a with
    | none => exact absurd q n
    | some o => rw [hH a o q]; simp, h1, fun a m _ => h2 a m, fun _ _ h => .inl h, fun _ => Iff.rfl, fun _ _ => rfl, fun _ _ => rfl, fun _ _ h => h⟩
theorem upd_up {p : Addr} {o : HO} (hp : H p = none) : ∀ a u, H a = some u → upd H p o a = some u := fun a u h => by
  rw [upd_ne (ne_of_none h hp)]
  exact h
theorem alloc_tup {p : Addr} {xs : List V} {ds : List D} (e : EnvOk K M H σ env) (hp : H p = none) (r : Reps K M H ds xs) :
    EnvOk K M (upd H p (.tup xs)) σ env ∧ Stp allP M H σ env M (upd H p (.tup xs)) σ env ∧ Rep K M (upd H p (.tup xs)) (.tup ds) (.ref p) := by
  have k : Keeps M H M (upd H p (.tup xs)) := keeps_upd hp M fun a h => .inl h
  refine ⟨e.more k (fun _ h => h) (upd_up hp) fun a h => ?_, .grow e (upd_up hp) (fun _ _ h => h) fun _ h => h, .tup (.inl (.inl upd_same)) (r.keeps e.mok k)⟩
  obtain ⟨ys, q⟩ := e.mok a h
  exact ⟨ys, upd_up hp _ _ q⟩
theorem alloc_lst {p : Addr} {xs : List V} {ds : List D} (e : EnvOk K M H σ env) (hp : H p = none) (r : Reps K M H ds xs) :
    EnvOk K (fun b => M b ∨ b = p) (upd H p (.lst xs)) σ env ∧ Stp allP M H σ env (fun b => M b ∨ b = p) (upd H p (.lst xs)) σ env ∧ Res K (fun b => M b ∨ b = p) (upd H p (.lst xs)) σ env H (.lst ds) true (.ref p) := by
  have k : Keeps M H (fun b => M b ∨ b = p) (upd H p (.lst xs)) := keeps_upd hp _ fun a h => h
  refine ⟨e.more k (fun _ h => .inl h) (upd_up hp) fun a h => ?_, .grow e (upd_up hp) (fun a n h => h.elim id fun z => by rw [z] at n; exact absurd hp n) fun _ h => .inl h, ⟨ds, p, xs, rfl, rfl, hp, .inr rfl, upd_same, r.keeps e.mok k, fun i hh => ?_⟩⟩
  · rcases h with h | rfl
    · obtain ⟨ys, q⟩ := e.mok a h
      exact ⟨ys, upd_up hp _ _ q⟩
    · exact ⟨xs, upd_same⟩
  · obtain ⟨ys, q⟩ := e.mok p (e.held_m hh)
    rw [hp] at q
    cases q
end
def RZ (K : PySem.W.Frag) (M : Mk) (H : Hp) (σ : L2.St) (env : En) (o : Out (D × Bool)) (Q : VK) : Prop := match o with
  | .ok x env' => ∀ M' H' v, EnvOk K M' H' σ env' → Stp allP M H σ env M' H' σ env' → Res K M' H' σ env' H x.1 x.2 v → Q v H'
  | _ => False
def tZ (K : PySem.W.Frag) (f : Zm (D × Bool)) : TE := fun σ H Q => ∃ M env, EnvOk K M H σ env ∧ RZ K M H σ env (f env) Q
def Fil1 (K : PySem.W.Frag) (M : Mk) (H : Hp) (σ : L2.St) : PV → V → Prop
  | .val d, v => Rep K M H d v
  | .at i, v => σ[i]? = some (some v)
def RP (K : PySem.W.Frag) (M : Mk) (H : Hp) (σ : L2.St) (env : En) (o : Out PV) (Q : VK) : Prop := match o with
  | .ok p env' => ∀ M' H' v, EnvOk K M' H' σ env' → Stp allP M H σ env M' H' σ env' → Fil1 K M' H' σ p v → Q v H'
  | _ => False
def tP (K : PySem.W.Frag) (f : Zm PV) : TE := fun σ H Q => ∃ M env, EnvOk K M H σ env ∧ RP K M H σ env (f env) Q
inductive Fils (K : PySem.W.Frag) (M : Mk) (H : Hp) (σ : L2.St) : List PV → List V → Prop
  | nil : Fils K M H σ [] []
  | cons {p : PV} {ps : List PV} {v : V} {vs : List V} : Fil1 K M H σ p v → Fils K M H σ ps vs → Fils K M H σ (p :: ps) (v :: vs)
def tPs (K : PySem.W.Frag) (f : Zm (List PV)) : TA := fun σ H Q => ∃ M env, EnvOk K M H σ env ∧ match f env with
  | .ok l env' => ∀ M' H' vs, EnvOk K M' H' σ env' → Stp allP M H σ env M' H' σ env' → Fils K M' H' σ l vs → Q vs H'
  | _ => False
def tDs (K : PySem.W.Frag) (f : Zm (List D)) : TA := fun σ H Q => ∃ M env, EnvOk K M H σ env ∧ match f env with
  | .ok l env' => ∀ M' H' vs, EnvOk K M' H' σ env' → Stp allP M H σ env M' H' σ env' → Reps K M' H' l vs → Q vs H'
  | _ => False
def tB (K : PySem.W.Frag) (f : Zm Bool) : TT := fun σ H Q => ∃ M env, EnvOk K M H σ env ∧ match f env with
  | .ok b env' => ∀ M' H', EnvOk K M' H' σ env' → Stp allP M H σ env M' H' σ env' → Q b H'
  | _ => False
theorem PE.imp {X : Cx} {e : Expr} {t t' : TE} (h : PE X e t) (i : ∀ σ H Q, t' σ H Q → t σ H Q) : PE X e t' := ⟨fun pins s σ H Q I hw => h.run pins s σ H Q I (i σ H Q hw)⟩
theorem PT.imp {X : Cx} {e : Expr} {t t' : TT} (h : PT X e t) (i : ∀ σ H Q, t' σ H Q → t σ H Q) : PT X e t' := ⟨fun pins s σ H Q I hw => h.run pins s σ H Q I (i σ H Q hw)⟩
theorem PW.imp {X : Cx} {e : Expr} {t t' : TT} (h : PW X e t) (i : ∀ σ H Q, t' σ H Q → t σ H Q) : PW X e t' := ⟨fun wh pins s σ H Q I hw => h.run wh pins s σ H Q I (i σ H Q hw)⟩
theorem PA.imp {X : Cx} {es : List Expr} {t t' : TA} (h : PA X es t) (i : ∀ σ H Q, t' σ H Q → t σ H Q) : PA X es t' := ⟨fun pos pins s σ H Q I hw => h.run pos pins s σ H Q I (i σ H Q hw)⟩
theorem PS.imp {X : Cx} {st : Stmt} {t t' : TS} (h : PS X st t) (i : ∀ D σ H, t' D σ H → t D σ H) : PS X st t' := ⟨fun pins s σ H D I hw => h.run pins s σ H D I (i D σ H hw)⟩
theorem PSs.imp {X : Cx} {st : List Stmt} {t t' : TS} (h : PSs X st t) (i : ∀ D σ H, t' D σ H → t D σ H) : PSs X st t' := ⟨fun pins s σ H D I hw => h.run pins s σ H D I (i D σ H hw)⟩
theorem PI.imp {X : Cx} {tg it : Expr} {t t' : TI} (h : PI X tg it t) (i : ∀ σ H Q, t' σ H Q → t σ H Q) : PI X tg it t' := ⟨fun pins s σ H Q I hw => h.run pins s σ H Q I (i σ H Q hw)⟩
end Z
namespace Z
open PySem PySem.Spec PyProof.Rows L2
section
variable {K : PySem.W.Frag} {pin : Nat → Bool} {M M' M1 M2 : Mk} {H H' H1 H2 : Hp} {σ σ' σ1 σ2 : L2.St} {env env' env1 env2 : En} {d d1 d2 : D} {v v1 v2 : V} {fr : Bool} {Q : VK}
def AnyR (K : PySem.W.Frag) (M : Mk) (H : Hp) (d : D) (v : V) : Prop := ∃ m, SlotRep K M H d m v
theorem AnyR.of (h : Rep K M H d v) : AnyR K M H d v := ⟨.frz, h⟩
theorem AnyR.int {i : Int} (h : AnyR K M H (.int i) v) : v = .int i := by
  obtain ⟨m, h⟩ := h
  cases m with
  | frz => cases (show Rep K M H (.int i) v from h); rfl
  | own => obtain ⟨_, _, _, z, _⟩ := h; cases z
  | lck => obtain ⟨_, _, _, z, _⟩ := h; cases z
theorem AnyR.bl {i : Bool} (h : AnyR K M H (.bl i) v) : v = .bl i := by
  obtain ⟨m, h⟩ := h
  cases m with
  | frz => cases (show Rep K M H (.bl i) v from h); rfl
  | own => obtain ⟨_, _, _, z, _⟩ := h; cases z
  | lck => obtain ⟨_, _, _, z, _⟩ := h; cases z
theorem AnyR.str {i : Str} (h : AnyR K M H (.str i) v) : v = .str i := by
  obtain ⟨m, h⟩ := h
  cases m with
  | frz => cases (show Rep K M H (.str i) v from h); rfl
  | own => obtain ⟨_, _, _, z, _⟩ := h; cases z
  | lck => obtain ⟨_, _, _, z, _⟩ := h; cases z
theorem AnyR.non (h : AnyR K M H .non v) : v = .non := by
  obtain ⟨m, h⟩ := h
  cases m with
  | frz => cases (show Rep K M H .non v from h); rfl
  | own => obtain ⟨_, _, _, z, _⟩ := h; cases z
  | lck => obtain ⟨_, _, _, z, _⟩ := h; cases z
theorem AnyR.lst {ds : List D} (h : AnyR K M H (.lst ds) v) : ∃ a xs, v = .ref a ∧ H a = some (.lst xs) ∧ Reps K M H ds xs := by
  obtain ⟨m, h⟩ := h
  cases m with
  | frz => cases (show Rep K M H (.lst ds) v from h) with | lst h1 _ h3 => exact ⟨_, _, rfl, h1, h3⟩
  | own => obtain ⟨_, a, xs, z, e, _, h1, h2⟩ := h; cases z; exact ⟨a, xs, e, h1, h2⟩
  | lck => obtain ⟨_, a, xs, z, e, _, h1, h2⟩ := h; cases z; exact ⟨a, xs, e, h1, h2⟩
theorem AnyR.tup {ds : List D} (h : AnyR K M H (.tup ds) v) : ∃ a xs, v = .ref a ∧ SqT K H a xs ∧ Reps K M H ds xs := by
  obtain ⟨m, h⟩ := h
  cases m with
  | frz => cases (show Rep K M H (.tup ds) v from h) with | tup h1 h3 => exact ⟨_, _, rfl, h1, h3⟩
  | own => obtain ⟨_, _, _, z, _⟩ := h; cases z
  | lck => obtain ⟨_, _, _, z, _⟩ := h; cases z
theorem AnyR.rol {ds : List D} (h : AnyR K M H (.rol ds) v) : ∃ a xs, v = .ref a ∧ SqL K H a xs ∧ Reps K M H ds xs := by
  obtain ⟨m, h⟩ := h
  cases m with
  | frz => cases (show Rep K M H (.rol ds) v from h) with | rol h1 h3 => exact ⟨_, _, rfl, h1.sq, h3⟩
  | own => obtain ⟨_, _, _, z, _⟩ := h; cases z
  | lck => obtain ⟨_, _, _, z, _⟩ := h; cases z
theorem AnyR.fn {x : Str} (h : AnyR K M H (.fn x) v) : ∃ a, v = .ref a ∧ PySem.W.nsIn K mainGlobals x = some (some (.ref a)) := by
  obtain ⟨m, h⟩ := h
  cases m with
  | frz => cases (show Rep K M H (.fn x) v from h) with | fn h1 => exact ⟨_, rfl, h1⟩
  | own => obtain ⟨_, _, _, z, _⟩ := h; cases z
  | lck => obtain ⟨_, _, _, z, _⟩ := h; cases z
mutual
theorem Rep.dp : ∀ {d : D} {v : V}, Rep K M H d v → (toP d).canLay0 = true → Dp K H v (toP d)
  | _, _, .non, _ => .non
  | _, _, .bl b, _ => .bl b
  | _, _, .int b, _ => .int b
  | _, _, .str b, _ => .str b
  | _, _, .tup h r, c => .tup h (Reps.dp r (by simpa [toP, PyData.canLay0] using c))
  | _, _, .lst h _ r, c => .lst (.inl (.inl h)) (Reps.dp r (by simpa [toP, PyData.canLay0] using c))
  | _, _, .rol h r, c => by simp [toP, PyData.canLay0] at c
  | _, _, .fn h, c => by simp [toP, PyData.canLay0] at c
theorem Reps.dp : ∀ {ds : List D} {vs : List V}, Reps K M H ds vs → PyData.canLayAll0 (toPs ds) = true → DpAll K H vs (toPs ds)
  | _, _, .nil, _ => .nil
  | _, _, .cons h r, c => by
    simp only [toPs, PyData.canLayAll0, Bool.and_eq_true] at c
    exact .cons (Rep.dp h c.1) (Reps.dp r c.2)
end
theorem D.ok_can (h : d.ok = true) : (toP d).canLay0 = true := SeqAt.canLay_of_shaped h
theorem AnyR.dp (h : AnyR K M H d v) (o : d.ok = true) : Dp K H v (toP d) := by
  have c := D.ok_can o
  obtain ⟨m, h⟩ := h
  cases m with
  | frz => exact Rep.dp h c
  | own => obtain ⟨ds, a, xs, rfl, rfl, _, h1, h2⟩ := h; exact .lst (.inl (.inl h1)) (Reps.dp h2 (by simpa [toP, PyData.canLay0] using c))
  | lck => obtain ⟨ds, a, xs, rfl, rfl, _, h1, h2⟩ := h; exact .lst (.inl (.inl h1)) (Reps.dp h2 (by simpa [toP, PyData.canLay0] using c))
/-- what is wanted of a result -/
def Kont (K : PySem.W.Frag) (M : Mk) (H : Hp) (σ : L2.St) (env : En) (d : D) (fr : Bool) (Q : VK) : Prop :=
  ∀ M' H' v, EnvOk K M' H' σ env → Stp allP M H σ env M' H' σ env → Res K M' H' σ env H d fr v → Q v H'
theorem Kont.here (e : EnvOk K M H σ env) (k : Kont K M H σ env d false Q) (h : Rep K M H d v) : Q v H := k M H v e .refl h
theorem Kont.tup (e : EnvOk K M H σ env) {ds : List D} {xs : List V} (k : Kont K M H σ env (.tup ds) false Q) (r : Reps K M H ds xs) {p : Addr} (hp : H p = none) : Q (.ref p) (upd H p (.tup xs)) := by
  obtain ⟨h1, h2, h3⟩ := alloc_tup e hp r
  exact k _ _ _ h1 h2 h3
theorem Kont.lst (e : EnvOk K M H σ env) {ds : List D} {xs : List V} (k : Kont K M H σ env (.lst ds) true Q) (r : Reps K M H ds xs) {p : Addr} (hp : H p = none) : Q (.ref p) (upd H p (.lst xs)) := by
  obtain ⟨h1, h2, h3⟩ := alloc_lst e hp r
  exact k _ _ _ h1 h2 h3
theorem Reps.atI {ds : List D} {xs : List V} {i : Int} (r : Reps K M H ds xs) (h : L2.atI ds i = some d) : ∃ v, L2.atI xs i = some v ∧ Rep K M H d v := by
  unfold L2.atI at h ⊢
  rw [← r.length]
  cases e : ixN ds.length i with
  | none => rw [e] at h; cases h
  | some j =>
    rw [e] at h
    exact r.get h
theorem map_some {α β : Type} {o : Option α} {f : α → β} {b : β} (h : o.map f = some b) : ∃ a, o = some a ∧ f a = b := by
  cases o with
  | none => cases h
  | some a => exact ⟨a, rfl, Option.some.inj h⟩
theorem ite_some {α : Type} {c : Prop} [Decidable c] {a b : α} (h : (if c then some a else none) = some b) : c ∧ a = b := by
  split at h
  · rename_i hc; exact ⟨hc, Option.some.inj h⟩
  · cases h
abbrev P2T (K : PySem.W.Frag) (f : D → D → Option (D × Bool)) (r : R2) : Prop := ∀ {M : Mk} {H : Hp} {σ : L2.St} {env : En} {d1 d2 d : D} {fr : Bool} {v1 v2 : V} {Q : VK}, EnvOk K M H σ env → f d1 d2 = some (d, fr) → AnyR K M H d1 v1 → AnyR K M H d2 v2 → Kont K M H σ env d fr Q → r v1 v2 H Q
def rAddZ (K : PySem.W.Frag) : R2 := fun x y H Q => rI0 (fun i j => .int (i + j)) x y H Q ∨ rCat x y H Q ∨ rCatA K x y H Q ∨ ∃ i j, x = .str i ∧ y = .str j ∧ i.length + j.length ≤ sizeLine ∧ Q (.str (i ++ j)) H
theorem p_add : P2T K pAdd (rAddZ K) := by
  intro M H σ env d1 d2 d fr v1 v2 Q e h a1 a2 k
  cases d1 <;> cases d2 <;> try (simp [pAdd] at h; done)
  case int.int i j =>
    simp only [pAdd, Option.some.injEq, Prod.mk.injEq] at h
    obtain ⟨rfl, rfl⟩ := h
    exact .inl ⟨i, j, a1.int, a2.int, k.here e (.int _)⟩
  case str.str i j =>
    obtain ⟨hc, z⟩ := ite_some h
    cases z
    exact .inr (.inr (.inr ⟨i, j, a1.str, a2.str, hc, k.here e (.str _)⟩))
  case tup.tup xs ys =>
    obtain ⟨hc, z⟩ := ite_some h
    cases z
    obtain ⟨a, us, rfl, s1, r1⟩ := a1.tup
    obtain ⟨b, ws, rfl, s2, r2⟩ := a2.tup
    refine .inr (.inr (.inl ⟨a, b, us, ws, rfl, rfl, s1, s2, by rw [← r1.length, ← r2.length]; exact hc, fun z => ?_, fun _ z => ?_, fun _ _ p hp => k.tup e (r1.append r2) hp⟩))
    · subst z
      cases r1
      exact k.here e (.tup s2 r2)
    · subst z
      cases r2
      exact k.here e (by rw [List.append_nil]; exact .tup s1 r1)
  case lst.lst xs ys =>
    obtain ⟨hc, z⟩ := ite_some h
    cases z
    obtain ⟨a, us, rfl, s1, r1⟩ := a1.lst
    obtain ⟨b, ws, rfl, s2, r2⟩ := a2.lst
    exact .inr (.inl ⟨a, b, us, ws, rfl, rfl, s1, s2, by rw [← r1.length, ← r2.length]; exact hc, fun p hp => k.lst e (r1.append r2) hp⟩)
theorem p_sub : P2T K pSub (rI0 fun i j => .int (i - j)) := by
  intro M H σ env d1 d2 d fr v1 v2 Q e h a1 a2 k
  cases d1 <;> cases d2 <;> try (simp [pSub] at h; done)
  case int.int i j =>
    simp only [pSub, Option.some.injEq, Prod.mk.injEq] at h
    obtain ⟨rfl, rfl⟩ := h
    exact ⟨i, j, a1.int, a2.int, k.here e (.int _)⟩
def rMulZ : R2 := fun x y H Q => rI CMulZ (fun i j => .int (i * j)) x y H Q ∨ rRep x y H Q
theorem p_mul : P2T K pMul rMulZ := by
  intro M H σ env d1 d2 d fr v1 v2 Q e h a1 a2 k
  cases d1 <;> cases d2 <;> try (simp [pMul] at h; done)
  case int.int i j =>
    obtain ⟨hc, z⟩ := ite_some h
    cases z
    exact .inl ⟨i, j, a1.int, a2.int, hc, k.here e (.int _)⟩
  case lst.int xs n =>
    obtain ⟨hc, z⟩ := ite_some h
    cases z
    obtain ⟨a, us, rfl, s1, r1⟩ := a1.lst
    refine .inr ⟨a, n, us, rfl, a2.int, s1, hc.1, hc.2.1, by rw [← r1.length]; exact hc.2.2, fun p hp => k.lst e ?_ hp⟩
    generalize n.toNat = m
    induction m with
    | zero => exact .nil
    | succ m ih => rw [List.replicate_succ, List.replicate_succ, List.flatten_cons, List.flatten_cons]; exact r1.append ih
theorem p_fdiv : P2T K pFdiv (rI (fun _ j => j ≠ 0 ∧ j.natAbs.log2 < 9000) fun i j => .int (Int.fdiv i j)) := by
  intro M H σ env d1 d2 d fr v1 v2 Q e h a1 a2 k
  cases d1 <;> cases d2 <;> try (simp [pFdiv] at h; done)
  case int.int i j =>
    unfold pFdiv at h
    simp only at h
    split at h
    · rename_i hc
      cases h
      have hj := hc.1
      exact ⟨i, j, a1.int, a2.int, ⟨by omega, hc.2⟩, by show Q (.int (Int.fdiv i j)) H; rw [Int.fdiv_eq_ediv_of_nonneg i (by omega)]; exact k.here e (.int _)⟩
    · obtain ⟨hc, z⟩ := ite_some h
      cases z
      have hj := hc.1
      exact ⟨i, j, a1.int, a2.int, ⟨by omega, hc.2⟩, k.here e (.int _)⟩
theorem p_mod : P2T K pMod (rI (fun _ j => 0 < j) fun i j => .int (i % j)) := by
  intro M H σ env d1 d2 d fr v1 v2 Q e h a1 a2 k
  cases d1 <;> cases d2 <;> try (simp [pMod] at h; done)
  case int.int i j =>
    obtain ⟨hc, z⟩ := ite_some h
    cases z
    exact ⟨i, j, a1.int, a2.int, hc, k.here e (.int _)⟩
theorem p_pow : P2T K pPow (rI CPow fun i j => .int (i ^ j.toNat)) := by
  intro M H σ env d1 d2 d fr v1 v2 Q e h a1 a2 k
  cases d1 <;> cases d2 <;> try (simp [pPow] at h; done)
  case int.int i j =>
    obtain ⟨hc, z⟩ := ite_some h
    cases z
    exact ⟨i, j, a1.int, a2.int, hc, k.here e (.int _)⟩
theorem p_cmp (f : Int → Int → Bool) : P2T K (pCmp f) (rI0 fun i j => .bl (f i j)) := by
  intro M H σ env d1 d2 d fr v1 v2 Q e h a1 a2 k
  cases d1 <;> cases d2 <;> try (simp [pCmp] at h; done)
  case int.int i j =>
    simp only [pCmp, Option.some.injEq, Prod.mk.injEq] at h
    obtain ⟨rfl, rfl⟩ := h
    exact ⟨i, j, a1.int, a2.int, k.here e (.bl _)⟩
theorem p_isb : P2T K pIsb rIsB := by
  intro M H σ env d1 d2 d fr v1 v2 Q e h a1 a2 k
  cases d1 <;> cases d2 <;> try (simp [pIsb] at h; done)
  case bl.bl i j =>
    simp only [pIsb, Option.some.injEq, Prod.mk.injEq] at h
    obtain ⟨rfl, rfl⟩ := h
    exact ⟨i, j, a1.bl, a2.bl, k.here e (.bl _)⟩
theorem p_nisb : P2T K pNisb rNotB := by
  intro M H σ env d1 d2 d fr v1 v2 Q e h a1 a2 k
  cases d1 <;> cases d2 <;> try (simp [pNisb] at h; done)
  case bl.bl i j =>
    simp only [pNisb, Option.some.injEq, Prod.mk.injEq] at h
    obtain ⟨rfl, rfl⟩ := h
    exact ⟨i, j, a1.bl, a2.bl, k.here e (.bl _)⟩
theorem p_eq : P2T K (fun a b => if a.ok && b.ok then some (.bl (a.eqv b), false) else pEqS a b) (fun x y H Q => rEqD K x y H Q ∨ rEq x y H Q) := by
  intro M H σ env d1 d2 d fr v1 v2 Q e h a1 a2 k
  simp only at h
  split at h
  · rename_i hc
    cases h
    rw [Bool.and_eq_true] at hc
    exact .inl ⟨_, _, a1.dp hc.1, a2.dp hc.2, hc.1, hc.2, k.here e (.bl _)⟩
  · cases d1 <;> cases d2 <;> try (simp [pEqS] at h; done)
    case str.str x y hh =>
      cases h
      rw [a1.str, a2.str]
      refine .inr ⟨rfl, ?_⟩
      have := k.here e (.bl (decide (x = y)))
      simpa using this
theorem p_ne : P2T K (fun a b => if a.ok && b.ok then some (.bl (!a.eqv b), false) else pNeS a b) (fun x y H Q => rNeD K x y H Q ∨ rNe x y H Q) := by
  intro M H σ env d1 d2 d fr v1 v2 Q e h a1 a2 k
  simp only at h
  split at h
  · rename_i hc
    cases h
    rw [Bool.and_eq_true] at hc
    exact .inl ⟨_, _, a1.dp hc.1, a2.dp hc.2, hc.1, hc.2, k.here e (.bl _)⟩
  · cases d1 <;> cases d2 <;> try (simp [pNeS] at h; done)
    case str.str x y hh =>
      cases h
      rw [a1.str, a2.str]
      refine .inr ⟨rfl, ?_⟩
      have := k.here e (.bl (!decide (x = y)))
      simpa using this
theorem toPs_any {f : PyData → Bool} : ∀ ds : List D, (toPs ds).any f = ds.any fun z => f (toP z)
  | [] => rfl
  | d :: ds => by simp [toPs, toPs_any ds]
theorem p_in : P2T K (pIn false) (fun x y H Q => rInD K x y H Q ∨ rInTD K x y H Q) := by
  intro M H σ env d1 d2 d fr v1 v2 Q e h a1 a2 k
  cases d2 <;> try (simp [pIn] at h; done)
  case lst xs =>
    obtain ⟨hc, z⟩ := ite_some h
    cases z
    rw [Bool.and_eq_true] at hc
    refine .inl ⟨_, _, a1.dp hc.1, a2.dp hc.2, hc.1, hc.2, ?_⟩
    rw [toPs_any]
    exact k.here e (.bl _)
  case tup xs =>
    obtain ⟨hc, z⟩ := ite_some h
    cases z
    rw [Bool.and_eq_true] at hc
    refine .inr ⟨_, _, a1.dp hc.1, a2.dp hc.2, hc.1, hc.2, ?_⟩
    rw [toPs_any]
    exact k.here e (.bl _)
theorem p_notin : P2T K (pIn true) (fun x y H Q => rNotInD K x y H Q ∨ rNotInTD K x y H Q) := by
  intro M H σ env d1 d2 d fr v1 v2 Q e h a1 a2 k
  cases d2 <;> try (simp [pIn] at h; done)
  case lst xs =>
    obtain ⟨hc, z⟩ := ite_some h
    cases z
    rw [Bool.and_eq_true] at hc
    refine .inl ⟨_, _, a1.dp hc.1, a2.dp hc.2, hc.1, hc.2, ?_⟩
    rw [toPs_any]
    exact k.here e (.bl _)
  case tup xs =>
    obtain ⟨hc, z⟩ := ite_some h
    cases z
    rw [Bool.and_eq_true] at hc
    refine .inr ⟨_, _, a1.dp hc.1, a2.dp hc.2, hc.1, hc.2, ?_⟩
    rw [toPs_any]
    exact k.here e (.bl _)
def rIxZ (K : PySem.W.Frag) : R2 := fun x y H Q => rIxL K x y H Q ∨ rIxT K x y H Q
theorem p_ix : P2T K pIx (rIxZ K) := by
  intro M H σ env d1 d2 d fr v1 v2 Q e h a1 a2 k
  cases d1 <;> cases d2 <;> try (simp [pIx] at h; done)
  case lst.int xs i =>
    obtain ⟨y, h1, z⟩ := map_some h
    cases z
    obtain ⟨a, us, rfl, s1, r1⟩ := a1.lst
    obtain ⟨w, g1, g2⟩ := r1.atI h1
    exact .inl ⟨a, us, i, w, rfl, a2.int, .inl (.inl s1), g1, k.here e g2⟩
  case tup.int xs i =>
    obtain ⟨y, h1, z⟩ := map_some h
    cases z
    obtain ⟨a, us, rfl, s1, r1⟩ := a1.tup
    obtain ⟨w, g1, g2⟩ := r1.atI h1
    exact .inr ⟨a, us, i, w, rfl, a2.int, s1, g1, k.here e g2⟩
  case rol.int xs i =>
    obtain ⟨y, h1, z⟩ := map_some h
    cases z
    obtain ⟨a, us, rfl, s1, r1⟩ := a1.rol
    obtain ⟨w, g1, g2⟩ := r1.atI h1
    exact .inl ⟨a, us, i, w, rfl, a2.int, s1, g1, k.here e g2⟩
theorem cut_reps {ds : List D} {xs : List V} (lo hi : Option Int) (r : Reps K M H ds xs) : Reps K M H (cutD ds lo hi) (cutV xs lo hi) := by
  unfold cutD cutV
  rw [← r.length]
  exact (r.drop _).take _
def rSlZ (K : PySem.W.Frag) : V → Option Int → Option Int → Hp → VK → Prop := fun x lo hi H Q => rSlL K x lo hi H Q ∨ rSlA K x lo hi H Q
theorem cut_whole {xs : List V} {lo hi : Option Int} (h : HT.sIx xs.length 0 lo = 0 ∧ HT.sIx xs.length xs.length hi = xs.length) : cutV xs lo hi = xs := by
  unfold cutV
  rw [h.1, h.2]
  simp
theorem p_sl {lo hi : Option Int} (e : EnvOk K M H σ env) (h : pSl lo hi d1 = some (d, fr)) (a1 : AnyR K M H d1 v1) (k : Kont K M H σ env d fr Q) : rSlZ K v1 lo hi H Q := by
  cases d1 <;> try (simp [pSl] at h; done)
  case lst xs =>
    cases h
    obtain ⟨a, us, rfl, s1, r1⟩ := a1.lst
    exact .inl ⟨a, us, rfl, .inl (.inl s1), fun p hp => k.lst e (cut_reps lo hi r1) hp⟩
  case tup xs =>
    cases h
    obtain ⟨a, us, rfl, s1, r1⟩ := a1.tup
    refine .inr ⟨a, us, rfl, s1, fun w => k.here e (.tup s1 ?_), fun _ p hp => k.tup e (cut_reps lo hi r1) hp⟩
    have := cut_reps lo hi r1
    rw [cut_whole w] at this
    exact this
theorem p_isn (e : EnvOk K M H σ env) (h : some (D.bl (isNonD d1), false) = some (d, fr)) (a1 : AnyR K M H d1 v1) (k : Kont K M H σ env d fr Q) : Q (.bl (decide (v1 = .non))) H := by
  cases h
  have : decide (v1 = .non) = isNonD d1 := by
    cases d1 with
    | non => rw [a1.non]; rfl
    | bl _ => rw [a1.bl]; rfl
    | int _ => rw [a1.int]; rfl
    | str _ => rw [a1.str]; rfl
    | tup _ => obtain ⟨_, _, rfl, _⟩ := a1.tup; rfl
    | lst _ => obtain ⟨_, _, rfl, _⟩ := a1.lst; rfl
    | rol _ => obtain ⟨_, _, rfl, _⟩ := a1.rol; rfl
    | fn _ => obtain ⟨_, rfl, _⟩ := a1.fn; rfl
  rw [this]
  exact k.here e (.bl _)
theorem p_notn (e : EnvOk K M H σ env) (h : some (D.bl (!isNonD d1), false) = some (d, fr)) (a1 : AnyR K M H d1 v1) (k : Kont K M H σ env d fr Q) : Q (.bl (!decide (v1 = .non))) H := by
  cases h
  have : decide (v1 = .non) = isNonD d1 := by
    cases d1 with
    | non => rw [a1.non]; rfl
    | bl _ => rw [a1.bl]; rfl
    | int _ => rw [a1.int]; rfl
    | str _ => rw [a1.str]; rfl
    | tup _ => obtain ⟨_, _, rfl, _⟩ := a1.tup; rfl
    | lst _ => obtain ⟨_, _, rfl, _⟩ := a1.lst; rfl
    | rol _ => obtain ⟨_, _, rfl, _⟩ := a1.rol; rfl
    | fn _ => obtain ⟨_, rfl, _⟩ := a1.fn; rfl
  rw [this]
  exact k.here e (.bl _)
theorem p_neg (e : EnvOk K M H σ env) (h : pNeg d1 = some (d, fr)) (a1 : AnyR K M H d1 v1) (k : Kont K M H σ env d fr Q) : rU (fun i => .int (-i)) v1 H Q := by
  cases d1 <;> try (simp [pNeg] at h; done)
  case int i =>
    cases h
    exact ⟨i, a1.int, k.here e (.int _)⟩
theorem p_int (e : EnvOk K M H σ env) (h : pInt d1 = some (d, fr)) (a1 : AnyR K M H d1 v1) (k : Kont K M H σ env d fr Q) : (∃ i, [v1] = [.int i] ∧ Q (.int i) H) ∨ ∃ k, [v1] = [.bl k] ∧ Q (.int (if k then 1 else 0)) H := by
  cases d1 <;> try (simp [pInt] at h; done)
  case int i =>
    cases h
    exact .inl ⟨i, by rw [a1.int], k.here e (.int _)⟩
  case bl i =>
    cases h
    exact .inr ⟨i, by rw [a1.bl], k.here e (.int _)⟩
theorem p_abs (e : EnvOk K M H σ env) (h : pAbs d1 = some (d, fr)) (a1 : AnyR K M H d1 v1) (k : Kont K M H σ env d fr Q) : ∃ i, [v1] = [.int i] ∧ Q (.int (if i < 0 then -i else i)) H := by
  cases d1 <;> try (simp [pAbs] at h; done)
  case int i =>
    cases h
    exact ⟨i, by rw [a1.int], k.here e (.int _)⟩
/-- repr(..) of data -/
def rRepr (K : PySem.W.Frag) (vs : List V) (H : Hp) (Q : VK) : Prop := ∃ v d, vs = [v] ∧ Dp K H v d ∧ d.showable = true ∧ d.hasDict = false ∧ d.depth ≤ 60 ∧ d.shown.length ≤ sizeLine ∧ Q (.str d.shown) H
theorem call_reprD {X : Cx} (hg : X.A.guards = some []) (hu : X.A.units + 64 < cLine) : CallR X (.builtin "repr") (rRepr X.K) := by
  intro pins s σ H xs us Q I r h
  obtain ⟨v, d, rfl, hd, hs, hn, hdp, hz, q⟩ := h
  obtain ⟨u, rfl, r1⟩ := vals1 r
  obtain ⟨as, rd⟩ := Dp.reads I d v u hd r1
  cases rd with
  | none => exact PySem.P.repr_of_none ⟨.str _, H, I.tok _, ⟨_, rfl⟩, q⟩
  | bool b => exact PySem.P.repr_of_bool ⟨.str _, H, I.tok _, ⟨_, rfl⟩, q⟩
  | int i t => exact PySem.P.repr_of_int (by simpa [PyData.showable] using hs) ⟨.str _, H, I.tok _, ⟨_, rfl⟩, q⟩
  | str x t => exact PySem.P.repr_of_str ⟨.str _, H, I.tok _, ⟨_, rfl⟩, q⟩ hz
  | list h1 h2 h3 h4 => exact repr_of_reads' (.list h1 h2 h3 h4) hs (PyData.noDict_hsm hn) hg (by omega) (fun _ _ e => e) (fun h' u tk hk => ⟨.str _, H, I.kept hk, ⟨_, rfl⟩, q⟩) hz
  | tuple h1 h2 h3 h4 => exact repr_of_reads' (.tuple h1 h2 h3 h4) hs (PyData.noDict_hsm hn) hg (by omega) (fun _ _ e => e) (fun h' u tk hk => ⟨.str _, H, I.kept hk, ⟨_, rfl⟩, q⟩) hz
  | dict h1 h2 h3 h4 h5 => simp [PyData.hasDict] at hn
theorem p_repr (e : EnvOk K M H σ env) (h : pRepr d1 = some (d, fr)) (a1 : AnyR K M H d1 v1) (k : Kont K M H σ env d fr Q) : rRepr K [v1] H Q := by
  obtain ⟨hc, z⟩ := ite_some h
  cases z
  simp only [D.shw, Bool.and_eq_true, decide_eq_true_eq] at hc
  obtain ⟨⟨⟨h1, h2⟩, h3⟩, h4⟩ := hc
  refine ⟨_, _, rfl, a1.dp h1, h2, PyData.hasDict_of_canLay _ (SeqAt.canLay_of_shaped h1), h3, Nat.le_trans h4 (by rw [sizeLine_eq]; omega), k.here e (.str _)⟩
theorem reps_minI : ∀ {ds : List D} {us : List V} {ns : List Int}, Reps K M H ds us → intsOf ds = some ns → us = ns.map V.int
  | [], us, ns, r, h => by
    cases r
    cases h
    rfl
  | d :: ds, us, ns, r, h => by
    cases r with
    | cons r1 rr =>
      cases d <;> simp only [intsOf] at h <;> try (cases h; done)
      obtain ⟨ms, h1, z⟩ := map_some h
      cases z
      rw [reps_minI rr h1, List.map_cons, AnyR.int (.of r1)]
theorem minOf_ok : ∀ (is : List Int) (i : Int), minOf i is ∈ i :: is ∧ ∀ y ∈ i :: is, minOf i is ≤ y
  | [], i => ⟨by simp [minOf], fun y hy => by simp [minOf] at hy ⊢; omega⟩
  | j :: is, i => by
    have e : minOf i (j :: is) = minOf (if j < i then j else i) is := rfl
    obtain ⟨h1, h2⟩ := minOf_ok is (if j < i then j else i)
    rw [e]
    have h3 := h2 (if j < i then j else i) (by simp)
    by_cases c : j < i
    · simp only [if_pos c] at h1 h2 h3 ⊢
      refine ⟨List.mem_cons_of_mem _ h1, fun y hy => ?_⟩
      rcases List.mem_cons.mp hy with h | h
      · omega
      · exact h2 y h
    · simp only [if_neg c] at h1 h2 h3 ⊢
      refine ⟨?_, fun y hy => ?_⟩
      · rcases List.mem_cons.mp h1 with h | h
        · rw [h]
          exact List.mem_cons_self
        · exact List.mem_cons_of_mem _ (List.mem_cons_of_mem _ h)
      · rcases List.mem_cons.mp hy with h | h
        · omega
        · rcases List.mem_cons.mp h with h | h
          · omega
          · exact h2 y (List.mem_cons_of_mem _ h)
theorem p_min (e : EnvOk K M H σ env) (h : pMin d1 = some (d, fr)) (a1 : AnyR K M H d1 v1) (k : Kont K M H σ env d fr Q) : rMin K [v1] H Q := by
  cases d1 <;> try (simp [pMin] at h; done)
  case lst xs =>
    replace h : (match intsOf xs with | some (i :: is) => some (D.int (minOf i is), false) | _ => none) = some (d, fr) := h
    obtain ⟨a, us, rfl, s1, r1⟩ := a1.lst
    cases hi : intsOf xs with
    | none => rw [hi] at h; cases h
    | some l =>
      rw [hi] at h
      cases l with
      | nil => cases h
      | cons i is =>
        cases h
        have eu := reps_minI r1 hi
        subst eu
        obtain ⟨m1, m2⟩ := minOf_ok is i
        refine ⟨a, i :: is, rfl, .inl (.inl s1), by simp, fun m hm hle => ?_⟩
        have : m = minOf i is := by
          have q1 := hle _ m1
          have q2 := m2 m hm
          omega
        rw [this]
        exact k.here e (.int _)
theorem p_lrev (e : EnvOk K M H σ env) (h : pLrev d1 = some (d, fr)) (a1 : AnyR K M H d1 v1) (k : Kont K M H σ env d fr Q) : ∃ (a : Addr) (xs : List V), v1 = .ref a ∧ SqL K H a xs ∧ ∀ q, H q = none → Q (.ref q) (upd H q (.lst xs.reverse)) := by
  cases d1 <;> try (simp [pLrev] at h; done)
  case lst xs =>
    cases h
    obtain ⟨a, us, rfl, s1, r1⟩ := a1.lst
    exact ⟨a, us, rfl, .inl (.inl s1), fun q hq => k.lst e r1.reverse hq⟩
theorem p_len (e : EnvOk K M H σ env) (h : pLen d1 = some (d, fr)) (a1 : AnyR K M H d1 v1) (k : Kont K M H σ env d fr Q) : ∃ p ys, [v1] = [.ref p] ∧ (SqL K H p ys ∨ SqT K H p ys) ∧ Q (.int ys.length) H := by
  cases d1 <;> try (simp [pLen] at h; done)
  case lst xs =>
    cases h
    obtain ⟨a, us, rfl, s1, r1⟩ := a1.lst
    exact ⟨a, us, rfl, .inl (.inl (.inl s1)), by rw [← r1.length]; exact k.here e (.int _)⟩
  case tup xs =>
    cases h
    obtain ⟨a, us, rfl, s1, r1⟩ := a1.tup
    exact ⟨a, us, rfl, .inr s1, by rw [← r1.length]; exact k.here e (.int _)⟩
  case rol xs =>
    cases h
    obtain ⟨a, us, rfl, s1, r1⟩ := a1.rol
    exact ⟨a, us, rfl, .inl s1, by rw [← r1.length]; exact k.here e (.int _)⟩
theorem p_list (e : EnvOk K M H σ env) (h : pList d1 = some (d, fr)) (a1 : AnyR K M H d1 v1) (k : Kont K M H σ env d fr Q) : ∃ p ys, [v1] = [.ref p] ∧ (SqL K H p ys ∨ SqT K H p ys) ∧ ∀ l, H l = none → Q (.ref l) (upd H l (.lst ys)) := by
  cases d1 <;> try (simp [pList] at h; done)
  case lst xs =>
    cases h
    obtain ⟨a, us, rfl, s1, r1⟩ := a1.lst
    exact ⟨a, us, rfl, .inl (.inl (.inl s1)), fun p hp => k.lst e r1 hp⟩
  case tup xs =>
    cases h
    obtain ⟨a, us, rfl, s1, r1⟩ := a1.tup
    exact ⟨a, us, rfl, .inr s1, fun p hp => k.lst e r1 hp⟩
theorem p_gcd (e : EnvOk K M H σ env) (h : pGcd d1 d2 = some (d, fr)) (a1 : AnyR K M H d1 v1) (a2 : AnyR K M H d2 v2) (k : Kont K M H σ env d fr Q) : rGcd [v1, v2] H Q := by
  cases d1 <;> cases d2 <;> try (simp [pGcd] at h; done)
  case int.int i j =>
    cases h
    exact ⟨i, j, by rw [a1.int, a2.int], k.here e (.int _)⟩
def tyN : D → String
  | .non => "NoneType" | .bl _ => "bool" | .int _ => "int" | .str _ => "str" | .tup _ => "tuple" | .lst _ => "list" | .rol _ => "list" | .fn _ => "function"
theorem isiD_kit {T : Ty5} {b : Bool} (h : isiD d T = some b) : L2.kitB (tyN d) T.nm = some b := by
  cases d <;> cases T <;> first
    | (simp [isiD] at h; done)
    | (cases h; simp only [tyN, Ty5.nm]; decide +kernel)
theorem AnyR.ty (h : AnyR K M H d v) (n : ∀ ds, d ≠ .rol ds) (n2 : ∀ x, d ≠ .fn x) : TyX K H v (.type (tyN d)) := by
  cases d with
  | non => rw [h.non]; exact .base .non
  | bl _ => rw [h.bl]; exact .base (.bl _)
  | int _ => rw [h.int]; exact .base (.int _)
  | str _ => rw [h.str]; exact .base (.str _)
  | tup _ =>
    obtain ⟨a, us, rfl, s1, r1⟩ := h.tup
    rcases s1 with (s1 | ⟨o, s1⟩) | ⟨o, its, n, s1, s2, _⟩
    · exact .base (.tup s1)
    · exact .fTuple s1
    · exact .kTuple s1 s2
  | lst _ => obtain ⟨a, us, rfl, s1, r1⟩ := h.lst; exact .base (.lst s1)
  | rol ds => exact absurd rfl (n ds)
  | fn x => exact absurd rfl (n2 x)
theorem p_isi {T : Ty5} (e : EnvOk K M H σ env) (h : ((isiD d1 T).map fun b => (D.bl b, false)) = some (d, fr)) (a1 : AnyR K M H d1 v1) (k : Kont K M H σ env d fr Q) : rIsi K [v1, .ty T.nm] H Q := by
  obtain ⟨b, h1, z⟩ := map_some h
  cases z
  exact ⟨v1, .ty T.nm, .type (tyN d1), .type T.nm, b, rfl, .ty _, a1.ty (fun ds z => by subst z; cases T <;> cases h1) (fun ds z => by subst z; cases T <;> cases h1), kit_ty (isiD_kit h1), k.here e (.bl _)⟩
end
end Z
namespace Z
open PySem PySem.Spec PyProof.Rows L2
section
variable {K : PySem.W.Frag} {pin : Nat → Bool} {M M' M1 M2 : Mk} {H H' H1 H2 : Hp} {σ σ' σ1 σ2 : L2.St} {env env' env1 env2 : En} {d d1 d2 : D} {v v1 v2 : V} {fr : Bool} {Q : VK}
theorem Fil1.keeps (mok : ∀ a, M a → ∃ xs, H a = some (.lst xs)) (k : Keeps M H M' H') : ∀ {p : PV}, Fil1 K M H σ p v → Fil1 K M' H' σ p v
  | .val _, h => Rep.keeps mok k h
  | .at _, h => h
theorem Fils.keeps (mok : ∀ a, M a → ∃ xs, H a = some (.lst xs)) (k : Keeps M H M' H') : ∀ {ps : List PV} {vs : List V}, Fils K M H σ ps vs → Fils K M' H' σ ps vs
  | _, _, .nil => .nil
  | _, _, .cons h r => .cons (h.keeps mok k) (Fils.keeps mok k r)
/-- the value that an operand has at last -/
theorem fill1_any (e : EnvOk K M H σ env) {p : PV} (h : Fil1 K M H σ p v) (g : fill1 env p = some d) : AnyR K M H d v := by
  cases p with
  | val x => cases g; exact .of h
  | «at» i =>
    simp only [fill1] at g
    split at g
    · rename_i d' m q
      cases g
      obtain ⟨w, h1, h2⟩ := e.slot i _ m q
      have h : σ[i]? = some (some v) := h
      rw [h] at h1
      cases h1
      exact ⟨m, h2⟩
    · cases g
inductive AnyRs (K : PySem.W.Frag) (M : Mk) (H : Hp) : List D → List V → Prop
  | nil : AnyRs K M H [] []
  | cons {d : D} {ds : List D} {v : V} {vs : List V} : AnyR K M H d v → AnyRs K M H ds vs → AnyRs K M H (d :: ds) (v :: vs)
theorem fill_any (e : EnvOk K M H σ env) : ∀ {ps : List PV} {vs : List V} {ds : List D}, Fils K M H σ ps vs → fill env ps = some ds → AnyRs K M H ds vs
  | _, _, _, .nil, g => by cases g; exact .nil
  | p :: ps, _, ds, .cons h r, g => by
    simp only [fill] at g
    split at g
    · rename_i x xs g1 g2
      cases g
      exact .cons (fill1_any e h g1) (fill_any e r g2)
    · cases g
theorem lockOf_own {p : PV} {i : Nat} (h : lockOf env p = some i) : ∃ d, env[i]? = some (some (d, .own)) ∧ p = .at i := by
  cases p with
  | val x => cases h
  | «at» j =>
    simp only [lockOf] at h
    split at h
    · rename_i d q
      cases h
      exact ⟨d, q, rfl⟩
    · cases h
/-- an owned name -/
def OwnO (env : En) : Option Nat → Prop
  | some i => ∃ d, env[i]? = some (some (d, .own))
  | none => True
theorem lock_get {o : Option Nat} (h : OwnO env o) {j : Nat} {d : D} {m : Mo} (g : (lock o env)[j]? = some (some (d, m))) :
    (o = some j ∧ m = .lck ∧ env[j]? = some (some (d, .own))) ∨ (o ≠ some j ∧ env[j]? = some (some (d, m))) := by
  cases o with
  | none => exact .inr ⟨by simp, g⟩
  | some i =>
    obtain ⟨d', h⟩ := h
    simp only [lock, h] at g
    rcases set_get g with ⟨rfl, z, _⟩ | ⟨n, g⟩
    · cases z
      exact .inl ⟨rfl, rfl, h⟩
    · exact .inr ⟨fun z => n (Option.some.inj z), g⟩
theorem lock_len {o : Option Nat} : (lock o env).length = env.length := by
  unfold lock
  split
  · split
    · exact List.length_set
    · rfl
  · rfl
theorem unlock_len {o : Option Nat} : (unlock o env).length = env.length := by
  unfold unlock
  split
  · split
    · exact List.length_set
    · rfl
  · rfl
theorem lock_own {o : Option Nat} (h : OwnO env o) {i : Nat} {a : Addr} (g : OwnAt σ (lock o env) i a) : OwnAt σ env i a ∧ o ≠ some i := by
  obtain ⟨d, g1, g2⟩ := g
  rcases lock_get h g1 with ⟨_, z, _⟩ | ⟨n, g1⟩
  · cases z
  · exact ⟨⟨d, g1, g2⟩, n⟩
theorem lock_held {o : Option Nat} (h : OwnO env o) {i : Nat} {a : Addr} (g : Held σ (lock o env) i a) : Held σ env i a := by
  obtain ⟨d, m, hm, g1, g2⟩ := g
  rcases lock_get h g1 with ⟨_, z, g1⟩ | ⟨n, g1⟩
  · exact ⟨d, .own, by decide, g1, g2⟩
  · exact ⟨d, m, hm, g1, g2⟩
theorem EnvOk.lock {o : Option Nat} (e : EnvOk K M H σ env) (h : OwnO env o) : EnvOk K M H σ (lock o env) :=
  ⟨by rw [lock_len]; exact e.len, fun i d m g => by
    rcases lock_get h g with ⟨_, rfl, g'⟩ | ⟨_, g'⟩
    · exact e.slot i d .own g'
    · exact e.slot i d m g', fun i j a n g1 g2 => e.apart i j a n (lock_own h g1).1 (lock_held h g2), e.mok⟩
theorem lock_wr {o : Option Nat} (h : OwnO env o) {a : Addr} (g : Wr σ (lock o env) a) : Wr σ env a := by
  obtain ⟨i, g⟩ := g
  exact ⟨i, (lock_own h g).1⟩
/-- the locked list is not written -/
theorem lock_nowr {i : Nat} (e : EnvOk K M H σ env) {d : D} {a : Addr} (h : env[i]? = some (some (d, .own))) (hs : σ[i]? = some (some (.ref a))) : ¬ Wr σ (Z.lock (some i) env) a := fun ⟨j, g⟩ => by
  have q := lock_own (o := some i) ⟨d, h⟩ g
  exact e.apart i j a (fun z => q.2 (by rw [z])) ⟨d, h, hs⟩ q.1.held
theorem isl_lock {o : Option Nat} (h : OwnO env o) (j : Nat) : IsL (Z.lock o env) j ↔ (o = some j ∨ IsL env j) := by
  constructor
  · rintro ⟨d, g⟩
    rcases lock_get h g with ⟨z, _, _⟩ | ⟨_, g⟩
    · exact .inl z
    · exact .inr ⟨d, g⟩
  · rintro (z | ⟨d, g⟩)
    · subst z
      obtain ⟨d, h⟩ := h
      refine ⟨d, ?_⟩
      simp only [Z.lock, h]
      exact List.getElem?_set_self (lt_of_get h)
    · cases o with
      | none => exact ⟨d, g⟩
      | some i =>
        obtain ⟨d', h⟩ := h
        refine ⟨d, ?_⟩
        simp only [Z.lock, h]
        rw [List.getElem?_set_ne (fun z => by subst z; rw [h] at g; cases g)]
        exact g
theorem unlock_get {o : Option Nat} {j : Nat} {d : D} {m : Mo} (g : (unlock o env)[j]? = some (some (d, m))) :
    (o = some j ∧ m = .own ∧ ∃ m', env[j]? = some (some (d, m'))) ∨ (o ≠ some j ∧ env[j]? = some (some (d, m))) := by
  cases o with
  | none => exact .inr ⟨by simp, g⟩
  | some i =>
    simp only [unlock] at g
    split at g
    · rename_i d' m' q
      rcases set_get g with ⟨rfl, z, _⟩ | ⟨n, g⟩
      · cases z
        exact .inl ⟨rfl, rfl, m', q⟩
      · exact .inr ⟨fun z => n (Option.some.inj z), g⟩
    · rename_i q
      refine .inr ⟨fun z => ?_, g⟩
      cases z
      exact q _ _ g
/-- behind the loop the list is owned again -/
theorem unlock_ok {o : Option Nat} (e : EnvOk K M H σ env) (h : OwnO env o) (e2 : EnvOk K M2 H2 σ2 env2) (s : Stp pin M H σ (Z.lock o env) M2 H2 σ2 env2) :
    EnvOk K M2 H2 σ2 (unlock o env2) ∧ Stp pin M H σ env M2 H2 σ2 (unlock o env2) := by
  have keyL : ∀ i, o = some i → ∃ d d2 a, env[i]? = some (some (d, .own)) ∧ env2[i]? = some (some (d2, .lck)) ∧ σ[i]? = some (some (.ref a)) ∧ σ2[i]? = some (some (.ref a)) := fun i z => by
    subst z
    have l1 : IsL (Z.lock (some i) env) i := (isl_lock h i).mpr (.inl rfl)
    obtain ⟨d2, g2⟩ := (s.lck i).mpr l1
    obtain ⟨d, g⟩ := h
    obtain ⟨v, h1, ds, a, xs, _, rfl, _⟩ := e.slot i d .own g
    exact ⟨d, d2, a, g, g2, h1, by rw [s.lkσ i l1, h1]⟩
  have ownU : ∀ {j a}, OwnAt σ2 (unlock o env2) j a → (o = some j ∧ OwnAt σ env j a) ∨ (o ≠ some j ∧ OwnAt σ2 env2 j a) := fun {j a} g => by
    obtain ⟨d, g1, g2⟩ := g
    rcases unlock_get g1 with ⟨z, _, m', g1⟩ | ⟨n, g1⟩
    · obtain ⟨d0, d2, b, k1, k2, k3, k4⟩ := keyL j z
      rw [k4] at g2
      cases g2
      exact .inl ⟨z, d0, k1, k3⟩
    · exact .inr ⟨n, d, g1, g2⟩
  have heldU : ∀ {j a}, Held σ2 (unlock o env2) j a → Held σ2 env2 j a := fun {j a} g => by
    obtain ⟨d, m, hm, g1, g2⟩ := g
    rcases unlock_get g1 with ⟨z, _, m', g1⟩ | ⟨n, g1⟩
    · obtain ⟨d0, d2, b, k1, k2, k3, k4⟩ := keyL j z
      exact ⟨d2, .lck, by decide, k2, g2⟩
    · exact ⟨d, m, hm, g1, g2⟩
  refine ⟨⟨by rw [unlock_len]; exact e2.len, fun i d m g => ?_, fun i j a n g1 g2 => ?_, e2.mok⟩, ⟨fun a u g n => s.heap a u g fun w => n (lock_wr h w), s.dom, s.mold, fun a m n => s.mkeep a m fun w => n (lock_wr h w), fun j a g => ?_, fun j => ?_, fun j l => s.lkσ j ((isl_lock h j).mpr (.inr l)), s.pinσ, fun j p q => ?_⟩⟩
  · rcases unlock_get g with ⟨z, rfl, m', g⟩ | ⟨n, g⟩
    · obtain ⟨d0, d2, b, k1, k2, k3, k4⟩ := keyL i z
      rw [k2] at g
      cases g
      exact e2.slot i _ .lck k2
    · exact e2.slot i d m g
  · rcases ownU g1 with ⟨z, g1⟩ | ⟨n1, g1⟩
    · -- the unlocked one
      have g2' := heldU g2
      obtain ⟨d0, d2, b, k1, k2, k3, k4⟩ := keyL i z
      obtain ⟨d1, g11, g12⟩ := g1
      rw [k3] at g12
      cases g12
      obtain ⟨d3, m3, hm3, g3, g4⟩ := g2'
      cases m3 with
      | frz => exact hm3 rfl
      | own => exact e2.apart j i _ (Ne.symm n) ⟨d3, g3, g4⟩ ⟨d2, .lck, by decide, k2, k4⟩
      | lck =>
        have l2 := (s.lck j).mp ⟨d3, g3⟩
        have sj := s.lkσ j l2
        rcases (isl_lock h j).mp l2 with z2 | ⟨d4, l3⟩
        · rw [z] at z2
          exact n (Option.some.inj z2)
        · exact e.apart i j _ n ⟨d0, k1, k3⟩ ⟨d4, .lck, by decide, l3, by rw [← sj]; exact g4⟩
    · exact e2.apart i j a n g1 (heldU g2)
  · rcases ownU g with ⟨_, g⟩ | ⟨_, g⟩
    · exact .inl g
    · exact (s.wr j a g).imp (fun x => (lock_own h x).1) id
  · constructor
    · rintro ⟨d, g⟩
      rcases unlock_get g with ⟨_, z, _⟩ | ⟨n, g⟩
      · cases z
      · rcases (isl_lock h j).mp ((s.lck j).mp ⟨d, g⟩) with z | z
        · exact absurd z n
        · exact z
    · rintro l
      obtain ⟨d, g⟩ := (s.lck j).mpr ((isl_lock h j).mpr (.inr l))
      refine ⟨d, ?_⟩
      cases o with
      | none => exact g
      | some i =>
        obtain ⟨d0, d2, b, k1, k2, k3, k4⟩ := keyL i rfl
        obtain ⟨d5, l⟩ := l
        simp only [unlock, k2]
        rw [List.getElem?_set_ne (fun z => by subst z; rw [k1] at l; cases l)]
        exact g
  · have q2 : ∃ t, (Z.lock o env)[j]? = some (some t) := by
      obtain ⟨t, q⟩ := q
      cases o with
      | none => exact ⟨t, q⟩
      | some i =>
        obtain ⟨d', h⟩ := h
        simp only [Z.lock, h]
        by_cases z : i = j
        · subst z
          exact ⟨_, List.getElem?_set_self (lt_of_get h)⟩
        · exact ⟨t, by rw [List.getElem?_set_ne z]; exact q⟩
    obtain ⟨t, g⟩ := s.pinS j p q2
    cases o with
    | none => exact ⟨t, g⟩
    | some i =>
      obtain ⟨d0, d2, b, k1, k2, k3, k4⟩ := keyL i rfl
      simp only [unlock, k2]
      by_cases z : i = j
      · subst z
        exact ⟨_, List.getElem?_set_self (lt_of_get k2)⟩
      · exact ⟨t, by rw [List.getElem?_set_ne z]; exact g⟩
end
end Z
namespace Z
open PySem PySem.Spec PyProof.Rows L2
structure Tab where
  names : List Str
  fns : Nat → Option Fn
  gls : List (Str × D)
  gcd : Bool
  cmb : Bool
/-- the defs that are values: their indexes -/
def fnTb (T : Tab) : List (Str × Nat) := T.gls.filterMap fun p => match p.2 with
  | .fn y => (T.names.findIdx? (fun z => decide (z = y))).map fun j => (y, j)
  | _ => none
def slotOf (N : List Str) (x : Str) : Option Nat := N.findIdx? (fun y => decide (y = x))
def visB (sc : Scope) (x : Str) : Bool := (match sc.names.lookup x with | some .local => true | some .cell => true | some .free => true | _ => false) && !(x == ("__debug__" : Str)) && !(x == ("__classdict__" : Str))
def glB (sc : Scope) (x : Str) : Bool := (match sc.names.lookup x with | some .globalImplicit => true | _ => false) && !(x == ("__debug__" : Str)) && !(x == ("__name__" : Str))
def binP : Operator → Option Pr
  | .Add => some .add | .Sub => some .sub | .Mult => some .mul | .FloorDiv => some .fdiv | .Mod => some .mod | .Pow => some .pow | _ => none
def cmpP : CmpOp → Option Pr
  | .Eq => some .eq | .NotEq => some .ne | .Lt => some .lt | .LtE => some .le | .Gt => some .gt | .GtE => some .ge | .In => some .inn | .NotIn => some .notin | .Is => some .isb | .IsNot => some .nisb
def tyP (x : Str) : Option Ty5 :=
  if x = "tuple" then some .tuple else if x = "int" then some .int else if x = "bool" then some .bool else if x = "list" then some .list else if x = "str" then some .str else none
def allO {α : Type} : List (Option α) → Option (List α)
  | [] => some []
  | none :: _ => none
  | some a :: r => (allO r).map (a :: ·)
def isNone : Expr → Bool
  | .Constant .none _ _ => true
  | _ => false
/-- built-in functions of one argument -/
def prim1 (x : Str) : Option Pr := if x = "len" then some .len else if x = "abs" then some .abs else if x = "int" then some .int else if x = "list" then some .list else if x = "repr" then some .repr else if x = "min" then some .min else none
def ownOf (N : List Str) (scope : Scope) : Option (List (Str × Nat)) :=
  allO ((scope.names.filter fun y => match y.2 with | .local => true | .cell => true | _ => false).map fun y => (slotOf N y.1).map fun i => (y.1, i))
def nmOf (N : List Str) (sc : Scope) : Expr → Option Nat
  | .Name x _ => if visB sc x then (match sc.names.lookup x with | some .free => none | _ => slotOf N x) else none
  | _ => none
def tgOf (N : List Str) (sc : Scope) : Expr → Option IG
  | .Tuple es _ _ => (allO (es.map (nmOf N sc))).map .tp
  | e => (nmOf N sc e).map .nm
variable (T : Tab) (N : List Str)
def callV : Expr → Option (Str × List Expr)
  | .Call fn as kw _ => match fn, kw with
    | .Name f _, [] => some (f, as)
    | _, _ => none
  | _ => none
def isTup : Expr → Bool
  | .Tuple _ _ _ => true
  | _ => false
def nameV : Expr → Option Str
  | .Name x _ => some x
  | _ => none
def intV : Expr → Option Nat
  | .Constant (.int r) _ _ => if 0 ≤ r ∧ r ≤ 10 then some r.toNat else none
  | _ => none
/-- list(reversed(b)): the name of the inner call, b -/
def revV (f : Str) (a : Expr) : Option (Str × Expr) := if f = "list" then match callV a with
    | some (g, [b]) => if g = "reversed" then some (g, b) else none
    | _ => none
  else none
mutual
def cE : Nat → Scope → Expr → Option IE
  | 0, _, _ => none
  | n + 1, sc, e => match e with
    | .Name x _ => if visB sc x then (slotOf N x).map .var else if glB sc x then (T.gls.lookup x).map .cst else none
    | .Constant c _ _ => (match c with
      | .int i => some (.cst (.int i))
      | .bool i => some (.cst (.bl i))
      | .str i => some (.cst (.str i))
      | .none => some (.cst .non)
      | _ => none)
    | .BinOp a op b _ => (match binP op, cA n sc a, cA n sc b with
      | some p, some x, some y => some (.op p [x, y])
      | _, _, _ => none)
    | .UnaryOp op a _ => (match op with
      | .USub => (cA n sc a).map fun x => .op .neg [x]
      | .Not => (cE n sc a).map .not
      | _ => none)
    | .BoolOp op vs pos => (match vs with
      | [] => none
      | [a] => cE n sc a
      | a :: b :: r => match cE n sc a, cE n sc (.BoolOp op (b :: r) pos) with
        | some x, some y => some (match op with | .And => .and x y | .Or => .or x y)
        | _, _ => none)
    | .Compare a ops bs _ => (match ops, bs with
      | [op], [b] => match op with
        | .Is => if isNone b then (cA n sc a).map fun x => .op .isn [x] else match cA n sc a, cA n sc b with
          | some x, some y => some (.op .isb [x, y])
          | _, _ => none
        | .IsNot => if isNone b then (cA n sc a).map fun x => .op .notn [x] else match cA n sc a, cA n sc b with
          | some x, some y => some (.op .nisb [x, y])
          | _, _ => none
        | op => match cmpP op, cA n sc a, cA n sc b with
          | some p, some x, some y => some (.op p [x, y])
          | _, _, _ => none
      | [p, q], [b, c] => match cmpP p, cmpP q, cE n sc a, cE n sc b, cE n sc c with
        | some p, some q, some x, some y, some z => some (.chain p q x y z)
        | _, _, _, _, _ => none
      | _, _ => none)
    | .IfExp c a b _ => (match cT n sc c, cE n sc a, cE n sc b with
      | some x, some y, some z => some (.ife x y z)
      | _, _, _ => none)
    | .Call fn as kw _ => (match nameV fn, kw with
      | some f, [] => if glB sc f then match T.names.findIdx? (fun y => decide (y = f)) with
          | some j => (allO (as.map (cA n sc))).map (.call j)
          | none => match as with
            | [a] => match revV f a with
              | some (g, b) => if glB sc g then (cA n sc b).map fun x => .op .lrev [x] else none
              | none => match prim1 f, cA n sc a with
                | some p, some x => some (.op p [x])
                | _, _ => none
            | [a, b] => if f = "isinstance" then match nameV b with
                | some t => if glB sc t then match tyP t, cA n sc a with
                    | some ty, some x => some (.op (.isi ty) [x])
                    | _, _ => none
                  else none
                | none => none
              else if f = "gcd" ∧ T.gcd = true then match cA n sc a, cA n sc b with
                | some x, some y => some (.op .gcd [x, y])
                | _, _ => none
              else none
            | _ => none
        else if visB sc f then match slotOf N f, as with
          | some i, a :: r => (allO ((a :: r).map (cA n sc))).map (.callv i (fnTb T))
          | _, _ => none
        else none
      | _, _ => none)
    | .Tuple es _ _ => (allO (es.map (cE n sc))).map .tup
    | .List es _ => (allO (es.map (cE n sc))).map .lst
    | .Subscript a b _ => (match b with
      | .Slice lo hi st _ => match st with
        | some _ => none
        | none => match lo, hi with
          | some l, some h => match cA n sc a, cE n sc l, cE n sc h with
            | some x, some y, some z => some (.op (.sl true true) [x, .val y, .val z])
            | _, _, _ => none
          | some l, none => match cA n sc a, cE n sc l with
            | some x, some y => some (.op (.sl true false) [x, .val y])
            | _, _ => none
          | none, some h => match cA n sc a, cE n sc h with
            | some x, some y => some (.op (.sl false true) [x, .val y])
            | _, _ => none
          | none, none => (cA n sc a).map fun x => .op (.sl false false) [x]
      | b => match cA n sc a, cA n sc b with
        | some x, some y => some (.op .ix [x, y])
        | _, _ => none)
    | .ListComp elt gens scope _ => (match gens with
      | [g] => if g.is_async = 0 then match ownOf N scope, tgOf N scope g.target, cI n sc g.target g.iter, cE n (relS scope sc) elt with
          | some own, some gt, some src, some x => if blkC N sc scope own && tgIn (own.map (·.2)) gt then match g.ifs with
              | [] => some (.comp (own.map (·.2)) gt src [] x)
              | [c] => (cT n (relS scope sc) c).map fun y => .comp (own.map (·.2)) gt src [y] x
              | _ => none
            else none
          | _, _, _, _ => none
        else none
      | _ => none)
    | _ => none
def cA : Nat → Scope → Expr → Option IA
  | 0, _, _ => none
  | n + 1, sc, e => match nameV e with
    | some x => if visB sc x then (slotOf N x).map .at else (cE n sc e).map .val
    | none => (cE n sc e).map .val
def cT : Nat → Scope → Expr → Option IT
  | 0, _, _ => none
  | n + 1, sc, e => match e with
    | .UnaryOp op a _ => (match op with
      | .Not => (cT n sc a).map .not
      | _ => none)
    | .BoolOp op vs pos => (match vs with
      | [] => none
      | [a] => cT n sc a
      | a :: b :: r => match cT n sc a, cT n sc (.BoolOp op (b :: r) pos) with
        | some x, some y => some (match op with | .And => .and x y | .Or => .or x y)
        | _, _ => none)
    | .IfExp _ _ _ _ => none
    | e => (cA n sc e).map .val
def cI : Nat → Scope → Expr → Expr → Option II
  | 0, _, _, _ => none
  | n + 1, sc, tg, e => match callV e with
    | some (f, as) => if glB sc f ∧ f = "range" then
        match as with
        | [a] => (cE n sc a).map fun y => .range (.cst (.int 0)) y
        | [a, b] => match cE n sc a, cE n sc b with
          | some x, some y => some (.range x y)
          | _, _ => none
        | _ => none
      else if glB sc f ∧ f = "enumerate" then
        match as with
        | [a] => if isTup tg then (cA n sc a).map .enum else none
        | _ => none
      else if glB sc f ∧ f = "combinations" ∧ T.cmb = true then
        match as with
        | [a, b] => match intV b with
          | some r => match callV a with
            | some (g, [c]) => if glB sc g ∧ g = "range" then (cE n sc c).map fun y => .cmbR y r else none
            | some _ => none
            | none => (cA n sc a).map fun y => .cmb y r
          | none => none
        | _ => none
      else if glB sc f ∧ f = "reversed" then
        match as with
        | [a] => (cA n sc a).map .rev
        | _ => none
      else if glB sc f ∧ f = "zip" then
        match as with
        | [a, b] => if isTup tg then match cA n sc a, cA n sc b with
            | some x, some y => some (.zipt x y)
            | _, _ => none
          else none
        | _ => none
      else (cA n sc e).map .over
    | none => (cA n sc e).map .over
end
end Z
namespace Z
open PySem PySem.Spec PyProof.Rows L2
section
variable {K : PySem.W.Frag} {C : Cl} {pin : Nat → Bool} {M M' M1 M2 : Mk} {H H' H1 H2 : Hp} {σ σ' σ1 σ2 : L2.St} {env env' env1 env2 : En} {d d1 d2 : D} {v v1 v2 : V} {fr : Bool} {Q : VK}
theorem op1 {p : Pr} {x : IA} {R : V → Hp → VK → Prop}
    (pr : ∀ {M : Mk} {H : Hp} {σ : L2.St} {env : En} {d1 d : D} {fr : Bool} {v1 : V} {Q : VK}, EnvOk K M H σ env → prB p [d1] = some (d, fr) → AnyR K M H d1 v1 → Kont K M H σ env d fr Q → R v1 H Q)
    (h : tZ K (evE C (.op p [x])) σ H Q) : tP K (evA C x) σ H (fun v H1 => R v H1 Q) := by
  obtain ⟨M, env, e, h⟩ := h
  refine ⟨M, env, e, ?_⟩
  unfold RP
  cases hx : evA C x env with
  | bad => simp [evE, evAs, hx, RZ] at h
  | ex => simp [evE, evAs, hx, RZ] at h
  | ok p1 env1 =>
    intro M1 H1 v1 e1 s1 f1
    simp only [evE, evAs, hx, Out.bind_ok] at h
    cases hf : fill env1 [p1] with
    | none => rw [hf] at h; exact h.elim
    | some l =>
      rw [hf] at h
      have fa := fill_any e1 (.cons f1 .nil) hf
      cases fa with
      | cons a1 r =>
        cases r
        rename_i d1
        simp only at h
        cases hp : prB p [d1] with
        | none => rw [hp] at h; exact h.elim
        | some z =>
          obtain ⟨d, fr⟩ := z
          rw [hp] at h
          exact pr e1 hp a1 fun M' H' v e' s' r' => h M' H' v e' (s1.trans e.mok s') (r'.back s1)
theorem op2 {p : Pr} {x y : IA} {r : R2} (pr : P2T K (fun a b => prB p [a, b]) r) (h : tZ K (evE C (.op p [x, y])) σ H Q) : tOp r (tP K (evA C x)) (tP K (evA C y)) σ H Q := by
  obtain ⟨M, env, e, h⟩ := h
  refine ⟨M, env, e, ?_⟩
  unfold RP
  cases hx : evA C x env with
  | bad => simp [evE, evAs, hx, RZ] at h
  | ex => simp [evE, evAs, hx, RZ] at h
  | ok p1 env1 =>
    intro M1 H1 v1 e1 s1 f1
    refine ⟨M1, env1, e1, ?_⟩
    unfold RP
    cases hy : evA C y env1 with
    | bad => simp [evE, evAs, hx, hy, RZ] at h
    | ex => simp [evE, evAs, hx, hy, RZ] at h
    | ok p2 env2 =>
      intro M2 H2 v2 e2 s2 f2
      simp only [evE, evAs, hx, hy, Out.bind_ok] at h
      have f1' := f1.keeps e1.mok (s2.keeps e1)
      have s12 := s1.trans e.mok s2
      cases hf : fill env2 [p1, p2] with
      | none => rw [hf] at h; exact h.elim
      | some l =>
        rw [hf] at h
        have fa := fill_any e2 (.cons f1' (.cons f2 .nil)) hf
        cases fa with
        | cons a1 r =>
          cases r with
          | cons a2 r =>
            cases r
            rename_i d1 d2
            simp only at h
            cases hp : prB p [d1, d2] with
            | none => rw [hp] at h; exact h.elim
            | some z =>
              obtain ⟨d, fr⟩ := z
              rw [hp] at h
              exact pr e2 hp a1 a2 fun M' H' v e' s' r' => h M' H' v e' (s12.trans e.mok s') (r'.back s12)
/-- an operand from an expression -/
theorem p_of_z {x : IE} (h : tP K (evA C (.val x)) σ H Q) : tZ K (evE C x) σ H Q := by
  obtain ⟨M, env, e, h⟩ := h
  refine ⟨M, env, e, ?_⟩
  unfold RZ
  simp only [evA] at h
  cases hx : evE C x env with
  | bad => rw [hx] at h; exact h.elim
  | ex => rw [hx] at h; exact h.elim
  | ok z env1 =>
    rw [hx] at h
    intro M1 H1 v1 e1 s1 r1
    obtain ⟨M2, e2, s2, r2⟩ := r1.freeze e e1 s1
    exact h M2 H1 v1 e2 s2 r2
theorem p_of_at {i : Nat} (h : tP K (evA C (.at i)) σ H Q) : tVar i σ H Q := by
  obtain ⟨M, env, e, h⟩ := h
  simp only [evA, peek] at h
  split at h
  · rename_i t q
    obtain ⟨d, m⟩ := t
    obtain ⟨v, h1, _⟩ := e.slot i d m q
    exact ⟨v, h1, h M H v e .refl h1⟩
  · exact h.elim
theorem z_of_var {i : Nat} (h : tZ K (evE C (.var i)) σ H Q) : tVar i σ H Q := by
  obtain ⟨M, env, e, h⟩ := h
  simp only [evE] at h
  cases hx : getV i env with
  | bad => rw [hx] at h; exact h.elim
  | ex => rw [hx] at h; exact h.elim
  | ok z env1 =>
    obtain ⟨d, fr⟩ := z
    obtain ⟨v, h1, rfl, M', h2, h3, h4⟩ := getV_ok e hx
    rw [hx] at h
    exact ⟨v, h1, h M' H v h2 h3 h4⟩
theorem es_tcons {x : IE} {xs : List IE} {Q : List V → Hp → Prop} (h : tDs K (evEs C (x :: xs)) σ H Q) : tCons (tZ K (evE C x)) (tDs K (evEs C xs)) σ H Q := by
  obtain ⟨M, env, e, h⟩ := h
  refine ⟨M, env, e, ?_⟩
  unfold RZ
  simp only [evEs] at h
  cases hx : evE C x env with
  | bad => rw [hx] at h; exact h.elim
  | ex => rw [hx] at h; exact h.elim
  | ok z env1 =>
    rw [hx] at h
    simp only [Out.bind_ok] at h
    intro M1 H1 v1 e1 s1 r1
    obtain ⟨M2, e2, s2, r2⟩ := r1.freeze e e1 s1
    refine ⟨M2, env1, e2, ?_⟩
    cases hy : evEs C xs env1 with
    | bad => rw [hy] at h; exact h.elim
    | ex => rw [hy] at h; exact h.elim
    | ok l env2 =>
      rw [hy] at h
      intro M3 H3 vs e3 s3 r3
      exact h M3 H3 (v1 :: vs) e3 (s2.trans e.mok s3) (.cons (r2.keeps e2.mok (s3.keeps e2)) r3)
theorem es_tnil {Q : List V → Hp → Prop} (h : tDs K (evEs C []) σ H Q) : tNil σ H Q := by
  obtain ⟨M, env, e, h⟩ := h
  simp only [evEs] at h
  exact h M H [] e .refl .nil
theorem as_tcons {x : IA} {xs : List IA} {Q : List V → Hp → Prop} (h : tPs K (evAs C (x :: xs)) σ H Q) : tCons (tP K (evA C x)) (tPs K (evAs C xs)) σ H Q := by
  obtain ⟨M, env, e, h⟩ := h
  refine ⟨M, env, e, ?_⟩
  unfold RP
  simp only [evAs] at h
  cases hx : evA C x env with
  | bad => rw [hx] at h; exact h.elim
  | ex => rw [hx] at h; exact h.elim
  | ok z env1 =>
    rw [hx] at h
    simp only [Out.bind_ok] at h
    intro M1 H1 v1 e1 s1 r1
    refine ⟨M1, env1, e1, ?_⟩
    cases hy : evAs C xs env1 with
    | bad => rw [hy] at h; exact h.elim
    | ex => rw [hy] at h; exact h.elim
    | ok l env2 =>
      rw [hy] at h
      intro M3 H3 vs e3 s3 r3
      exact h M3 H3 (v1 :: vs) e3 (s1.trans e.mok s3) (.cons (r1.keeps e1.mok (s3.keeps e1)) r3)
theorem as_tnil {Q : List V → Hp → Prop} (h : tPs K (evAs C []) σ H Q) : tNil σ H Q := by
  obtain ⟨M, env, e, h⟩ := h
  simp only [evAs] at h
  exact h M H [] e .refl .nil
theorem z_tup {xs : List IE} (h : tZ K (evE C (.tup xs)) σ H Q) : tTup (tDs K (evEs C xs)) σ H Q := by
  obtain ⟨M, env, e, h⟩ := h
  refine ⟨M, env, e, ?_⟩
  simp only [evE] at h
  cases hx : evEs C xs env with
  | bad => rw [hx] at h; exact h.elim
  | ex => rw [hx] at h; exact h.elim
  | ok l env1 =>
    rw [hx] at h
    simp only [Out.bind_ok] at h
    intro M1 H1 vs e1 s1 r1
    split at h
    · rename_i hl
      refine ⟨by rw [← r1.length]; exact hl, fun p hp => ?_⟩
      obtain ⟨g1, g2, g3⟩ := alloc_tup e1 hp r1
      exact h _ _ _ g1 (s1.trans e.mok g2) g3
    · exact h.elim
theorem z_lst {xs : List IE} (h : tZ K (evE C (.lst xs)) σ H Q) : tLst (tDs K (evEs C xs)) σ H Q := by
  obtain ⟨M, env, e, h⟩ := h
  refine ⟨M, env, e, ?_⟩
  simp only [evE] at h
  cases hx : evEs C xs env with
  | bad => rw [hx] at h; exact h.elim
  | ex => rw [hx] at h; exact h.elim
  | ok l env1 =>
    rw [hx] at h
    simp only [Out.bind_ok] at h
    intro M1 H1 vs e1 s1 r1
    split at h
    · rename_i hl
      refine ⟨by rw [← r1.length]; exact hl, fun p hp => ?_⟩
      obtain ⟨g1, g2, g3⟩ := alloc_lst e1 hp r1
      exact h _ _ _ g1 (s1.trans e.mok g2) (Res.back s1 g3)
    · exact h.elim
theorem z_and {x y : IE} (h : tZ K (evE C (.and x y)) σ H Q) : tAndV (tZ K (evE C x)) (tZ K (evE C y)) σ H Q := by
  obtain ⟨M, env, e, h⟩ := h
  refine ⟨M, env, e, ?_⟩
  unfold RZ
  simp only [evE] at h
  cases hx : evE C x env with
  | bad => rw [hx] at h; exact h.elim
  | ex => rw [hx] at h; exact h.elim
  | ok z env1 =>
    rw [hx] at h
    simp only [Out.bind_ok] at h
    intro M1 H1 v1 e1 s1 r1
    split at h
    · rename_i fr
      obtain ⟨M2, e2, s2, r2⟩ := r1.freeze e e1 s1
      refine ⟨true, (AnyR.of r2).bl, ?_⟩
      rw [if_pos rfl]
      refine ⟨M2, env1, e2, ?_⟩
      unfold RZ
      cases hy : evE C y env1 with
      | bad => rw [hy] at h; exact h.elim
      | ex => rw [hy] at h; exact h.elim
      | ok z2 env2 =>
        rw [hy] at h
        exact fun M3 H3 v3 e3 s3 r3 => h M3 H3 v3 e3 (s2.trans e.mok s3) (r3.back s2)
    · rename_i fr
      obtain ⟨M2, e2, s2, r2⟩ := r1.freeze e e1 s1
      refine ⟨false, (AnyR.of r2).bl, ?_⟩
      rw [if_neg Bool.false_ne_true]
      exact h M2 H1 _ e2 s2 (.bl false)
    · exact h.elim
theorem z_or {x y : IE} (h : tZ K (evE C (.or x y)) σ H Q) : tOrV (tZ K (evE C x)) (tZ K (evE C y)) σ H Q := by
  obtain ⟨M, env, e, h⟩ := h
  refine ⟨M, env, e, ?_⟩
  unfold RZ
  simp only [evE] at h
  cases hx : evE C x env with
  | bad => rw [hx] at h; exact h.elim
  | ex => rw [hx] at h; exact h.elim
  | ok z env1 =>
    rw [hx] at h
    simp only [Out.bind_ok] at h
    intro M1 H1 v1 e1 s1 r1
    split at h
    · rename_i fr
      obtain ⟨M2, e2, s2, r2⟩ := r1.freeze e e1 s1
      refine ⟨false, (AnyR.of r2).bl, ?_⟩
      rw [if_neg Bool.false_ne_true]
      refine ⟨M2, env1, e2, ?_⟩
      unfold RZ
      cases hy : evE C y env1 with
      | bad => rw [hy] at h; exact h.elim
      | ex => rw [hy] at h; exact h.elim
      | ok z2 env2 =>
        rw [hy] at h
        exact fun M3 H3 v3 e3 s3 r3 => h M3 H3 v3 e3 (s2.trans e.mok s3) (r3.back s2)
    · rename_i fr
      obtain ⟨M2, e2, s2, r2⟩ := r1.freeze e e1 s1
      refine ⟨true, (AnyR.of r2).bl, ?_⟩
      rw [if_pos rfl]
      exact h M2 H1 _ e2 s2 (.bl true)
    · exact h.elim
theorem z_not {x : IE} (h : tZ K (evE C (.not x)) σ H Q) : tNotV (tZ K (evE C x)) σ H Q := by
  obtain ⟨M, env, e, h⟩ := h
  refine ⟨M, env, e, ?_⟩
  unfold RZ
  simp only [evE] at h
  cases hx : evE C x env with
  | bad => rw [hx] at h; exact h.elim
  | ex => rw [hx] at h; exact h.elim
  | ok z env1 =>
    rw [hx] at h
    simp only [Out.bind_ok] at h
    intro M1 H1 v1 e1 s1 r1
    split at h
    · rename_i b fr
      obtain ⟨M2, e2, s2, r2⟩ := r1.freeze e e1 s1
      exact ⟨b, (AnyR.of r2).bl, h M2 H1 _ e2 s2 (.bl _)⟩
    · exact h.elim
theorem z_ife {c : IT} {x y : IE} (h : tZ K (evE C (.ife c x y)) σ H Q) : tIf (tB K (evT C c)) (tZ K (evE C x)) (tZ K (evE C y)) σ H Q := by
  obtain ⟨M, env, e, h⟩ := h
  refine ⟨M, env, e, ?_⟩
  simp only [evE] at h
  cases hx : evT C c env with
  | bad => rw [hx] at h; exact h.elim
  | ex => rw [hx] at h; exact h.elim
  | ok z env1 =>
    rw [hx] at h
    simp only [Out.bind_ok] at h
    intro M1 H1 e1 s1
    cases z with
    | true =>
      rw [if_pos rfl] at h ⊢
      refine ⟨M1, env1, e1, ?_⟩
      unfold RZ at h ⊢
      cases hy : evE C x env1 with
      | bad => rw [hy] at h; exact h.elim
      | ex => rw [hy] at h; exact h.elim
      | ok z2 env2 =>
        rw [hy] at h
        exact fun M3 H3 v3 e3 s3 r3 => h M3 H3 v3 e3 (s1.trans e.mok s3) (r3.back s1)
    | false =>
      rw [if_neg Bool.false_ne_true] at h ⊢
      refine ⟨M1, env1, e1, ?_⟩
      unfold RZ at h ⊢
      cases hy : evE C y env1 with
      | bad => rw [hy] at h; exact h.elim
      | ex => rw [hy] at h; exact h.elim
      | ok z2 env2 =>
        rw [hy] at h
        exact fun M3 H3 v3 e3 s3 r3 => h M3 H3 v3 e3 (s1.trans e.mok s3) (r3.back s1)
theorem z_chain {p q : Pr} {x y z : IE} {r r' : R2} (pr : P2T K (fun a b => prB p [a, b]) r) (pr' : P2T K (fun a b => prB q [a, b]) r') (h : tZ K (evE C (.chain p q x y z)) σ H Q) :
    tChain r r' (tZ K (evE C x)) (tZ K (evE C y)) (tZ K (evE C z)) σ H Q := by
  obtain ⟨M, env, e, h⟩ := h
  refine ⟨M, env, e, ?_⟩
  unfold RZ
  simp only [evE] at h
  cases hx : evE C x env with
  | bad => rw [hx] at h; exact h.elim
  | ex => rw [hx] at h; exact h.elim
  | ok z1 env1 =>
    rw [hx] at h
    simp only [Out.bind_ok] at h
    intro M1 H1 v1 e1 s1 r1
    obtain ⟨M1', e1', s1', r1'⟩ := r1.freeze e e1 s1
    refine ⟨M1', env1, e1', ?_⟩
    unfold RZ
    cases hy : evE C y env1 with
    | bad => rw [hy] at h; exact h.elim
    | ex => rw [hy] at h; exact h.elim
    | ok z2 env2 =>
      rw [hy] at h
      simp only [Out.bind_ok] at h
      intro M2 H2 v2 e2 s2 r2
      obtain ⟨M2', e2', s2', r2'⟩ := r2.freeze e1' e2 s2
      have s12 := s1'.trans e.mok s2'
      have a1 := AnyR.of (r1'.keeps e1'.mok (s2'.keeps e1'))
      split at h
      · rename_i fr hp
        refine pr e2' hp a1 (.of r2') fun M3 H3 v3 e3 s3 r3 => ?_
        obtain ⟨M3', e3', s3', r3'⟩ := r3.freeze e2' e3 s3
        refine ⟨true, (AnyR.of r3').bl, ?_⟩
        rw [if_pos rfl]
        refine ⟨M3', env2, e3', ?_⟩
        unfold RZ
        cases hz : evE C z env2 with
        | bad => rw [hz] at h; exact h.elim
        | ex => rw [hz] at h; exact h.elim
        | ok z3 env3 =>
          rw [hz] at h
          simp only [Out.bind_ok] at h
          intro M4 H4 v4 e4 s4 r4
          obtain ⟨M4', e4', s4', r4'⟩ := r4.freeze e3' e4 s4
          have s34 := s3'.trans e2'.mok s4'
          have s1234 := s12.trans e.mok s34
          have a2 := AnyR.of (r2'.keeps e2'.mok (s34.keeps e2'))
          cases hq : prB q [z2.1, z3.1] with
          | none => rw [hq] at h; exact h.elim
          | some w =>
            rw [hq] at h
            exact pr' e4' hq a2 (.of r4') fun M5 H5 v5 e5 s5 r5 => h M5 H5 v5 e5 (s1234.trans e.mok s5) (r5.back s1234)
      · rename_i fr hp
        refine pr e2' hp a1 (.of r2') fun M3 H3 v3 e3 s3 r3 => ?_
        obtain ⟨M3', e3', s3', r3'⟩ := r3.freeze e2' e3 s3
        refine ⟨false, (AnyR.of r3').bl, ?_⟩
        rw [if_neg Bool.false_ne_true]
        exact h M3' H3 _ e3' (s12.trans e.mok s3') (.bl false)
      · exact h.elim
theorem t_val {x : IA} {Q : Bool → Hp → Prop} (h : tB K (evT C (.val x)) σ H Q) : tP K (evA C x) σ H fun v H1 => ∃ k, TruV K v H1 k ∧ (v = .bl k ∨ ∀ b, v ≠ .bl b) ∧ Q k H1 := by
  obtain ⟨M, env, e, h⟩ := h
  refine ⟨M, env, e, ?_⟩
  unfold RP
  simp only [evT] at h
  cases hx : evA C x env with
  | bad => rw [hx] at h; exact h.elim
  | ex => rw [hx] at h; exact h.elim
  | ok z env1 =>
    rw [hx] at h
    simp only [Out.bind_ok] at h
    intro M1 H1 v1 e1 s1 f1
    cases hf : fill1 env1 z with
    | none => rw [hf] at h; exact h.elim
    | some d =>
      rw [hf] at h
      have a1 := fill1_any e1 f1 hf
      cases d with
      | non => rw [a1.non]; exact ⟨false, rfl, .inr (fun _ z => nomatch z), h M1 H1 e1 s1⟩
      | bl b => rw [a1.bl]; exact ⟨b, rfl, .inl rfl, h M1 H1 e1 s1⟩
      | int i =>
        rw [a1.int]
        refine ⟨i != 0, rfl, .inr (fun _ z => nomatch z), ?_⟩
        have q := h M1 H1 e1 s1
        have : (decide (i ≠ 0)) = (i != 0) := by by_cases z : i = 0 <;> simp [z]
        rw [this] at q
        exact q
      | fn x => exact h.elim
      | str s => exact h.elim
      | tup ds =>
        obtain ⟨a, us, rfl, q1, q2⟩ := a1.tup
        refine ⟨!us.isEmpty, .inr (.inl ⟨us, q1, rfl⟩), .inr (fun _ z => nomatch z), ?_⟩
        have q := h M1 H1 e1 s1
        have : ds.isEmpty = us.isEmpty := by cases q2 <;> rfl
        rw [this] at q
        exact q
      | lst ds =>
        obtain ⟨a, us, rfl, q1, q2⟩ := a1.lst
        refine ⟨!us.isEmpty, .inl ⟨us, .inl (.inl q1), rfl⟩, .inr (fun _ z => nomatch z), ?_⟩
        have q := h M1 H1 e1 s1
        have : ds.isEmpty = us.isEmpty := by cases q2 <;> rfl
        rw [this] at q
        exact q
      | rol ds => exact h.elim
theorem t_and {x y : IT} {Q : Bool → Hp → Prop} (h : tB K (evT C (.and x y)) σ H Q) : tAnd (tB K (evT C x)) (tB K (evT C y)) σ H Q := by
  obtain ⟨M, env, e, h⟩ := h
  refine ⟨M, env, e, ?_⟩
  simp only [evT] at h
  cases hx : evT C x env with
  | bad => rw [hx] at h; exact h.elim
  | ex => rw [hx] at h; exact h.elim
  | ok z env1 =>
    rw [hx] at h
    simp only [Out.bind_ok] at h
    intro M1 H1 e1 s1
    cases z with
    | true =>
      rw [if_pos rfl] at h ⊢
      refine ⟨M1, env1, e1, ?_⟩
      cases hy : evT C y env1 with
      | bad => rw [hy] at h; exact h.elim
      | ex => rw [hy] at h; exact h.elim
      | ok z2 env2 =>
        rw [hy] at h
        exact fun M3 H3 e3 s3 => h M3 H3 e3 (s1.trans e.mok s3)
    | false =>
      rw [if_neg Bool.false_ne_true] at h ⊢
      exact h M1 H1 e1 s1
theorem t_or {x y : IT} {Q : Bool → Hp → Prop} (h : tB K (evT C (.or x y)) σ H Q) : tOr (tB K (evT C x)) (tB K (evT C y)) σ H Q := by
  obtain ⟨M, env, e, h⟩ := h
  refine ⟨M, env, e, ?_⟩
  simp only [evT] at h
  cases hx : evT C x env with
  | bad => rw [hx] at h; exact h.elim
  | ex => rw [hx] at h; exact h.elim
  | ok z env1 =>
    rw [hx] at h
    simp only [Out.bind_ok] at h
    intro M1 H1 e1 s1
    cases z with
    | false =>
      rw [if_neg Bool.false_ne_true] at h ⊢
      refine ⟨M1, env1, e1, ?_⟩
      cases hy : evT C y env1 with
      | bad => rw [hy] at h; exact h.elim
      | ex => rw [hy] at h; exact h.elim
      | ok z2 env2 =>
        rw [hy] at h
        exact fun M3 H3 e3 s3 => h M3 H3 e3 (s1.trans e.mok s3)
    | true =>
      rw [if_pos rfl] at h ⊢
      exact h M1 H1 e1 s1
theorem t_not {x : IT} {Q : Bool → Hp → Prop} (h : tB K (evT C (.not x)) σ H Q) : tNot (tB K (evT C x)) σ H Q := by
  obtain ⟨M, env, e, h⟩ := h
  refine ⟨M, env, e, ?_⟩
  simp only [evT] at h
  cases hx : evT C x env with
  | bad => rw [hx] at h; exact h.elim
  | ex => rw [hx] at h; exact h.elim
  | ok z env1 =>
    rw [hx] at h
    exact fun M1 H1 e1 s1 => h M1 H1 e1 s1
end
end Z
namespace Z
open PySem PySem.Spec PyProof.Rows L2
structure CStp (K : PySem.W.Frag) (M : Mk) (H : Hp) (as : List (D × Mo)) (vs : List V) (outs : List (D × Mo)) (M' : Mk) (H' : Hp) : Prop where
  heap : ∀ a o, H a = some o → ¬ Wr (vs.map some) (as.map some) a → H' a = some o
  dom : ∀ a, H a ≠ none → H' a ≠ none
  mold : ∀ a, H a ≠ none → M' a → M a
  mkeep : ∀ a, M a → ¬ Wr (vs.map some) (as.map some) a → M' a
  mok : ∀ a, M' a → ∃ xs, H' a = some (.lst xs)
  outs : ∀ (i : Nat) (d : D) (v : V), as[i]? = some (d, .own) → vs[i]? = some v → ∃ d' m', outs[i]? = some (d', m') ∧ m' ≠ Mo.lck ∧ SlotRep K M' H' d' m' v
def ResC (K : PySem.W.Frag) (M' : Mk) (H' : Hp) (H : Hp) (d : D) (fr : Bool) (v : V) : Prop := match fr with
  | false => Rep K M' H' d v
  | true => ∃ ds a xs, d = .lst ds ∧ v = .ref a ∧ H a = none ∧ M' a ∧ H' a = some (.lst xs) ∧ Reps K M' H' ds xs
def fullK (T : Nat → Option Fn) (k : Nat) (F : Fn) (bs : List (D × Mo)) : CR := match k with
  | 0 => .bad
  | k + 1 => runFull (callK T k) F bs
theorem callK_eq (T : Nat → Option Fn) (k f : Nat) (as : List (D × Mo)) : callK T k f as = match T f with | some F => fullK T k F (withDv F as) | none => .bad := by
  cases k with
  | zero => unfold callK fullK; cases T f <;> rfl
  | succ k => rfl
/-- what a def promises: what its body does, at this depth -/
def spZ (K : PySem.W.Frag) (T : Nat → Option Fn) (k : Nat) (F : Fn) : Sp := fun vs H Q _ => vs.length = F.np ∧ ∃ M as, EnvOk K M H (vs.map some) (as.map some) ∧ match fullK T k F as with
  | .ok d fr outs => ∀ M' H' v, CStp K M H as vs outs M' H' → ResC K M' H' H d fr v → Q v H'
  | .bad => False
section
variable {K : PySem.W.Frag} {M M' M1 M2 : Mk} {H H' H1 H2 : Hp} {σ σ' σ1 σ2 : L2.St} {env env' env1 env2 : En} {Q : VK}
theorem Fils.length : ∀ {l : List PV} {vs : List V}, Fils K M H σ l vs → l.length = vs.length
  | _, _, .nil => rfl
  | _, _, .cons _ r => congrArg (· + 1) r.length
theorem Fils.get : ∀ {l : List PV} {vs : List V} {i : Nat} {p : PV}, Fils K M H σ l vs → l[i]? = some p → ∃ v, vs[i]? = some v ∧ Fil1 K M H σ p v
  | _, _, _, _, .nil, e => by simp at e
  | _, _, 0, _, .cons h _, e => by simp at e; subst e; exact ⟨_, rfl, h⟩
  | _, _, i + 1, p, .cons _ r, e => by
    obtain ⟨v, h1, h2⟩ := Fils.get (i := i) (p := p) r (by simpa using e)
    exact ⟨v, by simpa using h1, h2⟩
theorem argv_len : ∀ {l : List PV} {as : List (D × Mo)}, argv env l = some as → as.length = l.length
  | [], as, h => by cases h; rfl
  | p :: ps, as, h => by
    simp only [argv] at h
    split at h
    · rename_i x xs h1 h2
      cases h
      exact congrArg (· + 1) (argv_len h2)
    · cases h
theorem argv_get : ∀ {l : List PV} {as : List (D × Mo)} {i : Nat} {x : D × Mo}, argv env l = some as → as[i]? = some x → ∃ p, l[i]? = some p ∧ argv1 env p = some x
  | [], as, i, x, h, g => by cases h; simp at g
  | p :: ps, as, i, x, h, g => by
    simp only [argv] at h
    split at h
    · rename_i y ys h1 h2
      cases h
      cases i with
      | zero => simp at g; subst g; exact ⟨p, rfl, h1⟩
      | succ i =>
        obtain ⟨q, g1, g2⟩ := argv_get (i := i) h2 (by simpa using g)
        exact ⟨q, by simpa using g1, g2⟩
    · cases h
/-- i is an owned name among the arguments, at the place j -/
def OwnArg (env : En) (l : List PV) (i j : Nat) : Prop := l[j]? = some (.at i) ∧ ∃ d, env[i]? = some (some (d, .own))
theorem ownIx_mem : ∀ {l : List PV} {i j : Nat}, OwnArg env l i j → i ∈ ownIx env l
  | [], i, j, h => by simp [OwnArg] at h
  | p :: ps, i, 0, ⟨h, d, g⟩ => by
    simp at h
    subst h
    simp [ownIx, g]
  | p :: ps, i, j + 1, ⟨h, d, g⟩ => by
    have ih := ownIx_mem (l := ps) (i := i) (j := j) ⟨by simpa using h, d, g⟩
    cases p with
    | val x => exact ih
    | «at» m =>
      simp only [ownIx]
      split
      · exact List.mem_cons_of_mem _ ih
      · exact ih
theorem own_once : ∀ {l : List PV} {i j k : Nat}, (ownIx env l).Nodup → OwnArg env l i j → OwnArg env l i k → j = k
  | [], i, j, k, _, h, _ => by simp [OwnArg] at h
  | p :: ps, i, 0, 0, _, _, _ => rfl
  | p :: ps, i, 0, k + 1, nd, ⟨h, d, g⟩, ⟨h2, g2⟩ => by
    simp at h
    subst h
    have m := ownIx_mem (l := ps) (i := i) (j := k) (env := env) ⟨by simpa using h2, g2⟩
    simp only [ownIx, g] at nd
    exact absurd m (List.nodup_cons.mp nd).1
  | p :: ps, i, j + 1, 0, nd, ⟨h2, g2⟩, ⟨h, d, g⟩ => by
    simp at h
    subst h
    have m := ownIx_mem (l := ps) (i := i) (j := j) (env := env) ⟨by simpa using h2, g2⟩
    simp only [ownIx, g] at nd
    exact absurd m (List.nodup_cons.mp nd).1
  | p :: ps, i, j + 1, k + 1, nd, ⟨h1, g1⟩, ⟨h2, g2⟩ => by
    refine congrArg (· + 1) (own_once (l := ps) ?_ ⟨by simpa using h1, g1⟩ ⟨by simpa using h2, g2⟩)
    cases p with
    | val x => exact nd
    | «at» m =>
      simp only [ownIx] at nd
      split at nd
      · exact (List.nodup_cons.mp nd).2
      · exact nd
theorem wb_len {env0 : En} : ∀ {l : List PV} {outs : List (D × Mo)} {env : En}, (wb env0 l outs env).length = env.length
  | [], _, _ => by simp [wb]
  | .val _ :: ps, [], _ => by simp [wb]
  | .at _ :: ps, [], _ => by simp [wb]
  | .val _ :: ps, o :: os, env => by simp only [wb]; exact wb_len
  | .at i :: ps, o :: os, env => by
    simp only [wb]
    split
    · rw [wb_len, List.length_set]
    · exact wb_len
/-- a name that is no owned argument stays -/
theorem wb_out {env0 : En} {i : Nat} : ∀ {l : List PV} {outs : List (D × Mo)} {env : En}, (∀ j, ¬ OwnArg env0 l i j) → (wb env0 l outs env)[i]? = env[i]?
  | [], _, _, _ => by simp [wb]
  | .val _ :: ps, [], _, _ => by simp [wb]
  | .at _ :: ps, [], _, _ => by simp [wb]
  | .val x :: ps, o :: os, env, h => by
    simp only [wb]
    exact wb_out fun j g => h (j + 1) ⟨by simpa using g.1, g.2⟩
  | .at m :: ps, o :: os, env, h => by
    have h' : ∀ j, ¬ OwnArg env0 ps i j := fun j g => h (j + 1) ⟨by simpa using g.1, g.2⟩
    simp only [wb]
    split
    · rename_i d q
      rw [wb_out h', List.getElem?_set_ne]
      intro z
      subst z
      exact h 0 ⟨rfl, d, q⟩
    · exact wb_out h'
/-- an owned argument's new value -/
theorem wb_in {env0 : En} {i : Nat} : ∀ {l : List PV} {outs : List (D × Mo)} {env : En} {j : Nat} {o : D × Mo}, OwnArg env0 l i j → outs[j]? = some o → i < env.length →
    ∃ j' o', OwnArg env0 l i j' ∧ outs[j']? = some o' ∧ (wb env0 l outs env)[i]? = some (some o')
  | [], _, _, _, _, h, _, _ => by simp [OwnArg] at h
  | p :: ps, [], env, j, o, h, g, _ => by simp at g
  | .val x :: ps, o1 :: os, env, 0, o, h, g, hl => by simp [OwnArg] at h
  | .val x :: ps, o1 :: os, env, j + 1, o, h, g, hl => by
    obtain ⟨j', o', h1, h2, h3⟩ := wb_in (l := ps) (outs := os) (env := env) (j := j) (o := o) ⟨by simpa using h.1, h.2⟩ (by simpa using g) hl
    exact ⟨j' + 1, o', ⟨by simpa using h1.1, h1.2⟩, by simpa using h2, by simpa only [wb] using h3⟩
  | .at m :: ps, o1 :: os, env, j, o, h, g, hl => by
    by_cases hr : ∃ j2, OwnArg env0 ps i j2 ∧ ∃ o2, os[j2]? = some o2
    · obtain ⟨j2, h2, o2, g2⟩ := hr
      simp only [wb]
      split
      · obtain ⟨j', o', k1, k2, k3⟩ := wb_in (l := ps) (outs := os) (env := env.set m (some o1)) h2 g2 (by rw [List.length_set]; exact hl)
        exact ⟨j' + 1, o', ⟨by simpa using k1.1, k1.2⟩, by simpa using k2, k3⟩
      · obtain ⟨j', o', k1, k2, k3⟩ := wb_in (l := ps) (outs := os) (env := env) h2 g2 hl
        exact ⟨j' + 1, o', ⟨by simpa using k1.1, k1.2⟩, by simpa using k2, k3⟩
    · cases j with
      | succ j => exact absurd ⟨j, ⟨by simpa using h.1, h.2⟩, o, by simpa using g⟩ hr
      | zero =>
        obtain ⟨h1, d, q⟩ := h
        simp at h1
        subst h1
        simp at g
        subst g
        simp only [wb, q]
        refine ⟨0, o1, ⟨rfl, d, q⟩, rfl, ?_⟩
        have key : ∀ (ps : List PV) (os : List (D × Mo)) (env : En), (¬ ∃ j2, OwnArg env0 ps m j2 ∧ ∃ o2, os[j2]? = some o2) → (wb env0 ps os env)[m]? = env[m]? := by
          intro ps
          induction ps with
          | nil => intro os env _; simp [wb]
          | cons p ps ih =>
            intro os env hn
            cases os with
            | nil => cases p <;> simp [wb]
            | cons o os =>
              have hn' : ¬ ∃ j2, OwnArg env0 ps m j2 ∧ ∃ o2, os[j2]? = some o2 := fun ⟨j2, a, o2, b⟩ => hn ⟨j2 + 1, ⟨by simpa using a.1, a.2⟩, o2, by simpa using b⟩
              cases p with
              | val x => simp only [wb]; exact ih _ _ hn'
              | «at» n =>
                simp only [wb]
                split
                · rename_i d' q'
                  rw [ih _ _ hn', List.getElem?_set_ne]
                  intro z
                  subst z
                  exact hn ⟨0, ⟨rfl, d', q'⟩, o, rfl⟩
                · exact ih _ _ hn'
        rw [key ps os _ hr]
        exact List.getElem?_set_self hl
/-- a call, seen from the caller -/
theorem call_ok {T : Nat → Option Fn} {k f : Nat} {F : Fn} {l : List PV} {vs dvs : List V} {E : XK} (hT : T f = some F) (e : EnvOk K M H σ env) (fl : Fils K M H σ l vs) (dv : ∀ M H, Reps K M H F.dv dvs)
    (h : RZ K M H σ env (doCall (callK T k) f l env) Q) : spZ K T k F (vs ++ dvs.drop (dvs.length - (F.np - vs.length))) H Q E := by
  unfold doCall at h
  split at h
  case isFalse => exact h.elim
  case isTrue nd =>
  split at h
  case h_2 => exact h.elim
  case h_1 as has =>
  rw [callK_eq, hT] at h
  simp only at h
  have la := argv_len has
  have lf := fl.length
  have ldv := (dv M H).length
  generalize hn : dvs.length - (F.np - vs.length) = n at *
  have hbs : withDv F as = as ++ (F.dv.drop n).map fun d => (d, Mo.frz) := by
    unfold withDv
    rw [ldv, la, lf, hn]
  rw [hbs] at h
  generalize hb : as ++ (F.dv.drop n).map (fun d => (d, Mo.frz)) = bs at *
  cases hr : fullK T k F bs with
  | bad => rw [hr] at h; exact h.elim
  | ok d fr outs =>
    rw [hr] at h
    simp only at h
    have hlen : bs.length = F.np := by
      cases k with
      | zero => simp [fullK] at hr
      | succ k =>
        simp only [fullK, runFull] at hr
        split at hr
        · assumption
        · cases hr
    have lw : (vs ++ dvs.drop n).length = bs.length := by
      rw [← hb, List.length_append, List.length_append, List.length_map, List.length_drop, List.length_drop, ldv, la, lf]
    -- an argument
    have argAt : ∀ (i : Nat) (d : D) (m : Mo), bs[i]? = some (d, m) → ∃ v, (vs ++ dvs.drop n)[i]? = some v ∧ SlotRep K M H d m v ∧ (m ≠ .frz → ∃ j, l[i]? = some (.at j) ∧ env[j]? = some (some (d, m)) ∧ σ[j]? = some (some v) ∧ vs[i]? = some v) := by
      intro i d m g
      rw [← hb] at g
      by_cases hi : i < as.length
      · rw [List.getElem?_append_left hi] at g
        obtain ⟨p, g1, g2⟩ := argv_get has g
        obtain ⟨v, g3, g4⟩ := fl.get g1
        refine ⟨v, by rw [List.getElem?_append_left (by omega)]; exact g3, ?_⟩
        cases p with
        | val x =>
          cases g2
          exact ⟨g4, fun z => absurd rfl z⟩
        | «at» j =>
          simp only [argv1] at g2
          split at g2
          · rename_i d' m' q
            cases g2
            obtain ⟨w, h1, h2⟩ := e.slot j _ _ q
            have g4 : σ[j]? = some (some v) := g4
            rw [g4] at h1
            cases h1
            exact ⟨h2, fun _ => ⟨j, g1, q, g4, g3⟩⟩
          · cases g2
      · rw [List.getElem?_append_right (by omega), List.getElem?_map, List.getElem?_drop] at g
        cases q : F.dv[n + (i - as.length)]? with
        | none => rw [q] at g; cases g
        | some x =>
          rw [q] at g
          cases g
          obtain ⟨v, g1, g2⟩ := (dv M H).get q
          refine ⟨v, ?_, g2, fun z => absurd rfl z⟩
          rw [List.getElem?_append_right (by omega), List.getElem?_drop]
          rw [la, lf] at g1
          exact g1
    have getS : ∀ (i : Nat) (v : V), ((vs ++ dvs.drop n).map some)[i]? = some (some v) → (vs ++ dvs.drop n)[i]? = some v := fun i v g => by
      rw [List.getElem?_map] at g
      obtain ⟨w, g1, g2⟩ := map_some g
      cases g2
      exact g1
    have getB : ∀ (i : Nat) (x : D × Mo), (bs.map some)[i]? = some (some x) → bs[i]? = some x := fun i v g => by
      rw [List.getElem?_map] at g
      obtain ⟨w, g1, g2⟩ := map_some g
      cases g2
      exact g1
    have heldA : ∀ i a, Held ((vs ++ dvs.drop n).map some) (bs.map some) i a → ∃ j d m, m ≠ Mo.frz ∧ l[i]? = some (.at j) ∧ bs[i]? = some (d, m) ∧ env[j]? = some (some (d, m)) ∧ σ[j]? = some (some (.ref a)) := by
      rintro i a ⟨d, m, hm, g1, g2⟩
      have g1' := getB _ _ g1
      obtain ⟨v, h1, _, h3⟩ := argAt i d m g1'
      rw [getS _ _ g2] at h1
      cases h1
      obtain ⟨j, k1, k2, k3, _⟩ := h3 hm
      exact ⟨j, d, m, hm, k1, g1', k2, k3⟩
    have ownA : ∀ i a, OwnAt ((vs ++ dvs.drop n).map some) (bs.map some) i a → ∃ j, OwnArg env l j i ∧ OwnAt σ env j a := by
      rintro i a g
      have g' := g
      obtain ⟨d0, g1, _⟩ := g'
      obtain ⟨j, d, m, hm, k1, k2, k3, k4⟩ := heldA i a g.held
      rw [getB _ _ g1] at k2
      cases k2
      exact ⟨j, ⟨k1, _, k3⟩, _, k3, k4⟩
    have wrA : ∀ a, Wr ((vs ++ dvs.drop n).map some) (bs.map some) a → ∃ j i, OwnArg env l j i ∧ OwnAt σ env j a := fun a ⟨i, g⟩ => by
      obtain ⟨j, g1, g2⟩ := ownA i a g
      exact ⟨j, i, g1, g2⟩
    refine ⟨lw.trans hlen, M, bs, ⟨by rw [List.length_map, List.length_map, lw], fun i d m g => ?_, fun i j a n1 g1 g2 => ?_, e.mok⟩, ?_⟩
    · obtain ⟨v, h1, h2, _⟩ := argAt i d m (getB _ _ g)
      exact ⟨v, by rw [List.getElem?_map, h1]; rfl, h2⟩
    · obtain ⟨x, h1, h2⟩ := ownA i a g1
      obtain ⟨y, d, m, hm, k1, k2, k3, k4⟩ := heldA j a g2
      by_cases z : x = y
      · subst z
        obtain ⟨d0, k5⟩ := h1.2
        exact n1 (own_once nd h1 ⟨k1, _, k5⟩)
      · exact e.apart x y a z h2 ⟨d, m, hm, k3, k4⟩
    rw [hr]
    intro M' H' v cs rc
    -- the caller's names behind the call
    have wrS : ∀ a, Wr ((vs ++ dvs.drop n).map some) (bs.map some) a → Wr σ env a := fun a g => by
      obtain ⟨j, i, _, g2⟩ := wrA a g
      exact ⟨j, g2⟩
    have kp : Keeps M H M' H' := ⟨fun a o g hm => cs.heap a o g fun w => hm (e.wr_m (wrS a w)), cs.mold⟩
    have own_or : ∀ i, (∃ j, OwnArg env l i j) ∨ ∀ j, ¬ OwnArg env l i j := fun i => by
      by_cases q : ∃ j, OwnArg env l i j
      · exact .inl q
      · exact .inr fun j z => q ⟨j, z⟩
    have inA : ∀ i j, OwnArg env l i j → ∃ v d' m', σ[i]? = some (some v) ∧ m' ≠ Mo.lck ∧ SlotRep K M' H' d' m' v ∧ (wb env l outs env)[i]? = some (some (d', m')) := by
      intro i j q
      have outAt : ∀ j, OwnArg env l i j → ∃ v d' m', σ[i]? = some (some v) ∧ outs[j]? = some (d', m') ∧ m' ≠ Mo.lck ∧ SlotRep K M' H' d' m' v := by
        rintro j ⟨q1, d0, q2⟩
        have hj : j < l.length := lt_of_get q1
        have ha : as[j]? = some (d0, .own) := by
          have hj' : j < as.length := by omega
          obtain ⟨p, g1, g2⟩ := argv_get has (List.getElem?_eq_getElem hj')
          rw [q1] at g1
          cases g1
          simp only [argv1, q2] at g2
          rw [List.getElem?_eq_getElem hj', ← Option.some.inj g2]
        have hbj : bs[j]? = some (d0, .own) := by
          rw [← hb, List.getElem?_append_left (by omega)]
          exact ha
        obtain ⟨v, h1, _, h3⟩ := argAt j d0 .own hbj
        obtain ⟨x, k1, k2, k3, _⟩ := h3 (by decide)
        rw [q1] at k1
        cases k1
        obtain ⟨d', m', k4, k5, k6⟩ := cs.outs j d0 v hbj h1
        exact ⟨v, d', m', k3, k4, k5, k6⟩
      obtain ⟨v, d', m', k1, k2, _⟩ := outAt j q
      obtain ⟨j', o', k3, k4, k5⟩ := wb_in q k2 (lt_of_get (Classical.choose_spec q.2))
      obtain ⟨v2, d2, m2, k6, k7, k8, k9⟩ := outAt j' k3
      rw [k4] at k7
      cases k7
      exact ⟨v2, d2, m2, k6, k8, k9, k5⟩
    have ownB : ∀ i a, OwnAt σ (wb env l outs env) i a → OwnAt σ env i a := by
      rintro i a ⟨d, g1, g2⟩
      rcases own_or i with ⟨j, q⟩ | q
      · obtain ⟨d0, q2⟩ := q.2
        exact ⟨d0, q2, g2⟩
      · rw [wb_out q] at g1
        exact ⟨d, g1, g2⟩
    have heldB : ∀ i a, Held σ (wb env l outs env) i a → Held σ env i a := by
      rintro i a ⟨d, m, hm, g1, g2⟩
      rcases own_or i with ⟨j, q⟩ | q
      · obtain ⟨d0, q2⟩ := q.2
        exact ⟨d0, .own, by decide, q2, g2⟩
      · rw [wb_out q] at g1
        exact ⟨d, m, hm, g1, g2⟩
    have e' : EnvOk K M' H' σ (wb env l outs env) := by
      refine ⟨by rw [wb_len]; exact e.len, fun i d m g => ?_, fun i j a n1 g1 g2 => e.apart i j a n1 (ownB i a g1) (heldB j a g2), cs.mok⟩
      rcases own_or i with ⟨j, q⟩ | q
      · obtain ⟨w, d', m', k1, k2, k3, k4⟩ := inA i j q
        rw [g] at k4
        cases k4
        exact ⟨w, k1, k3⟩
      · rw [wb_out q] at g
        obtain ⟨w, k1, k2⟩ := e.slot i d m g
        refine ⟨w, k1, k2.keeps e.mok kp fun hm a ea => ?_⟩
        have nw : ¬ Wr ((vs ++ dvs.drop n).map some) (bs.map some) a := fun w' => by
          obtain ⟨x, y, g1, g2⟩ := wrA a w'
          by_cases z : x = i
          · subst z
            exact q y g1
          · exact e.apart x i a z g2 ⟨d, m, hm, g, by rw [k1, ea]⟩
        exact ⟨cs.mkeep a (e.held_m ⟨d, m, hm, g, by rw [k1, ea]⟩) nw, fun o g => cs.heap a o g nw⟩
    have s' : Stp allP M H σ env M' H' σ (wb env l outs env) := by
      refine ⟨fun a o g hn => cs.heap a o g fun w => hn (wrS a w), cs.dom, cs.mold, fun a g hn => cs.mkeep a g fun w => hn (wrS a w), fun i a g => .inl (ownB i a g), fun i => ?_, fun _ _ => rfl, fun _ _ => rfl, fun i _ g => ?_⟩
      · rcases own_or i with ⟨j, q⟩ | q
        · obtain ⟨w, d', m', k1, k2, k3, k4⟩ := inA i j q
          obtain ⟨d0, q2⟩ := q.2
          constructor
          · rintro ⟨d, g⟩
            rw [k4] at g
            cases g
            exact absurd rfl k2
          · rintro ⟨d, g⟩
            rw [q2] at g
            cases g
        · unfold IsL
          rw [wb_out q]
      · rcases own_or i with ⟨j, q⟩ | q
        · obtain ⟨w, d', m', k1, k2, k3, k4⟩ := inA i j q
          exact ⟨_, k4⟩
        · rw [wb_out q]
          exact g
    refine h M' H' v e' s' ?_
    cases fr with
    | false => exact rc
    | true =>
      obtain ⟨ds, a, xs, k1, k2, k3, k4, k5, k6⟩ := rc
      refine ⟨ds, a, xs, k1, k2, k3, k4, k5, k6, fun i g => ?_⟩
      obtain ⟨ys, q⟩ := e.mok a (e.held_m (heldB i a g))
      rw [k3] at q
      cases q
end
end Z
namespace Z
open PySem PySem.Spec PyProof.Rows L2
section
variable {K : PySem.W.Frag} {C : Cl} {pin : Nat → Bool} {M M' M0 M1 M2 : Mk} {H H' H0 H1 H2 : Hp} {σ σ' σ1 σ2 : L2.St} {env env' env0 env1 env2 : En} {d d1 d2 : D} {v v1 v2 : V} {fr : Bool} {Q : VK}
theorem setS_ok {i : Nat} {u : Unit} (s : Stp pin M0 H0 σ' env0 M H σ env) (e : EnvOk K M H σ env) (r : Res K M H σ env H0 d fr v) (h : setS pin i d fr env = .ok u env') :
    EnvOk K M H (σ.set i (some v)) env' ∧ Stp pin M0 H0 σ' env0 M H (σ.set i (some v)) env' := by
  unfold setS at h
  split at h
  · cases h
  · rename_i t nl q
    split at h
    · cases h
    · rename_i np
      cases h
      have hl : i < env.length := lt_of_get q
      have hσ : i < σ.length := by rw [e.len]; exact hl
      have nL : ¬ IsL env i := fun ⟨d', g⟩ => nl d' (by rw [q] at g; cases g; rfl)
      have oth : ∀ j a, OwnAt (σ.set i (some v)) (env.set i (some (d, if fr = true then Mo.own else Mo.frz))) j a → (j = i ∧ fr = true ∧ v = .ref a) ∨ (j ≠ i ∧ OwnAt σ env j a) := by
        rintro j a ⟨d', g1, g2⟩
        rcases set_get g1 with ⟨rfl, z, _⟩ | ⟨n, g1⟩
        · rw [List.getElem?_set_self hσ] at g2
          cases fr with
          | true => exact .inl ⟨rfl, rfl, Option.some.inj (Option.some.inj g2)⟩
          | false => cases z
        · rw [List.getElem?_set_ne n] at g2
          exact .inr ⟨Ne.symm n, d', g1, g2⟩
      have hld : ∀ j a, Held (σ.set i (some v)) (env.set i (some (d, if fr = true then Mo.own else Mo.frz))) j a → (j = i ∧ fr = true ∧ v = .ref a) ∨ (j ≠ i ∧ Held σ env j a) := by
        rintro j a ⟨d', m', hm, g1, g2⟩
        rcases set_get g1 with ⟨rfl, z, _⟩ | ⟨n, g1⟩
        · rw [List.getElem?_set_self hσ] at g2
          cases fr with
          | true => exact .inl ⟨rfl, rfl, Option.some.inj (Option.some.inj g2)⟩
          | false => cases z; exact absurd rfl hm
        · rw [List.getElem?_set_ne n] at g2
          exact .inr ⟨Ne.symm n, d', m', hm, g1, g2⟩
      have nheld : fr = true → ∀ a, v = .ref a → ∀ j, ¬ Held σ env j a := fun hf a ea j g => by
        subst hf
        obtain ⟨ds, b, xs, _, e2, _, _, _, _, h6⟩ := r
        rw [ea] at e2
        cases e2
        exact h6 j g
      refine ⟨⟨by rw [List.length_set, List.length_set]; exact e.len, fun j d' m' g => ?_, fun j k a n g1 g2 => ?_, e.mok⟩, ⟨s.heap, s.dom, s.mold, s.mkeep, fun j a g => ?_, fun j => ?_, fun j l => ?_, fun j p => ?_, fun j p g => ?_⟩⟩
      · rcases set_get g with ⟨rfl, z, _⟩ | ⟨n, g⟩
        · refine ⟨v, List.getElem?_set_self hσ, ?_⟩
          cases fr with
          | false => cases z; exact r
          | true =>
            cases z
            obtain ⟨ds, b, xs, e1, e2, _, h3, h4, h5, _⟩ := r
            exact ⟨ds, b, xs, e1, e2, h3, h4, h5⟩
        · rw [List.getElem?_set_ne n]
          exact e.slot j d' m' g
      · rcases oth j a g1 with ⟨rfl, hf, ea⟩ | ⟨n1, g1'⟩
        · rcases hld k a g2 with ⟨rfl, _, _⟩ | ⟨n2, g2'⟩
          · exact n rfl
          · exact nheld hf a ea k g2'
        · rcases hld k a g2 with ⟨rfl, hf, ea⟩ | ⟨n2, g2'⟩
          · exact nheld hf a ea j g1'.held
          · exact e.apart j k a n g1' g2'
      · rcases oth j a g with ⟨rfl, hf, ea⟩ | ⟨n1, g1⟩
        · subst hf
          obtain ⟨ds, b, xs, _, e2, h3, _⟩ := r
          rw [ea] at e2
          cases e2
          exact .inr h3
        · exact s.wr j a g1
      · rw [← s.lck j]
        constructor
        · rintro ⟨d', g⟩
          rcases set_get g with ⟨rfl, z, _⟩ | ⟨n, g⟩
          · cases fr <;> cases z
          · exact ⟨d', g⟩
        · rintro ⟨d', g⟩
          refine ⟨d', ?_⟩
          rw [List.getElem?_set_ne (fun z => by subst z; exact nL ⟨d', g⟩)]
          exact g
      · rw [List.getElem?_set_ne (fun z => by subst z; exact nL ((s.lck i).mpr l))]
        exact s.lkσ j l
      · rw [List.getElem?_set_ne (fun z => by subst z; exact np p)]
        exact s.pinσ j p
      · obtain ⟨t', g'⟩ := s.pinS j p g
        by_cases z : i = j
        · subst z
          exact ⟨_, List.getElem?_set_self hl⟩
        · exact ⟨t', by rw [List.getElem?_set_ne z]; exact g'⟩
  · cases h
/-- stores of frozen values, from the left -/
def setAllσ : L2.St → List Nat → List V → L2.St
  | σ, i :: is, v :: vs => setAllσ (σ.set i (some v)) is vs
  | σ, _, _ => σ
theorem setAll_ok : ∀ {is : List Nat} {ds : List D} {vs : List V} {σ : L2.St} {env env' : En} {u : Unit}, Stp pin M0 H0 σ' env0 M H σ env → EnvOk K M H σ env → Reps K M H ds vs → setAll pin is ds env = .ok u env' →
    EnvOk K M H (setAllσ σ is vs) env' ∧ Stp pin M0 H0 σ' env0 M H (setAllσ σ is vs) env' ∧ is.length = ds.length
  | [], [], _, σ, env, env', u, s, e, r, h => by
    simp only [setAll] at h
    cases h
    exact ⟨by simpa [setAllσ] using e, by simpa [setAllσ] using s, rfl⟩
  | [], _ :: _, _, _, _, _, _, _, _, _, h => by simp [setAll] at h
  | _ :: _, [], _, _, _, _, _, _, _, _, h => by simp [setAll] at h
  | i :: is, d :: ds, _, σ, env, env', u, s, e, .cons r rs, h => by
    simp only [setAll] at h
    cases hx : setS pin i d false env with
    | bad => rw [hx] at h; cases h
    | ex => rw [hx] at h; cases h
    | ok u1 env1 =>
      rw [hx] at h
      obtain ⟨e1, s1⟩ := setS_ok (fr := false) s e r hx
      obtain ⟨e2, s2, l⟩ := setAll_ok s1 e1 rs h
      exact ⟨e2, s2, congrArg (· + 1) l⟩
/-- a target's reading -/
def tGt (K : PySem.W.Frag) (pin : Nat → Bool) (g : IG) : TG := fun v σ H Q => ∃ M0 H0 σ0 env0 M env d, EnvOk K M H σ env ∧ Stp pin M0 H0 σ0 env0 M H σ env ∧ Rep K M H d v ∧ match setG pin g d env with
  | .ok _ env' => ∀ σ', EnvOk K M H σ' env' → Stp pin M0 H0 σ0 env0 M H σ' env' → Q σ' H
  | _ => False
theorem g_nm {i : Nat} {Q : L2.St → Hp → Prop} (h : tGt K pin (.nm i) v σ H Q) : gName i v σ H Q := by
  obtain ⟨M0, H0, σ0, env0, M, env, d, e, s, r, h⟩ := h
  simp only [setG] at h
  cases hx : setS pin i d false env with
  | bad => rw [hx] at h; exact h.elim
  | ex => rw [hx] at h; exact h.elim
  | ok u env1 =>
    rw [hx] at h
    obtain ⟨e1, s1⟩ := setS_ok (fr := false) s e r hx
    exact h _ e1 s1
def gNms : List Nat → TGs
  | [] => gNil
  | i :: is => gCons (gName i) (gNms is)
theorem gNms_ok {Q : L2.St → Hp → Prop} : ∀ {is : List Nat} {vs : List V} {σ : L2.St}, is.length = vs.length → Q (setAllσ σ is vs) H → gNms is vs σ H Q
  | [], [], σ, _, h => ⟨rfl, h⟩
  | i :: is, v :: vs, σ, l, h => ⟨v, vs, rfl, gNms_ok (is := is) (by simpa using l) h⟩
  | [], _ :: _, _, l, _ => by simp at l
  | _ :: _, [], _, l, _ => by simp at l
theorem g_tp {is : List Nat} {Q : L2.St → Hp → Prop} (h : tGt K pin (.tp is) v σ H Q) : gTup K is.length (gNms is) v σ H Q := by
  obtain ⟨M0, H0, σ0, env0, M, env, d, e, s, r, h⟩ := h
  cases d with
  | tup ds =>
    simp only [setG] at h
    cases hx : setAll pin is ds env with
    | bad => rw [hx] at h; exact h.elim
    | ex => rw [hx] at h; exact h.elim
    | ok u env1 =>
      rw [hx] at h
      cases r with
      | tup h1 h2 =>
        obtain ⟨e1, s1, l⟩ := setAll_ok s e h2 hx
        have l2 := h2.length
        exact ⟨_, _, rfl, h1, by omega, gNms_ok (by omega) (h _ e1 s1)⟩
  | _ => simp only [setG] at h
def ItOk (K : PySem.W.Frag) (M : Mk) (H : Hp) (σ : L2.St) (env : En) (ds : List D) (J : It) : Prop :=
  ∀ (pin : Nat → Bool) (M2 : Mk) (H2 : Hp) (σ2 : L2.St) (env2 : En), EnvOk K M2 H2 σ2 env2 → Stp pin M H σ env M2 H2 σ2 env2 → ∀ i,
    (∀ d, ds[i]? = some d → J.go i H2 ∧ ∀ x H3, J.yld i H2 x H3 → EnvOk K M2 H3 σ2 env2 ∧ Stp allP M2 H2 σ2 env2 M2 H3 σ2 env2 ∧ Rep K M2 H3 d x) ∧ (ds.length ≤ i → J.stop i H2)
def tI (K : PySem.W.Frag) (f : Zm (List D × Option Nat)) : TI := fun σ H R => ∃ M env, EnvOk K M H σ env ∧ match f env with
  | .ok x env' => ∀ M' H' J, EnvOk K M' H' σ env' → OwnO env' x.2 → Stp allP M H σ env M' H' σ env' → ItOk K M' H' σ (lock x.2 env') x.1 J → R J H'
  | _ => False
theorem lockOf_ok {p : PV} : OwnO env (lockOf env p) := by
  cases h : lockOf env p with
  | none => trivial
  | some i => obtain ⟨d, h1, _⟩ := lockOf_own h; exact ⟨d, h1⟩
/-- what is walked is not written -/
theorem src_lst {p : PV} {ds : List D} (e : EnvOk K M H σ env) (f : Fil1 K M H σ p v) (g : fill1 env p = some (.lst ds)) :
    ∃ a xs, v = .ref a ∧ H a = some (.lst xs) ∧ Reps K M H ds xs ∧ ¬ Wr σ (lock (lockOf env p) env) a := by
  have e' := e.lock (o := lockOf env p) lockOf_ok
  cases p with
  | val x =>
    cases g
    cases (show Rep K M H (.lst ds) v from f) with
    | lst h1 h2 h3 => exact ⟨_, _, rfl, h1, h3, fun w => h2 (e'.wr_m w)⟩
  | «at» i =>
    simp only [fill1] at g
    split at g
    · rename_i d' m q
      cases g
      obtain ⟨w, h1, h2⟩ := e.slot i _ m q
      have f : σ[i]? = some (some v) := f
      rw [f] at h1
      cases h1
      cases m with
      | frz =>
        cases (show Rep K M H (.lst ds) v from h2) with
        | lst k1 k2 k3 => exact ⟨_, _, rfl, k1, k3, fun w => k2 (e'.wr_m w)⟩
      | own =>
        obtain ⟨_, a, xs, z, rfl, h3, h4, h5⟩ := h2
        cases z
        have : lockOf env (.at i) = some i := by simp only [lockOf, q]
        rw [this]
        exact ⟨a, xs, rfl, h4, h5, lock_nowr e q f⟩
      | lck =>
        obtain ⟨_, a, xs, z, rfl, h3, h4, h5⟩ := h2
        cases z
        refine ⟨a, xs, rfl, h4, h5, fun ⟨j, w⟩ => ?_⟩
        have w2 := (lock_own lockOf_ok w).1
        obtain ⟨d0, w3, _⟩ := id w2
        exact e.apart j i a (fun z => by subst z; rw [q] at w3; cases w3) w2 ⟨_, .lck, by decide, q, f⟩
    · cases g
theorem it_lst {a : Addr} {xs : List V} {ds : List D} (e : EnvOk K M H σ env) (h : H a = some (.lst xs)) (r : Reps K M H ds xs) (n : ¬ Wr σ env a) : ItOk K M H σ env ds (Itl K a) := by
  intro pin M2 H2 σ2 env2 e2 s i
  have h2 : H2 a = some (.lst xs) := s.heap a _ h n
  have r2 := r.keeps e.mok (s.keeps e)
  refine ⟨fun d g => ?_, fun l => ⟨xs, .inl (.inl h2), by rw [← r.length]; exact l⟩⟩
  obtain ⟨x, g1, g2⟩ := r2.get g
  refine ⟨⟨xs, x, .inl (.inl h2), g1⟩, fun y H3 hy => ?_⟩
  obtain ⟨rfl, hy⟩ := hy
  have := hy xs (.inl (.inl h2))
  rw [g1] at this
  cases this
  exact ⟨e2, .refl, g2⟩
theorem it_rol {a : Addr} {xs : List V} {ds : List D} (e : EnvOk K M H σ env) (h : RolL K M H a xs) (r : Reps K M H ds xs) : ItOk K M H σ env ds (Itl K a) := by
  intro pin M2 H2 σ2 env2 e2 s i
  have h2 := (h.keeps e.mok (s.keeps e)).sq
  have r2 := r.keeps e.mok (s.keeps e)
  refine ⟨fun d g => ?_, fun l => ⟨xs, h2, by rw [← r.length]; exact l⟩⟩
  obtain ⟨x, g1, g2⟩ := r2.get g
  refine ⟨⟨xs, x, h2, g1⟩, fun y H3 hy => ?_⟩
  obtain ⟨rfl, hy⟩ := hy
  have := hy xs h2
  rw [g1] at this
  cases this
  exact ⟨e2, .refl, g2⟩
theorem it_tup {a : Addr} {xs : List V} {ds : List D} (e : EnvOk K M H σ env) (h : SqT K H a xs) (r : Reps K M H ds xs) : ItOk K M H σ env ds (Itt K a) := by
  intro pin M2 H2 σ2 env2 e2 s i
  have h2 := SqT.keeps e.mok (s.keeps e) h
  have r2 := r.keeps e.mok (s.keeps e)
  refine ⟨fun d g => ?_, fun l => ⟨xs, h2, by rw [← r.length]; exact l⟩⟩
  obtain ⟨x, g1, g2⟩ := r2.get g
  refine ⟨⟨xs, x, h2, g1⟩, fun y H3 hy => ?_⟩
  obtain ⟨rfl, hy⟩ := hy
  have := hy xs h2
  rw [g1] at this
  cases this
  exact ⟨e2, .refl, g2⟩
theorem rangeD_get : ∀ {n : Nat} {lo : Int} {i : Nat} {d : D}, (rangeD lo n)[i]? = some d → i < n ∧ d = .int (lo + i)
  | 0, _, _, _, h => by simp [rangeD] at h
  | n + 1, lo, 0, d, h => by simp [rangeD] at h; subst h; simp
  | n + 1, lo, i + 1, d, h => by
    simp only [rangeD, List.getElem?_cons_succ] at h
    obtain ⟨h1, h2⟩ := rangeD_get h
    refine ⟨by omega, ?_⟩
    rw [h2]
    congr 1
    push_cast
    omega
theorem rangeD_len : ∀ (n : Nat) (lo : Int), (rangeD lo n).length = n
  | 0, _ => rfl
  | n + 1, lo => by simp [rangeD, rangeD_len n]
theorem it_rng {lo : Int} {n : Nat} : ItOk K M H σ env (rangeD lo n) (Itr lo n) := by
  intro pin M2 H2 σ2 env2 e2 s i
  refine ⟨fun d g => ?_, fun l => ?_⟩
  · obtain ⟨h1, rfl⟩ := rangeD_get g
    refine ⟨h1, fun y H3 hy => ?_⟩
    obtain ⟨rfl, rfl⟩ := hy
    exact ⟨e2, .refl, .int _⟩
  · rw [rangeD_len] at l
    exact l
theorem enum_get : ∀ {ds : List D} {k i : Nat} {d : D}, ((List.range' k ds.length).zipWith (fun (k : Nat) d => D.tup [.int (k : Int), d]) ds)[i]? = some d → ∃ x, ds[i]? = some x ∧ d = .tup [.int ((k + i : Nat) : Int), x]
  | [], _, _, _, h => by simp at h
  | x :: ds, k, 0, d, h => by
    simp [List.range'_succ] at h
    exact ⟨x, rfl, by rw [← h]; simp⟩
  | x :: ds, k, i + 1, d, h => by
    simp only [List.length_cons, List.range'_succ, List.zipWith_cons_cons, List.getElem?_cons_succ] at h
    obtain ⟨y, h1, h2⟩ := enum_get h
    exact ⟨y, by simpa using h1, by rw [h2]; congr 4; omega⟩
theorem it_enum {a : Addr} {ds : List D} (i1 : ItOk K M H σ env ds (Itl K a)) : ItOk K M H σ env ((List.range ds.length).zipWith (fun (k : Nat) d => D.tup [.int (k : Int), d]) ds) (Ite K a) := by
  intro pin M2 H2 σ2 env2 e2 s i
  obtain ⟨h1, h2⟩ := i1 pin M2 H2 σ2 env2 e2 s i
  refine ⟨fun d g => ?_, fun l => h2 (by simpa using l)⟩
  rw [List.range_eq_range'] at g
  obtain ⟨x, g1, rfl⟩ := enum_get g
  obtain ⟨⟨xs, y, k1, k2⟩, k3⟩ := h1 x g1
  refine ⟨⟨xs, y, k1, k2⟩, fun z H3 hy => ?_⟩
  obtain ⟨T, w, rfl, hT, rfl, hw⟩ := hy
  obtain ⟨_, _, k4⟩ := k3 w H2 ⟨rfl, hw⟩
  have := alloc_tup (ds := [.int ((0 + i : Nat) : Int), x]) (xs := [.int (i : Nat), w]) e2 hT (.cons (by rw [Nat.zero_add]; exact .int _) (.cons k4 .nil))
  exact ⟨this.1, this.2.1, this.2.2⟩
theorem combAux_get {n : Nat} : ∀ {f : Nat} {o : Option (List Nat)} {L : List (List Nat)}, combAux n f o = some L → ∀ (s : Nat → Option (List Nat)), s 0 = o → (∀ i, s (i + 1) = (s i).bind (ZCmb.nxt n)) → ∀ i : Nat, L[i]? = s i := by
  have dead : ∀ (s : Nat → Option (List Nat)), s 0 = none → (∀ i, s (i + 1) = (s i).bind (ZCmb.nxt n)) → ∀ i, s i = none := fun s h0 hs i => by
    induction i with
    | zero => exact h0
    | succ i ih => rw [hs, ih]; rfl
  intro f
  induction f with
  | zero =>
    intro o L h s h0 hs i
    cases o with
    | none => simp only [combAux] at h; cases h; rw [dead s h0 hs i]; rfl
    | some a => simp only [combAux] at h; cases h
  | succ f ih =>
    intro o L h s h0 hs i
    cases o with
    | none => simp only [combAux] at h; cases h; rw [dead s h0 hs i]; rfl
    | some a =>
      simp only [combAux] at h
      obtain ⟨L', h1, rfl⟩ := map_some h
      cases i with
      | zero => rw [h0]; rfl
      | succ i =>
        rw [List.getElem?_cons_succ]
        exact ih h1 (fun j => s (j + 1)) (by rw [hs, h0]; rfl) (fun j => hs (j + 1)) i
theorem combs_get {n r : Nat} {L : List (List Nat)} (h : combs n r = some L) (i : Nat) : L[i]? = ZCmb.seqI n r i :=
  combAux_get h (ZCmb.seqI n r) rfl (fun _ => rfl) i
theorem reps_pick {ds : List D} {xs : List V} (r : Reps K M H ds xs) : ∀ idx : List Nat, Reps K M H (idx.map fun j => ds.getD j .non) (idx.map fun j => xs.getD j .non)
  | [] => .nil
  | j :: idx => by
    refine .cons ?_ (reps_pick r idx)
    show Rep K M H (ds.getD j .non) (xs.getD j .non)
    rw [List.getD_eq_getElem?_getD, List.getD_eq_getElem?_getD]
    cases hx : ds[j]? with
    | none =>
      have : xs[j]? = none := by
        rw [List.getElem?_eq_none_iff] at hx ⊢
        rw [← r.length]
        exact hx
      rw [this]
      exact .non
    | some d =>
      obtain ⟨v, h1, h2⟩ := r.get hx
      rw [h1]
      exact h2
theorem it_cmb {ds : List D} {xs : List V} {n : Nat} {L : List (List Nat)} (e : EnvOk K M H σ env) (r : Reps K M H ds xs) (hL : combs ds.length n = some L) : ItOk K M H σ env (L.map fun idx => D.tup (idx.map fun j => ds.getD j .non)) (ZCmb.Itcm xs n) := by
  intro pin M2 H2 σ2 env2 e2 s i
  have r2 := r.keeps e.mok (s.keeps e)
  have hg := combs_get hL i
  rw [r.length] at hg
  refine ⟨fun d g => ?_, fun l => ?_⟩
  · rw [List.getElem?_map] at g
    obtain ⟨a, h1, rfl⟩ := map_some g
    rw [hg] at h1
    refine ⟨by show (ZCmb.seqI xs.length n i).isSome = true; rw [h1]; rfl, fun x H3 hy => ?_⟩
    obtain ⟨T, a', rfl, hT, rfl, hs⟩ := hy
    rw [h1] at hs
    cases hs
    have := alloc_tup (ds := a.map fun j => ds.getD j .non) (xs := a.map fun j => xs.getD j .non) e2 hT (reps_pick r2 a)
    exact ⟨this.1, this.2.1, this.2.2⟩
  · rw [List.length_map] at l
    show ZCmb.seqI xs.length n i = none
    rw [← hg, List.getElem?_eq_none_iff]
    exact l
/-- a list or a tuple, walked -/
theorem pi_seq {X : Cx} {tg l : Expr} {tl : TE} (hl : PE X l tl) : PI X tg l (fun σ H R => tl σ H fun x H1 => ∃ a, x = .ref a ∧ (((∃ xs, SqL X.K H1 a xs) ∧ R (Itl X.K a) H1) ∨ ((∃ xs, SqT X.K H1 a xs) ∧ R (Itt X.K a) H1))) := by
  refine ⟨fun pins s σ H R I h => ?_⟩
  refine thn (hl.run pins s σ H _ I h) fun v s1 ⟨x, H1, I1, r1, q1⟩ => ?_
  obtain ⟨a, e, q1⟩ := q1
  subst e
  cases r1
  rcases q1 with ⟨⟨xs, hq⟩, q⟩ | ⟨⟨xs, hq⟩, q⟩
  · obtain ⟨its, rv, p, hz⟩ := I1.list hq
    refine wpAny_pyIter_list p.isList ?_
    refine ⟨s1.heap.objs.size, [s1.heap.objs.size], _, _, H1, rfl, I1.kept (t' := s1.toks) fun b o e => Heap.get?_push_of_some _ e, turn_list a _, ⟨_, Heap.get?_push_size _ rfl, rfl, rfl⟩, fun b hb => ?_, q⟩
    have e : b = s1.heap.objs.size := by simpa using hb
    subst e
    exact I1.fpOk (Nat.le_refl _) (I1.hok.fresh (Nat.le_refl _))
  · obtain ⟨its, rv, p, hz⟩ := I1.tuple hq
    refine wpAny_pyIter_tuple (show s1.heap.IsTuple a its.toArray from p) ?_
    refine ⟨s1.heap.objs.size, [s1.heap.objs.size], _, _, H1, rfl, I1.kept (t' := s1.toks) fun b o e => Heap.get?_push_of_some _ e, turn_tuple a _, ⟨_, Heap.get?_push_size _ rfl, rfl, rfl⟩, fun b hb => ?_, q⟩
    have e : b = s1.heap.objs.size := by simpa using hb
    subst e
    exact I1.fpOk (Nat.le_refl _) (I1.hok.fresh (Nat.le_refl _))
theorem i_over {x : IA} {R : It → Hp → Prop} (h : tI K (evI C (.over x)) σ H R) :
    tP K (evA C x) σ H fun v H1 => ∃ a, v = .ref a ∧ (((∃ xs, SqL K H1 a xs) ∧ R (Itl K a) H1) ∨ ((∃ xs, SqT K H1 a xs) ∧ R (Itt K a) H1)) := by
  obtain ⟨M, env, e, h⟩ := h
  refine ⟨M, env, e, ?_⟩
  unfold RP
  simp only [evI] at h
  cases hx : evA C x env with
  | bad => rw [hx] at h; exact h.elim
  | ex => rw [hx] at h; exact h.elim
  | ok p env1 =>
    rw [hx] at h
    simp only [Out.bind_ok] at h
    intro M1 H1 v1 e1 s1 f1
    cases hf : fill1 env1 p with
    | none => rw [hf] at h; exact h.elim
    | some d =>
      rw [hf] at h
      have a1 := fill1_any e1 f1 hf
      have eL := e1.lock (o := lockOf env1 p) lockOf_ok
      cases d with
      | lst ds =>
        obtain ⟨a, xs, rfl, h1, h2, h3⟩ := src_lst e1 f1 hf
        exact ⟨a, rfl, .inl ⟨⟨xs, .inl (.inl h1)⟩, h M1 H1 _ e1 lockOf_ok s1 (it_lst eL h1 h2 h3)⟩⟩
      | tup ds =>
        obtain ⟨a, xs, rfl, h1, h2⟩ := a1.tup
        exact ⟨a, rfl, .inr ⟨⟨xs, h1⟩, h M1 H1 _ e1 lockOf_ok s1 (it_tup eL h1 h2)⟩⟩
      | rol ds =>
        have : ∃ a xs, v1 = .ref a ∧ RolL K M1 H1 a xs ∧ Reps K M1 H1 ds xs := by
          obtain ⟨m, a1⟩ := a1
          cases m with
          | frz => cases (show Rep K M1 H1 (.rol ds) v1 from a1) with | rol h1 h2 => exact ⟨_, _, rfl, h1, h2⟩
          | own => obtain ⟨_, _, _, z, _⟩ := a1; cases z
          | lck => obtain ⟨_, _, _, z, _⟩ := a1; cases z
        obtain ⟨a, xs, rfl, h1, h2⟩ := this
        exact ⟨a, rfl, .inl ⟨⟨xs, h1.sq⟩, h M1 H1 _ e1 lockOf_ok s1 (it_rol eL h1 h2)⟩⟩
      | _ => exact h.elim
theorem it_rev {a : Addr} {xs : List V} {ds : List D} (e : EnvOk K M H σ env) (h : H a = some (.lst xs)) (r : Reps K M H ds xs) (n : ¬ Wr σ env a) : ItOk K M H σ env ds.reverse (Itv K a xs.length) := by
  intro pin M2 H2 σ2 env2 e2 s i
  have h2 : H2 a = some (.lst xs) := s.heap a _ h n
  have r2 := (r.keeps e.mok (s.keeps e)).reverse
  have hl := r.length
  refine ⟨fun d g => ?_, fun l => by rw [List.length_reverse] at l; show xs.length ≤ i; omega⟩
  obtain ⟨x, g1, g2⟩ := r2.get g
  have hi : i < xs.length := by have := lt_of_get g1; rwa [List.length_reverse] at this
  rw [List.getElem?_reverse hi] at g1
  refine ⟨⟨hi, xs, x, .inl (.inl h2), g1⟩, fun y H3 hy => ?_⟩
  obtain ⟨rfl, hy⟩ := hy
  have := hy xs (.inl (.inl h2))
  rw [g1] at this
  cases this
  exact ⟨e2, .refl, g2⟩
theorem i_rev {x : IA} {R : It → Hp → Prop} (h : tI K (evI C (.rev x)) σ H R) :
    tP K (evA C x) σ H fun v H1 => ∃ (a : Addr) (xs : List V), v = .ref a ∧ ((SqL K H1 a xs ∧ R (Itv K a xs.length) H1) ∨ (SqT K H1 a xs ∧ R (RT.ItvT K a xs.length) H1)) := by
  obtain ⟨M, env, e, h⟩ := h
  refine ⟨M, env, e, ?_⟩
  unfold RP
  simp only [evI] at h
  cases hx : evA C x env with
  | bad => rw [hx] at h; exact h.elim
  | ex => rw [hx] at h; exact h.elim
  | ok p env1 =>
    rw [hx] at h
    simp only [Out.bind_ok] at h
    intro M1 H1 v1 e1 s1 f1
    cases hf : fill1 env1 p with
    | none => rw [hf] at h; exact h.elim
    | some d =>
      rw [hf] at h
      have eL := e1.lock (o := lockOf env1 p) lockOf_ok
      cases d with
      | lst ds =>
        obtain ⟨a, xs, rfl, h1, h2, h3⟩ := src_lst e1 f1 hf
        exact ⟨a, xs, rfl, .inl ⟨.inl (.inl h1), h M1 H1 _ e1 lockOf_ok s1 (it_rev eL h1 h2 h3)⟩⟩
      | _ => exact h.elim
theorem zip_get : ∀ {xs ys : List D} {i : Nat} {d : D}, (List.zipWith (fun x y => D.tup [x, y]) xs ys)[i]? = some d → ∃ x y, xs[i]? = some x ∧ ys[i]? = some y ∧ d = .tup [x, y]
  | [], _, _, _, h => by simp at h
  | _ :: _, [], _, _, h => by simp at h
  | x :: xs, y :: ys, 0, d, h => by simp at h; exact ⟨x, y, rfl, rfl, h.symm⟩
  | x :: xs, y :: ys, i + 1, d, h => by
    simp only [List.zipWith_cons_cons, List.getElem?_cons_succ] at h
    obtain ⟨u, w, h1, h2, h3⟩ := zip_get h
    exact ⟨u, w, by simpa using h1, by simpa using h2, h3⟩
theorem it_zipt {a b : Addr} {us ws : List V} {xs ys : List D} (e : EnvOk K M H σ env) (h1 : SqT K H a us) (h2 : SqT K H b ws) (r1 : Reps K M H xs us) (r2 : Reps K M H ys ws) : ItOk K M H σ env (List.zipWith (fun x y => D.tup [x, y]) xs ys) (RZ.ItzT K a b) := by
  intro pin M2 H2 σ2 env2 e2 s i
  have k1 := SqT.keeps e.mok (s.keeps e) h1
  have k2 := SqT.keeps e.mok (s.keeps e) h2
  have q1 := r1.keeps e.mok (s.keeps e)
  have q2 := r2.keeps e.mok (s.keeps e)
  refine ⟨fun d g => ?_, fun l => ⟨us, ws, k1, k2, by rw [List.length_zipWith, r1.length, r2.length] at l; omega⟩⟩
  obtain ⟨x, y, g1, g2, rfl⟩ := zip_get g
  obtain ⟨u, g3, g4⟩ := q1.get g1
  obtain ⟨w, g5, g6⟩ := q2.get g2
  refine ⟨⟨us, ws, u, w, k1, k2, g3, g5⟩, fun z H3 hy => ?_⟩
  obtain ⟨T, u', w', rfl, hT, rfl, hu, hw⟩ := hy
  have e3 := hu us k1
  rw [g3] at e3
  cases e3
  have e4 := hw ws k2
  rw [g5] at e4
  cases e4
  have := alloc_tup (ds := [x, y]) (xs := [u, w]) e2 hT (.cons g4 (.cons g6 .nil))
  exact ⟨this.1, this.2.1, this.2.2⟩
theorem it_ziptl {a b : Addr} {us ws : List V} {xs ys : List D} (e : EnvOk K M H σ env) (h1 : SqT K H a us) (h2 : H b = some (.lst ws)) (n : ¬ Wr σ env b) (r1 : Reps K M H xs us) (r2 : Reps K M H ys ws) : ItOk K M H σ env (List.zipWith (fun x y => D.tup [x, y]) xs ys) (ItzM K a b) := by
  intro pin M2 H2 σ2 env2 e2 s i
  have k1 := SqT.keeps e.mok (s.keeps e) h1
  have k2 : SqL K H2 b ws := .inl (.inl (s.heap b _ h2 n))
  have q1 := r1.keeps e.mok (s.keeps e)
  have q2 := r2.keeps e.mok (s.keeps e)
  refine ⟨fun d g => ?_, fun l => ⟨us, ws, k1, k2, by rw [List.length_zipWith, r1.length, r2.length] at l; omega⟩⟩
  obtain ⟨x, y, g1, g2, rfl⟩ := zip_get g
  obtain ⟨u, g3, g4⟩ := q1.get g1
  obtain ⟨w, g5, g6⟩ := q2.get g2
  refine ⟨⟨us, ws, u, w, k1, k2, g3, g5⟩, fun z H3 hy => ?_⟩
  obtain ⟨T, u', w', rfl, hT, rfl, hu, hw⟩ := hy
  have e3 := hu us k1
  rw [g3] at e3
  cases e3
  have e4 := hw ws k2
  rw [g5] at e4
  cases e4
  have := alloc_tup (ds := [x, y]) (xs := [u, w]) e2 hT (.cons g4 (.cons g6 .nil))
  exact ⟨this.1, this.2.1, this.2.2⟩
theorem i_zipt {x y : IA} {R : It → Hp → Prop} (h : tI K (evI C (.zipt x y)) σ H R) :
    tCons (tP K (evA C x)) (tCons (tP K (evA C y)) tNil) σ H fun vs H1 => ∃ a b xs ys, vs = [.ref a, .ref b] ∧ SqT K H1 a xs ∧ ((SqT K H1 b ys ∧ R (RZ.ItzT K a b) H1) ∨ (SqL K H1 b ys ∧ R (ItzM K a b) H1)) := by
  obtain ⟨M, env, e, h⟩ := h
  refine ⟨M, env, e, ?_⟩
  unfold RP
  simp only [evI] at h
  cases hx : evA C x env with
  | bad => rw [hx] at h; exact h.elim
  | ex => rw [hx] at h; exact h.elim
  | ok p1 env1 =>
    rw [hx] at h
    simp only [Out.bind_ok] at h
    intro M1 H1 v1 e1 s1 f1
    refine ⟨M1, env1, e1, ?_⟩
    unfold RP
    cases hy : evA C y env1 with
    | bad => rw [hy] at h; exact h.elim
    | ex => rw [hy] at h; exact h.elim
    | ok p2 env2 =>
      rw [hy] at h
      simp only [Out.bind_ok] at h
      intro M2 H2 v2 e2 s2 f2
      have f1' := f1.keeps e1.mok (s2.keeps e1)
      have s12 := s1.trans e.mok s2
      cases hf1 : fill1 env2 p1 with
      | none => rw [hf1] at h; exact h.elim
      | some d1 =>
      cases hf2 : fill1 env2 p2 with
      | none => rw [hf1, hf2] at h; cases d1 <;> exact h.elim
      | some d2 =>
      rw [hf1, hf2] at h
      have a1 := fill1_any e2 f1' hf1
      have a2 := fill1_any e2 f2 hf2
      cases d1 <;> cases d2 <;> first | exact h.elim | skip
      · obtain ⟨a, us, rfl, h1, r1⟩ := a1.tup
        obtain ⟨b, ws, rfl, h2, r2⟩ := a2.tup
        exact ⟨a, b, us, ws, rfl, h1, .inl ⟨h2, h M2 H2 _ e2 trivial s12 (it_zipt e2 h1 h2 r1 r2)⟩⟩
      · obtain ⟨a, us, rfl, h1, r1⟩ := a1.tup
        have eL := e2.lock (o := lockOf env2 p2) lockOf_ok
        obtain ⟨b, ws, rfl, h2, r2, h3⟩ := src_lst e2 f2 hf2
        exact ⟨a, b, us, ws, rfl, h1, .inr ⟨.inl (.inl h2), h M2 H2 _ e2 lockOf_ok s12 (it_ziptl eL h1 h2 h3 r1 r2)⟩⟩
theorem i_enum {x : IA} {R : It → Hp → Prop} (h : tI K (evI C (.enum x)) σ H R) :
    tCons (tP K (evA C x)) tNil σ H fun vs H1 => ∃ a xs, vs = [.ref a] ∧ SqL K H1 a xs ∧ R (Ite K a) H1 := by
  obtain ⟨M, env, e, h⟩ := h
  refine ⟨M, env, e, ?_⟩
  unfold RP
  simp only [evI] at h
  cases hx : evA C x env with
  | bad => rw [hx] at h; exact h.elim
  | ex => rw [hx] at h; exact h.elim
  | ok p env1 =>
    rw [hx] at h
    simp only [Out.bind_ok] at h
    intro M1 H1 v1 e1 s1 f1
    cases hf : fill1 env1 p with
    | none => rw [hf] at h; exact h.elim
    | some d =>
      rw [hf] at h
      have a1 := fill1_any e1 f1 hf
      have eL := e1.lock (o := lockOf env1 p) lockOf_ok
      cases d with
      | lst ds =>
        obtain ⟨a, xs, rfl, h1, h2, h3⟩ := src_lst e1 f1 hf
        exact ⟨a, xs, rfl, .inl (.inl h1), h M1 H1 _ e1 lockOf_ok s1 (it_enum (it_lst eL h1 h2 h3))⟩
      | rol ds =>
        have : ∃ a xs, v1 = .ref a ∧ RolL K M1 H1 a xs ∧ Reps K M1 H1 ds xs := by
          obtain ⟨m, a1⟩ := a1
          cases m with
          | frz => cases (show Rep K M1 H1 (.rol ds) v1 from a1) with | rol h1 h2 => exact ⟨_, _, rfl, h1, h2⟩
          | own => obtain ⟨_, _, _, z, _⟩ := a1; cases z
          | lck => obtain ⟨_, _, _, z, _⟩ := a1; cases z
        obtain ⟨a, xs, rfl, h1, h2⟩ := this
        exact ⟨a, xs, rfl, h1.sq, h M1 H1 _ e1 lockOf_ok s1 (it_enum (it_rol eL h1 h2))⟩
      | _ => exact h.elim
theorem i_cmb {x : IA} {r : Nat} (hr : r ≤ 10) {R : It → Hp → Prop} (h : tI K (evI C (.cmb x r)) σ H R) :
    tCons (tP K (evA C x)) (tCons (tC (.int (r : Int))) tNil) σ H fun vs H1 => ∃ a xs, ∃ r : Nat, vs = [.ref a, .int (r : Int)] ∧ r ≤ 10 ∧ SqL K H1 a xs ∧ R (ZCmb.Itcm xs r) H1 := by
  obtain ⟨M, env, e, h⟩ := h
  refine ⟨M, env, e, ?_⟩
  unfold RP
  simp only [evI] at h
  cases hx : evA C x env with
  | bad => rw [hx] at h; exact h.elim
  | ex => rw [hx] at h; exact h.elim
  | ok p env1 =>
    rw [hx] at h
    simp only [Out.bind_ok] at h
    intro M1 H1 v1 e1 s1 f1
    cases hf : fill1 env1 p with
    | none => rw [hf] at h; exact h.elim
    | some d =>
    rw [hf] at h
    cases d <;> first | exact h.elim | skip
    rename_i ds
    simp only at h
    cases hL : combs ds.length r with
    | none => rw [hL] at h; exact h.elim
    | some L =>
    rw [hL] at h
    obtain ⟨a, xs, rfl, h1, h2, h3⟩ := src_lst e1 f1 hf
    exact ⟨a, xs, r, rfl, hr, .inl (.inl h1), h M1 H1 _ e1 trivial s1 (it_cmb e1 h2 hL)⟩
theorem i_cmbR {x : IE} {r : Nat} {R : It → Hp → Prop} (h : tI K (evI C (.cmbR x r)) σ H R) :
    tZ K (evE C x) σ H fun v H1 => ∃ n, v = .int n ∧ RgOk 0 n ∧ R (ZCmb.Itcm (rgV 0 n) r) H1 := by
  obtain ⟨M, env, e, h⟩ := h
  refine ⟨M, env, e, ?_⟩
  unfold RZ
  simp only [evI] at h
  cases hx : evE C x env with
  | bad => rw [hx] at h; exact h.elim
  | ex => rw [hx] at h; exact h.elim
  | ok z env1 =>
    rw [hx] at h
    simp only [Out.bind_ok] at h
    intro M1 H1 v1 e1 s1 r1
    obtain ⟨M1', e1', s1', r1'⟩ := r1.freeze e e1 s1
    obtain ⟨d, fr⟩ := z
    cases d with
    | int n =>
      simp only at h r1'
      by_cases hn : 0 ≤ n ∧ n ≤ 1000
      case neg => rw [if_neg hn] at h; exact h.elim
      rw [if_pos hn] at h
      cases hL : combs n.toNat r with
      | none => rw [hL] at h; exact h.elim
      | some L =>
      rw [hL] at h
      refine ⟨n, (AnyR.of r1').int, RgOk.of_le (by omega) (by omega) (by omega) (by omega), ?_⟩
      have hrep : Reps K M1' H1 ((List.range n.toNat).map fun (j : Nat) => D.int (j : Int)) (rgV 0 n) := by
        unfold rgV
        rw [Int.sub_zero]
        generalize List.range n.toNat = l
        induction l with
        | nil => exact .nil
        | cons j l ih => exact .cons (by show Rep K M1' H1 (.int (j : Int)) (.int (0 + (j : Nat))); rw [Int.zero_add]; exact .int _) ih
      have hL' : combs ((List.range n.toNat).map fun (j : Nat) => D.int (j : Int)).length r = some L := by rw [List.length_map, List.length_range]; exact hL
      have it := it_cmb e1' hrep hL'
      exact h M1' H1 _ e1' trivial s1' it
    | _ => exact h.elim
theorem i_range {x y : IE} {R : It → Hp → Prop} (h : tI K (evI C (.range x y)) σ H R) :
    tCons (tZ K (evE C x)) (tCons (tZ K (evE C y)) tNil) σ H fun vs H1 => ∃ i j : Int, vs = [.int i, .int j] ∧ (-(2 ^ 62) ≤ i ∧ i < 2 ^ 62 ∧ -(2 ^ 62) ≤ j ∧ j < 2 ^ 62) ∧ R (Itr i (j - i).toNat) H1 := by
  obtain ⟨M, env, e, h⟩ := h
  refine ⟨M, env, e, ?_⟩
  unfold RZ
  simp only [evI] at h
  cases hx : evE C x env with
  | bad => rw [hx] at h; exact h.elim
  | ex => rw [hx] at h; exact h.elim
  | ok z1 env1 =>
    rw [hx] at h
    simp only [Out.bind_ok] at h
    intro M1 H1 v1 e1 s1 r1
    obtain ⟨M1', e1', s1', r1'⟩ := r1.freeze e e1 s1
    refine ⟨M1', env1, e1', ?_⟩
    unfold RZ
    cases hy : evE C y env1 with
    | bad => rw [hy] at h; exact h.elim
    | ex => rw [hy] at h; exact h.elim
    | ok z2 env2 =>
      rw [hy] at h
      simp only [Out.bind_ok] at h
      intro M2 H2 v2 e2 s2 r2
      obtain ⟨M2', e2', s2', r2'⟩ := r2.freeze e1' e2 s2
      have s12 := s1'.trans e.mok s2'
      obtain ⟨d1, f1⟩ := z1
      obtain ⟨d2, f2⟩ := z2
      cases d1 with
      | int i =>
        cases d2 with
        | int j =>
          simp only at h
          by_cases hc : -(2 ^ 62) ≤ i ∧ i < 2 ^ 62 ∧ -(2 ^ 62) ≤ j ∧ j < 2 ^ 62
          · rw [if_pos hc] at h
            refine ⟨i, j, ?_, hc, h M2' H2 _ e2' trivial s12 it_rng⟩
            rw [(AnyR.of r1').int, (AnyR.of r2').int]
          · rw [if_neg hc] at h
            exact h.elim
        | _ => exact h.elim
      | _ => exact h.elim
end
end Z
namespace Z
open PySem PySem.Spec PyProof.Rows L2
section
variable {K : PySem.W.Frag} {C : Cl} {pin : Nat → Bool} {M M' M0 M1 M2 : Mk} {H H' H0 H1 H2 : Hp} {σ σ' σ1 σ2 : L2.St} {env env' env0 env1 env2 : En} {d d1 d2 : D} {v v1 v2 : V} {fr : Bool} {Q : VK}
abbrev outP (own : List Nat) : Nat → Bool := fun i => !own.contains i
theorem wipeE_len : ∀ {own : List Nat}, (wipeE env own).length = env.length
  | [] => rfl
  | v :: vs => by simp only [wipeE, List.length_set]; exact wipeE_len
theorem wipeE_in : ∀ {own : List Nat} {i : Nat} {s : D × Mo}, i ∈ own → (wipeE env own)[i]? ≠ some (some s)
  | v :: vs, i, s, h, g => by
    simp only [wipeE] at g
    rcases set_get g with ⟨_, z, _⟩ | ⟨n, g⟩
    · cases z
    · rcases List.mem_cons.mp h with z | h
      · exact n z.symm
      · exact wipeE_in h g
theorem wipeE_out : ∀ {own : List Nat} {i : Nat}, i ∉ own → (wipeE env own)[i]? = env[i]?
  | [], _, _ => rfl
  | v :: vs, i, h => by
    simp only [wipeE]
    rw [List.getElem?_set_ne (fun z => h (by rw [z]; exact List.mem_cons_self))]
    exact wipeE_out fun z => h (List.mem_cons_of_mem _ z)
theorem wipeσ_out : ∀ {own : List Nat} {i : Nat}, i ∉ own → (wipe σ own)[i]? = σ[i]?
  | [], _, _ => rfl
  | v :: vs, i, h => by
    unfold wipe
    rw [List.getElem?_set_ne (fun z => h (by rw [z]; exact List.mem_cons_self))]
    exact wipeσ_out fun z => h (List.mem_cons_of_mem _ z)
theorem wipeσ_in : ∀ {own : List Nat} {i : Nat}, i ∈ own → i < σ.length → (wipe σ own)[i]? = some none
  | v :: vs, i, h, l => by
    unfold wipe
    by_cases z : v = i
    · subst z
      exact List.getElem?_set_self (by rw [wipe_length]; exact l)
    · rw [List.getElem?_set_ne z]
      exact wipeσ_in ((List.mem_cons.mp h).resolve_left fun y => z y.symm) l
theorem wipe_same {own : List Nat} {σ3 : L2.St} (hl : σ3.length = σ.length) (h : ∀ i, i ∉ own → σ3[i]? = σ[i]?) : wipe σ3 own = wipe σ own := by
  refine List.ext_getElem? fun i => ?_
  by_cases hi : i ∈ own
  · by_cases hl2 : i < σ.length
    · rw [wipeσ_in hi hl2, wipeσ_in hi (by omega)]
    · rw [List.getElem?_eq_none (by rw [wipe_length]; omega), List.getElem?_eq_none (by rw [wipe_length]; omega)]
  · rw [wipeσ_out hi, wipeσ_out hi]
    exact h i hi
theorem wipe_get {own : List Nat} {i : Nat} {s : D × Mo} (g : (wipeE env own)[i]? = some (some s)) : i ∉ own ∧ env[i]? = some (some s) := by
  have n : i ∉ own := fun z => wipeE_in z g
  rw [wipeE_out n] at g
  exact ⟨n, g⟩
theorem wipe_own {own : List Nat} {i : Nat} {a : Addr} (g : OwnAt (wipe σ own) (wipeE env own) i a) : i ∉ own ∧ OwnAt σ env i a := by
  obtain ⟨d, g1, g2⟩ := g
  obtain ⟨n, g1⟩ := wipe_get g1
  rw [wipeσ_out n] at g2
  exact ⟨n, d, g1, g2⟩
theorem wipe_held {own : List Nat} {i : Nat} {a : Addr} (g : Held (wipe σ own) (wipeE env own) i a) : i ∉ own ∧ Held σ env i a := by
  obtain ⟨d, m, hm, g1, g2⟩ := g
  obtain ⟨n, g1⟩ := wipe_get g1
  rw [wipeσ_out n] at g2
  exact ⟨n, d, m, hm, g1, g2⟩
theorem EnvOk.wipe (e : EnvOk K M H σ env) (own : List Nat) : EnvOk K M H (L2.wipe σ own) (wipeE env own) :=
  ⟨by rw [wipe_length, wipeE_len]; exact e.len, fun i d m g => by
    obtain ⟨n, g⟩ := wipe_get g
    rw [wipeσ_out n]
    exact e.slot i d m g, fun i j a n g1 g2 => e.apart i j a n (wipe_own g1).2 (wipe_held g2).2, e.mok⟩
theorem plain_at {own : List Nat} (h : plainAt env own = true) {i : Nat} (hi : i ∈ own) : env[i]? = some none ∨ ∃ d, env[i]? = some (some (d, .frz)) := by
  unfold plainAt at h
  have := List.all_eq_true.mp h i hi
  split at this
  · left; assumption
  · right; exact ⟨_, by assumption⟩
  · cases this
theorem wipe_stp {own : List Nat} (h : plainAt env own = true) : Stp (outP own) M H σ env M H (L2.wipe σ own) (wipeE env own) := by
  have nin : ∀ i, outP own i = true → i ∉ own := fun i p z => by simp [outP, z] at p
  refine ⟨fun _ _ g _ => g, fun _ g => g, fun _ _ g => g, fun _ g _ => g, fun i a g => .inl (wipe_own g).2, fun i => ?_, fun i l => ?_, fun i p => wipeσ_out (nin i p), fun i p g => by rw [wipeE_out (nin i p)]; exact g⟩
  · constructor
    · rintro ⟨d, g⟩
      exact ⟨d, (wipe_get g).2⟩
    · rintro ⟨d, g⟩
      refine ⟨d, ?_⟩
      rw [wipeE_out]
      · exact g
      · intro z
        rcases plain_at h z with q | ⟨_, q⟩ <;> (rw [q] at g; cases g)
  · obtain ⟨d, g⟩ := l
    refine wipeσ_out fun z => ?_
    rcases plain_at h z with q | ⟨_, q⟩ <;> (rw [q] at g; cases g)
theorem restore_len : ∀ {own : List Nat}, (restore env0 env own).length = env.length
  | [] => rfl
  | v :: vs => by simp only [restore, List.length_set]; exact restore_len
theorem restore_out : ∀ {own : List Nat} {i : Nat}, i ∉ own → (restore env0 env own)[i]? = env[i]?
  | [], _, _ => rfl
  | v :: vs, i, h => by
    simp only [restore]
    rw [List.getElem?_set_ne (fun z => h (by rw [z]; exact List.mem_cons_self))]
    exact restore_out fun z => h (List.mem_cons_of_mem _ z)
theorem restore_in : ∀ {own : List Nat} {i : Nat}, i ∈ own → i < env.length → (restore env0 env own)[i]? = some ((env0[i]?).getD none)
  | v :: vs, i, h, l => by
    simp only [restore]
    by_cases z : v = i
    · subst z
      exact List.getElem?_set_self (by rw [restore_len]; exact l)
    · rw [List.getElem?_set_ne z]
      exact restore_in ((List.mem_cons.mp h).resolve_left fun y => z y.symm) l
theorem restore_get {own : List Nat} (hl : env.length = env0.length) (h : plainAt env0 own = true) {i : Nat} {d : D} {m : Mo} (g : (restore env0 env own)[i]? = some (some (d, m))) :
    (i ∈ own ∧ m = .frz ∧ env0[i]? = some (some (d, .frz))) ∨ (i ∉ own ∧ env[i]? = some (some (d, m))) := by
  by_cases hi : i ∈ own
  · have hl2 : i < env.length := by
      have := lt_of_get g
      rw [restore_len] at this
      exact this
    rw [restore_in hi hl2] at g
    rcases plain_at h hi with q | ⟨d0, q⟩
    · rw [q] at g; cases g
    · rw [q] at g
      cases g
      exact .inl ⟨hi, rfl, q⟩
  · rw [restore_out hi] at g
    exact .inr ⟨hi, g⟩
theorem restore_ok {own : List Nat} (e : EnvOk K M H σ env) (h : plainAt env own = true) (e2 : EnvOk K M2 H2 (L2.wipe σ own) env2) (s : Stp allP M H (L2.wipe σ own) (wipeE env own) M2 H2 (L2.wipe σ own) env2) :
    EnvOk K M2 H2 σ (restore env env2 own) ∧ Stp allP M H σ env M2 H2 σ (restore env env2 own) ∧ ∀ i a, Held σ (restore env env2 own) i a → Held (L2.wipe σ own) env2 i a := by
  have hl : env2.length = env.length := by rw [← e2.len, wipe_length, e.len]
  have kp : Keeps M H M2 H2 := s.keeps (e.wipe own)
  have ownR : ∀ {i a}, OwnAt σ (restore env env2 own) i a → OwnAt (L2.wipe σ own) env2 i a := by
    rintro i a ⟨d, g1, g2⟩
    rcases restore_get hl h g1 with ⟨_, z, _⟩ | ⟨n, g1⟩
    · cases z
    · exact ⟨d, g1, by rw [wipeσ_out n]; exact g2⟩
  have heldR : ∀ {i a}, Held σ (restore env env2 own) i a → Held (L2.wipe σ own) env2 i a := by
    rintro i a ⟨d, m, hm, g1, g2⟩
    rcases restore_get hl h g1 with ⟨_, z, _⟩ | ⟨n, g1⟩
    · exact absurd z hm
    · exact ⟨d, m, hm, g1, by rw [wipeσ_out n]; exact g2⟩
  have wrW : ∀ a, Wr (L2.wipe σ own) (wipeE env own) a → Wr σ env a := fun a ⟨i, g⟩ => ⟨i, (wipe_own g).2⟩
  refine ⟨⟨by rw [restore_len, hl]; exact e.len, fun i d m g => ?_, fun i j a n g1 g2 => e2.apart i j a n (ownR g1) (heldR g2), e2.mok⟩, ⟨fun a o g n => s.heap a o g fun w => n (wrW a w), s.dom, s.mold, fun a g n => s.mkeep a g fun w => n (wrW a w), fun i a g => ?_, fun i => ?_, fun _ _ => rfl, fun _ _ => rfl, fun i _ g => ?_⟩, fun i a g => heldR g⟩
  · rcases restore_get hl h g with ⟨hi, rfl, g'⟩ | ⟨n, g'⟩
    · obtain ⟨v, h1, h2⟩ := e.slot i d .frz g'
      exact ⟨v, h1, Rep.keeps e.mok kp h2⟩
    · obtain ⟨v, h1, h2⟩ := e2.slot i d m g'
      rw [wipeσ_out n] at h1
      exact ⟨v, h1, h2⟩
  · exact (s.wr i a (ownR g)).imp (fun x => (wipe_own x).2) id
  · by_cases hi : i ∈ own
    · constructor
      · rintro ⟨d, g⟩
        rcases restore_get hl h g with ⟨_, z, _⟩ | ⟨n, _⟩
        · cases z
        · exact absurd hi n
      · rintro ⟨d, g⟩
        rcases plain_at h hi with q | ⟨_, q⟩ <;> (rw [q] at g; cases g)
    · unfold IsL
      rw [restore_out hi, ← wipeE_out (env := env) hi]
      exact s.lck i
  · by_cases hi : i ∈ own
    · obtain ⟨t, g⟩ := g
      refine ⟨t, ?_⟩
      rw [restore_in hi (by rw [hl]; exact lt_of_get g), g]
      rfl
    · rw [restore_out hi]
      exact s.pinS i rfl (by rw [wipeE_out hi]; exact g)
theorem setS_pin {p q : Nat → Bool} {i : Nat} (h : p i = q i) : setS p i d fr env = setS q i d fr env := by
  unfold setS
  rw [h]
theorem setAll_pin {p q : Nat → Bool} : ∀ {l : List Nat} {ds : List D} {env : En}, (∀ i ∈ l, p i = q i) → setAll p l ds env = setAll q l ds env
  | [], [], _, _ => rfl
  | [], _ :: _, _, _ => rfl
  | _ :: _, [], _, _ => rfl
  | i :: is, d :: ds, env, h => by
    simp only [setAll]
    rw [setS_pin (h i List.mem_cons_self)]
    congr 1
    funext _ e
    exact setAll_pin fun j hj => h j (List.mem_cons_of_mem _ hj)
theorem setG_pin {own : List Nat} {g : IG} (h : tgIn own g = true) : setG (fun _ => false) g d env = setG (outP own) g d env := by
  cases g with
  | nm i =>
    simp only [tgIn] at h
    exact setS_pin (p := fun _ => false) (q := outP own) (show false = !own.contains i by rw [h]; rfl)
  | tp l =>
    cases d with
    | tup ds =>
      simp only [setG]
      refine setAll_pin fun i hi => ?_
      simp only [tgIn] at h
      have := List.all_eq_true.mp h i hi
      show false = !own.contains i
      rw [this]
      rfl
    | _ => rfl
theorem setS_len {i : Nat} {u : Unit} (h : setS pin i d fr env = .ok u env') : env'.length = env.length := by
  simp only [setS] at h
  split at h
  · cases h
  · split at h
    · cases h
    · cases h; exact List.length_set
  · cases h
theorem setAll_len : ∀ {l : List Nat} {ds : List D} {env env' : En} {u : Unit}, setAll pin l ds env = .ok u env' → env'.length = env.length
  | [], [], env, env', u, h => by simp only [setAll] at h; cases h; rfl
  | [], _ :: _, _, _, _, h => by simp [setAll] at h
  | _ :: _, [], _, _, _, h => by simp [setAll] at h
  | i :: is, d :: ds, env, env', u, h => by
    simp only [setAll] at h
    cases hq : setS pin i d false env with
    | bad => rw [hq] at h; cases h
    | ex => rw [hq] at h; cases h
    | ok u1 env1 =>
      rw [hq] at h
      rw [setAll_len h, setS_len hq]
theorem setG_len {g : IG} {u : Unit} (h : setG pin g d env = .ok u env') : env'.length = env.length := by
  cases g with
  | nm i => exact setS_len h
  | tp l =>
    cases d with
    | tup ds => exact setAll_len h
    | _ => simp [setG] at h
theorem Stp.noheld {a : Addr} (s : Stp pin M H σ env M' H' σ' env') (h : ∀ i, ¬ Held σ env i a) (n : H a ≠ none) : ∀ i, ¬ Held σ' env' i a := by
  rintro i ⟨d, m, hm, g1, g2⟩
  cases m with
  | frz => exact hm rfl
  | own =>
    rcases s.wr i a ⟨d, g1, g2⟩ with w | w
    · exact h i w.held
    · exact n w
  | lck =>
    have l := (s.lck i).mp ⟨d, g1⟩
    obtain ⟨d0, l0⟩ := id l
    exact h i ⟨d0, .lck, by decide, l0, by rw [← s.lkσ i l]; exact g2⟩
/-- a list that nobody holds grows -/
theorem EnvOk.grow {a : Addr} {xs : List V} (e : EnvOk K M H σ env) (hm : M a) (h : ∀ i, ¬ Held σ env i a) : EnvOk K M (upd H a (.lst xs)) σ env := by
  refine ⟨e.len, fun i d m g => ?_, e.apart, fun b hb => ?_⟩
  · obtain ⟨v, h1, h2⟩ := e.slot i d m g
    refine ⟨v, h1, h2.keeps e.mok ⟨fun b o q n => ?_, fun _ _ z => z⟩ fun hm' b eb => ⟨e.held_m ⟨d, m, hm', g, by rw [h1, eb]⟩, fun o q => ?_⟩⟩
    · rw [upd_ne (fun z => by subst z; exact n hm)]
      exact q
    · rw [upd_ne]
      · exact q
      · intro z
        subst z
        exact h i ⟨d, m, hm', g, by rw [h1, eb]⟩
  · by_cases z : b = a
    · subst z
      exact ⟨xs, upd_same⟩
    · obtain ⟨ys, q⟩ := e.mok b hb
      exact ⟨ys, by rw [upd_ne z]; exact q⟩
/-- a turn of a comprehension -/
def lcTurn (C : Cl) (own : List Nat) (tg : IG) (cond : List IT) (elt : IE) (d : D) : Zm (Option D) := fun env => (setG (fun _ => false) tg d env).bind fun _ env => (evTs C cond env).bind (fun b env =>
  if b then (evE C elt env).bind (fun x env => .ok (some x.1) (wipeE env own)) else .ok none (wipeE env own))
theorem z_comp {own : List Nat} {tg : IG} {src : II} {cond : List IT} {elt : IE} (ht : tgIn own tg = true) (h : tZ K (evE C (.comp own tg src cond elt)) σ H Q) :
    tLc (tI K (evI C src)) (tGt K (outP own) tg) (tB K (evTs C cond)) (tZ K (evE C elt)) own σ H Q := by
  obtain ⟨M, env, e, h⟩ := h
  refine ⟨M, env, e, ?_⟩
  simp only [evE] at h
  cases hx : evI C src env with
  | bad => rw [hx] at h; exact h.elim
  | ex => rw [hx] at h; exact h.elim
  | ok x env0 =>
    rw [hx] at h
    simp only [Out.bind_ok] at h
    intro M1 H1 J e1 o1 s1 it1 D hD
    have e1L := e1.lock o1
    by_cases hp : plainAt (lock x.2 env0) own = true
    case neg => rw [if_neg hp] at h; exact h.elim
    rw [if_pos hp] at h
    generalize hE1 : lock x.2 env0 = envL at *
    have hdef : (fun d env => (setG (fun _ => false) tg d env).bind fun _ env => (evTs C cond env).bind (fun b env =>
        if b then (evE C elt env).bind (fun x env => .ok (some x.1) (wipeE env own)) else .ok none (wipeE env own))) = lcTurn C own tg cond elt := rfl
    rw [hdef] at h
    cases hL : loopLc (lcTurn C own tg cond elt) x.1 [] (wipeE envL own) with
    | bad => rw [hL] at h; exact h.elim
    | ex => rw [hL] at h; exact h.elim
    | ok ds envF =>
      rw [hL] at h
      simp only [Out.bind_ok, Out.mapEn] at h
      have eW := e1L.wipe own
      have nD : ∀ i, ¬ Held (L2.wipe σ own) (wipeE envL own) i D := fun i g => by
        obtain ⟨ys, q⟩ := eW.mok D (eW.held_m g)
        rw [hD] at q
        cases q
      refine ⟨fun i m Hc => m = x.1.length - i ∧ i ≤ x.1.length ∧ ∃ M2 env2 acc accV, EnvOk K M2 Hc (L2.wipe σ own) env2 ∧ Stp allP M1 H1 (L2.wipe σ own) (wipeE envL own) M2 Hc (L2.wipe σ own) env2 ∧
        Hc D = some (.lst accV) ∧ M2 D ∧ Reps K M2 Hc acc accV ∧ (∀ i, ¬ Held (L2.wipe σ own) env2 i D) ∧ (∀ i ∈ own, ∀ s, env2[i]? ≠ some (some s)) ∧ loopLc (lcTurn C own tg cond elt) (x.1.drop i) acc env2 = .ok ds envF,
        ⟨x.1.length, by simp, Nat.zero_le _, fun b => M1 b ∨ b = D, wipeE envL own, [], [], ?_⟩, ?_⟩
      · obtain ⟨a1, a2, a3⟩ := alloc_lst (ds := []) (xs := []) eW hD .nil
        exact ⟨a1, a2, upd_same, .inr rfl, .nil, nD, fun i hi s => wipeE_in hi, hL⟩
      · rintro i m Hc ⟨rfl, hi, M2, env2, acc, accV, e2, s2, hc, hm, hr, hn, hw, hl⟩
        have sP : Stp (outP own) M1 H1 σ envL M2 Hc (L2.wipe σ own) env2 := (wipe_stp hp).trans e1L.mok (s2.weak fun _ _ => rfl)
        obtain ⟨itg, its⟩ := it1 _ M2 Hc _ env2 e2 sP i
        by_cases hlt : i < x.1.length
        · -- a turn
          have hg : x.1[i]? = some x.1[i] := List.getElem?_eq_getElem hlt
          obtain ⟨go, yl⟩ := itg _ hg
          refine .inr ⟨go, fun H' => ∃ m', m' < x.1.length - i ∧ m' = x.1.length - (i + 1) ∧ i + 1 ≤ x.1.length ∧ ∃ M2 env2 acc accV, EnvOk K M2 H' (L2.wipe σ own) env2 ∧ Stp allP M1 H1 (L2.wipe σ own) (wipeE envL own) M2 H' (L2.wipe σ own) env2 ∧
            H' D = some (.lst accV) ∧ M2 D ∧ Reps K M2 H' acc accV ∧ (∀ i, ¬ Held (L2.wipe σ own) env2 i D) ∧ (∀ i ∈ own, ∀ s, env2[i]? ≠ some (some s)) ∧ loopLc (lcTurn C own tg cond elt) (x.1.drop (i + 1)) acc env2 = .ok ds envF, fun H' hN => hN, fun xv H' hy => ?_⟩
          obtain ⟨e3, s3, r3⟩ := yl xv H' hy
          rw [List.drop_eq_getElem_cons hlt] at hl
          simp only [loopLc] at hl
          generalize hd : x.1[i] = dd at *
          refine ⟨M2, H', L2.wipe σ own, env2, M2, env2, dd, e3, .refl, r3, ?_⟩
          have hset := setG_pin (d := dd) (env := env2) ht
          unfold lcTurn at hl
          cases hs : setG (fun _ => false) tg dd env2 with
          | bad => rw [hs] at hl; cases hl
          | ex => rw [hs] at hl; cases hl
          | ok u env3 =>
            rw [← hset, hs]
            rw [hs] at hl
            simp only [Out.bind_ok] at hl
            intro σ3 e4 s4
            have out : ∀ j, j ∉ own → σ3[j]? = (L2.wipe σ own)[j]? := fun j hj => s4.pinσ j (by simp [outP, hj])
            have wS : L2.wipe σ3 own = L2.wipe σ own := by
              have k1 := e4.len
              have k2 := e3.len
              have k3 := setG_len hs
              rw [wipe_length] at k2
              exact wipe_same (by omega) fun j hj => by rw [out j hj, wipeσ_out hj]
            refine ⟨wS, M2, env3, e4, ?_⟩
            cases hq : evTs C cond env3 with
            | bad => rw [hq] at hl; cases hl
            | ex => rw [hq] at hl; cases hl
            | ok b env4 =>
              rw [hq] at hl
              simp only [Out.bind_ok] at hl
              intro M4 H4 e5 s5
              -- from the turn's start to here
              have sA : Stp (outP own) M2 Hc (L2.wipe σ own) env2 M4 H4 σ3 env4 := (s3.weak fun _ _ => rfl).trans e2.mok (s4.trans e3.mok (s5.weak fun _ _ => rfl))
              -- the block's end
              have close : ∀ {M5 : Mk} {H5 : Hp} {env5 : En}, EnvOk K M5 H5 σ3 env5 → Stp (outP own) M2 Hc (L2.wipe σ own) env2 M5 H5 σ3 env5 →
                  EnvOk K M5 H5 (L2.wipe σ own) (wipeE env5 own) ∧ Stp allP M1 H1 (L2.wipe σ own) (wipeE envL own) M5 H5 (L2.wipe σ own) (wipeE env5 own) ∧ H5 D = some (.lst accV) ∧ M5 D ∧ (∀ i, ¬ Held (L2.wipe σ own) (wipeE env5 own) i D) ∧ (∀ i ∈ own, ∀ s, (wipeE env5 own)[i]? ≠ some (some s)) ∧ Reps K M5 H5 acc accV := by
                intro M5 H5 env5 e6 s6
                have e7 := e6.wipe own
                rw [wS] at e7
                have nw : ¬ Wr (L2.wipe σ own) env2 D := fun ⟨j, w⟩ => hn j w.held
                have ownW : ∀ {j a}, OwnAt (L2.wipe σ own) (wipeE env5 own) j a → OwnAt σ3 env5 j a := fun {j a} g => by
                  rw [← wS] at g
                  exact (wipe_own g).2
                have s7 : Stp allP M2 Hc (L2.wipe σ own) env2 M5 H5 (L2.wipe σ own) (wipeE env5 own) := by
                  refine ⟨s6.heap, s6.dom, s6.mold, s6.mkeep, fun j a g => s6.wr j a (ownW g), fun j => ?_, fun _ _ => rfl, fun _ _ => rfl, fun j _ g => ?_⟩
                  · by_cases hj : j ∈ own
                    · constructor
                      · rintro ⟨d, g⟩
                        exact absurd g (wipeE_in hj)
                      · rintro ⟨d, g⟩
                        exact absurd g (hw j hj _)
                    · unfold IsL
                      rw [wipeE_out hj]
                      exact s6.lck j
                  · obtain ⟨t, g⟩ := g
                    have hj : j ∉ own := fun z => hw j z _ g
                    rw [wipeE_out hj]
                    exact s6.pinS j (by simp [outP, hj]) ⟨t, g⟩
                exact ⟨e7, s2.trans eW.mok s7, s6.heap D _ hc nw, s6.mkeep D hm nw, s7.noheld hn (by rw [hc]; simp), fun j hj s => wipeE_in hj, hr.keeps e2.mok (s6.keeps e2)⟩
              cases b with
              | false =>
                rw [if_neg Bool.false_ne_true] at hl ⊢
                simp only [Out.bind_ok] at hl
                obtain ⟨c1, c2, c3, c4, c5, c6, c7⟩ := close e5 sA
                exact ⟨_, by omega, rfl, by omega, M4, _, acc, accV, c1, c2, c3, c4, c7, c5, c6, hl⟩
              | true =>
                rw [if_pos rfl] at hl ⊢
                refine ⟨M4, env4, e5, ?_⟩
                unfold RZ
                cases hz : evE C elt env4 with
                | bad => rw [hz] at hl; cases hl
                | ex => rw [hz] at hl; cases hl
                | ok z env5 =>
                  rw [hz] at hl
                  simp only [Out.bind_ok] at hl
                  intro M5 H5 v5 e6 s6 r6
                  obtain ⟨M6, e7, s7, r7⟩ := r6.freeze e5 e6 s6
                  have sB : Stp (outP own) M2 Hc (L2.wipe σ own) env2 M6 H5 σ3 env5 := sA.trans e2.mok (s7.weak fun _ _ => rfl)
                  obtain ⟨c1, c2, c3, c4, c5, c6, c7⟩ := close e7 sB
                  split at hl
                  case isFalse => cases hl
                  rename_i hsz
                  have kp : Keeps M6 H5 M6 (upd H5 D (.lst (accV ++ [v5]))) := ⟨fun b o q n => by rw [upd_ne (fun w => by subst w; exact n c4)]; exact q, fun _ _ w => w⟩
                  refine ⟨accV, c3, by rw [← hr.length]; exact hsz, _, by omega, rfl, by omega, M6, _, acc ++ [z.1], accV ++ [v5], c1.grow c4 c5, ?_, upd_same, c4, (c7.append (.cons r7 .nil)).keeps e7.mok kp, c5, c6, hl⟩
                  refine ⟨fun a o g n => ?_, fun a n => ?_, c2.mold, c2.mkeep, c2.wr, c2.lck, c2.lkσ, c2.pinσ, c2.pinS⟩
                  · rw [upd_ne (ne_of_none g hD)]
                    exact c2.heap a o g n
                  · unfold upd
                    split
                    · simp
                    · exact c2.dom a n
        · -- the end
          refine .inl ⟨its (by omega), ?_⟩
          rw [List.drop_eq_nil_of_le (by omega)] at hl
          simp only [loopLc] at hl
          cases hl
          obtain ⟨k1, k2, k3⟩ := restore_ok e1L hp e2 s2
          subst hE1
          obtain ⟨k4, k5⟩ := unlock_ok e1 o1 k1 k2
          refine h M2 Hc (.ref D) k4 (s1.trans e.mok k5) ⟨ds, D, accV, rfl, rfl, ?_, hm, hc, hr, fun j g => ?_⟩
          · cases q : H D with
            | none => rfl
            | some o => exact absurd hD (s1.dom D (by rw [q]; simp))
          · obtain ⟨d, m, hm', g1, g2⟩ := g
            rcases unlock_get g1 with ⟨z, rfl, m', g3⟩ | ⟨n, g3⟩
            · rw [z] at o1
              obtain ⟨d0, o2⟩ := o1
              obtain ⟨w, h1, ds', a', xs', _, rfl, _, h4, _⟩ := e1.slot j d0 .own o2
              rw [g2] at h1
              cases h1
              rw [hD] at h4
              cases h4
            · exact hn j (k3 j D ⟨d, m, hm', g3, g2⟩)
end
end Z
namespace Z
open PySem PySem.Spec PyProof.Rows L2
/-- room, and no list's text under way -/
structure RmG (k : Nat) (A : Around) : Prop where
  rm : Room k A
  no : A.guards = some []
theorem RmG.down {k : Nat} {A : Around} (g : RmG (k + 1) A) (en : PySem.Env) : RmG k (A.deeper en) where
  rm := g.rm.deeper en
  no := g.no
structure FnG (P : Program) (w : World) (K : PySem.W.Frag) (mg : Str → Option Value) (base : Heap) (C : CXT) (k : Nat) (f : Addr) (fd : FuncData) (ps : List Str) (sp : Sp) : Prop where
  ln : ∀ {vs : List V} {H : Hp} {Q : VK} {E : XK}, sp vs H Q E → vs.length = ps.length
  go : ∀ {A : Around} {out : List PySem.Env} {s : Shared} {H : Hp} {args : Args} {us : List Value} {vs : List V} {Q : VK} {E : XK},
    RmG k A → Env0 P w K mg base A out s H → BindsTo s fd args (ps.zip us) →
    Vals vs us → sp vs H Q E →
    codeAny (model P w) A (.call (.ref f) args) (L2.CR C out P w H s Q E) s
theorem FnG.weak {P : Program} {w : World} {K : PySem.W.Frag} {mg : Str → Option Value} {base : Heap} {C : CXT} {k : Nat} {f : Addr} {fd : FuncData} {ps : List Str} {sp sp2 : Sp} (F : FnG P w K mg base C k f fd ps sp)
    (h : ∀ vs H Q E, sp2 vs H Q E → sp vs H Q E) : FnG P w K mg base C k f fd ps sp2 where
  ln q := F.ln (h _ _ _ _ q)
  go g e b r q := F.go g e b r (h _ _ _ _ q)
section
variable {X : Cx} {k : Nat} {f : Addr} {fd : FuncData} {ps : List Str} {sp : Sp} {ds : List Value} {dvs : List V} {E : XK} {x : Str} {C : CXT} {p pos : Pos} {e : Expr} {es : List Expr} {t : TA}
theorem goG {pins : List (Addr × Obj)} {σ : L2.St} {H : Hp} {s : Shared} {Q : VK} {us : List Value} {vs : List V} (F : FnG X.prog X.w X.K X.mg X.base C k f fd ps sp) (g : RmG k X.A) (bd : Binds X.K fd ps ds) (dv : Vals dvs ds) (px : Passes C X E)
    (I : Inv X pins σ H s) (rv : Vals vs us) (q : sp (vs ++ dvs) H Q E) : wpAny (model X.prog X.w) X.A (call (.ref f) us) (EP X pins σ Q) X.xe s := by
  have both : Vals (vs ++ dvs) (us ++ ds) := rv.append dv
  have cnt : (us ++ ds).length = ps.length := both.length.symm.trans (F.ln q)
  apply wpAny_call
  apply codeAny_mono (F.go (args := ⟨us, []⟩) g I.env0 (bd s us I.kIn cnt) both q)
  intro r s2 z
  match r, z with
  | .error er, z => exact px pins σ H s er s2 I z
  | .ok (.ret _), z => exact I.after z
  | .ok .next, z => exact z.elim
  | .ok .brk, z => exact z.elim
  | .ok .cont, z => exact z.elim
/-- f(e, ..) -/
theorem pe_callG (F : FnG X.prog X.w X.K X.mg X.base C k f fd ps sp) (g : RmG k X.A) (gx : Gl X x) (mx : X.mg x = some (.ref f)) (kp : PySem.W.keepIn X.K (.ref f) = true) (bd : Binds X.K fd ps ds) (dv : Vals dvs ds) (px : Passes C X E)
    (pa : PA X (e :: es) t) (nd : (x == ("__debug__" : Str)) = false) (st : starEach (e :: es) X.env = (false, eval e X.env) :: starEach es X.env)
    (pl : (backTo pos (starEach es X.env)).any (·.1) = false) : PE X (.Call (.Name x p) (e :: es) [] pos) (tCall sp dvs E t) := by
  constructor
  intro pins s σ H Q I h
  apply wpAny_Call_Name_kw
  apply ld_glob I gx mx _ nd
  apply PySem.W.callWith_K (h₀ := X.base) I.ok.mod.kin kp _ st pl
  apply thn (pa.run pos pins s σ H _ I h)
  rintro us s2 ⟨vs, H2, J, rv, q⟩
  exact ⟨J.kIn, goG F g bd dv px J rv q⟩
/-- f() -/
theorem pe_callG0 (F : FnG X.prog X.w X.K X.mg X.base C k f fd ps sp) (g : RmG k X.A) (gx : Gl X x) (mx : X.mg x = some (.ref f)) (kp : PySem.W.keepIn X.K (.ref f) = true) (bd : Binds X.K fd ps ds) (dv : Vals dvs ds) (px : Passes C X E)
    (nd : (x == ("__debug__" : Str)) = false) : PE X (.Call (.Name x p) [] [] pos) (tCall sp dvs E tNil) := by
  constructor
  intro pins s σ H Q I h
  apply wpAny_Call_Name_kw
  apply ld_glob I gx mx _ nd
  apply PySem.W.callWith_K0 I.kIn kp
  exact goG (us := []) F g bd dv px I .nil h
end
/-- a def, by its body -/
theorem def_goG {P : Program} {w : World} {K : PySem.W.Frag} {mg : Str → Option Value} {base : Heap} {x qual : Str} {params : Arguments} {body : List Stmt} {scope : Scope} {dvs : List V} {kws : List (Str × V)} {f : Addr} {fd : FuncData}
    {C : CXT} {N ps : List Str} {k : Nat} {sp : Sp} (F : FunD K x qual params body scope dvs kws f fd) (S : FnScope N ps scope) (ln : ∀ vs H Q E, sp vs H Q E → vs.length = ps.length)
    (bo : ∀ (c : Value) (A : Around) (out : List PySem.Env) (s : Shared) (H : Hp) (vs : List V) (Q : VK) (E : XK), RmG k (A.deeper (envOfC qual scope s.heap.objs.size f c)) → sp vs H Q E →
      ∃ t, PSs (cxOf C P w K mg base N qual scope f c A out s H E) body t ∧ t { nx := fun _ H2 => Q .non H2, rt := Q } (start N vs) H) : FnG P w K mg base C (k + 1) f fd ps sp := by
  obtain ⟨_, _, dV, kV, doc, pm, an, c, ct, _, rfl, found, code, _, _⟩ := F.ex
  constructor
  · exact fun {vs H Q E} q => ln vs H Q E q
  intro A out s H args us vs Q E g e0 bd rv q
  have KX : K.In s.heap := e0.mod.kin.keeps fun b o z => (e0.bs b o z).1
  have free : s.heap.NoLimit := e0.mod.nolimit.keeps fun b o z => (e0.bs b o z).1
  apply codeAny_call_function g.rm.depth (KX _ _ found) rfl S.co S.gen rfl (PySem.W.codeRec_of KX code)
  apply bd
  refine wpAny_newFunctionEnv_cells S.kind ?_ ?_
  · rintro ⟨n, v⟩ hy
    rcases S.par n (List.of_mem_zip hy).1 with z | z
    · exact .inl z
    · exact .inr ⟨z, PySem.W.cellsFrom_some _ _ _ (.inl z)⟩
  · rintro en rfl s1 made
    refine ⟨free.keeps made.toInCall.keep, codeAny_func ?_⟩
    obtain ⟨t, pt, qt⟩ := bo c A out s H vs Q E (g.down _) q
    have I := inv_start (CX := C) (E := E) (mg := mg) (base := base) S g.rm.hd e0 (ln _ _ _ _ q) rv made
    refine wpAny_mono (pt.run [] s1 (start N vs) H _ I qt) ?_ (fun _ _ z => z)
    intro fl s2 z
    match fl, z with
    | .ret u, ⟨v, σ2, H2, J, r2, q2⟩ => exact ⟨v, H2, J.os, J.bare, J.base, J.hok, r2, q2⟩
    | .next, ⟨σ2, H2, J, q2⟩ => exact ⟨.non, H2, J.os, J.bare, J.base, J.hok, rfl, q2⟩
    | .brk, ⟨_, _, _, q2⟩ => exact q2.elim
    | .cont, ⟨_, _, _, q2⟩ => exact q2.elim
end Z
namespace Z
open PySem PySem.Spec PyProof.Rows L2
section
variable {P : Program} {w : World} {K : PySem.W.Frag} {mg mb : Str → Option Value} {C : CXT} {k : Nat} {fa a : Addr} {fd : FuncData} {x : Str} {sp : Sp} {s : Shared} {us : List Value} {ns : List Int}
/-- what is in front of the law's own frame -/
theorem front (KX : K.In s.heap) (G : s.heap.Ns mainGlobals mg) (B : s.heap.Ns builtinsNs mb) (bb : ∀ y : Str, y ≠ "__name__" → mb y = bootBuiltins y) (lim : s.heap.NoLimit) (gn : s.gens = #[])
    (at_a : s.heap.get? a = some { cls := .type "list", data := .seq us.toArray }) {H : Hp} (alone : ∀ b, H b ≠ none → b = a) (foreign : H a ≠ none → K.lookup a = none) (ok : HOk P w H s.heap) :
    Env0 P w K mg (hidT s.heap H) callerA [] s H := by
  have seen : ∀ {b : Addr} {o : Obj}, s.heap.get? b = some o → b ≠ a → (hidT s.heap H).get? b = some o := by
    intro b o z ne
    refine hidT_get z ?_
    rcases hb : H b with _ | u
    · rfl
    · exact absurd (alone b (by rw [hb]; exact Option.some_ne_none u)) ne
  have dicts : ∀ {b : Addr} {m : Str → Option Value}, s.heap.Ns b m → (hidT s.heap H).Ns b m := by
    rintro b m ⟨o, es, ep, z, d, r⟩
    refine ⟨o, es, ep, seen z ?_, d, r⟩
    rintro rfl
    rw [at_a] at z
    cases z
    have d2 : Data.seq us.toArray _ = Data.dict es ep := d
    cases d2
  have kin : K.In (hidT s.heap H) := by
    intro b o z
    refine hidT_get (KX b o z) ?_
    rcases hb : H b with _ | u
    · rfl
    · have e := alone b (by rw [hb]; exact Option.some_ne_none u)
      subst e
      rw [foreign (by rw [hb]; exact Option.some_ne_none u)] at z
      cases z
  obtain ⟨mc, l1, l2⟩ := lim
  exact {
    frames := rfl
    mod := ⟨kin, dicts G, ⟨mb, dicts B, bb⟩, mc, dicts l1, l2⟩
    bs := fun b o z => of_hidT z
    bsz := Nat.le_of_eq (hidT_size _ _)
    funs := trivial
    frf := fun b z => absurd z List.not_mem_nil
    hok := ok
    bare := .of_eq gn }
/-- the script, as it is known in front -/
theorem script_at (at_a : s.heap.get? a = some { cls := .type "list", data := .seq us.toArray }) (KX : K.In s.heap) (wh : IntsAre us ns) (short : ns.length ≤ sizeLine) :
    ∃ H : Hp, Only H ∧ SqL K H a (ns.map V.int) ∧ HOk P w H s.heap ∧ (∀ b, H b ≠ none → b = a) ∧ (H a ≠ none → K.lookup a = none) := by
  have rv := vals_ints wh
  rcases hk : K.lookup a with _ | o
  · have one : ∀ {b : Addr} {u : HO}, (if b = a then some (HO.frz { cls := .type "list", data := .seq us.toArray } (.lst (ns.map V.int))) else none) = some u → b = a ∧ u = .frz { cls := .type "list", data := .seq us.toArray } (.lst (ns.map V.int)) := by
      intro b u z
      split at z
      · cases z; exact ⟨by assumption, rfl⟩
      · cases z
    refine ⟨fun b => if b = a then some (.frz { cls := .type "list", data := .seq us.toArray } (.lst (ns.map V.int))) else none, fun b => ?_, .inl (.inr ⟨_, if_pos rfl⟩), fun b u z => ?_, fun b z => ?_, fun _ => rfl⟩
    · by_cases e : b = a
      · exact .inr ⟨_, _, if_pos e⟩
      · exact .inl (if_neg e)
    · obtain ⟨rfl, rfl⟩ := one z
      exact ⟨at_a, by rw [List.length_map]; exact short, us, _, rv, at_a⟩
    · by_cases e : b = a
      · exact e
      · exact absurd (if_neg e) z
  · have z := KX a o hk
    rw [at_a] at z
    cases z
    refine ⟨fun _ => none, fun _ => .inl rfl, .inr ⟨_, us.toArray, _, hk, rfl, rfl, rfl, ?_, by simpa using rv⟩, fun b u z => by simp at z, fun b z => absurd rfl z, fun z => absurd rfl z⟩
    rw [List.size_toArray, wh.length]
    exact short
theorem law_goG (KX : K.In s.heap) (G : s.heap.Ns mainGlobals mg) (B : s.heap.Ns builtinsNs mb) (bb : ∀ y : Str, y ≠ "__name__" → mb y = bootBuiltins y) (lim : s.heap.NoLimit) (gn : s.gens = #[])
    (at_a : s.heap.get? a = some { cls := .type "list", data := .seq us.toArray }) (wh : IntsAre us ns) (short : ns.length ≤ sizeLine) (rm : Room k callerA)
    (F : ∀ base : Heap, K.In base → base.Ns mainGlobals mg → FnG P w K mg base C k fa fd [x] sp) (bd : ∀ (s : Shared) (u : Value), BindsTo s fd ⟨[u], []⟩ [(x, u)])
    (say : ∀ H : Hp, Only H → SqL K H a (ns.map V.int) → sp [.ref a] H (fun v _ => v = .bl true) fun _ _ _ => False)
    (none_out : ∀ H e s2, C [] H s (fun _ _ _ => False) e s2 → False) :
    codeAny (model P w) callerA (.call (.ref fa) ⟨[.ref a], []⟩)
      (fun r s2 => r = .ok (.ret (.bool true)) ∧ OldK s.heap s2.heap ∧ s2.os = s.os ∧ AllBare s2.gens) s := by
  obtain ⟨H, only, sq, ok, alone, foreign⟩ := script_at (P := P) (w := w) at_a KX wh short
  have e0 := front (K := K) (mg := mg) KX G B bb lim gn at_a alone foreign ok
  apply codeAny_mono ((F _ e0.mod.kin e0.mod.glob).go (args := ⟨[.ref a], []⟩) (us := [.ref a]) (vs := [.ref a]) ⟨rm, rfl⟩ e0 (bd s (.ref a)) (.cons rfl .nil) (say H only sq))
  intro r s2 z
  match r, z with
  | .error e, z => exact (none_out H e s2 z).elim
  | .ok .next, z => exact z.elim
  | .ok .brk, z => exact z.elim
  | .ok .cont, z => exact z.elim
  | .ok (.ret u), ⟨v, H2, os, bare, un, ok2, r2, q⟩ =>
    have q2 : v = .bl true := q
    subst q2
    have r3 : u = Value.bool true := r2
    subst r3
    refine ⟨rfl, OldK.of_keep ?_, os, bare⟩
    intro b o z
    rcases hb : H b with _ | y
    · exact un.keep b o z hb (fun m => absurd m List.not_mem_nil) (by simp)
    · rcases only b with m | ⟨ob, xs, m⟩
      · rw [hb] at m; cases m
      · obtain ⟨g1, _⟩ := ok b _ m
        obtain ⟨g2, _⟩ := ok2 b _ (un.frzs b ob _ m)
        rw [z] at g1
        cases g1
        exact g2
end
end Z
namespace Z
open PySem PySem.Spec PyProof.Rows L2
def blts : List Str := ["len", "abs", "int", "list", "isinstance", "range", "enumerate", "tuple", "bool", "str", "repr", "min", "max", "sum", "any", "all", "zip", "reversed", "dict", "set"]
def FnAt (T : Tab) (P : Program) (w : World) (K : PySem.W.Frag) (mg : Str → Option Value) (base : Heap) (k j : Nat) (f : Str) : Prop :=
  ∃ fa fd ps F dvs, T.fns j = some F ∧ mg f = some (.ref fa) ∧ PySem.W.keepIn K (.ref fa) = true ∧ FnG P w K mg base (L2.CX P w) k fa fd ps (spZ K T.fns k F) ∧
    (∀ M H, Reps K M H F.dv dvs) ∧ ∀ n, n ≤ dvs.length → ∃ ds, Vals (dvs.drop n) ds ∧ Binds K fd ps ds
structure Kn (T : Tab) (N : List Str) (X : Cx) (k : Nat) : Prop where
  calm : X.calm = true
  room : Room k X.A
  gd : X.A.guards = some []
  hN : X.N = N
  nd : N.Nodup
  fn : ∀ j f, T.names[j]? = some f → FnAt T X.prog X.w X.K X.mg X.base k j f
  gl : ∀ x d, T.gls.lookup x = some d → ∃ v u, X.mg x = some u ∧ RelV v u ∧ ∀ M H, Rep X.K M H d v
  bl : ∀ x ∈ blts, X.mg x = none
  gc : T.gcd = true → X.mg "gcd" = some (.builtin "math.gcd")
  cm : T.cmb = true → X.mg "combinations" = some (.type "itertools.combinations")
theorem Kn.blk {T : Tab} {N : List Str} {X : Cx} {k : Nat} (h : Kn T N X k) {s : Shared} {H : Hp} {scope : Scope} {cenv : Env} {fp : List Addr} : Kn T N (X.blk s H scope cenv fp) k :=
  ⟨h.calm, h.room, h.gd, h.hN, h.nd, h.fn, h.gl, h.bl, h.gc, h.cm⟩
theorem slotOf_get {N : List Str} {x : Str} {i : Nat} (h : slotOf N x = some i) : N[i]? = some x := by
  unfold slotOf at h
  obtain ⟨h1, h2, _⟩ := List.findIdx?_eq_some_iff_getElem.mp h
  rw [List.getElem?_eq_getElem h1]
  exact congrArg some (of_decide_eq_true h2)
theorem vis_of {sc : Scope} {x : Str} (h : visB sc x = true) : Vis sc x ∧ (x == ("__debug__" : Str)) = false ∧ (x == ("__classdict__" : Str)) = false := by
  unfold visB at h
  rw [Bool.and_eq_true, Bool.and_eq_true] at h
  obtain ⟨⟨h1, h2⟩, h3⟩ := h
  refine ⟨?_, by simpa using h2, by simpa using h3⟩
  split at h1
  · exact .inl (by assumption)
  · exact .inr (.inl (by assumption))
  · exact .inr (.inr (by assumption))
  · cases h1
theorem gl_of {sc : Scope} {x : Str} (h : glB sc x = true) : sc.names.lookup x = some .globalImplicit ∧ (x == ("__debug__" : Str)) = false ∧ x ≠ "__name__" := by
  unfold glB at h
  rw [Bool.and_eq_true, Bool.and_eq_true] at h
  obtain ⟨⟨h1, h2⟩, h3⟩ := h
  refine ⟨?_, by simpa using h2, by simpa using h3⟩
  split at h1
  · assumption
  · cases h1
/-- an expression that is no star -/
def NoStar : Expr → Prop
  | .Starred _ _ => False
  | _ => True
theorem star_cons {e : Expr} {es : List Expr} {env : PySem.Env} (h : NoStar e) : starEach (e :: es) env = (false, eval e env) :: starEach es env := by
  cases e <;> first | rfl | exact h.elim
theorem star_plain {pos : Pos} {env : PySem.Env} : ∀ {es : List Expr}, (∀ e ∈ es, NoStar e) → (backTo pos (starEach es env)).any (·.1) = false
  | [], _ => rfl
  | e :: es, h => by
    rw [star_cons (h e List.mem_cons_self)]
    show (false || (backTo pos (starEach es env)).any (·.1)) = false
    rw [Bool.false_or]
    exact star_plain fun x hx => h x (List.mem_cons_of_mem _ hx)
section
variable {T : Tab} {N : List Str} {k : Nat} {X : Cx}
/-- operators -/
theorem bin_rule {op : Operator} {p : Pr} (h : binP op = some p) : ∃ r, OpR X (binaryOp op) r ∧ P2T X.K (fun a b => prB p [a, b]) r := by
  cases op <;> cases h
  · exact ⟨_, OpR.or op_add (OpR.or op_cat (OpR.or op_catA op_add_str)), p_add⟩
  · exact ⟨_, op_sub, p_sub⟩
  · exact ⟨_, OpR.or op_mulZ op_rep, p_mul⟩
  · exact ⟨_, op_mod, p_mod⟩
  · exact ⟨_, op_pow, p_pow⟩
  · exact ⟨_, op_fdivZ, p_fdiv⟩
theorem cmp_rule (kn : Kn T N X k) {op : CmpOp} {p : Pr} (h : cmpP op = some p) : ∃ r, OpR X (compareOp op) r ∧ P2T X.K (fun a b => prB p [a, b]) r := by
  have hu : X.A.units + 65 < cLine := by have := kn.room.un; omega
  have hu2 : X.A.units + 64 < cLine := by omega
  cases op <;> cases h
  · exact ⟨_, OpR.or (op_eqD hu2) op_eq, p_eq⟩
  · exact ⟨_, OpR.or (op_neD hu2) op_ne, p_ne⟩
  · exact ⟨_, op_lt, p_cmp _⟩
  · exact ⟨_, op_le, p_cmp _⟩
  · exact ⟨_, op_gt, p_cmp _⟩
  · exact ⟨_, op_ge, p_cmp _⟩
  · first | exact ⟨_, op_isBl, p_isb⟩ | exact ⟨_, op_notBl, p_nisb⟩ | exact ⟨_, OpR.or (op_inD hu) (op_inTD hu), p_in⟩ | exact ⟨_, OpR.or (op_notInD hu) (op_notInTD hu), p_notin⟩
  · first | exact ⟨_, op_isBl, p_isb⟩ | exact ⟨_, op_notBl, p_nisb⟩ | exact ⟨_, OpR.or (op_inD hu) (op_inTD hu), p_in⟩ | exact ⟨_, OpR.or (op_notInD hu) (op_notInTD hu), p_notin⟩
  · first | exact ⟨_, op_isBl, p_isb⟩ | exact ⟨_, op_notBl, p_nisb⟩ | exact ⟨_, OpR.or (op_inD hu) (op_inTD hu), p_in⟩ | exact ⟨_, OpR.or (op_notInD hu) (op_notInTD hu), p_notin⟩
  · first | exact ⟨_, op_isBl, p_isb⟩ | exact ⟨_, op_notBl, p_nisb⟩ | exact ⟨_, OpR.or (op_inD hu) (op_inTD hu), p_in⟩ | exact ⟨_, OpR.or (op_notInD hu) (op_notInTD hu), p_notin⟩
def NoSet : Expr → Prop
  | .Set _ _ _ => False
  | _ => True
theorem behind_no {b : Expr} {op : CmpOp} (h : NoSet b) : behindInMarks op b = false := by
  cases b <;> first | rfl | exact h.elim
/-- what the four say at a depth of the text -/
def SE (T : Tab) (N : List Str) (k n : Nat) : Prop := ∀ sc e ie, cE T N n sc e = some ie → NoStar e ∧ NoSet e ∧ (∀ lo hi st pos, e ≠ .Slice lo hi st pos) ∧ ∀ X, Kn T N X k → X.env.scope = sc → PE X e (tZ X.K (evE (callK T.fns k) ie))
def SA (T : Tab) (N : List Str) (k n : Nat) : Prop := ∀ sc e ia, cA T N n sc e = some ia → NoStar e ∧ NoSet e ∧ (∀ lo hi st pos, e ≠ .Slice lo hi st pos) ∧ ∀ X, Kn T N X k → X.env.scope = sc → PE X e (tP X.K (evA (callK T.fns k) ia))
def ST (T : Tab) (N : List Str) (k n : Nat) : Prop := ∀ sc e it, cT T N n sc e = some it → ∀ X, Kn T N X k → X.env.scope = sc → PT X e (tB X.K (evT (callK T.fns k) it)) ∧ (∀ op vs pos, e = .BoolOp op vs pos → PW X e (tB X.K (evT (callK T.fns k) it)))
def SI (T : Tab) (N : List Str) (k n : Nat) : Prop := ∀ sc tg e ii, cI T N n sc tg e = some ii → (∀ elts kk pos, e ≠ .Set elts kk pos) ∧ ∀ X, Kn T N X k → X.env.scope = sc → PI X tg e (tI X.K (evI (callK T.fns k) ii))
theorem ST.pt {n : Nat} (h : ST T N k n) {sc : Scope} {e : Expr} {it : IT} (c : cT T N n sc e = some it) {X : Cx} (kn : Kn T N X k) (hs : X.env.scope = sc) : PT X e (tB X.K (evT (callK T.fns k) it)) := (h sc e it c X kn hs).1
theorem z_cst {K : PySem.W.Frag} {C : Cl} {d : D} {v : V} {σ : L2.St} {H : Hp} {Q : VK} (r : ∀ M H, Rep K M H d v) (h : tZ K (evE C (.cst d)) σ H Q) : Q v H := by
  obtain ⟨M, env, e, h⟩ := h
  simp only [evE] at h
  exact h M H v e .refl (r M H)
theorem allO_map {α β : Type} {f : α → Option β} : ∀ {l : List α} {r : List β}, allO (l.map f) = some r → ∀ a ∈ l, ∃ b, f a = some b
  | [], _, _, a, h => by simp at h
  | x :: l, r, h, a, ha => by
    simp only [List.map_cons] at h
    cases hx : f x with
    | none => rw [hx] at h; cases h
    | some b =>
      rw [hx] at h
      simp only [allO] at h
      obtain ⟨r', h1, _⟩ := map_some h
      rcases List.mem_cons.mp ha with rfl | ha
      · exact ⟨b, hx⟩
      · exact allO_map h1 a ha
theorem allO_cons {α β : Type} {f : α → Option β} {x : α} {l : List α} {r : List β} (h : allO ((x :: l).map f) = some r) : ∃ b r', f x = some b ∧ allO (l.map f) = some r' ∧ r = b :: r' := by
  simp only [List.map_cons] at h
  cases hx : f x with
  | none => rw [hx] at h; cases h
  | some b =>
    rw [hx] at h
    simp only [allO] at h
    obtain ⟨r', h1, h2⟩ := map_some h
    exact ⟨b, r', rfl, h1, h2.symm⟩
theorem pa_es {n : Nat} (ih : SE T N k n) {sc : Scope} (kn : Kn T N X k) (hs : X.env.scope = sc) : ∀ {es : List Expr} {ies : List IE}, allO (es.map (cE T N n sc)) = some ies → PA X es (tDs X.K (evEs (callK T.fns k) ies))
  | [], ies, h => by
    cases h
    exact PA.imp pa_nil fun _ _ _ => es_tnil
  | e :: es, ies, h => by
    obtain ⟨b, r', h1, h2, rfl⟩ := allO_cons h
    obtain ⟨s1, _, _, p1⟩ := ih sc e b h1
    exact PA.imp (pa_cons (p1 X kn hs) (pa_es ih kn hs h2) (star_cons s1)) fun _ _ _ => es_tcons
theorem pa_as {n : Nat} (ih : SA T N k n) {sc : Scope} (kn : Kn T N X k) (hs : X.env.scope = sc) : ∀ {es : List Expr} {ies : List IA}, allO (es.map (cA T N n sc)) = some ies → PA X es (tPs X.K (evAs (callK T.fns k) ies))
  | [], ies, h => by
    cases h
    exact PA.imp pa_nil fun _ _ _ => as_tnil
  | e :: es, ies, h => by
    obtain ⟨b, r', h1, h2, rfl⟩ := allO_cons h
    obtain ⟨s1, _, _, p1⟩ := ih sc e b h1
    exact PA.imp (pa_cons (p1 X kn hs) (pa_as ih kn hs h2) (star_cons s1)) fun _ _ _ => as_tcons
theorem plain_ix {b : Expr} (h : ∀ lo hi st pos, b ≠ .Slice lo hi st pos) : PlainIx b := by
  intro o i
  cases b <;> first | rfl | exact absurd rfl (h _ _ _ _)
theorem evAs_len {C : Cl} : ∀ {as : List IA} {env env' : En} {l : List PV}, evAs C as env = .ok l env' → l.length = as.length
  | [], env, env', l, h => by simp only [evAs] at h; cases h; rfl
  | a :: as, env, env', l, h => by
    simp only [evAs] at h
    cases hx : evA C a env with
    | bad => rw [hx] at h; cases h
    | ex => rw [hx] at h; cases h
    | ok p env1 =>
      rw [hx] at h
      simp only [Out.bind_ok] at h
      cases hy : evAs C as env1 with
      | bad => rw [hy] at h; cases h
      | ex => rw [hy] at h; cases h
      | ok ps env2 =>
        rw [hy] at h
        cases h
        exact congrArg (· + 1) (evAs_len hy)
/-- a call's reading -/
theorem z_call {K : PySem.W.Frag} {F : Fn} {f : Nat} {as : List IA} {dvs : List V} {σ : L2.St} {H : Hp} {Q : VK} (hT : T.fns f = some F) (dv : ∀ M H, Reps K M H F.dv dvs)
    (h : tZ K (evE (callK T.fns k) (.call f as)) σ H Q) : tPs K (evAs (callK T.fns k) as) σ H fun vs H1 => spZ K T.fns k F (vs ++ dvs.drop (dvs.length - (F.np - as.length))) H1 Q E0 := by
  obtain ⟨M, env, e, h⟩ := h
  refine ⟨M, env, e, ?_⟩
  simp only [evE] at h
  cases hx : evAs (callK T.fns k) as env with
  | bad => rw [hx] at h; exact h.elim
  | ex => rw [hx] at h; exact h.elim
  | ok l env1 =>
    rw [hx] at h
    simp only [Out.bind_ok] at h
    intro M1 H1 vs e1 s1 f1
    rw [← evAs_len hx, f1.length]
    refine call_ok hT e1 f1 dv ?_
    unfold RZ at h ⊢
    cases hy : doCall (callK T.fns k) f l env1 with
    | bad => rw [hy] at h; exact h.elim
    | ex => rw [hy] at h; exact h.elim
    | ok z env2 =>
      rw [hy] at h
      exact fun M' H' v e' s' r' => h M' H' v e' (s1.trans e.mok s') (r'.back s1)
theorem each_no {env : PySem.Env} {x : Str} {p : Pos} {es : List Expr} : assignEach (.Name x p :: es) env = (false, assign (.Name x p) env) :: assignEach es env := rfl
theorem nm_inv {sc : Scope} {e : Expr} {i : Nat} (h : nmOf N sc e = some i) : ∃ x p, e = .Name x p ∧ N[i]? = some x ∧ (sc.names.lookup x = some .local ∨ sc.names.lookup x = some .cell) := by
  cases e <;> simp only [nmOf] at h <;> try (cases h; done)
  rename_i x p
  split at h
  case isFalse => cases h
  rename_i hv
  obtain ⟨v, _, _⟩ := vis_of hv
  refine ⟨x, p, rfl, ?_⟩
  split at h
  · cases h
  · rename_i nf
    refine ⟨slotOf_get h, ?_⟩
    rcases v with v | v | v
    · exact .inl v
    · exact .inr v
    · exact absurd v nf
/-- the block's or the def's own names may be stored -/
structure Sto (sc : Scope) (X : Cx) : Prop where
  keep : ∀ x k, k ≠ NameKind.free → sc.names.lookup x = some k → X.env.scope.names.lookup x = some k
  fn : ∀ x, sc.names.lookup x = some .cell → X.fn x = true
theorem pg_nm (kn : Kn T N X k) {sc : Scope} (st : Sto sc X) {e : Expr} {i : Nat} (h : nmOf N sc e = some i) : PG X e (gName i) := by
  obtain ⟨x, p, rfl, h1, h2⟩ := nm_inv h
  have hN : X.N.Nodup := by rw [kn.hN]; exact kn.nd
  have hi : X.N[i]? = some x := by rw [kn.hN]; exact h1
  rcases h2 with h2 | h2
  · have q := st.keep x _ (by decide) h2
    exact pg_name hN hi (.inl q) (.inr q)
  · exact pg_name hN hi (.inr (st.keep x _ (by decide) h2)) (.inl (st.fn x h2))
theorem pgs_nms (kn : Kn T N X k) {sc : Scope} (st : Sto sc X) : ∀ {es : List Expr} {is : List Nat}, allO (es.map (nmOf N sc)) = some is → PGs X es (gNms is)
  | [], is, h => by cases h; exact pgs_nil
  | e :: es, is, h => by
    obtain ⟨b, r', h1, h2, rfl⟩ := allO_cons h
    obtain ⟨x, p, rfl, _⟩ := nm_inv h1
    exact pgs_cons (pg_nm kn st h1) (pgs_nms kn st h2) rfl
theorem nms_len {sc : Scope} : ∀ {es : List Expr} {is : List Nat} {E : Env}, allO (es.map (nmOf N sc)) = some is → (assignEach es E).length = is.length ∧ (assignEach es E).findIdx? (·.1) = none := by
  intro es
  induction es with
  | nil => intro is E h; cases h; exact ⟨rfl, rfl⟩
  | cons e es ih =>
    intro is E h
    obtain ⟨b, r', h1, h2, rfl⟩ := allO_cons h
    obtain ⟨x, p, rfl, _⟩ := nm_inv h1
    obtain ⟨g1, g2⟩ := ih (E := E) h2
    rw [each_no]
    refine ⟨congrArg (· + 1) g1, ?_⟩
    rw [List.findIdx?_cons]
    simp only [g2]
    rfl
theorem PG.imp {e : Expr} {t t' : TG} (h : PG X e t) (i : ∀ v σ H Q, t' v σ H Q → t v σ H Q) : PG X e t' := ⟨fun pins s σ H v u Q I r hw => h.run pins s σ H v u Q I r (i v σ H Q hw)⟩
theorem pg_tg (kn : Kn T N X k) {sc : Scope} (st : Sto sc X) {e : Expr} {g : IG} (pin : Nat → Bool) (h : tgOf N sc e = some g) : PG X e (tGt X.K pin g) := by
  have nm : (nmOf N sc e).map IG.nm = some g → PG X e (tGt X.K pin g) := fun h => by
    obtain ⟨i, h1, rfl⟩ := map_some h
    exact PG.imp (pg_nm kn st h1) fun _ _ _ _ => g_nm
  cases e <;> first | exact nm h | skip
  rename_i es kk pos
  simp only [tgOf] at h
  obtain ⟨is, h1, rfl⟩ := map_some h
  have hl : ∀ {es : List Expr} {is : List Nat}, allO (es.map (nmOf N sc)) = some is → (assignEach es X.env).length = is.length ∧ (assignEach es X.env).findIdx? (·.1) = none := by
    intro es
    induction es with
    | nil => intro is h; cases h; exact ⟨rfl, rfl⟩
    | cons e es ih =>
      intro is h
      obtain ⟨b, r', h1, h2, rfl⟩ := allO_cons h
      obtain ⟨x, p, rfl, _⟩ := nm_inv h1
      obtain ⟨g1, g2⟩ := ih h2
      rw [each_no]
      refine ⟨congrArg (· + 1) g1, ?_⟩
      rw [List.findIdx?_cons]
      simp only [g2]
      rfl
  obtain ⟨g1, g2⟩ := hl h1
  exact PG.imp (pg_tup kn.calm (pgs_nms kn st h1) g1 g2) fun _ _ _ _ => g_tp
theorem sto_blk {scope : Scope} {s : Shared} {H : Hp} {C : Addr} {cl : List (Str × Addr)} {fp : List Addr} : Sto scope (X.blk s H scope (compEnvC scope cl C X.env) fp) :=
  ⟨fun x k hk h => lookup_relS_keep hk h, fun x h => by show (scope.names.lookup x == some .cell) = true; rw [h]; rfl⟩
variable {n : Nat}
end
end Z
namespace Z
open PySem PySem.Spec PyProof.Rows L2
section
variable {T : Tab} {N : List Str} {k n : Nat}
theorem nameV_some {e : Expr} {x : Str} (h : nameV e = some x) : ∃ p, e = .Name x p := by
  cases e <;> simp [nameV] at h
  subst h
  exact ⟨_, rfl⟩
theorem callV_some {e : Expr} {f : Str} {as : List Expr} (h : callV e = some (f, as)) : ∃ p pos, e = .Call (.Name f p) as [] pos := by
  cases e <;> simp only [callV] at h <;> try (cases h; done)
  split at h
  · cases h
    exact ⟨_, _, rfl⟩
  · cases h
theorem isTup_some {e : Expr} (h : isTup e = true) : ∃ es kk pos, e = .Tuple es kk pos := by
  cases e <;> simp [isTup] at h
  exact ⟨_, _, _, rfl⟩
theorem sa_succ (ih : SE T N k n) : SA T N k (n + 1) := by
  intro sc e ia h
  have val : (cE T N n sc e).map IA.val = some ia → NoStar e ∧ NoSet e ∧ (∀ lo hi st pos, e ≠ .Slice lo hi st pos) ∧ ∀ X, Kn T N X k → X.env.scope = sc → PE X e (tP X.K (evA (callK T.fns k) ia)) := fun h => by
    obtain ⟨ie, h1, rfl⟩ := map_some h
    obtain ⟨s1, s2, s3, p⟩ := ih sc e ie h1
    exact ⟨s1, s2, s3, fun X kn hs => PE.imp (p X kn hs) fun _ _ _ => p_of_z⟩
  simp only [cA] at h
  split at h
  · rename_i x hn
    obtain ⟨pos, rfl⟩ := nameV_some hn
    split at h
    · rename_i hv
      obtain ⟨i, h1, rfl⟩ := map_some h
      obtain ⟨v, d1, d2⟩ := vis_of hv
      exact ⟨trivial, trivial, (fun _ _ _ _ z => nomatch z), fun X kn hs => PE.imp (pe_var (by rw [kn.hN]; exact slotOf_get h1) (by rw [hs]; exact v) d1 d2) fun _ _ _ => p_of_at⟩
    · exact val h
  · exact val h
theorem names_get {l : List Str} {f : Str} {j : Nat} (h : l.findIdx? (fun y => decide (y = f)) = some j) : l[j]? = some f := slotOf_get (N := l) h
/-- a call of a def of the text -/
theorem se_call (iA : SA T N k n) {sc : Scope} {f : Str} {p pos : Pos} {as : List Expr} {ias : List IA} {j : Nat} (hg : glB sc f = true) (hj : T.names.findIdx? (fun y => decide (y = f)) = some j) (has : allO (as.map (cA T N n sc)) = some ias)
    {X : Cx} (kn : Kn T N X k) (hs : X.env.scope = sc) : PE X (.Call (.Name f p) as [] pos) (tZ X.K (evE (callK T.fns k) (.call j ias))) := by
  obtain ⟨g1, g2, _⟩ := gl_of hg
  obtain ⟨fa, fd, ps, F, dvs, hT, hm, hk, hF, hdv, hb⟩ := kn.fn j f (names_get hj)
  have hN := Nat.sub_le dvs.length (F.np - ias.length)
  obtain ⟨ds, hV, hB⟩ := hb _ hN
  have hGl : Gl X f := by show X.env.scope.names.lookup f = _; rw [hs]; exact g1
  have hA := pa_as iA kn hs has
  cases as with
  | nil =>
    cases has
    exact PE.imp (pe_callG0 hF ⟨kn.room, kn.gd⟩ hGl hm hk hB hV passL g2) fun σ H Q h => by
      have h2 := z_call hT hdv h
      exact as_tnil h2
  | cons a as =>
    obtain ⟨b, r', h1, h2, rfl⟩ := allO_cons has
    have ns : ∀ e ∈ a :: as, NoStar e := fun e he => by
      obtain ⟨y, hy⟩ := allO_map has e he
      exact (iA sc e y hy).1
    exact PE.imp (pe_callG hF ⟨kn.room, kn.gd⟩ hGl hm hk hB hV passL hA g2 (star_cons (ns a List.mem_cons_self)) (star_plain fun e he => ns e (List.mem_cons_of_mem _ he))) fun σ H Q h => z_call hT hdv h
theorem fnTb_get {x : Str} {j : Nat} (h : (fnTb T).lookup x = some j) : T.names[j]? = some x := by
  have h1 : (x, j) ∈ fnTb T := by
    generalize fnTb T = l at h
    induction l with
    | nil => cases h
    | cons p l ih =>
      obtain ⟨y, i⟩ := p
      rw [List.lookup_cons] at h
      by_cases e : x = y
      · subst e
        simp at h
        subst h
        exact List.mem_cons_self
      · have : (x == y) = false := by simpa using e
        rw [this] at h
        exact List.mem_cons_of_mem _ (ih h)
  unfold fnTb at h1
  obtain ⟨p, _, h2⟩ := List.mem_filterMap.mp h1
  split at h2
  · rename_i y e
    obtain ⟨i, h3, h4⟩ := map_some h2
    cases h4
    exact names_get h3
  · cases h2
theorem callv_un {C : Cl} {i : Nat} {tb : List (Str × Nat)} {as : List IA} {env : En} {o : Out (D × Bool)} (h : evE C (.callv i tb as) env = o) (n : o ≠ .bad) : ∃ x j, env[i]? = some (some (.fn x, .frz)) ∧ tb.lookup x = some j ∧ evE C (.call j as) env = o := by
  simp only [evE] at h
  split at h
  case h_2 => exact absurd h.symm n
  rename_i x hx
  split at h
  case h_2 => exact absurd h.symm n
  rename_i j hj
  exact ⟨x, j, hx, hj, by simp only [evE]; exact h⟩
/-- a call of a local name that holds a def -/
theorem se_callv (iA : SA T N k n) {sc : Scope} {f : Str} {p pos : Pos} {a : Expr} {as : List Expr} {ias : List IA} {i : Nat} (hv : visB sc f = true) (hi : slotOf N f = some i) (has : allO ((a :: as).map (cA T N n sc)) = some ias)
    {X : Cx} (kn : Kn T N X k) (hs : X.env.scope = sc) : PE X (.Call (.Name f p) (a :: as) [] pos) (tZ X.K (evE (callK T.fns k) (.callv i (fnTb T) ias))) := by
  obtain ⟨v, d1, d2⟩ := vis_of hv
  have hA := pa_as iA kn hs has
  have ns : ∀ e ∈ a :: as, NoStar e := fun e he => by
    obtain ⟨y, hy⟩ := allO_map has e he
    exact (iA sc e y hy).1
  constructor
  intro pins s σ H Q I h
  obtain ⟨M, env, e, h⟩ := h
  obtain ⟨x, j, hx, hj, hq⟩ := callv_un (o := evE (callK T.fns k) (.callv i (fnTb T) ias) env) rfl (fun z => by unfold RZ at h; rw [z] at h; exact h)
  obtain ⟨u, h1, h2⟩ := e.slot i _ .frz hx
  obtain ⟨fa2, rfl, h3⟩ := AnyR.fn (.of h2)
  obtain ⟨fa, fd, ps, F, dvs, hT, hm, hk, hF, hdv, hb⟩ := kn.fn j x (fnTb_get hj)
  have hm2 := PySem.W.mg_of I.ok.mod.kin I.ok.mod.glob h3
  have ef : fa2 = fa := by
    rw [hm] at hm2
    cases hm2
    rfl
  subst ef
  have hN := Nat.sub_le dvs.length (F.np - ias.length)
  obtain ⟨ds, hV, hB⟩ := hb _ hN
  have q : tZ X.K (evE (callK T.fns k) (.call j ias)) σ H Q := ⟨M, env, e, by rw [hq]; exact h⟩
  have q2 := z_call hT hdv q
  refine wpAny_Call_Name_kw (thn ((pe_var (pos := p) (by rw [kn.hN]; exact slotOf_get hi) (by rw [hs]; exact v) d1 d2).run pins s σ H (fun v H1 => v = .ref fa2 ∧ H1 = H) I ⟨.ref fa2, h1, rfl, rfl⟩) fun u s1 ⟨v, H1, I1, r1, q1⟩ => ?_)
  obtain ⟨rfl, rfl⟩ := q1
  cases r1
  refine PySem.W.callWith_K (h₀ := X.base) I1.ok.mod.kin hk (thn (hA.run pos pins s1 σ _ _ I1 q2) fun us s2 ⟨vs, H2, I2, r, q⟩ => ⟨I2.kIn, ?_⟩) (star_cons (ns a List.mem_cons_self)) (star_plain fun e he => ns e (List.mem_cons_of_mem _ he))
  exact goG hF ⟨kn.room, kn.gd⟩ hB hV passL I2 r q
/-- a built-in function of one argument -/
theorem se_prim1 (iA : SA T N k n) {sc : Scope} {f : Str} {p pos : Pos} {a : Expr} {x : IA} {q : Pr} (hg : glB sc f = true) (hp : prim1 f = some q) (ha : cA T N n sc a = some x)
    {X : Cx} (kn : Kn T N X k) (hs : X.env.scope = sc) : PE X (.Call (.Name f p) [a] [] pos) (tZ X.K (evE (callK T.fns k) (.op q [x]))) := by
  obtain ⟨g1, g2, g3⟩ := gl_of hg
  have hGl : Gl X f := by show X.env.scope.names.lookup f = _; rw [hs]; exact g1
  obtain ⟨ns, _, _, pa⟩ := iA sc a x ha
  have hA := pa_cons (pa X kn hs) pa_nil (star_cons ns)
  have hS := star_cons (es := []) (env := X.env) ns
  unfold prim1 at hp
  split at hp
  · rename_i e; subst e; cases hp
    exact PE.imp (pe_callB call_len_seq hGl (kn.bl _ (by decide)) PySem.boot_len hA g3 g2 hS rfl) fun σ H Q h => op1 (p := .len) (R := fun v H Q => ∃ p ys, [v] = [.ref p] ∧ (SqL X.K H p ys ∨ SqT X.K H p ys) ∧ Q (.int ys.length) H) (fun e h a k => p_len e h a k) h
  split at hp
  · rename_i e; subst e; cases hp
    exact PE.imp (pe_callB call_abs hGl (kn.bl _ (by decide)) (by decide +kernel) hA g3 g2 hS rfl) fun σ H Q h => op1 (p := .abs) (R := fun v H Q => ∃ i, [v] = [.int i] ∧ Q (.int (if i < 0 then -i else i)) H) (fun e h a k => p_abs e h a k) h
  split at hp
  · rename_i e; subst e; cases hp
    exact PE.imp (pe_callTy call_int1 hGl (kn.bl _ (by decide)) (by decide +kernel) hA g3 g2 hS rfl) fun σ H Q h => op1 (p := .int) (R := fun v H Q => (∃ i, [v] = [.int i] ∧ Q (.int i) H) ∨ ∃ k, [v] = [.bl k] ∧ Q (.int (if k then 1 else 0)) H) (fun e h a k => p_int e h a k) h
  split at hp
  · rename_i e; subst e; cases hp
    exact PE.imp (pe_callTy call_list_of hGl (kn.bl _ (by decide)) (by decide +kernel) hA g3 g2 hS rfl) fun σ H Q h => op1 (p := .list) (R := fun v H Q => ∃ p ys, [v] = [.ref p] ∧ (SqL X.K H p ys ∨ SqT X.K H p ys) ∧ ∀ l, H l = none → Q (.ref l) (upd H l (.lst ys))) (fun e h a k => p_list e h a k) h
  split at hp
  · rename_i e; subst e; cases hp
    have hu : X.A.units + 64 < cLine := by have := kn.room.un; omega
    exact PE.imp (pe_callB (call_reprD kn.gd hu) hGl (kn.bl _ (by decide)) (by decide +kernel) hA g3 g2 hS rfl) fun σ H Q h => op1 (p := .repr) (R := fun v H Q => rRepr X.K [v] H Q) (fun e h a k => p_repr e h a k) h
  split at hp
  · rename_i e; subst e; cases hp
    exact PE.imp (pe_callB (cr_min kn.calm) hGl (kn.bl _ (by decide)) PyProof.Rows.boot_min hA g3 g2 hS rfl) fun σ H Q h => op1 (p := .min) (R := fun v H Q => rMin X.K [v] H Q) (fun e h a k => p_min e h a k) h
  · cases hp
/-- list(reversed(x)) -/
theorem revV_some {f : Str} {a : Expr} {g : Str} {b : Expr} (h : revV f a = some (g, b)) : f = "list" ∧ g = "reversed" ∧ ∃ p pos, a = .Call (.Name g p) [b] [] pos := by
  unfold revV at h
  split at h
  case isFalse => cases h
  rename_i hf
  split at h
  case h_2 => cases h
  rename_i g' b' hv
  split at h
  case isFalse => cases h
  rename_i hg
  cases h
  obtain ⟨p, pos, e⟩ := callV_some hv
  exact ⟨hf, hg, p, pos, e⟩
theorem se_lrev (iA : SA T N k n) {sc : Scope} {p p2 pos pos2 : Pos} {b : Expr} {x : IA} (hg : glB sc "list" = true) (hg2 : glB sc "reversed" = true) (ha : cA T N n sc b = some x)
    {X : Cx} (kn : Kn T N X k) (hs : X.env.scope = sc) : PE X (.Call (.Name "list" p) [.Call (.Name "reversed" p2) [b] [] pos2] [] pos) (tZ X.K (evE (callK T.fns k) (.op .lrev [x]))) := by
  obtain ⟨g1, g2, g3⟩ := gl_of hg
  obtain ⟨q1, q2, q3⟩ := gl_of hg2
  have hGl : Gl X "list" := by show X.env.scope.names.lookup _ = _; rw [hs]; exact g1
  have hGl2 : Gl X "reversed" := by show X.env.scope.names.lookup _ = _; rw [hs]; exact q1
  obtain ⟨ns, _, _, pa⟩ := iA sc b x ha
  exact PE.imp (ZRev.pe_lstRev kn.calm hGl (kn.bl _ (by decide)) hGl2 (kn.bl _ (by decide)) (pa X kn hs) (star_cons ns)) fun σ H Q h => op1 (p := .lrev) (R := fun v H Q => ∃ (a : Addr) (xs : List V), v = .ref a ∧ SqL X.K H a xs ∧ ∀ q, H q = none → Q (.ref q) (upd H q (.lst xs.reverse))) (fun e h a k => p_lrev e h a k) h
/-- isinstance -/
theorem se_isi (iA : SA T N k n) {sc : Scope} {p pos tp : Pos} {a : Expr} {t : Str} {x : IA} {ty : Ty5} (hg : glB sc "isinstance" = true) (ht : glB sc t = true) (hty : tyP t = some ty) (ha : cA T N n sc a = some x)
    {X : Cx} (kn : Kn T N X k) (hs : X.env.scope = sc) : PE X (.Call (.Name "isinstance" p) [a, .Name t tp] [] pos) (tZ X.K (evE (callK T.fns k) (.op (.isi ty) [x]))) := by
  obtain ⟨g1, g2, g3⟩ := gl_of hg
  obtain ⟨t1, t2, t3⟩ := gl_of ht
  have hGl : Gl X "isinstance" := by show X.env.scope.names.lookup _ = _; rw [hs]; exact g1
  have hGt : Gl X t := by show X.env.scope.names.lookup _ = _; rw [hs]; exact t1
  obtain ⟨ns, _, _, pa⟩ := iA sc a x ha
  have htn : t ∈ blts ∧ bootBuiltins t = some (.type ty.nm) := by
    unfold tyP at hty
    split at hty
    · rename_i e; subst e; cases hty; exact ⟨by decide, by decide +kernel⟩
    split at hty
    · rename_i e; subst e; cases hty; exact ⟨by decide, by decide +kernel⟩
    split at hty
    · rename_i e; subst e; cases hty; exact ⟨by decide, by decide +kernel⟩
    split at hty
    · rename_i e; subst e; cases hty; exact ⟨by decide, by decide +kernel⟩
    split at hty
    · rename_i e; subst e; cases hty; exact ⟨by decide, by decide +kernel⟩
    · cases hty
  have hT : PE X (.Name t tp) (tC (.ty ty.nm)) := pe_bltn hGt (kn.bl _ htn.1) htn.2 rfl t3 t2
  have hA := pa_cons (pa X kn hs) (pa_cons hT pa_nil rfl) (star_cons ns)
  have hS := star_cons (es := [.Name t tp]) (env := X.env) ns
  exact PE.imp (pe_callB call_isi hGl (kn.bl _ (by decide)) (by decide +kernel) hA g3 g2 hS rfl) fun σ H Q h => op1 (p := .isi ty) (R := fun v H Q => rIsi X.K [v, .ty ty.nm] H Q) (fun e h a k => p_isi e h a k) h
/-- math.gcd -/
theorem se_gcd (iA : SA T N k n) {sc : Scope} {p pos : Pos} {a b : Expr} {x y : IA} (hg : glB sc "gcd" = true) (hG : T.gcd = true) (ha : cA T N n sc a = some x) (hb : cA T N n sc b = some y)
    {X : Cx} (kn : Kn T N X k) (hs : X.env.scope = sc) : PE X (.Call (.Name "gcd" p) [a, b] [] pos) (tZ X.K (evE (callK T.fns k) (.op .gcd [x, y]))) := by
  obtain ⟨g1, g2, g3⟩ := gl_of hg
  have hGl : Gl X "gcd" := by show X.env.scope.names.lookup _ = _; rw [hs]; exact g1
  obtain ⟨ns, _, _, pa⟩ := iA sc a x ha
  obtain ⟨ns2, _, _, pb⟩ := iA sc b y hb
  have hA := pa_cons (pa X kn hs) (pa_cons (pb X kn hs) pa_nil (star_cons ns2)) (star_cons ns)
  have hS := star_cons (es := [b]) (env := X.env) ns
  exact PE.imp (pe_callBfun cr_gcd hGl (kn.gc hG) hA g2 hS (star_plain fun e he => by rw [List.mem_singleton.mp he]; exact ns2)) fun σ H Q h => op2 (p := .gcd) (r := fun v w H Q => rGcd [v, w] H Q) (fun e h a b k => p_gcd e h a b k) h
theorem pts_of {X : Cx} {K : PySem.W.Frag} {C : Cl} {c : Expr} {y : IT} (h : PT X c (tB K (evT C y))) : PTs X [c] (tB K (evTs C [y])) := by
  refine ⟨fun pins s σ H Q I hw => (pts_one h).run pins s σ H Q I ?_⟩
  obtain ⟨M, env, e, q⟩ := hw
  refine ⟨M, env, e, ?_⟩
  simp only [evTs] at q
  cases hx : evT C y env with
  | bad => rw [hx] at q; exact q.elim
  | ex => rw [hx] at q; exact q.elim
  | ok b env1 =>
    rw [hx] at q
    simp only [Out.bind_ok] at q
    cases b with
    | true => exact q
    | false => exact q
theorem pts_of0 {X : Cx} {K : PySem.W.Frag} {C : Cl} : PTs X [] (tB K (evTs C [])) := by
  refine ⟨fun pins s σ H Q I hw => pts_nil.run pins s σ H Q I ?_⟩
  obtain ⟨M, env, e, q⟩ := hw
  simp only [evTs] at q
  exact q M H e .refl
/-- a list comprehension -/
theorem se_comp (iE : SE T N k n) (iT : ST T N k n) (iI : SI T N k n) {sc scope : Scope} {elt tg iter : Expr} {ifs : List Expr} {pos : Pos} {own : List (Str × Nat)} {g : IG} {src : II} {cs : List IT} {x : IE}
    (hg : tgOf N scope tg = some g) (hsrc : cI T N n sc tg iter = some src) (helt : cE T N n (relS scope sc) elt = some x) (hb : blkC N sc scope own = true) (ht : tgIn (own.map (·.2)) g = true)
    (hcs : (ifs = [] ∧ cs = []) ∨ ∃ c y, ifs = [c] ∧ cT T N n (relS scope sc) c = some y ∧ cs = [y])
    {X : Cx} (kn : Kn T N X k) (hs : X.env.scope = sc) : PE X (.ListComp elt [⟨tg, iter, ifs, 0⟩] scope pos) (tZ X.K (evE (callK T.fns k) (.comp (own.map (·.2)) g src cs x))) := by
  obtain ⟨ns, pi⟩ := iI sc tg iter src hsrc
  obtain ⟨_, _, _, pe⟩ := iE _ elt x helt
  have hr : ∀ (C : Addr) (cl : List (Str × Addr)), (compEnvC scope cl C X.env).scope = relS scope sc := fun C cl => by rw [← hs]; rfl
  refine PE.imp (pe_lc (own := own) (g := tGt X.K (outP (own.map (·.2))) g) (tt := tB X.K (evTs (callK T.fns k) cs)) (te := tZ X.K (evE (callK T.fns k) x)) kn.calm (by rw [kn.hN]; exact kn.nd) (pi X kn hs) (blkOk_by (by rw [kn.hN, hs]; exact hb))
    (fun s H C cl fp => pg_tg kn.blk sto_blk _ hg) (fun s H C cl fp => ?_) (fun s H C cl fp => pe _ kn.blk (hr C cl)) (fun y => ?_)) fun σ H Q h => z_comp ht h
  · rcases hcs with ⟨rfl, rfl⟩ | ⟨c, y, rfl, h1, rfl⟩
    · exact pts_of0
    · exact pts_of (iT.pt h1 kn.blk (hr C cl))
  · cases iter <;> first | rfl | exact absurd rfl (ns _ _ _)
theorem intV_some {e : Expr} {r : Nat} (h : intV e = some r) : ∃ i kk p, e = .Constant (.int i) kk p ∧ ((r : Nat) : Int) = i ∧ r ≤ 10 ∧ r = i.toNat := by
  cases e <;> simp only [intV] at h <;> try (cases h; done)
  rename_i c kk p
  cases c <;> simp only [intV] at h <;> try (cases h; done)
  rename_i i
  split at h
  · cases h
    exact ⟨i, kk, p, rfl, by omega, by omega, rfl⟩
  · cases h
theorem si_succ (iE : SE T N k n) (iA : SA T N k n) (hNS : ∀ sc e x, cA T N n sc e = some x → ∀ elts kk pos, e ≠ .Set elts kk pos) : SI T N k (n + 1) := by
  intro sc tg e ii h
  have over : (cA T N n sc e).map II.over = some ii → (∀ elts kk pos, e ≠ .Set elts kk pos) ∧ ∀ X, Kn T N X k → X.env.scope = sc → PI X tg e (tI X.K (evI (callK T.fns k) ii)) := fun h => by
    obtain ⟨x, h1, rfl⟩ := map_some h
    obtain ⟨s1, s2, s3, p⟩ := iA sc e x h1
    exact ⟨hNS sc e x h1, fun X kn hs => PI.imp (pi_seq (p X kn hs)) fun _ _ _ => i_over⟩
  simp only [cI] at h
  split at h
  case h_2 => exact over h
  rename_i f as hv
  obtain ⟨p, pos, rfl⟩ := callV_some hv
  refine ⟨(fun _ _ _ z => nomatch z), ?_⟩
  split at h
  · rename_i hc
    obtain ⟨hg, rfl⟩ := hc
    obtain ⟨g1, g2, g3⟩ := gl_of hg
    split at h
    · rename_i a
      obtain ⟨y, h1, rfl⟩ := map_some h
      obtain ⟨s1, _, _, pa⟩ := iE sc a y h1
      intro X kn hs
      have hGl : Gl X "range" := by show X.env.scope.names.lookup _ = _; rw [hs]; exact g1
      refine PI.imp (pi_range1 hGl (kn.bl _ (by decide)) (pa_cons (pa X kn hs) pa_nil (star_cons s1)) (by rw [star_cons s1]; rfl)) fun σ H Q hq => ?_
      have q := i_range hq
      obtain ⟨M, env, e, q⟩ := q
      simp only [RZ, evE] at q
      have q2 := q M H (.int 0) e .refl (.int 0)
      obtain ⟨M1, env1, e1, q2⟩ := q2
      refine ⟨M1, env1, e1, ?_⟩
      unfold RZ at q2 ⊢
      cases hx : evE (callK T.fns k) y env1 with
      | bad => rw [hx] at q2; exact q2.elim
      | ex => rw [hx] at q2; exact q2.elim
      | ok z env2 =>
        rw [hx] at q2
        intro M' H' v e' s' r'
        obtain ⟨i, j, z1, z2, z3⟩ := q2 M' H' v e' s' r'
        cases z1
        exact ⟨j, rfl, z2.2.2.1, z2.2.2.2, by rw [Int.sub_zero] at z3; exact z3⟩
    · rename_i a b
      split at h
      · rename_i x y h1 h2
        cases h
        obtain ⟨s1, _, _, pa⟩ := iE sc a x h1
        obtain ⟨s2, _, _, pb⟩ := iE sc b y h2
        intro X kn hs
        have hGl : Gl X "range" := by show X.env.scope.names.lookup _ = _; rw [hs]; exact g1
        exact PI.imp (pi_range2 hGl (kn.bl _ (by decide)) (pa_cons (pa X kn hs) (pa_cons (pb X kn hs) pa_nil (star_cons s2)) (star_cons s1)) (by rw [star_cons s1, star_cons s2]; rfl) (by rw [star_cons s2]; rfl)) fun σ H Q hq => i_range hq
      · cases h
    · cases h
  · split at h
    · rename_i hc
      obtain ⟨hg, rfl⟩ := hc
      obtain ⟨g1, g2, g3⟩ := gl_of hg
      split at h
      · rename_i a
        split at h
        · rename_i ht
          obtain ⟨es, kk, tpos, rfl⟩ := isTup_some ht
          obtain ⟨y, h1, rfl⟩ := map_some h
          obtain ⟨s1, _, _, pa⟩ := iA sc a y h1
          intro X kn hs
          have hGl : Gl X "enumerate" := by show X.env.scope.names.lookup _ = _; rw [hs]; exact g1
          exact PI.imp (pi_enum hGl (kn.bl _ (by decide)) (pa_cons (pa X kn hs) pa_nil (star_cons s1)) (by rw [star_cons s1]; rfl)) fun σ H Q hq => i_enum hq
        · cases h
      · cases h
    · split at h
      · rename_i hc
        obtain ⟨hg, rfl, hcm⟩ := hc
        obtain ⟨g1, g2, g3⟩ := gl_of hg
        split at h
        case h_2 => cases h
        rename_i a b
        split at h
        case h_2 => cases h
        rename_i r hr
        obtain ⟨i, kk, p2, rfl, hi, hr10, rfl⟩ := intV_some hr
        split at h
        · rename_i g c hv2
          obtain ⟨p3, pos3, rfl⟩ := callV_some hv2
          split at h
          case isFalse => cases h
          rename_i hc2
          obtain ⟨hg2, rfl⟩ := hc2
          obtain ⟨q1, q2, q3⟩ := gl_of hg2
          obtain ⟨y, h1, rfl⟩ := map_some h
          obtain ⟨s1, _, _, pa⟩ := iE sc c y h1
          intro X kn hs
          have hGl : Gl X "combinations" := by show X.env.scope.names.lookup _ = _; rw [hs]; exact g1
          have hGl2 : Gl X "range" := by show X.env.scope.names.lookup _ = _; rw [hs]; exact q1
          rw [← hi]
          exact PI.imp (ZCmb.pi_cmbR kn.calm hr10 hGl (kn.cm hcm) (prg_1 hGl2 (kn.bl _ (by decide)) (pa X kn hs) (star_cons s1)) (by rfl)) fun σ H Q hq => i_cmbR hq
        · cases h
        · obtain ⟨y, h1, rfl⟩ := map_some h
          obtain ⟨s1, _, _, pa⟩ := iA sc a y h1
          intro X kn hs
          have hGl : Gl X "combinations" := by show X.env.scope.names.lookup _ = _; rw [hs]; exact g1
          rw [← hi]
          exact PI.imp (ZCmb.pi_cmb hGl (kn.cm hcm) (pa_cons (pa X kn hs) (pa_cons pe_int pa_nil (by rfl)) (star_cons s1)) (star_cons s1) (by rfl)) fun σ H Q hq => i_cmb hr10 hq
      · split at h
        · rename_i hc
          obtain ⟨hg, rfl⟩ := hc
          obtain ⟨g1, g2, g3⟩ := gl_of hg
          split at h
          · rename_i a
            obtain ⟨y, h1, rfl⟩ := map_some h
            obtain ⟨s1, _, _, pa⟩ := iA sc a y h1
            intro X kn hs
            have hGl : Gl X "reversed" := by show X.env.scope.names.lookup _ = _; rw [hs]; exact g1
            exact PI.imp (RT.pi_revA hGl (kn.bl _ (by decide)) (pa X kn hs) (star_cons s1)) fun σ H Q hq => i_rev hq
          · cases h
        · split at h
          · rename_i hc
            obtain ⟨hg, rfl⟩ := hc
            obtain ⟨g1, g2, g3⟩ := gl_of hg
            split at h
            · rename_i a b
              split at h
              · rename_i ht
                obtain ⟨es, kk, tpos, rfl⟩ := isTup_some ht
                split at h
                · rename_i x y h1 h2
                  cases h
                  obtain ⟨s1, _, _, pa⟩ := iA sc a x h1
                  obtain ⟨s2, _, _, pb⟩ := iA sc b y h2
                  intro X kn hs
                  have hGl : Gl X "zip" := by show X.env.scope.names.lookup _ = _; rw [hs]; exact g1
                  exact PI.imp (pi_zipM hGl (kn.bl _ (by decide)) (pa_cons (pa X kn hs) (pa_cons (pb X kn hs) pa_nil (star_cons s2)) (star_cons s1)) (star_cons s1) (by rw [star_cons s2]; rfl)) fun σ H Q hq => i_zipt hq
                · cases h
              · cases h
            · cases h
          · exact (over h).2
end
end Z
namespace Z
open PySem PySem.Spec PyProof.Rows L2
section
variable {T : Tab} {N : List Str} {k n : Nat}
theorem evA_val {C : Cl} {y : IE} {env env' : En} {p : PV} (h : evA C (.val y) env = .ok p env') : ∃ z, evE C y env = .ok z env' ∧ p = .val z.1 := by
  simp only [evA] at h
  cases hx : evE C y env with
  | bad => rw [hx] at h; cases h
  | ex => rw [hx] at h; cases h
  | ok z e => rw [hx] at h; cases h; exact ⟨z, rfl, rfl⟩
theorem sl_Z {X : Cx} : SlR X (rSlZ X.K) := SlR.or sl_list sl_tupA
theorem op_sl2 {K : PySem.W.Frag} {C : Cl} {x : IA} {y z : IE} {σ : L2.St} {H : Hp} {Q : VK} (h : tZ K (evE C (.op (.sl true true) [x, .val y, .val z])) σ H Q) : tSl (rSlZ K) (tP K (evA C x)) (tPart (tZ K (evE C y))) (tPart (tZ K (evE C z))) σ H Q := by
  obtain ⟨M, env, e, h⟩ := h
  refine ⟨M, env, e, ?_⟩
  unfold RP
  simp only [evE, evAs] at h
  cases hx : evA C x env with
  | bad => rw [hx] at h; exact h.elim
  | ex => rw [hx] at h; exact h.elim
  | ok p1 env1 =>
    rw [hx] at h
    simp only [Out.bind_ok] at h
    intro M1 H1 v1 e1 s1 f1
    refine ⟨M1, env1, e1, ?_⟩
    unfold RZ
    cases hy : evA C (.val y) env1 with
    | bad => rw [hy] at h; exact h.elim
    | ex => rw [hy] at h; exact h.elim
    | ok p2 env2 =>
      rw [hy] at h
      simp only [Out.bind_ok] at h
      obtain ⟨z2, hy2, rfl⟩ := evA_val hy
      rw [hy2]
      intro M2 H2 v2 e2 s2 r2
      obtain ⟨M2', e2', s2', r2'⟩ := r2.freeze e1 e2 s2
      cases hz : evA C (.val z) env2 with
      | bad => rw [hz] at h; exact h.elim
      | ex => rw [hz] at h; exact h.elim
      | ok p3 env3 =>
        rw [hz] at h
        simp only [Out.bind_ok] at h
        obtain ⟨z3, hz2, rfl⟩ := evA_val hz
        cases hf : fill env3 [p1, .val z2.1, .val z3.1] with
        | none => rw [hf] at h; exact h.elim
        | some l =>
          rw [hf] at h
          simp only [fill, fill1] at hf
          split at hf
          case h_2 => cases hf
          rename_i d1 ds hd1 hds
          cases hf
          cases hds
          obtain ⟨d2, fr2⟩ := z2
          obtain ⟨d3, fr3⟩ := z3
          simp only at h r2' hd1
          cases d2 with
          | int i =>
            cases d3 with
            | int j =>
              refine ⟨i, (AnyR.of r2').int, M2', env2, e2', ?_⟩
              unfold RZ
              rw [hz2]
              intro M3 H3 v3 e3 s3 r3
              obtain ⟨M3', e3', s3', r3'⟩ := r3.freeze e2' e3 s3
              refine ⟨j, (AnyR.of r3').int, ?_⟩
              have s23 := s2'.trans e1.mok s3'
              have s123 := s1.trans e.mok s23
              have a1 := fill1_any e3' (f1.keeps e1.mok (s23.keeps e1)) hd1
              simp only [prB] at h
              cases hp : pSl (some i) (some j) d1 with
              | none => rw [hp] at h; exact h.elim
              | some w =>
                obtain ⟨d, fr⟩ := w
                rw [hp] at h
                exact p_sl e3' hp a1 fun M' H' v e' s' r' => h M' H' v e' (s123.trans e.mok s') (r'.back s123)
            | _ => exact h.elim
          | _ => exact h.elim
theorem op_sl1 {K : PySem.W.Frag} {C : Cl} {x : IA} {y : IE} {σ : L2.St} {H : Hp} {Q : VK} {b c : Bool} (hpr : ∀ d i, prB (.sl b c) [d, .int i] = if b then pSl (some i) none d else pSl none (some i) d) (hno : ∀ d e, (∀ i, e ≠ .int i) → prB (.sl b c) [d, e] = none)
    (h : tZ K (evE C (.op (.sl b c) [x, .val y])) σ H Q) : tP K (evA C x) σ H fun v H1 => tZ K (evE C y) σ H1 fun w H2 => ∃ i, w = .int i ∧ rSlZ K v (if b then some i else none) (if b then none else some i) H2 Q := by
  obtain ⟨M, env, e, h⟩ := h
  refine ⟨M, env, e, ?_⟩
  unfold RP
  simp only [evE, evAs] at h
  cases hx : evA C x env with
  | bad => rw [hx] at h; exact h.elim
  | ex => rw [hx] at h; exact h.elim
  | ok p1 env1 =>
    rw [hx] at h
    simp only [Out.bind_ok] at h
    intro M1 H1 v1 e1 s1 f1
    refine ⟨M1, env1, e1, ?_⟩
    unfold RZ
    cases hy : evA C (.val y) env1 with
    | bad => rw [hy] at h; exact h.elim
    | ex => rw [hy] at h; exact h.elim
    | ok p2 env2 =>
      rw [hy] at h
      simp only [Out.bind_ok] at h
      obtain ⟨z2, hy2, rfl⟩ := evA_val hy
      rw [hy2]
      intro M2 H2 v2 e2 s2 r2
      obtain ⟨M2', e2', s2', r2'⟩ := r2.freeze e1 e2 s2
      cases hf : fill env2 [p1, .val z2.1] with
      | none => rw [hf] at h; exact h.elim
      | some l =>
        rw [hf] at h
        simp only [fill, fill1] at hf
        split at hf
        case h_2 => cases hf
        rename_i d1 ds hd1 hds
        cases hf
        cases hds
        obtain ⟨d2, fr2⟩ := z2
        simp only at h r2' hd1
        have s12 := s1.trans e.mok s2'
        have a1 := fill1_any e2' (f1.keeps e1.mok (s2'.keeps e1)) hd1
        by_cases hi : ∃ i, d2 = .int i
        · obtain ⟨i, rfl⟩ := hi
          refine ⟨i, (AnyR.of r2').int, ?_⟩
          rw [hpr] at h
          cases b with
          | true =>
            rw [if_pos rfl] at h ⊢
            rw [if_pos rfl]
            cases hp : pSl (some i) none d1 with
            | none => rw [hp] at h; exact h.elim
            | some w =>
              obtain ⟨d, fr⟩ := w
              rw [hp] at h
              exact p_sl e2' hp a1 fun M' H' v e' s' r' => h M' H' v e' (s12.trans e.mok s') (r'.back s12)
          | false =>
            rw [if_neg Bool.false_ne_true] at h ⊢
            rw [if_neg Bool.false_ne_true]
            cases hp : pSl none (some i) d1 with
            | none => rw [hp] at h; exact h.elim
            | some w =>
              obtain ⟨d, fr⟩ := w
              rw [hp] at h
              exact p_sl e2' hp a1 fun M' H' v e' s' r' => h M' H' v e' (s12.trans e.mok s') (r'.back s12)
        · rw [hno d1 d2 fun i z => hi ⟨i, z⟩] at h
          exact h.elim
theorem NoSet.ne {e : Expr} (h : NoSet e) : ∀ x p q, e ≠ .Set x p q := fun x p q z => by subst z; exact h
/-- a value that is always a bool, as a test -/
theorem t_bool {K : PySem.W.Frag} {C : Cl} {x : IE} (hb : ∀ env z env', evE C x env = .ok z env' → ∃ b, z.1 = .bl b) {σ : L2.St} {H : Hp} {Q : Bool → Hp → Prop} (h : tB K (evT C (.val (.val x))) σ H Q) : tZ K (evE C x) σ H fun v H' => ∃ k, v = .bl k ∧ Q k H' := by
  have q := p_of_z (t_val h)
  obtain ⟨M, env, e, q⟩ := q
  refine ⟨M, env, e, ?_⟩
  unfold RZ at q ⊢
  cases hx : evE C x env with
  | bad => rw [hx] at q; exact q.elim
  | ex => rw [hx] at q; exact q.elim
  | ok z env1 =>
    rw [hx] at q
    intro M1 H1 v1 e1 s1 r1
    obtain ⟨k, h1, h2, h3⟩ := q M1 H1 v1 e1 s1 r1
    obtain ⟨b, hz⟩ := hb env z env1 hx
    have hv : v1 = .bl b := by
      obtain ⟨d, fr⟩ := z
      cases hz
      cases fr with
      | false => exact (AnyR.of (show Rep K M1 H1 (.bl b) v1 from r1)).bl
      | true => obtain ⟨_, _, _, z, _⟩ := r1; cases z
    rcases h2 with h2 | h2
    · exact ⟨k, h2, h3⟩
    · exact absurd hv (h2 b)
theorem op_bool {C : Cl} {p : Pr} {as : List IA} (hp : ∀ ds d fr, prB p ds = some (d, fr) → ∃ b, d = .bl b) : ∀ env z env', evE C (.op p as) env = .ok z env' → ∃ b, z.1 = .bl b := by
  intro env z env' h
  simp only [evE] at h
  cases hx : evAs C as env with
  | bad => rw [hx] at h; cases h
  | ex => rw [hx] at h; cases h
  | ok l env1 =>
    rw [hx] at h
    simp only [Out.bind_ok] at h
    split at h
    · rename_i ds hf
      cases hq : prB p ds with
      | none => rw [hq] at h; cases h
      | some w =>
        rw [hq] at h
        obtain ⟨d, fr⟩ := w
        cases h
        exact hp ds d fr hq
    · cases h
theorem prB_two {p : Pr} {op : CmpOp} (hp : cmpP op = some p) (ds : List D) (d : D) (fr : Bool) (h : prB p ds = some (d, fr)) : ∃ b, d = .bl b := by
  have two : ∀ (f : D → D → Option (D × Bool)), (∀ a b, prB p [a, b] = f a b) → (∀ ds, (∀ a b, ds ≠ [a, b]) → prB p ds = none) → (∀ a b d fr, f a b = some (d, fr) → ∃ b, d = .bl b) → ∃ b, d = .bl b := by
    intro f h1 h2 h3
    match ds, h with
    | [a, b], h => rw [h1] at h; exact h3 a b d fr h
    | [], h => rw [h2 [] (fun _ _ z => nomatch z)] at h; cases h
    | [a], h => rw [h2 [a] (fun _ _ z => nomatch z)] at h; cases h
    | a :: b :: c :: r, h => rw [h2 (a :: b :: c :: r) (fun _ _ z => nomatch z)] at h; cases h
  have no : ∀ (p : Pr), (∀ a b, prB p [a, b] = prB p [a, b]) → True := fun _ _ => trivial
  have cm : ∀ (f : Int → Int → Bool) a b d fr, pCmp f a b = some (d, fr) → ∃ b, d = .bl b := by
    intro f a b d fr h
    cases a <;> cases b <;> try (simp [pCmp] at h; done)
    cases h
    exact ⟨_, rfl⟩
  have inn : ∀ (g : Bool) a b d fr, pIn g a b = some (d, fr) → ∃ b, d = .bl b := by
    intro g a b d fr h
    cases b <;> try (simp [pIn] at h; done)
    all_goals (obtain ⟨_, z⟩ := ite_some h; cases z; exact ⟨_, rfl⟩)
  have nn : ∀ ds, (∀ a b, ds ≠ [a, b]) → prB p ds = none := by
    intro ds hds
    cases ds with
    | nil => cases op <;> cases hp <;> rfl
    | cons a r =>
      cases r with
      | nil => cases op <;> cases hp <;> rfl
      | cons b r =>
        cases r with
        | nil => exact absurd rfl (hds a b)
        | cons c r => cases op <;> cases hp <;> rfl
  cases op <;> cases hp
  · refine two _ (fun _ _ => rfl) nn fun a b d fr h => ?_
    replace h : (if a.ok && b.ok then some (D.bl (a.eqv b), false) else pEqS a b) = some (d, fr) := h
    split at h
    · cases h; exact ⟨_, rfl⟩
    · cases a <;> cases b <;> first | (simp [pEqS] at h; done) | (cases h; exact ⟨_, rfl⟩)
  · refine two _ (fun _ _ => rfl) nn fun a b d fr h => ?_
    replace h : (if a.ok && b.ok then some (D.bl (!a.eqv b), false) else pNeS a b) = some (d, fr) := h
    split at h
    · cases h; exact ⟨_, rfl⟩
    · cases a <;> cases b <;> first | (simp [pNeS] at h; done) | (cases h; exact ⟨_, rfl⟩)
  · exact two _ (fun _ _ => rfl) nn (cm _)
  · exact two _ (fun _ _ => rfl) nn (cm _)
  · exact two _ (fun _ _ => rfl) nn (cm _)
  · exact two _ (fun _ _ => rfl) nn (cm _)
  · exact two _ (fun _ _ => rfl) nn fun a b d fr h => by cases a <;> cases b <;> (first | cases h | skip) <;> exact ⟨_, rfl⟩
  · exact two _ (fun _ _ => rfl) nn fun a b d fr h => by cases a <;> cases b <;> (first | cases h | skip) <;> exact ⟨_, rfl⟩
  · exact two _ (fun _ _ => rfl) nn (inn _)
  · exact two _ (fun _ _ => rfl) nn (inn _)
theorem chain_bool {C : Cl} {p q : Pr} {op op' : CmpOp} (hp : cmpP op = some p) (hq : cmpP op' = some q) {a b c : IE} : ∀ env z env', evE C (.chain p q a b c) env = .ok z env' → ∃ b, z.1 = .bl b := by
  intro env z env' h
  simp only [evE] at h
  cases hx : evE C a env with
  | bad => rw [hx] at h; cases h
  | ex => rw [hx] at h; cases h
  | ok x env1 =>
    rw [hx] at h
    simp only [Out.bind_ok] at h
    cases hy : evE C b env1 with
    | bad => rw [hy] at h; cases h
    | ex => rw [hy] at h; cases h
    | ok y env2 =>
      rw [hy] at h
      simp only [Out.bind_ok] at h
      split at h
      · cases hz : evE C c env2 with
        | bad => rw [hz] at h; cases h
        | ex => rw [hz] at h; cases h
        | ok w env3 =>
          rw [hz] at h
          simp only [Out.bind_ok] at h
          cases hw : prB q [y.1, w.1] with
          | none => rw [hw] at h; cases h
          | some u =>
            rw [hw] at h
            obtain ⟨d, fr⟩ := u
            cases h
            exact prB_two hq _ d fr hw
      · cases h
        exact ⟨_, rfl⟩
      · cases h
/-- a comparison: as a value, as a test -/
theorem se_cmp (iA : SA T N k n) {sc : Scope} {op : CmpOp} {a b : Expr} {pos : Pos} {p : Pr} {x y : IA} (hp : cmpP op = some p) (ha : cA T N n sc a = some x) (hb : cA T N n sc b = some y) {X : Cx} (kn : Kn T N X k) (hs : X.env.scope = sc) :
    PE X (.Compare a [op] [b] pos) (tZ X.K (evE (callK T.fns k) (.op p [x, y]))) ∧ PT X (.Compare a [op] [b] pos) (tB X.K (evT (callK T.fns k) (.val (.val (.op p [x, y]))))) := by
  obtain ⟨_, _, _, pa⟩ := iA sc a x ha
  obtain ⟨_, ns, _, pb⟩ := iA sc b y hb
  obtain ⟨r, h1, h2⟩ := cmp_rule (X := X) kn hp
  exact ⟨PE.imp (pe_cmpR h1 (pa X kn hs) (pb X kn hs) (behind_no ns)) fun σ H Q h => op2 h2 h, PT.imp (pt_cmpR h1 (pa X kn hs) (pb X kn hs) (behind_no ns)) fun σ H Q h => op2 h2 (t_bool (op_bool (prB_two hp)) h)⟩
theorem isNone_some {b : Expr} (h : isNone b = true) : ∃ j p, b = .Constant .none j p := by
  cases b <;> simp [isNone] at h
  rename_i c j p
  cases c <;> simp at h
  exact ⟨j, p, rfl⟩
theorem isn_bool (ds : List D) (d : D) (fr : Bool) (h : prB .isn ds = some (d, fr)) : ∃ b, d = .bl b := by
  match ds, h with
  | [a], h => cases h; exact ⟨_, rfl⟩
  | [], h => cases h
  | a :: b :: r, h => cases h
theorem notn_bool (ds : List D) (d : D) (fr : Bool) (h : prB .notn ds = some (d, fr)) : ∃ b, d = .bl b := by
  match ds, h with
  | [a], h => cases h; exact ⟨_, rfl⟩
  | [], h => cases h
  | a :: b :: r, h => cases h
theorem se_isn (iA : SA T N k n) {sc : Scope} {a : Expr} {j : Nat} {p' pos : Pos} {x : IA} (ha : cA T N n sc a = some x) {X : Cx} (kn : Kn T N X k) (hs : X.env.scope = sc) :
    PE X (.Compare a [.Is] [.Constant .none j p'] pos) (tZ X.K (evE (callK T.fns k) (.op .isn [x]))) ∧ PT X (.Compare a [.Is] [.Constant .none j p'] pos) (tB X.K (evT (callK T.fns k) (.val (.val (.op .isn [x]))))) := by
  obtain ⟨_, _, _, pa⟩ := iA sc a x ha
  have key : ∀ {σ H Q}, tZ X.K (evE (callK T.fns k) (.op .isn [x])) σ H Q → tIsN (tP X.K (evA (callK T.fns k) x)) σ H Q := fun {σ H Q} h => op1 (p := .isn) (R := fun v H Q => Q (.bl (decide (v = .non))) H) (fun e h a k => p_isn e h a k) h
  exact ⟨PE.imp (pe_cmp (pc_isN (pa X kn hs)) rfl) fun σ H Q h => key h, PT.imp (pt_cmp (pc_isN (pa X kn hs)) rfl) fun σ H Q h => key (t_bool (op_bool isn_bool) h)⟩
theorem se_notn (iA : SA T N k n) {sc : Scope} {a : Expr} {j : Nat} {p' pos : Pos} {x : IA} (ha : cA T N n sc a = some x) {X : Cx} (kn : Kn T N X k) (hs : X.env.scope = sc) :
    PE X (.Compare a [.IsNot] [.Constant .none j p'] pos) (tZ X.K (evE (callK T.fns k) (.op .notn [x]))) ∧ PT X (.Compare a [.IsNot] [.Constant .none j p'] pos) (tB X.K (evT (callK T.fns k) (.val (.val (.op .notn [x]))))) := by
  obtain ⟨_, _, _, pa⟩ := iA sc a x ha
  have key : ∀ {σ H Q}, tZ X.K (evE (callK T.fns k) (.op .notn [x])) σ H Q → tNotN (tP X.K (evA (callK T.fns k) x)) σ H Q := fun {σ H Q} h => op1 (p := .notn) (R := fun v H Q => Q (.bl (!decide (v = .non))) H) (fun e h a k => p_notn e h a k) h
  exact ⟨PE.imp (pe_cmp (pc_notN (pa X kn hs)) rfl) fun σ H Q h => key h, PT.imp (pt_cmp (pc_notN (pa X kn hs)) rfl) fun σ H Q h => key (t_bool (op_bool notn_bool) h)⟩
theorem se_chain (iE : SE T N k n) {sc : Scope} {op op' : CmpOp} {a b c : Expr} {pos : Pos} {p q : Pr} {x y z : IE} (hp : cmpP op = some p) (hq : cmpP op' = some q) (ha : cE T N n sc a = some x) (hb : cE T N n sc b = some y) (hc : cE T N n sc c = some z)
    {X : Cx} (kn : Kn T N X k) (hs : X.env.scope = sc) :
    PE X (.Compare a [op, op'] [b, c] pos) (tZ X.K (evE (callK T.fns k) (.chain p q x y z))) ∧ PT X (.Compare a [op, op'] [b, c] pos) (tB X.K (evT (callK T.fns k) (.val (.val (.chain p q x y z))))) := by
  obtain ⟨_, _, _, pa⟩ := iE sc a x ha
  obtain ⟨_, _, _, pb⟩ := iE sc b y hb
  obtain ⟨_, ns, _, pc⟩ := iE sc c z hc
  obtain ⟨r, h1, h2⟩ := cmp_rule (X := X) kn hp
  obtain ⟨r', h3, h4⟩ := cmp_rule (X := X) kn hq
  have hm : lastMarks [op, op'] [b, c] = false := behind_no ns
  exact ⟨PE.imp (pe_chain h1 h3 (pa X kn hs) (pb X kn hs) (pc X kn hs) hm) fun σ H Q h => z_chain h2 h4 h, PT.imp (pt_chain h1 h3 (pa X kn hs) (pb X kn hs) (pc X kn hs) hm) fun σ H Q h => z_chain h2 h4 (t_bool (chain_bool hp hq) h)⟩
theorem se_succ (iE : SE T N k n) (iA : SA T N k n) (iT : ST T N k n) (iI : SI T N k n) : SE T N k (n + 1) := by
  intro sc e ie h
  have nosl : ∀ {e : Expr}, (match e with | .Slice _ _ _ _ => False | _ => True) → ∀ lo hi st pos, e ≠ .Slice lo hi st pos := fun {e} h lo hi st pos z => by subst z; exact h
  cases e <;> simp only [cE] at h <;> try (cases h; done)
  case Name x pos =>
    refine ⟨trivial, trivial, nosl trivial, ?_⟩
    split at h
    · rename_i hv
      obtain ⟨i, h1, rfl⟩ := map_some h
      obtain ⟨v, d1, d2⟩ := vis_of hv
      exact fun X kn hs => PE.imp (pe_var (by rw [kn.hN]; exact slotOf_get h1) (by rw [hs]; exact v) d1 d2) fun _ _ _ => z_of_var
    · split at h
      · rename_i hg
        obtain ⟨d, h1, rfl⟩ := map_some h
        obtain ⟨g1, g2, g3⟩ := gl_of hg
        intro X kn hs
        obtain ⟨v, u, k1, k2, k3⟩ := kn.gl x d h1
        exact PE.imp (pe_glob (by show X.env.scope.names.lookup _ = _; rw [hs]; exact g1) k1 k2 g2) fun _ _ _ => z_cst k3
      · cases h
  case Constant c j pos =>
    refine ⟨trivial, trivial, nosl trivial, ?_⟩
    cases c <;> simp only at h <;> try (cases h; done)
    · cases h
      exact fun X kn hs => PE.imp pe_non fun _ _ _ => z_cst fun _ _ => .non
    · cases h
      exact fun X kn hs => PE.imp pe_bl fun _ _ _ => z_cst fun _ _ => .bl _
    · cases h
      exact fun X kn hs => PE.imp pe_int fun _ _ _ => z_cst fun _ _ => .int _
    · cases h
      exact fun X kn hs => PE.imp pe_str fun _ _ _ => z_cst fun _ _ => .str _
  case BinOp a op b pos =>
    refine ⟨trivial, trivial, nosl trivial, ?_⟩
    split at h
    · rename_i p x y h1 h2 h3
      cases h
      intro X kn hs
      obtain ⟨_, _, _, pa⟩ := iA sc a x h2
      obtain ⟨_, _, _, pb⟩ := iA sc b y h3
      obtain ⟨r, g1, g2⟩ := bin_rule (X := X) h1
      exact PE.imp (pe_op g1 (pa X kn hs) (pb X kn hs)) fun σ H Q h => op2 g2 h
    · cases h
  case UnaryOp op a pos =>
    refine ⟨trivial, trivial, nosl trivial, ?_⟩
    cases op <;> simp only at h <;> try (cases h; done)
    · obtain ⟨x, h1, rfl⟩ := map_some h
      obtain ⟨_, _, _, pa⟩ := iE sc a x h1
      exact fun X kn hs => PE.imp (pe_not (pa X kn hs)) fun _ _ _ => z_not
    · obtain ⟨x, h1, rfl⟩ := map_some h
      obtain ⟨_, _, _, pa⟩ := iA sc a x h1
      exact fun X kn hs => PE.imp (pe_un un_neg (pa X kn hs)) fun σ H Q h => op1 (p := .neg) (R := fun v H Q => rU (fun i => .int (-i)) v H Q) (fun e h a k => p_neg e h a k) h
  case BoolOp op vs pos =>
    refine ⟨trivial, trivial, nosl trivial, ?_⟩
    match vs, h with
    | [], h => cases h
    | [a], h =>
      obtain ⟨_, _, _, pa⟩ := iE sc a ie h
      exact fun X kn hs => pe_one (pa X kn hs)
    | a :: b :: r, h =>
      simp only at h
      split at h
      · rename_i x y h1 h2
        obtain ⟨_, _, _, pa⟩ := iE sc a x h1
        obtain ⟨_, _, _, pb⟩ := iE sc _ y h2
        cases op <;> cases h
        · exact fun X kn hs => PE.imp (pe_and (pa X kn hs) (pb X kn hs)) fun _ _ _ => z_and
        · exact fun X kn hs => PE.imp (pe_or (pa X kn hs) (pb X kn hs)) fun _ _ _ => z_or
      · cases h
  case Compare a ops bs pos =>
    refine ⟨trivial, trivial, nosl trivial, ?_⟩
    match ops, bs, h with
    | [], _, h => cases h
    | [op], [], h => cases h
    | [op], _ :: _ :: _, h => cases h
    | [p, q], [], h => cases h
    | [p, q], [_], h => cases h
    | [p, q], _ :: _ :: _ :: _, h => cases h
    | _ :: _ :: _ :: _, _, h => cases h
    | [op], [b], h =>
      by_cases o1 : op = .Is
      · subst o1
        simp only at h
        split at h
        · rename_i hb
          obtain ⟨j, p', rfl⟩ := isNone_some hb
          obtain ⟨x, h1, rfl⟩ := map_some h
          exact fun X kn hs => (se_isn iA h1 kn hs).1
        · split at h
          · rename_i x y h2 h3
            cases h
            exact fun X kn hs => (se_cmp iA (op := .Is) rfl h2 h3 kn hs).1
          · cases h
      · by_cases o2 : op = .IsNot
        · subst o2
          simp only at h
          split at h
          · rename_i hb
            obtain ⟨j, p', rfl⟩ := isNone_some hb
            obtain ⟨x, h1, rfl⟩ := map_some h
            exact fun X kn hs => (se_notn iA h1 kn hs).1
          · split at h
            · rename_i x y h2 h3
              cases h
              exact fun X kn hs => (se_cmp iA (op := .IsNot) rfl h2 h3 kn hs).1
            · cases h
        · have h' : (match cmpP op, cA T N n sc a, cA T N n sc b with
              | some p, some x, some y => some (IE.op p [x, y])
              | _, _, _ => none) = some ie := by
            cases op <;> first | exact h | exact absurd rfl o1 | exact absurd rfl o2
          split at h'
          · rename_i p x y h1 h2 h3
            cases h'
            exact fun X kn hs => (se_cmp iA h1 h2 h3 kn hs).1
          · cases h'
    | [p, q], [b, c], h =>
      simp only at h
      split at h
      · rename_i p' q' x y z h1 h2 h3 h4 h5
        cases h
        exact fun X kn hs => (se_chain iE h1 h2 h3 h4 h5 kn hs).1
      · cases h
  case IfExp c a b pos =>
    refine ⟨trivial, trivial, nosl trivial, ?_⟩
    split at h
    · rename_i x y z h1 h2 h3
      cases h
      obtain ⟨_, _, _, pa⟩ := iE sc a y h2
      obtain ⟨_, _, _, pb⟩ := iE sc b z h3
      exact fun X kn hs => PE.imp (pe_ifExp (iT.pt h1 kn hs) (pa X kn hs) (pb X kn hs)) fun _ _ _ => z_ife
    · cases h
  case Call fn as kw pos =>
    refine ⟨trivial, trivial, nosl trivial, ?_⟩
    split at h
    case h_2 => cases h
    rename_i f hn
    obtain ⟨p, rfl⟩ := nameV_some hn
    split at h
    case isFalse =>
      split at h
      case isFalse => cases h
      rename_i hv
      split at h
      case h_2 => cases h
      rename_i i a r hi
      obtain ⟨ias, h1, rfl⟩ := map_some h
      exact fun X kn hs => se_callv iA hv hi h1 kn hs
    rename_i hg
    split at h
    · rename_i j hj
      obtain ⟨ias, h1, rfl⟩ := map_some h
      exact fun X kn hs => se_call iA hg hj h1 kn hs
    · rename_i hj
      cases as with
      | nil => cases h
      | cons a as =>
        cases as with
        | nil =>
          simp only at h
          split at h
          · rename_i g b hr
            obtain ⟨rfl, rfl, p2, pos2, rfl⟩ := revV_some hr
            split at h
            · rename_i hg2
              obtain ⟨x, h1, rfl⟩ := map_some h
              exact fun X kn hs => se_lrev iA hg hg2 h1 kn hs
            · cases h
          split at h
          · rename_i q x h1 h2
            cases h
            exact fun X kn hs => se_prim1 iA hg h1 h2 kn hs
          · cases h
        | cons b as =>
          cases as with
          | cons _ _ => cases h
          | nil =>
            simp only at h
            by_cases hf : f = "isinstance"
            · rw [if_pos hf] at h
              subst hf
              cases hn2 : nameV b with
              | none => rw [hn2] at h; cases h
              | some t =>
                obtain ⟨tp, rfl⟩ := nameV_some hn2
                rw [hn2] at h
                simp only at h
                by_cases ht : glB sc t = true
                · rw [if_pos ht] at h
                  split at h
                  · rename_i ty x h1 h2
                    cases h
                    exact fun X kn hs => se_isi iA hg ht h1 h2 kn hs
                  · cases h
                · rw [if_neg ht] at h
                  cases h
            · rw [if_neg hf] at h
              by_cases hc : f = "gcd" ∧ T.gcd = true
              · rw [if_pos hc] at h
                obtain ⟨rfl, hG⟩ := hc
                split at h
                · rename_i x y h1 h2
                  cases h
                  exact fun X kn hs => se_gcd iA hg hG h1 h2 kn hs
                · cases h
              · rw [if_neg hc] at h
                cases h
  case Tuple es kk pos =>
    refine ⟨trivial, trivial, nosl trivial, ?_⟩
    obtain ⟨ies, h1, rfl⟩ := map_some h
    exact fun X kn hs => PE.imp (pe_tup (pa_es iE kn hs h1)) fun _ _ _ => z_tup
  case List es pos =>
    refine ⟨trivial, trivial, nosl trivial, ?_⟩
    obtain ⟨ies, h1, rfl⟩ := map_some h
    exact fun X kn hs => PE.imp (pe_lst (pa_es iE kn hs h1)) fun _ _ _ => z_lst
  case Subscript a b pos =>
    refine ⟨trivial, trivial, nosl trivial, ?_⟩
    split at h
    · rename_i lo hi st p2
      cases st with
      | some _ => cases h
      | none =>
        cases lo with
        | some l =>
          cases hi with
          | some u =>
            simp only at h
            split at h
            · rename_i x y z h1 h2 h3
              cases h
              obtain ⟨_, _, _, pa⟩ := iA sc a x h1
              obtain ⟨_, _, _, pl⟩ := iE sc l y h2
              obtain ⟨_, _, _, pu⟩ := iE sc u z h3
              exact fun X kn hs => PE.imp (pe_slice sl_Z (pa X kn hs) (po_some (pl X kn hs)) (po_some (pu X kn hs))) fun _ _ _ => op_sl2
            · cases h
          | none =>
            simp only at h
            split at h
            · rename_i x y h1 h2
              cases h
              obtain ⟨_, _, _, pa⟩ := iA sc a x h1
              obtain ⟨_, _, _, pl⟩ := iE sc l y h2
              exact fun X kn hs => PE.imp (pe_slice sl_Z (pa X kn hs) (po_some (pl X kn hs)) po_none) fun σ H Q h => op_sl1 (b := true) (c := false) (fun _ _ => rfl) (fun d e he => by cases e <;> first | rfl | exact absurd rfl (he _)) h
            · cases h
        | none =>
          cases hi with
          | some u =>
            simp only at h
            split at h
            · rename_i x y h1 h2
              cases h
              obtain ⟨_, _, _, pa⟩ := iA sc a x h1
              obtain ⟨_, _, _, pl⟩ := iE sc u y h2
              exact fun X kn hs => PE.imp (pe_slice sl_Z (pa X kn hs) po_none (po_some (pl X kn hs))) fun σ H Q h => op_sl1 (b := false) (c := true) (fun _ _ => rfl) (fun d e he => by cases e <;> first | rfl | exact absurd rfl (he _)) h
            · cases h
          | none =>
            simp only at h
            obtain ⟨x, h1, rfl⟩ := map_some h
            obtain ⟨_, _, _, pa⟩ := iA sc a x h1
            exact fun X kn hs => PE.imp (pe_slice sl_Z (pa X kn hs) po_none po_none) fun σ H Q h => op1 (p := .sl false false) (R := fun v H Q => rSlZ X.K v none none H Q) (fun e h a k => p_sl e h a k) h
    · split at h
      · rename_i x y h1 h2
        cases h
        obtain ⟨_, _, _, pa⟩ := iA sc a x h1
        obtain ⟨_, _, ns, pb⟩ := iA sc b y h2
        exact fun X kn hs => PE.imp (pe_ix (IxR.or ix_list ix_tup) (pa X kn hs) (pb X kn hs) (plain_ix ns)) fun σ H Q h => op2 (p := .ix) p_ix h
      · cases h
  case ListComp elt gens scope pos =>
    refine ⟨trivial, trivial, nosl trivial, ?_⟩
    match gens, h with
    | [], h => cases h
    | _ :: _ :: _, h => cases h
    | [⟨tg, iter, ifs, as⟩], h =>
      simp only at h
      split at h
      case isFalse => cases h
      rename_i has
      subst has
      split at h
      case h_2 => cases h
      rename_i own g src x h1 h2 h3 h4
      split at h
      case isFalse => cases h
      rename_i hb
      rw [Bool.and_eq_true] at hb
      match ifs, h with
      | [], h =>
        cases h
        exact fun X kn hs => se_comp iE iT iI h2 h3 h4 hb.1 hb.2 (.inl ⟨rfl, rfl⟩) kn hs
      | [c], h =>
        obtain ⟨y, h5, rfl⟩ := map_some h
        exact fun X kn hs => se_comp iE iT iI h2 h3 h4 hb.1 hb.2 (.inr ⟨c, y, rfl, h5, rfl⟩) kn hs
      | _ :: _ :: _, h => cases h
end
end Z
namespace Z
open PySem PySem.Spec PyProof.Rows L2
section
variable {T : Tab} {N : List Str} {k n : Nat}
theorem tP.mono {K : PySem.W.Frag} {f : Zm PV} {σ : L2.St} {H : Hp} {Q Q' : VK} (h : tP K f σ H Q) (i : ∀ v H, Q v H → Q' v H) : tP K f σ H Q' := by
  obtain ⟨M, env, e, h⟩ := h
  refine ⟨M, env, e, ?_⟩
  unfold RP at h ⊢
  cases hx : f env with
  | bad => rw [hx] at h; exact h.elim
  | ex => rw [hx] at h; exact h.elim
  | ok p env1 =>
    rw [hx] at h
    exact fun M' H' v e' s' f' => i v H' (h M' H' v e' s' f')
theorem cA_not {sc : Scope} {e : Expr} {x : IA} (hn : nameV e = none) (h : cA T N n sc e = some x) : ∃ m y, n = m + 1 ∧ cE T N m sc e = some y ∧ x = .val y := by
  cases n with
  | zero => simp [cA] at h
  | succ m =>
    simp only [cA] at h
    rw [hn] at h
    obtain ⟨y, h1, h2⟩ := map_some h
    exact ⟨m, y, rfl, h1, h2.symm⟩
/-- a comparison as a test -/
theorem st_cmp (iE : ∀ m, m ≤ n → SE T N k m) (iA : ∀ m, m ≤ n → SA T N k m) {sc : Scope} {a : Expr} {ops : List CmpOp} {bs : List Expr} {pos : Pos} {m : Nat} {y : IE} (hm : m ≤ n) (h : cE T N m sc (.Compare a ops bs pos) = some y) {X : Cx} (kn : Kn T N X k) (hs : X.env.scope = sc) :
    PT X (.Compare a ops bs pos) (tB X.K (evT (callK T.fns k) (.val (.val y)))) := by
  cases m with
  | zero => simp [cE] at h
  | succ m =>
    simp only [cE] at h
    match ops, bs, h with
    | [], _, h => cases h
    | [op], [], h => cases h
    | [op], _ :: _ :: _, h => cases h
    | [p, q], [], h => cases h
    | [p, q], [_], h => cases h
    | [p, q], _ :: _ :: _ :: _, h => cases h
    | _ :: _ :: _ :: _, _, h => cases h
    | [op], [b], h =>
      by_cases o1 : op = .Is
      · subst o1
        simp only at h
        split at h
        · rename_i hb
          obtain ⟨j, p', rfl⟩ := isNone_some hb
          obtain ⟨x, h1, rfl⟩ := map_some h
          exact (se_isn (iA m (by omega)) h1 kn hs).2
        · split at h
          · rename_i x y h2 h3
            cases h
            exact (se_cmp (iA m (by omega)) (op := .Is) rfl h2 h3 kn hs).2
          · cases h
      · by_cases o2 : op = .IsNot
        · subst o2
          simp only at h
          split at h
          · rename_i hb
            obtain ⟨j, p', rfl⟩ := isNone_some hb
            obtain ⟨x, h1, rfl⟩ := map_some h
            exact (se_notn (iA m (by omega)) h1 kn hs).2
          · split at h
            · rename_i x y h2 h3
              cases h
              exact (se_cmp (iA m (by omega)) (op := .IsNot) rfl h2 h3 kn hs).2
            · cases h
        · have h' : (match cmpP op, cA T N m sc a, cA T N m sc b with
              | some p, some x, some y => some (IE.op p [x, y])
              | _, _, _ => none) = some y := by
            cases op <;> first | exact h | exact absurd rfl o1 | exact absurd rfl o2
          split at h'
          · rename_i p x y h1 h2 h3
            cases h'
            exact (se_cmp (iA m (by omega)) h1 h2 h3 kn hs).2
          · cases h'
    | [p, q], [b, c], h =>
      simp only at h
      split at h
      · rename_i p' q' x y z h1 h2 h3 h4 h5
        cases h
        exact (se_chain (iE m (by omega)) h1 h2 h3 h4 h5 kn hs).2
      · cases h
theorem st_succ (iE : ∀ m, m ≤ n → SE T N k m) (iA : ∀ m, m ≤ n → SA T N k m) (iT : ST T N k n) : ST T N k (n + 1) := by
  intro sc e it h X kn hs
  have val : ∀ (x : IA), cA T N n sc e = some x → (∀ whole, isTrue e X.env whole = (do let v ← whole; standAt e.pos; holding [v] (PySem.truthy v))) → (∀ op vs pos, e ≠ .BoolOp op vs pos) → it = .val x →
      PT X e (tB X.K (evT (callK T.fns k) it)) ∧ (∀ op vs pos, e = .BoolOp op vs pos → PW X e (tB X.K (evT (callK T.fns k) it))) := by
    rintro x h1 h2 h3 rfl
    obtain ⟨_, _, _, pa⟩ := iA n (Nat.le_refl _) sc e x h1
    exact ⟨PT.imp (pt_truth (pa X kn hs) h2) fun σ H Q h => (t_val h).mono fun v H ⟨k, q1, _, q3⟩ => ⟨k, q1, q3⟩, fun op vs pos z => absurd z (h3 op vs pos)⟩
  have go : ∀ (hn : ∀ whole, isTrue e X.env whole = (do let v ← whole; standAt e.pos; holding [v] (PySem.truthy v))), (∀ op vs pos, e ≠ .BoolOp op vs pos) → (cA T N n sc e).map IT.val = some it →
      PT X e (tB X.K (evT (callK T.fns k) it)) ∧ (∀ op vs pos, e = .BoolOp op vs pos → PW X e (tB X.K (evT (callK T.fns k) it))) := by
    intro h2 h3 h
    obtain ⟨x, h1, h4⟩ := map_some h
    exact val x h1 h2 h3 h4.symm
  cases e <;> simp only [cT] at h <;> try (exact go (fun _ => rfl) (fun _ _ _ z => Expr.noConfusion z) h)
  case IfExp => cases h
  case UnaryOp op a pos =>
    refine ⟨?_, (fun _ _ _ z => Expr.noConfusion z)⟩
    cases op <;> simp only at h <;> try (cases h; done)
    obtain ⟨x, h1, rfl⟩ := map_some h
    exact PT.imp (pt_not (iT.pt h1 kn hs)) fun _ _ _ => t_not
  case BoolOp op vs pos =>
    have key : PW X (.BoolOp op vs pos) (tB X.K (evT (callK T.fns k) it)) := by
      cases vs with
      | nil => cases h
      | cons a vs =>
        cases vs with
        | nil =>
          have q := iT.pt (e := a) h kn hs
          cases op with
          | And => exact pw_and1 q
          | Or => exact pw_or1 q
        | cons b r =>
          simp only at h
          split at h
          · rename_i x y h1 h2
            have qa := iT.pt h1 kn hs
            have qb := (iT sc _ y h2 X kn hs).2 op (b :: r) pos rfl
            cases op with
            | And => cases h; exact PW.imp (pw_and qa qb) fun _ _ _ => t_and
            | Or => cases h; exact PW.imp (pw_or qa qb) fun _ _ _ => t_or
          · cases h
    exact ⟨key.pt, fun _ _ _ _ => key⟩
  case Compare a ops bs pos =>
    obtain ⟨x, h1, rfl⟩ := map_some h
    obtain ⟨m, y, rfl, h2, rfl⟩ := cA_not rfl h1
    exact ⟨st_cmp iE iA (by omega) h2 kn hs, (fun _ _ _ z => Expr.noConfusion z)⟩
theorem snd_all (T : Tab) (N : List Str) (k : Nat) : ∀ n, (∀ m, m ≤ n → SE T N k m) ∧ (∀ m, m ≤ n → SA T N k m) ∧ (∀ m, m ≤ n → ST T N k m) ∧ (∀ m, m ≤ n → SI T N k m) := by
  intro n
  induction n with
  | zero =>
    refine ⟨fun m hm => ?_, fun m hm => ?_, fun m hm => ?_, fun m hm => ?_⟩ <;> (obtain rfl : m = 0 := by omega)
    · intro sc e ie h; simp [cE] at h
    · intro sc e ie h; simp [cA] at h
    · intro sc e ie h; simp [cT] at h
    · intro sc tg e ie h; simp [cI] at h
  | succ n ih =>
    obtain ⟨hE, hA, hT, hI⟩ := ih
    have eE := hE n (Nat.le_refl _)
    have eA := hA n (Nat.le_refl _)
    have eT := hT n (Nat.le_refl _)
    have eI := hI n (Nat.le_refl _)
    have ext : ∀ {P : Nat → Prop}, (∀ m, m ≤ n → P m) → P (n + 1) → ∀ m, m ≤ n + 1 → P m := fun {P} h1 h2 m hm => by
      by_cases z : m = n + 1
      · subst z; exact h2
      · exact h1 m (by omega)
    exact ⟨ext hE (se_succ eE eA eT eI), ext hA (sa_succ eE), ext hT (st_succ hE hA eT), ext hI (si_succ eE eA fun sc e x h => (eA sc e x h).2.1.ne)⟩
theorem snd_E (n : Nat) : SE T N k n := (snd_all T N k n).1 n (Nat.le_refl _)
theorem snd_T (n : Nat) : ST T N k n := (snd_all T N k n).2.2.1 n (Nat.le_refl _)
theorem snd_I (n : Nat) : SI T N k n := (snd_all T N k n).2.2.2 n (Nat.le_refl _)
end
end Z
namespace Z
open PySem PySem.Spec PyProof.Rows L2
def ResF (K : PySem.W.Frag) (pin : Nat → Bool) (H : Hp) (σ : L2.St) (env : En) (M' : Mk) (H' : Hp) (d : D) (fr : Bool) (v : V) : Prop := match fr with
  | false => Rep K M' H' d v
  | true => ∃ ds a xs, d = .lst ds ∧ v = .ref a ∧ (H a = none ∨ ∃ i, pin i = false ∧ OwnAt σ env i a) ∧ M' a ∧ H' a = some (.lst xs) ∧ Reps K M' H' ds xs
def FlP (K : PySem.W.Frag) (pin : Nat → Bool) (M : Mk) (H : Hp) (σ : L2.St) (env : En) (D : Ends) : Out Fl → Prop
  | .ok .nx env' => ∀ M' H' σ', EnvOk K M' H' σ' env' → Stp pin M H σ env M' H' σ' env' → D.nx σ' H'
  | .ok .bk env' => ∀ M' H' σ', EnvOk K M' H' σ' env' → Stp pin M H σ env M' H' σ' env' → D.bk σ' H'
  | .ok .ct env' => ∀ M' H' σ', EnvOk K M' H' σ' env' → Stp pin M H σ env M' H' σ' env' → D.ct σ' H'
  | .ok (.rt d fr) env' => ∀ M' H' σ' v, EnvOk K M' H' σ' env' → Stp pin M H σ env M' H' σ' env' → ResF K pin H σ env M' H' d fr v → D.rt v H'
  | _ => False
def tS (K : PySem.W.Frag) (pin : Nat → Bool) (f : Zm Fl) : TS := fun D σ H => ∃ M env, EnvOk K M H σ env ∧ FlP K pin M H σ env D (f env)
section
variable {K : PySem.W.Frag} {C : Cl} {pin : Nat → Bool} {M M' M1 M2 : Mk} {H H' H1 H2 : Hp} {σ σ' σ1 σ2 : L2.St} {env env' env1 env2 : En} {D : Ends}
theorem Res.toF {d : Z.D} {fr : Bool} {v : V} (r : Res K M' H' σ' env' H d fr v) : ResF K pin H σ env M' H' d fr v := by
  cases fr with
  | false => exact r
  | true =>
    obtain ⟨ds, a, xs, h1, h2, h3, h4, h5, h6, _⟩ := r
    exact ⟨ds, a, xs, h1, h2, .inl h3, h4, h5, h6⟩
theorem none_back (s : Stp pin M H σ env M1 H1 σ1 env1) {a : Addr} (h : H1 a = none) : H a = none := by
  cases q : H a with
  | none => rfl
  | some o => exact absurd h (s.dom a (by rw [q]; simp))
theorem FlP.back (e : EnvOk K M H σ env) (s : Stp pin M H σ env M1 H1 σ1 env1) {o : Out Fl} (h : FlP K pin M H σ env D o) : FlP K pin M1 H1 σ1 env1 D o := by
  cases o with
  | bad => exact h
  | ex => exact h
  | ok fl env' =>
    cases fl with
    | nx => exact fun M' H' σ' e' s' => h M' H' σ' e' (s.trans e.mok s')
    | bk => exact fun M' H' σ' e' s' => h M' H' σ' e' (s.trans e.mok s')
    | ct => exact fun M' H' σ' e' s' => h M' H' σ' e' (s.trans e.mok s')
    | rt d fr =>
      refine fun M' H' σ' v e' s' r => h M' H' σ' v e' (s.trans e.mok s') ?_
      cases fr with
      | false => exact r
      | true =>
        obtain ⟨ds, a, xs, h1, h2, h3, hr⟩ := r
        refine ⟨ds, a, xs, h1, h2, ?_, hr⟩
        rcases h3 with h3 | ⟨i, p, h3⟩
        · exact .inl (none_back s h3)
        · rcases s.wr i a h3 with w | w
          · exact .inr ⟨i, p, w⟩
          · exact .inl w
theorem s_nil (h : tS K pin (evSs C pin []) D σ H) : tNext D σ H := by
  obtain ⟨M, env, e, h⟩ := h
  simp only [evSs] at h
  exact h M H σ e .refl
theorem s_cons {s : IS} {ss : List IS} (h : tS K pin (evSs C pin (s :: ss)) D σ H) : tSeq (tS K pin (evS C pin s)) (tS K pin (evSs C pin ss)) D σ H := by
  obtain ⟨M, env, e, h⟩ := h
  refine ⟨M, env, e, ?_⟩
  simp only [evSs] at h
  cases hx : evS C pin s env with
  | bad => rw [hx] at h; exact h.elim
  | ex => rw [hx] at h; exact h.elim
  | ok fl env1 =>
    rw [hx] at h
    simp only [Out.bind_ok] at h
    cases fl with
    | nx => exact fun M' H' σ' e' s' => ⟨M', env1, e', h.back e s'⟩
    | bk => exact h
    | ct => exact h
    | rt d fr => exact h
theorem s_set {i : Nat} {x : IE} (h : tS K pin (evS C pin (.set i x)) D σ H) : tAsg (tZ K (evE C x)) (gName i) D σ H := by
  obtain ⟨M, env, e, h⟩ := h
  refine ⟨M, env, e, ?_⟩
  unfold RZ
  simp only [evS] at h
  cases hx : evE C x env with
  | bad => rw [hx] at h; exact h.elim
  | ex => rw [hx] at h; exact h.elim
  | ok z env1 =>
    rw [hx] at h
    simp only [Out.bind_ok] at h
    intro M1 H1 v e1 s1 r1
    cases hy : setS pin i z.1 z.2 env1 with
    | bad => rw [hy] at h; exact h.elim
    | ex => rw [hy] at h; exact h.elim
    | ok u env2 =>
      rw [hy] at h
      obtain ⟨e2, s2⟩ := setS_ok (s1.weak (pin' := pin) fun _ _ => rfl) e1 r1 hy
      exact h M1 H1 _ e2 s2
theorem s_unp {l : List Nat} {x : IE} (h : tS K pin (evS C pin (.unp l x)) D σ H) : tAsg (tZ K (evE C x)) (tGt K pin (.tp l)) D σ H := by
  obtain ⟨M, env, e, h⟩ := h
  refine ⟨M, env, e, ?_⟩
  unfold RZ
  simp only [evS] at h
  cases hx : evE C x env with
  | bad => rw [hx] at h; exact h.elim
  | ex => rw [hx] at h; exact h.elim
  | ok z env1 =>
    rw [hx] at h
    simp only [Out.bind_ok] at h
    intro M1 H1 v e1 s1 r1
    obtain ⟨M2, e2, s2, r2⟩ := r1.freeze e e1 s1
    refine ⟨M, H, σ, env, M2, env1, z.1, e2, s2.weak fun _ _ => rfl, r2, ?_⟩
    cases hy : setG pin (.tp l) z.1 env1 with
    | bad => rw [hy] at h; exact h.elim
    | ex => rw [hy] at h; exact h.elim
    | ok u env2 =>
      rw [hy] at h
      exact fun σ' e' s' => h M2 H1 σ' e' s'
theorem s_par {l : List Nat} {xs : List IE} (h : tS K pin (evS C pin (.par l xs)) D σ H) : tDs K (evEs C xs) σ H fun vs H1 => l.length = vs.length ∧ D.nx (setAllσ σ l vs) H1 := by
  obtain ⟨M, env, e, h⟩ := h
  refine ⟨M, env, e, ?_⟩
  simp only [evS] at h
  cases hx : evEs C xs env with
  | bad => rw [hx] at h; exact h.elim
  | ex => rw [hx] at h; exact h.elim
  | ok ds env1 =>
    rw [hx] at h
    simp only [Out.bind_ok] at h
    intro M1 H1 vs e1 s1 r1
    cases hy : setAll pin l ds env1 with
    | bad => rw [hy] at h; exact h.elim
    | ex => rw [hy] at h; exact h.elim
    | ok u env2 =>
      rw [hy] at h
      obtain ⟨e2, s2, l2⟩ := setAll_ok (s1.weak (pin' := pin) fun _ _ => rfl) e1 r1 hy
      exact ⟨l2.trans r1.length, h M1 H1 _ e2 s2⟩
/-- an owned list is written -/
theorem own_write {i : Nat} {ds ds' : List Z.D} {a : Addr} {xs : List V} (e : EnvOk K M H σ env) (h : env[i]? = some (some (.lst ds, .own))) (hs : σ[i]? = some (some (.ref a))) (r : Reps K M H ds' xs) :
    EnvOk K M (upd H a (.lst xs)) σ (env.set i (some (.lst ds', .own))) ∧ Stp pin M H σ env M (upd H a (.lst xs)) σ (env.set i (some (.lst ds', .own))) := by
  have hO : OwnAt σ env i a := ⟨_, h, hs⟩
  have hm := e.held_m hO.held
  have hl := lt_of_get h
  have kp : Keeps M H M (upd H a (.lst xs)) := ⟨fun b o q n => by rw [upd_ne (fun z => by subst z; exact n hm)]; exact q, fun _ _ z => z⟩
  have ownS : ∀ {j b}, OwnAt σ (env.set i (some (.lst ds', .own))) j b → OwnAt σ env j b := by
    rintro j b ⟨d, g1, g2⟩
    rcases set_get g1 with ⟨rfl, _, _⟩ | ⟨n, g1⟩
    · rw [hs] at g2; cases g2; exact hO
    · exact ⟨d, g1, g2⟩
  have heldS : ∀ {j b}, Held σ (env.set i (some (.lst ds', .own))) j b → Held σ env j b := by
    rintro j b ⟨d, m, hm, g1, g2⟩
    rcases set_get g1 with ⟨rfl, _, _⟩ | ⟨n, g1⟩
    · rw [hs] at g2; cases g2; exact hO.held
    · exact ⟨d, m, hm, g1, g2⟩
  refine ⟨⟨by rw [List.length_set]; exact e.len, fun j d m g => ?_, fun j l b n g1 g2 => e.apart j l b n (ownS g1) (heldS g2), fun b hb => ?_⟩, ⟨fun b o g n => ?_, fun b n => ?_, fun _ _ z => z, fun _ z _ => z, fun j b w => .inl (ownS w), fun j => ⟨?_, ?_⟩, fun _ _ => rfl, fun _ _ => rfl, fun j _ g => ?_⟩⟩
  · rcases set_get g with ⟨rfl, z, _⟩ | ⟨n, g⟩
    · cases z
      exact ⟨_, hs, ds', a, xs, rfl, rfl, hm, upd_same, r.keeps e.mok kp⟩
    · obtain ⟨v, h1, h2⟩ := e.slot j d m g
      refine ⟨v, h1, h2.keeps e.mok kp fun hm' b eb => ⟨e.held_m ⟨d, m, hm', g, by rw [h1, eb]⟩, fun o q => ?_⟩⟩
      rw [upd_ne]
      · exact q
      · intro z
        subst eb
        subst z
        exact e.apart i j b n hO ⟨d, m, hm', g, h1⟩
  · by_cases z : b = a
    · subst z; exact ⟨xs, upd_same⟩
    · obtain ⟨ys, q⟩ := e.mok b hb
      exact ⟨ys, by rw [upd_ne z]; exact q⟩
  · rw [upd_ne (fun z => by subst z; exact n ⟨i, hO⟩)]
    exact g
  · unfold upd
    split
    · simp
    · exact n
  · rintro ⟨d, g⟩
    rcases set_get g with ⟨rfl, z, _⟩ | ⟨n, g⟩
    · cases z
    · exact ⟨d, g⟩
  · rintro ⟨d, g⟩
    refine ⟨d, ?_⟩
    rw [List.getElem?_set_ne (fun z => by subst z; rw [h] at g; cases g)]
    exact g
  · obtain ⟨t, g⟩ := g
    by_cases z : i = j
    · subst z; exact ⟨_, List.getElem?_set_self hl⟩
    · exact ⟨t, by rw [List.getElem?_set_ne z]; exact g⟩
theorem s_setix {i : Nat} {k x : IE} (h : tS K pin (evS C pin (.setix i k x)) D σ H) : tAsg (tZ K (evE C x)) (gSub (tVar i) (tZ K (evE C k)) rSetL) D σ H := by
  obtain ⟨M, env, e, h⟩ := h
  refine ⟨M, env, e, ?_⟩
  unfold RZ
  simp only [evS] at h
  cases hx : evE C x env with
  | bad => rw [hx] at h; exact h.elim
  | ex => rw [hx] at h; exact h.elim
  | ok z env1 =>
    rw [hx] at h
    simp only [Out.bind_ok] at h
    intro M1 H1 v e1 s1 r1
    obtain ⟨M2, e2, s2, r2⟩ := r1.freeze e e1 s1
    cases hp : peek i env1 with
    | bad => rw [hp] at h; exact h.elim
    | ex => rw [hp] at h; exact h.elim
    | ok p env1' =>
      rw [hp] at h
      simp only [Out.bind_ok] at h
      unfold peek at hp
      split at hp
      case h_2 => cases hp
      rename_i t hi1
      cases hp
      obtain ⟨d1, m1⟩ := t
      obtain ⟨w, hσ, _⟩ := e2.slot i d1 m1 hi1
      refine ⟨w, hσ, M2, env1, e2, ?_⟩
      unfold RZ
      cases hy : evE C k env1 with
      | bad => rw [hy] at h; exact h.elim
      | ex => rw [hy] at h; exact h.elim
      | ok y env2 =>
        rw [hy] at h
        simp only [Out.bind_ok] at h
        intro M3 H3 v3 e3 s3 r3
        obtain ⟨M4, e4, s4, r4⟩ := r3.freeze e2 e3 s3
        split at h
        case h_2 => exact h.elim
        rename_i ds hi2
        obtain ⟨yd, yf⟩ := y
        cases yd with
        | int j =>
          simp only at h
          cases hj : ixN ds.length j with
          | none => rw [hj] at h; exact h.elim
          | some n =>
            rw [hj] at h
            simp only at h
            obtain ⟨w2, k1, ds', a, xs, k2, rfl, k3, k4, k5⟩ := e4.slot i _ .own hi2
            cases k2
            rw [hσ] at k1
            cases k1
            have s24 := s2.trans e.mok s4
            have rr := (Reps.set (r2.keeps e2.mok (s4.keeps e2)) n k5)
            obtain ⟨e5, s5⟩ := own_write (pin := pin) e4 hi2 hσ rr
            exact ⟨a, xs, j, n, rfl, (AnyR.of r4).int, k4, by rw [← k5.length]; exact hj, h M4 _ σ e5 ((s24.weak fun _ _ => rfl).trans e.mok s5)⟩
        | _ => exact h.elim
theorem g_sub {i : Nat} {k : IE} {d : Z.D} {v : V} {Q : L2.St → Hp → Prop} (e : EnvOk K M H σ env) (r : Rep K M H d v) {env2 : En} (h : wrI C i k d env = .ok () env2) (q : ∀ M' H', EnvOk K M' H' σ env2 → Stp pin M H σ env M' H' σ env2 → Q σ H') :
    gSub (tVar i) (tZ K (evE C k)) rSetL v σ H Q := by
  unfold wrI at h
  cases hp : peek i env with
  | bad => rw [hp] at h; cases h
  | ex => rw [hp] at h; cases h
  | ok p env1' =>
    rw [hp] at h
    simp only [Out.bind_ok] at h
    unfold peek at hp
    split at hp
    case h_2 => cases hp
    rename_i t hi1
    cases hp
    obtain ⟨d1, m1⟩ := t
    obtain ⟨w, hσ, _⟩ := e.slot i d1 m1 hi1
    refine ⟨w, hσ, M, env, e, ?_⟩
    unfold RZ
    cases hy : evE C k env with
    | bad => rw [hy] at h; cases h
    | ex => rw [hy] at h; cases h
    | ok y env1 =>
      rw [hy] at h
      simp only [Out.bind_ok] at h
      intro M3 H3 v3 e3 s3 r3
      obtain ⟨M4, e4, s4, r4⟩ := r3.freeze e e3 s3
      split at h
      case h_2 => cases h
      rename_i ds hi2
      obtain ⟨yd, yf⟩ := y
      cases yd with
      | int j =>
        simp only at h
        cases hj : ixN ds.length j with
        | none => rw [hj] at h; cases h
        | some n =>
          rw [hj] at h
          cases h
          obtain ⟨w2, k1, ds', a, xs, k2, rfl, k3, k4, k5⟩ := e4.slot i _ .own hi2
          cases k2
          rw [hσ] at k1
          cases k1
          have rr := (Reps.set (r.keeps e.mok (s4.keeps e)) n k5)
          obtain ⟨e5, s5⟩ := own_write (pin := pin) e4 hi2 hσ rr
          exact ⟨a, xs, j, n, rfl, (AnyR.of r4).int, k4, by rw [← k5.length]; exact hj, q M4 _ e5 ((s4.weak fun _ _ => rfl).trans e.mok s5)⟩
      | _ => cases h
theorem s_parix {i : Nat} {k l x : IE} (h : tS K pin (evS C pin (.parix i k l x)) D σ H) :
    tAsg (tZ K (evE C x)) (gTup K 2 (gCons (gSub (tVar i) (tZ K (evE C k)) rSetL) (gCons (gSub (tVar i) (tZ K (evE C l)) rSetL) gNil))) D σ H := by
  obtain ⟨M, env, e, h⟩ := h
  refine ⟨M, env, e, ?_⟩
  unfold RZ
  simp only [evS] at h
  cases hx : evE C x env with
  | bad => rw [hx] at h; exact h.elim
  | ex => rw [hx] at h; exact h.elim
  | ok z env1 =>
    rw [hx] at h
    simp only [Out.bind_ok] at h
    intro M1 H1 v e1 s1 r1
    obtain ⟨M2, e2, s2, r2⟩ := r1.freeze e e1 s1
    split at h
    case h_2 => exact h.elim
    rename_i a b hz
    rw [hz] at r2
    obtain ⟨p, us, rfl, sq, rs⟩ := (AnyR.of r2).tup
    cases rs with
    | cons ra rs =>
      cases rs with
      | cons rb rs =>
        cases rs
        cases h1 : wrI C i k a env1 with
        | bad => rw [h1] at h; exact h.elim
        | ex => rw [h1] at h; exact h.elim
        | ok u1 env3 =>
          rw [h1] at h
          simp only [Out.bind_ok] at h
          cases h2 : wrI C i l b env3 with
          | bad => rw [h2] at h; exact h.elim
          | ex => rw [h2] at h; exact h.elim
          | ok u2 env4 =>
            rw [h2] at h
            refine ⟨p, _, rfl, sq, rfl, _, _, rfl, g_sub (pin := pin) e2 ra h1 fun M5 H5 e5 s5 => ?_⟩
            refine ⟨_, _, rfl, g_sub (pin := pin) e5 (rb.keeps e2.mok (s5.keeps e2)) h2 fun M6 H6 e6 s6 => ⟨rfl, ?_⟩⟩
            exact h M6 H6 σ e6 (((s2.weak fun _ _ => rfl).trans e.mok s5).trans e.mok s6)
theorem s_unpl {l : List Nat} {x : IE} (h : tS K pin (evS C pin (.unpl l x)) D σ H) : tAsg (tZ K (evE C x)) (gUnl K l.length (gNms l)) D σ H := by
  obtain ⟨M, env, e, h⟩ := h
  refine ⟨M, env, e, ?_⟩
  unfold RZ
  simp only [evS] at h
  cases hx : evE C x env with
  | bad => rw [hx] at h; exact h.elim
  | ex => rw [hx] at h; exact h.elim
  | ok z env1 =>
    rw [hx] at h
    simp only [Out.bind_ok] at h
    intro M1 H1 v e1 s1 r1
    obtain ⟨M2, e2, s2, r2⟩ := r1.freeze e e1 s1
    split at h
    case h_2 => exact h.elim
    rename_i ds hz
    rw [hz] at r2
    obtain ⟨a, xs, rfl, q1, rs⟩ := (AnyR.of r2).lst
    cases hy : setAll pin l ds env1 with
    | bad => rw [hy] at h; exact h.elim
    | ex => rw [hy] at h; exact h.elim
    | ok u env2 =>
      rw [hy] at h
      obtain ⟨e3, s3, l3⟩ := setAll_ok (s2.weak (pin' := pin) fun _ _ => rfl) e2 rs hy
      have l2 := rs.length
      exact ⟨a, xs, rfl, .inl (.inl q1), by omega, gNms_ok (by omega) (h M2 H1 _ e3 s3)⟩
theorem s_app {i : Nat} {x : IE} (h : tS K pin (evS C pin (.app i x)) D σ H) : tDrop (tBM K "list" rAppend (tVar i) (tCons (tZ K (evE C x)) tNil)) D σ H := by
  obtain ⟨M, env, e, h⟩ := h
  simp only [evS] at h
  split at h
  case h_2 => exact h.elim
  rename_i ds0 m0 hi0
  obtain ⟨w, hσ, hw⟩ := e.slot i _ m0 hi0
  obtain ⟨a0, xs0, rfl, q1, q2⟩ := AnyR.lst ⟨m0, hw⟩
  refine ⟨_, hσ, .inl ⟨rfl, xs0, .inl (.inl q1)⟩, M, env, e, ?_⟩
  unfold RZ
  cases hx : evE C x env with
  | bad => rw [hx] at h; exact h.elim
  | ex => rw [hx] at h; exact h.elim
  | ok z env1 =>
    rw [hx] at h
    simp only [Out.bind_ok] at h
    intro M1 H1 v e1 s1 r1
    obtain ⟨M2, e2, s2, r2⟩ := r1.freeze e e1 s1
    split at h
    case h_2 => exact h.elim
    rename_i ds hi2
    split at h
    case isFalse => exact h.elim
    rename_i hsz
    obtain ⟨w2, k1, ds', a, xs, k2, rfl, k3, k4, k5⟩ := e2.slot i _ .own hi2
    cases k2
    rw [hσ] at k1
    cases k1
    obtain ⟨e5, s5⟩ := own_write (pin := pin) e2 hi2 hσ (k5.append (.cons r2 .nil))
    exact ⟨_, xs, v, rfl, rfl, k4, by rw [← k5.length]; exact hsz, h M2 _ σ e5 ((s2.weak fun _ _ => rfl).trans e.mok s5)⟩
def rIns : V → List V → Hp → VK → Prop := fun x vs H Q => ∃ (l : Addr) (xs : List V) (i : Int) (y : V), x = .ref l ∧ vs = [.int i, y] ∧ H l = some (.lst xs) ∧ xs.length < sizeLine ∧ 0 ≤ i ∧ i < 2 ^ 63 ∧
    Q .non (upd H l (.lst (xs.take i.toNat ++ [y] ++ xs.drop i.toNat)))
theorem mt_ins {X : Cx} : MtR X "list.insert" rIns := mt_insert
theorem s_ins {i : Nat} {kx x : IE} (h : tS K pin (evS C pin (.ins i kx x)) D σ H) : tDrop (tBM K "list" rIns (tVar i) (tCons (tZ K (evE C kx)) (tCons (tZ K (evE C x)) tNil))) D σ H := by
  obtain ⟨M, env, e, h⟩ := h
  simp only [evS] at h
  split at h
  case h_2 => exact h.elim
  rename_i ds0 m0 hi0
  obtain ⟨w, hσ, hw⟩ := e.slot i _ m0 hi0
  obtain ⟨a0, xs0, rfl, q1, q2⟩ := AnyR.lst ⟨m0, hw⟩
  refine ⟨_, hσ, .inl ⟨rfl, xs0, .inl (.inl q1)⟩, M, env, e, ?_⟩
  unfold RZ
  cases hx : evE C kx env with
  | bad => rw [hx] at h; exact h.elim
  | ex => rw [hx] at h; exact h.elim
  | ok z env1 =>
    rw [hx] at h
    simp only [Out.bind_ok] at h
    intro M1 H1 v e1 s1 r1
    obtain ⟨M2, e2, s2, r2⟩ := r1.freeze e e1 s1
    refine ⟨M2, env1, e2, ?_⟩
    unfold RZ
    cases hy : evE C x env1 with
    | bad => rw [hy] at h; exact h.elim
    | ex => rw [hy] at h; exact h.elim
    | ok y env2 =>
      rw [hy] at h
      simp only [Out.bind_ok] at h
      intro M3 H3 v3 e3 s3 r3
      obtain ⟨M4, e4, s4, r4⟩ := r3.freeze e2 e3 s3
      split at h
      case h_2 => exact h.elim
      rename_i ds hi2
      obtain ⟨zd, zf⟩ := z
      cases zd with
      | int j =>
        simp only at h
        split at h
        case isFalse => exact h.elim
        rename_i hsz
        obtain ⟨w2, k1, ds', a, xs, k2, rfl, k3, k4, k5⟩ := e4.slot i _ .own hi2
        cases k2
        rw [hσ] at k1
        cases k1
        have s24 := s2.trans e.mok s4
        obtain ⟨e5, s5⟩ := own_write (pin := pin) e4 hi2 hσ (((k5.take j.toNat).append (.cons r4 .nil)).append (k5.drop j.toNat))
        have hj := (AnyR.of r2).int
        exact ⟨_, xs, j, v3, rfl, by rw [hj], k4, by rw [← k5.length]; exact hsz.2.2, hsz.1, hsz.2.1, h M4 _ σ e5 ((s24.weak fun _ _ => rfl).trans e.mok s5)⟩
      | _ => exact h.elim
theorem toPs_get : ∀ {ds : List Z.D} {j : Nat}, (toPs ds)[j]? = (ds[j]?).map toP
  | [], j => by simp [toPs]
  | d :: ds, 0 => by simp [toPs]
  | d :: ds, j + 1 => by simp [toPs, toPs_get (ds := ds) (j := j)]
theorem Reps.eraseIdx {M : Mk} {H : Hp} : ∀ {ds : List Z.D} {vs : List V} (j : Nat), Reps K M H ds vs → Reps K M H (ds.eraseIdx j) (vs.eraseIdx j)
  | _, _, j, .nil => by simpa using Reps.nil
  | _, _, 0, .cons r t => t
  | _, _, j + 1, .cons r t => .cons r (Reps.eraseIdx j t)
theorem s_rem {i : Nat} {x : IE} (h : tS K pin (evS C pin (.rem i x)) D σ H) : tDrop (tBM K "list" (rRemD K) (tVar i) (tCons (tZ K (evE C x)) tNil)) D σ H := by
  obtain ⟨M, env, e, h⟩ := h
  simp only [evS] at h
  split at h
  case h_2 => exact h.elim
  rename_i ds0 m0 hi0
  obtain ⟨w, hσ, hw⟩ := e.slot i _ m0 hi0
  obtain ⟨a0, xs0, rfl, q1, q2⟩ := AnyR.lst ⟨m0, hw⟩
  refine ⟨_, hσ, .inl ⟨rfl, xs0, .inl (.inl q1)⟩, M, env, e, ?_⟩
  unfold RZ
  cases hx : evE C x env with
  | bad => rw [hx] at h; exact h.elim
  | ex => rw [hx] at h; exact h.elim
  | ok z env1 =>
    rw [hx] at h
    simp only [Out.bind_ok] at h
    intro M1 H1 v e1 s1 r1
    obtain ⟨M2, e2, s2, r2⟩ := r1.freeze e e1 s1
    split at h
    case h_2 => exact h.elim
    rename_i ds hi2
    split at h
    case isFalse => exact h.elim
    rename_i hok
    rw [Bool.and_eq_true] at hok
    split at h
    case h_2 => exact h.elim
    rename_i j hj
    obtain ⟨w2, k1, ds', a, xs, k2, rfl, k3, k4, k5⟩ := e2.slot i _ .own hi2
    cases k2
    rw [hσ] at k1
    cases k1
    obtain ⟨j1, j2, j3⟩ := List.findIdx?_eq_some_iff_getElem.mp hj
    obtain ⟨e5, s5⟩ := own_write (pin := pin) e2 hi2 hσ (k5.eraseIdx j)
    have cl : PyData.canLayAll0 (toPs ds) = true := by simpa [toP, PyData.canLay0] using Z.D.ok_can hok.2
    refine ⟨_, v, toP z.1, toPs ds, xs, j, toP ds[j], rfl, rfl, k4, Reps.dp k5 cl, (AnyR.of r2).dp hok.1, hok.2, hok.1, ?_, j2, ?_, h M2 _ σ e5 ((s2.weak fun _ _ => rfl).trans e.mok s5)⟩
    · rw [toPs_get, List.getElem?_eq_getElem j1]
      rfl
    · intro m z' hm hz'
      rw [toPs_get, List.getElem?_eq_getElem (by omega)] at hz'
      cases hz'
      simpa [Z.D.eqv] using j3 m hm
theorem s_no (h : tS K pin (evS C pin .no) D σ H) : False := by
  obtain ⟨M, env, e, h⟩ := h
  simp only [evS] at h
  exact h
theorem s_ext {i : Nat} {x : IE} (h : tS K pin (evS C pin (.ext i x)) D σ H) : tDrop (tBM K "list" rExtend (tVar i) (tCons (tZ K (evE C x)) tNil)) D σ H := by
  obtain ⟨M, env, e, h⟩ := h
  simp only [evS] at h
  split at h
  case h_2 => exact h.elim
  rename_i ds0 m0 hi0
  obtain ⟨w, hσ, hw⟩ := e.slot i _ m0 hi0
  obtain ⟨a0, xs0, rfl, q1, q2⟩ := AnyR.lst ⟨m0, hw⟩
  refine ⟨_, hσ, .inl ⟨rfl, xs0, .inl (.inl q1)⟩, M, env, e, ?_⟩
  unfold RZ
  cases hx : evE C x env with
  | bad => rw [hx] at h; exact h.elim
  | ex => rw [hx] at h; exact h.elim
  | ok z env1 =>
    rw [hx] at h
    simp only [Out.bind_ok] at h
    intro M1 H1 v e1 s1 r1
    obtain ⟨M2, e2, s2, r2⟩ := r1.freeze e e1 s1
    split at h
    case h_2 => exact h.elim
    rename_i zs hz1
    rw [hz1] at r2
    split at h
    case h_2 => exact h.elim
    rename_i ds hi2
    split at h
    case isFalse => exact h.elim
    rename_i hsz
    obtain ⟨w2, k1, ds', a, xs, k2, rfl, k3, k4, k5⟩ := e2.slot i _ .own hi2
    cases k2
    rw [hσ] at k1
    cases k1
    obtain ⟨b, ys, rfl, l1, l2⟩ := (AnyR.of r2).lst
    obtain ⟨e5, s5⟩ := own_write (pin := pin) e2 hi2 hσ (k5.append l2)
    exact ⟨_, b, xs, ys, rfl, rfl, k4, l1, by rw [← k5.length, ← l2.length]; exact hsz, h M2 _ σ e5 ((s2.weak fun _ _ => rfl).trans e.mok s5)⟩
theorem Reps.rev {M : Mk} {H : Hp} : ∀ {ds : List Z.D} {vs : List V}, Reps K M H ds vs → Reps K M H ds.reverse vs.reverse
  | _, _, .nil => .nil
  | _, _, .cons r t => by
    rw [List.reverse_cons, List.reverse_cons]
    exact (Reps.rev t).append (.cons r .nil)
theorem s_rev {i : Nat} (h : tS K pin (evS C pin (.rev i)) D σ H) : tDrop (tBM0 K "list" rReverse (tVar i)) D σ H := by
  obtain ⟨M, env, e, h⟩ := h
  simp only [evS] at h
  split at h
  case h_2 => exact h.elim
  rename_i ds hi
  obtain ⟨w, hσ, hw⟩ := e.slot i _ .own hi
  obtain ⟨a0, xs0, rfl, q1, q2⟩ := AnyR.lst ⟨.own, hw⟩
  obtain ⟨w2, k1, ds', a, xs, k2, k2', k3, k4, k5⟩ := e.slot i _ .own hi
  cases k2
  rw [hσ] at k1
  cases k1
  cases k2'
  obtain ⟨e5, s5⟩ := own_write (pin := pin) e hi hσ k5.rev
  exact ⟨_, hσ, .inl ⟨rfl, xs0, .inl (.inl q1)⟩, a0, xs, rfl, rfl, k4, h M _ σ e5 s5⟩
theorem s_ife {c : IT} {a b : List IS} (h : tS K pin (evS C pin (.ife c a b)) D σ H) : tIfS (tB K (evT C c)) (tS K pin (evSs C pin a)) (tS K pin (evSs C pin b)) D σ H := by
  obtain ⟨M, env, e, h⟩ := h
  refine ⟨M, env, e, ?_⟩
  simp only [evS] at h
  cases hx : evT C c env with
  | bad => rw [hx] at h; exact h.elim
  | ex => rw [hx] at h; exact h.elim
  | ok z env1 =>
    rw [hx] at h
    simp only [Out.bind_ok] at h
    intro M1 H1 e1 s1
    cases z with
    | true =>
      rw [if_pos rfl] at h ⊢
      exact ⟨M1, env1, e1, h.back e (s1.weak fun _ _ => rfl)⟩
    | false =>
      rw [if_neg Bool.false_ne_true] at h ⊢
      exact ⟨M1, env1, e1, h.back e (s1.weak fun _ _ => rfl)⟩
theorem s_ret {x : IE} (h : tS K pin (evS C pin (.ret x)) D σ H) : tRet (tZ K (evE C x)) D σ H := by
  obtain ⟨M, env, e, h⟩ := h
  refine ⟨M, env, e, ?_⟩
  unfold RZ
  simp only [evS] at h
  cases hx : evE C x env with
  | bad => rw [hx] at h; exact h.elim
  | ex => rw [hx] at h; exact h.elim
  | ok z env1 =>
    rw [hx] at h
    exact fun M1 H1 v e1 s1 r1 => h M1 H1 σ v e1 (s1.weak fun _ _ => rfl) r1.toF
theorem s_retv {i : Nat} (h : tS K pin (evS C pin (.retv i)) D σ H) : tRet (tVar i) D σ H := by
  obtain ⟨M, env, e, h⟩ := h
  simp only [evS] at h
  split at h
  · rename_i d hi
    split at h
    · cases hx : getV i env with
      | bad => rw [hx] at h; exact h.elim
      | ex => rw [hx] at h; exact h.elim
      | ok z env1 =>
        rw [hx] at h
        obtain ⟨d', fr⟩ := z
        obtain ⟨v, h1, rfl, M', h2, h3, h4⟩ := getV_ok e hx
        exact ⟨v, h1, h M' H σ v h2 (h3.weak fun _ _ => rfl) h4⟩
    · rename_i hp
      have hp : pin i = false := by simpa using hp
      obtain ⟨v, h1, ds, a, xs, rfl, rfl, h2, h3, h4⟩ := e.slot i d .own hi
      have hO : OwnAt σ env i a := ⟨_, hi, h1⟩
      have gt : ∀ {j : Nat} {t : Z.D × Mo}, (env.set i none)[j]? = some (some t) → j ≠ i ∧ env[j]? = some (some t) := fun {j t} g => by
        rcases set_get g with ⟨_, z, _⟩ | ⟨n, g⟩
        · cases z
        · exact ⟨Ne.symm n, g⟩
      refine ⟨.ref a, h1, h M H σ (.ref a) ⟨by rw [List.length_set]; exact e.len, fun j d m g => e.slot j d m (gt g).2, fun j l b n ⟨d1, g1, g2⟩ ⟨d2, m2, g3, g4, g5⟩ => e.apart j l b n ⟨d1, (gt g1).2, g2⟩ ⟨d2, m2, g3, (gt g4).2, g5⟩, e.mok⟩
        ⟨fun _ _ g _ => g, fun _ g => g, fun _ _ g => g, fun _ g _ => g, fun j b ⟨d1, g1, g2⟩ => .inl ⟨d1, (gt g1).2, g2⟩, fun j => ⟨fun ⟨d1, g⟩ => ⟨d1, (gt g).2⟩, fun ⟨d1, g⟩ => ⟨d1, ?_⟩⟩, fun _ _ => rfl, fun _ _ => rfl, fun j p g => ?_⟩
        ⟨ds, a, xs, rfl, rfl, .inr ⟨i, hp, hO⟩, h2, h3, h4⟩⟩
      · rw [List.getElem?_set_ne (fun z => by subst z; rw [hi] at g; cases g)]
        exact g
      · rw [List.getElem?_set_ne (fun z => by subst z; rw [hp] at p; cases p)]
        exact g
  · rename_i d hi
    obtain ⟨v, h1, h2⟩ := e.slot i d .frz hi
    exact ⟨v, h1, h M H σ v e .refl h2⟩
  · exact h.elim
theorem s_retn (h : tS K pin (evS C pin .retn) D σ H) : tRetN D σ H := by
  obtain ⟨M, env, e, h⟩ := h
  simp only [evS] at h
  exact h M H σ .non e .refl .non
theorem s_brk (h : tS K pin (evS C pin .brk) D σ H) : tBreak D σ H := by
  obtain ⟨M, env, e, h⟩ := h
  simp only [evS] at h
  exact h M H σ e .refl
theorem s_cont (h : tS K pin (evS C pin .cont) D σ H) : tCont D σ H := by
  obtain ⟨M, env, e, h⟩ := h
  simp only [evS] at h
  exact h M H σ e .refl
theorem s_pass (h : tS K pin (evS C pin .pass) D σ H) : tNext D σ H := by
  obtain ⟨M, env, e, h⟩ := h
  simp only [evS] at h
  exact h M H σ e .refl
theorem s_while {c : IT} {body : List IS} (h : tS K pin (evS C pin (.whil c body)) D σ H) : tWhile (tB K (evT C c)) (tS K pin (evSs C pin body)) D σ H := by
  obtain ⟨M, env, e, h⟩ := h
  simp only [evS] at h
  generalize ho : loopWhile (evT C c) (evSs C pin body) WF env = o at h
  refine ⟨fun m σc Hc => ∃ M2 env2, EnvOk K M2 Hc σc env2 ∧ Stp pin M H σ env M2 Hc σc env2 ∧ loopWhile (evT C c) (evSs C pin body) m env2 = o, ⟨WF, M, env, e, .refl, ho⟩, ?_⟩
  rintro m σc Hc ⟨M2, env2, e2, s2, hl⟩
  cases m with
  | zero =>
    simp only [loopWhile] at hl
    rw [← hl] at h
    exact h.elim
  | succ m =>
    simp only [loopWhile] at hl
    refine ⟨M2, env2, e2, ?_⟩
    cases hx : evT C c env2 with
    | bad => rw [hx] at hl; rw [← hl] at h; exact h.elim
    | ex => rw [hx] at hl; rw [← hl] at h; exact h.elim
    | ok b env3 =>
      rw [hx] at hl
      simp only [Out.bind_ok] at hl
      intro M3 H3 e3 s3
      have s23 := s2.trans e.mok (s3.weak (pin' := pin) fun _ _ => rfl)
      cases b with
      | false =>
        rw [if_neg Bool.false_ne_true] at hl ⊢
        rw [← hl] at h
        exact h M3 H3 σc e3 s23
      | true =>
        rw [if_pos rfl] at hl ⊢
        refine ⟨fun σ' H' => ∃ m', m' < m + 1 ∧ ∃ M2 env2, EnvOk K M2 H' σ' env2 ∧ Stp pin M H σ env M2 H' σ' env2 ∧ loopWhile (evT C c) (evSs C pin body) m' env2 = o, fun σ' H' q => q, M3, env3, e3, ?_⟩
        cases hy : evSs C pin body env3 with
        | bad => rw [hy] at hl; rw [← hl] at h; exact h.elim
        | ex => rw [hy] at hl; rw [← hl] at h; exact h.elim
        | ok fl env4 =>
          rw [hy] at hl
          simp only [Out.bind_ok] at hl
          cases fl with
          | nx => exact fun M4 H4 σ4 e4 s4 => ⟨m, Nat.lt_succ_self m, M4, env4, e4, s23.trans e.mok s4, hl⟩
          | ct => exact fun M4 H4 σ4 e4 s4 => ⟨m, Nat.lt_succ_self m, M4, env4, e4, s23.trans e.mok s4, hl⟩
          | bk =>
            rw [← hl] at h
            exact fun M4 H4 σ4 e4 s4 => h M4 H4 σ4 e4 (s23.trans e.mok s4)
          | rt d fr =>
            rw [← hl] at h
            exact h.back e s23
/-- the outcome of a loop over a locked name, seen from before the lock -/
theorem FlP.unlock {o : Option Nat} (e : EnvOk K M H σ env) (ho : OwnO env o) {r : Out Fl} (hn : ∀ env', r ≠ .ok .bk env' ∧ r ≠ .ok .ct env') (h : FlP K pin M H σ env D (r.mapEn (unlock o))) : FlP K pin M H σ (lock o env) D r := by
  cases r with
  | bad => exact h
  | ex => exact h
  | ok fl env' =>
    cases fl with
    | nx =>
      intro M' H' σ' e' s'
      obtain ⟨e2, s2⟩ := unlock_ok e ho e' s'
      exact h M' H' σ' e2 s2
    | bk => exact absurd rfl (hn env').1
    | ct => exact absurd rfl (hn env').2
    | rt d fr =>
      intro M' H' σ' v e' s' r'
      obtain ⟨e2, s2⟩ := unlock_ok e ho e' s'
      refine h M' H' σ' v e2 s2 ?_
      cases fr with
      | false => exact r'
      | true =>
        obtain ⟨ds, a, xs, h1, h2, h3, hr⟩ := r'
        exact ⟨ds, a, xs, h1, h2, h3.imp id fun ⟨i, p, w⟩ => ⟨i, p, (lock_own ho w).1⟩, hr⟩
theorem loopFor_fl {f : Z.D → Zm Fl} : ∀ {ds : List Z.D} {env : En} (env' : En), loopFor f ds env ≠ .ok .bk env' ∧ loopFor f ds env ≠ .ok .ct env'
  | [], env, env' => by simp [loopFor]
  | d :: ds, env, env' => by
    simp only [loopFor]
    cases f d env with
    | bad => simp
    | ex => simp
    | ok fl e =>
      simp only [Out.bind_ok]
      cases fl with
      | nx => exact loopFor_fl env'
      | ct => exact loopFor_fl env'
      | bk => simp
      | rt d fr => simp
theorem s_for {tg : IG} {src : II} {body : List IS} (h : tS K pin (evS C pin (.forr tg src body)) D σ H) : tFor (tI K (evI C src)) (tGt K pin tg) (tS K pin (evSs C pin body)) D σ H := by
  obtain ⟨M, env, e, h⟩ := h
  refine ⟨M, env, e, ?_⟩
  simp only [evS] at h
  cases hx : evI C src env with
  | bad => rw [hx] at h; exact h.elim
  | ex => rw [hx] at h; exact h.elim
  | ok x env0 =>
    rw [hx] at h
    simp only [Out.bind_ok] at h
    intro M1 H1 J e1 o1 s1 it1
    have h := h.back e (s1.weak (pin' := pin) fun _ _ => rfl)
    have h := FlP.unlock e1 o1 (fun env' => loopFor_fl env') h
    have e1L := e1.lock o1
    generalize hf : (fun d env => (setG pin tg d env).bind fun _ env => evSs C pin body env) = f at h
    generalize ho : loopFor f x.1 (lock x.2 env0) = o at h
    refine ⟨fun i m σc Hc => m = x.1.length - i ∧ i ≤ x.1.length ∧ ∃ M2 env2, EnvOk K M2 Hc σc env2 ∧ Stp pin M1 H1 σ (lock x.2 env0) M2 Hc σc env2 ∧ loopFor f (x.1.drop i) env2 = o, ⟨x.1.length, by simp, Nat.zero_le _, M1, _, e1L, .refl, ho⟩, ?_⟩
    rintro i m σc Hc ⟨rfl, hi, M2, env2, e2, s2, hl⟩
    obtain ⟨itg, its⟩ := it1 _ M2 Hc σc env2 e2 s2 i
    by_cases hlt : i < x.1.length
    · have hg : x.1[i]? = some x.1[i] := List.getElem?_eq_getElem hlt
      obtain ⟨go, yl⟩ := itg _ hg
      refine .inr ⟨go, fun σ' H' => ∃ m', m' < x.1.length - i ∧ m' = x.1.length - (i + 1) ∧ i + 1 ≤ x.1.length ∧ ∃ M2 env2, EnvOk K M2 H' σ' env2 ∧ Stp pin M1 H1 σ (lock x.2 env0) M2 H' σ' env2 ∧ loopFor f (x.1.drop (i + 1)) env2 = o, fun σ' H' q => q, fun xv H' hy => ?_⟩
      obtain ⟨e3, s3, r3⟩ := yl xv H' hy
      rw [List.drop_eq_getElem_cons hlt] at hl
      simp only [loopFor] at hl
      have s23 := s2.trans e1L.mok (s3.weak (pin' := pin) fun _ _ => rfl)
      refine ⟨M2, H', σc, env2, M2, env2, x.1[i], e3, .refl, r3, ?_⟩
      subst hf
      simp only at hl
      cases hs : setG pin tg x.1[i] env2 with
      | bad => rw [hs] at hl; rw [← hl] at h; exact h.elim
      | ex => rw [hs] at hl; rw [← hl] at h; exact h.elim
      | ok u env3 =>
        rw [hs] at hl
        simp only [Out.bind_ok] at hl
        intro σ3 e4 s4
        have s234 := s23.trans e1L.mok s4
        refine ⟨M2, env3, e4, ?_⟩
        cases hq : evSs C pin body env3 with
        | bad => rw [hq] at hl; rw [← hl] at h; exact h.elim
        | ex => rw [hq] at hl; rw [← hl] at h; exact h.elim
        | ok fl env4 =>
          rw [hq] at hl
          simp only [Out.bind_ok] at hl
          cases fl with
          | nx => exact fun M4 H4 σ4 e5 s5 => ⟨_, by omega, rfl, by omega, M4, env4, e5, s234.trans e1L.mok s5, hl⟩
          | ct => exact fun M4 H4 σ4 e5 s5 => ⟨_, by omega, rfl, by omega, M4, env4, e5, s234.trans e1L.mok s5, hl⟩
          | bk =>
            rw [← hl] at h
            exact fun M4 H4 σ4 e5 s5 => h M4 H4 σ4 e5 (s234.trans e1L.mok s5)
          | rt d fr =>
            rw [← hl] at h
            exact h.back e1L s234
    · refine .inl ⟨its (by omega), ?_⟩
      rw [List.drop_eq_nil_of_le (by omega)] at hl
      simp only [loopFor] at hl
      rw [← hl] at h
      exact h M2 Hc σc e2 s2
end
end Z
namespace Z
open PySem PySem.Spec PyProof.Rows L2
def swapNames (sc : Scope) (ts vs : List Expr) : Option (List Str) :=
  if !(ts.length == 2 || ts.length == 3) || vs.length != ts.length then none
  else if vs.any (fun | .Starred .. => true | _ => false) then none
  else
    let line := (ts.head?.map (·.pos.line)).getD 0
    let names := ts.filterMap fun
      | .Name id pos => if sc.names.lookup id == some .local && pos.line == line then some id else none
      | _ => none
    if names.length != ts.length || names.eraseDups.length != names.length then none
    else if vs.all (foldedForSure 8) then none
    else if vs.all (constantsAlone 8) then none
    else some names
theorem swap_ok {env : PySem.Env} {ts vs : List Expr} {names : List Str} {k k2 : Nat} {p p2 : Pos} (hb : env.blockKind = .function) (h : swapNames env.scope ts vs = some names) :
    swappedStores [.Tuple ts k p] (.Tuple vs k2 p2) env = pure (some names) := by
  unfold swapNames at h
  unfold swappedStores
  split at h
  · cases h
  rename_i h1
  split at h
  · cases h
  rename_i h2
  simp only at h
  split at h
  · cases h
  rename_i h3
  split at h
  · cases h
  rename_i h4
  split at h
  · cases h
  rename_i h5
  have hn := Option.some.inj h
  have e1 : (!(ts.length == 2 || ts.length == 3) || vs.length != ts.length || env.blockKind != .function) = false := by
    rw [hb]
    simp only [Bool.not_eq_true] at h1
    rw [h1]
    rfl
  have hk : ∀ id, env.kindOf id = env.scope.names.lookup id := fun _ => rfl
  refine (if_neg (by rw [e1]; exact Bool.false_ne_true)).trans ?_
  refine (if_neg h2).trans ?_
  refine (if_neg h3).trans ?_
  refine (if_neg h4).trans ?_
  refine (if_neg h5).trans ?_
  exact congrArg (fun x => pure (some x)) hn
def methV : Expr → Option (Str × Str × Expr × Bool)
  | .Call fn as kw cpos => match fn, as, kw with
    | .Attribute o m apos, [a], [] => match o with
      | .Name x _ => some (x, m, a, apos.endLine == cpos.line)
      | _ => none
    | _, _, _ => none
  | _ => none
def meth0V : Expr → Option (Str × Str × Bool)
  | .Call fn as kw cpos => match fn, as, kw with
    | .Attribute o m apos, [], [] => match o with
      | .Name x _ => some (x, m, apos.endLine == cpos.line)
      | _ => none
    | _, _, _ => none
  | _ => none
def meth2V : Expr → Option (Str × Str × Expr × Expr × Bool)
  | .Call fn as kw cpos => match fn, as, kw with
    | .Attribute o m apos, [a, b], [] => match o with
      | .Name x _ => some (x, m, a, b, apos.endLine == cpos.line)
      | _ => none
    | _, _, _ => none
  | _ => none
/-- x[k], x[l] -/
def subV : Expr → Option (Str × Expr)
  | .Subscript o k _ => (nameV o).map (·, k)
  | _ => none
def sub2V : List Expr → Option (Str × Expr × Expr)
  | [a, b] => match subV a, subV b with
    | some p, some q => if p.1 = q.1 then some (p.1, p.2, q.2) else none
    | _, _ => none
  | _ => none
def tupV : Expr → Option (List Expr)
  | .Tuple es _ _ => some es
  | _ => none
def isStr : Expr → Bool
  | .Constant (.str _) _ _ => true
  | _ => false
variable (T : Tab) (N : List Str)
def nmS (sc : Scope) (x : Str) : Option Nat := nmOf N sc (.Name x ⟨0, 0, 0, 0⟩)
def cP0 (N : List Str) (sc : Scope) : Pattern → Option IP0
  | .MatchAs none none _ => some .wild
  | .MatchAs none (some x) _ => (nmS N sc x).map .cap
  | .MatchValue (.Constant (.str s) _ _) _ => some (.lit s)
  | _ => none
def wildB : IP0 → Bool
  | .wild => true
  | _ => false
def cPt (N : List Str) (sc : Scope) : Pattern → Option IP
  | .MatchAs none none _ => some .wild
  | .MatchValue (.Constant (.str s) _ _) _ => some (.lit s)
  | .MatchSequence ps _ => (match allO (ps.map (cP0 N sc)) with
    | some l => if l.any (fun p => !wildB p) then some (.seq l) else none
    | none => none)
  | _ => none
def cM (f : Stmt → Option IS) (N : List Str) (sc : Scope) (i : Nat) : List MatchCase → Option (List IS)
  | [] => some []
  | c :: rest => match c.guard, cPt N sc c.pattern, allO (c.body.map f), cM f N sc i rest with
    | none, some ip, some b, some m => some [.mt i ip b m]
    | _, _, _, _ => none
def isLC : Expr → Bool
  | .ListComp .. => true
  | .Name x _ => decide (x = ("half_planes" : Str))
  | _ => false
def cS : Nat → Scope → Stmt → Option IS
  | 0, _, _ => none
  | n + 1, sc, st => match st with
    | .Assign ts e _ => (match ts with
      | [t] => match t with
        | .Name x _ => match nmS N sc x, cE T N n sc e with
          | some i, some ie => some (.set i ie)
          | _, _ => none
        | .Tuple es _ _ => match tupV e with
          | some vs => match swapNames sc es vs, allO (es.map (nmOf N sc)), allO (vs.map (cE T N n sc)) with
            | some _, some is, some ies => if decide is.Nodup then some (.par is ies) else none
            | _, _, _ => match sub2V es with
              | some (x, k, l) => match nmS N sc x, cE T N n sc k, cE T N n sc l, cE T N n sc e with
                | some i, some ik, some il, some ie => some (.parix i ik il ie)
                | _, _, _, _ => none
              | none => none
          | none => match isLC e with
            | true => match allO (es.map (nmOf N sc)), cE T N n sc e with
              | some is, some ie => some (.unpl is ie)
              | _, _ => none
            | false => match allO (es.map (nmOf N sc)), cE T N n sc e with
              | some is, some ie => some (.unp is ie)
              | _, _ => none
        | .Subscript o k _ => match nameV o, cE T N n sc k, cE T N n sc e with
          | some x, some ik, some ie => (nmS N sc x).map fun i => .setix i ik ie
          | _, _, _ => none
        | _ => none
      | _ => none)
    | .Expr e _ => if isStr e then some .pass else match methV e with
      | some (x, m, a, ln) => if m = "append" ∧ ln = true then match nmS N sc x, cE T N n sc a with
          | some i, some ia => some (.app i ia)
          | _, _ => none
        else if m = "extend" ∧ ln = true then match nmS N sc x, cE T N n sc a with
          | some i, some ia => some (.ext i ia)
          | _, _ => none
        else if m = "remove" ∧ ln = true then match nmS N sc x, cE T N n sc a with
          | some i, some ia => some (.rem i ia)
          | _, _ => none
        else none
      | none => match meth0V e with
        | some (x, m, ln) => if m = "reverse" ∧ ln = true then (nmS N sc x).map IS.rev else none
        | none => match meth2V e with
          | some (x, m, a, b, ln) => if m = "insert" ∧ ln = true then match nmS N sc x, cE T N n sc a, cE T N n sc b with
              | some i, some ia, some ib => some (.ins i ia ib)
              | _, _, _ => none
            else none
          | none => none
    | .If c a b _ => (match cT T N n sc c, allO (a.map (cS n sc)), allO (b.map (cS n sc)) with
      | some x, some y, some z => some (.ife x y z)
      | _, _, _ => none)
    | .For tg it body orelse _ => (match orelse, tgOf N sc tg, cI T N n sc tg it, allO (body.map (cS n sc)) with
      | [], some g, some src, some b => some (.forr g src b)
      | _, _, _, _ => none)
    | .While c body orelse _ => (match orelse, cT T N n sc c, allO (body.map (cS n sc)) with
      | [], some x, some b => some (.whil x b)
      | _, _, _ => none)
    | .Match e cases _ => (match (nameV e).bind (nmS N sc) with
      | some i => (match cM (cS n sc) N sc i cases with
        | some [x] => some x
        | _ => none)
      | none => none)
    | .Return (some e) _ => (match (nameV e).bind (nmS N sc) with
      | some i => some (.retv i)
      | none => (cE T N n sc e).map .ret)
    | .Return none _ => some .retn
    | .Break _ => some .brk
    | .Continue _ => some .cont
    | .Pass _ => some .pass
    | .Raise _ _ _ => some .no
    | _ => none
structure KnS (X : Cx) (k : Nat) : Prop where
  kn : Kn T N X k
  fnT : ∀ x, X.fn x = true
  kind : X.env.scope.kind = .function
  po : PassesOwn (model X.prog X.w) X.A X.env X.xe
section
variable {T : Tab} {N : List Str} {k n : Nat} {X : Cx}
theorem KnS.sto (kn : KnS T N X k) : Sto X.env.scope X := ⟨fun _ _ _ h => h, fun x _ => kn.fnT x⟩
theorem KnS.blk (kn : KnS T N X k) : X.env.blockKind = .function := by unfold Env.blockKind; rw [kn.kind]; rfl
theorem nmS_get {sc : Scope} {x : Str} {i : Nat} (h : nmS N sc x = some i) : N[i]? = some x ∧ (sc.names.lookup x = some .local ∨ sc.names.lookup x = some .cell) ∧ visB sc x = true := by
  unfold nmS at h
  obtain ⟨y, p, e, h1, h2⟩ := nm_inv h
  cases e
  refine ⟨h1, h2, ?_⟩
  simp only [nmOf] at h
  split at h
  · assumption
  · cases h
theorem pv_nm (kn : KnS T N X k) {x : Str} {i : Nat} {pos : Pos} (h : nmS N X.env.scope x = some i) : PE X (.Name x pos) (tVar i) := by
  obtain ⟨h1, _, h3⟩ := nmS_get h
  obtain ⟨v, d1, d2⟩ := vis_of h3
  exact pe_var (by rw [kn.kn.hN]; exact h1) v d1 d2
def SS (T : Tab) (N : List Str) (k n : Nat) : Prop := ∀ sc st is, cS T N n sc st = some is → ∀ X, KnS T N X k → X.env.scope = sc → ∀ pin, PS X st (tS X.K pin (evS (callK T.fns k) pin is))
theorem pss_all (ih : SS T N k n) {sc : Scope} (kn : KnS T N X k) (hs : X.env.scope = sc) (pin : Nat → Bool) : ∀ {ss : List Stmt} {is : List IS}, allO (ss.map (cS T N n sc)) = some is → PSs X ss (tS X.K pin (evSs (callK T.fns k) pin is))
  | [], is, h => by
    cases h
    exact PSs.imp pss_nil fun _ _ _ => s_nil
  | s :: ss, is, h => by
    obtain ⟨b, r', h1, h2, rfl⟩ := allO_cons h
    exact PSs.imp (pss_cons (ih sc s b h1 X kn hs pin) (pss_all ih kn hs pin h2)) fun _ _ _ => s_cons
/-- the parts of a comprehension -/
theorem comp_inv {sc scope : Scope} {elt : Expr} {gens : List Comprehension} {pos : Pos} {ie : IE} (h : cE T N n sc (.ListComp elt gens scope pos) = some ie) :
    ∃ m tg iter ifs own g src x cs, n = m + 1 ∧ gens = [⟨tg, iter, ifs, 0⟩] ∧ tgOf N scope tg = some g ∧ cI T N m sc tg iter = some src ∧ cE T N m (relS scope sc) elt = some x ∧ blkC N sc scope own = true ∧ tgIn (own.map (·.2)) g = true ∧
      ((ifs = [] ∧ cs = []) ∨ ∃ c y, ifs = [c] ∧ cT T N m (relS scope sc) c = some y ∧ cs = [y]) ∧ ie = .comp (own.map (·.2)) g src cs x := by
  cases n with
  | zero => simp [cE] at h
  | succ m =>
    simp only [cE] at h
    cases gens with
    | nil => cases h
    | cons g gs =>
      cases gs with
      | cons _ _ => cases h
      | nil =>
        obtain ⟨tg, iter, ifs, as⟩ := g
        simp only at h
        split at h
        case isFalse => cases h
        rename_i has
        subst has
        split at h
        case h_2 => cases h
        rename_i own g src x h1 h2 h3 h4
        split at h
        case isFalse => cases h
        rename_i hb
        rw [Bool.and_eq_true] at hb
        cases ifs with
        | nil =>
          cases h
          exact ⟨m, tg, iter, [], own, g, src, x, [], rfl, rfl, h2, h3, h4, hb.1, hb.2, .inl ⟨rfl, rfl⟩, rfl⟩
        | cons c cs =>
          cases cs with
          | cons _ _ => cases h
          | nil =>
            obtain ⟨y, h5, rfl⟩ := map_some h
            exact ⟨m, tg, iter, [c], own, g, src, x, [y], rfl, rfl, h2, h3, h4, hb.1, hb.2, .inr ⟨c, y, rfl, h5, rfl⟩, rfl⟩
/-- name = e -/
theorem ss_set {x : Str} {i : Nat} {e : Expr} {ie : IE} {p pos : Pos} (hi : nmS N X.env.scope x = some i) (he : cE T N n X.env.scope e = some ie) (kn : KnS T N X k) : PS X (.Assign [.Name x p] e pos) (tAsg (tZ X.K (evE (callK T.fns k) ie)) (gName i)) := by
  obtain ⟨h1, h2, _⟩ := nmS_get hi
  have hN : X.N.Nodup := by rw [kn.kn.hN]; exact kn.kn.nd
  have hi' : X.N[i]? = some x := by rw [kn.kn.hN]; exact h1
  have hf : X.fn x = true ∨ X.env.scope.names.lookup x = some .local := .inl (kn.fnT x)
  obtain ⟨_, _, _, pe⟩ := snd_E (T := T) (N := N) (k := k) n _ e ie he
  have plain : (swapsWith e (some (.Name x p)) pos.line X.env = pure false) → PS X (.Assign [.Name x p] e pos) (tAsg (tZ X.K (evE (callK T.fns k) ie)) (gName i)) := fun hs => ps_set hN hi' h2 (pe X kn.kn rfl) hs hf
  have nosw : (∀ a b c d, e ≠ .ListComp a b c d) → swapsWith e (some (.Name x p)) pos.line X.env = pure false := fun hl => by
    cases e <;> first
      | rfl
      | exact absurd rfl (hl _ _ _ _)
      | (cases n <;> simp [cE] at he)
  by_cases hl : ∃ a b c d, e = .ListComp a b c d
  · obtain ⟨elt, gens, scope, lp, rfl⟩ := hl
    by_cases hsw : swapsWith (.ListComp elt gens scope lp) (some (.Name x p)) pos.line X.env = pure false
    · exact plain hsw
    · have hcond : (X.env.blockKind == .function && X.env.kindOf x == some .local && p.line == lp.line && !(scope.names.any fun (n, k) => n == x && (k == .local || k == .cell))) = true := by
        cases hc : (X.env.blockKind == .function && X.env.kindOf x == some .local && p.line == lp.line && !(scope.names.any fun (n, k) => n == x && (k == .local || k == .cell))) with
        | true => rfl
        | false => exact absurd (by unfold swapsWith; simp only [Expr.pos]; rw [hc]) hsw
      have hyl : X.env.scope.names.lookup x = some .local := by
        rw [Bool.and_eq_true, Bool.and_eq_true, Bool.and_eq_true] at hcond
        have q : X.env.kindOf x = some .local := by simpa using hcond.1.1.2
        exact q
      obtain ⟨m, tg, iter, ifs, own, g, src, y, cs, rfl, rfl, c1, c2, c3, c4, c5, c6, rfl⟩ := comp_inv he
      obtain ⟨ns, pi⟩ := snd_I (T := T) (N := N) (k := k) m _ tg iter src c2
      obtain ⟨_, _, _, pe2⟩ := snd_E (T := T) (N := N) (k := k) m _ elt y c3
      have hr : ∀ (C : Addr) (cl : List (Str × Addr)), (compEnvC scope cl C X.env).scope = relS scope X.env.scope := fun C cl => rfl
      refine PS.imp (ps_setLc (own := own) (g := tGt X.K (outP (own.map (fun q : Str × Nat => q.2))) g) (tt := tB X.K (evTs (callK T.fns k) cs)) (te := tZ X.K (evE (callK T.fns k) y)) kn.kn.calm hN hi' hyl (by unfold swapsWith; simp only [Expr.pos]; rw [hcond]) (pi X kn.kn rfl) (blkOk_by (by rw [kn.kn.hN]; exact c4))
        (fun s H C cl fp => pg_tg kn.kn.blk sto_blk _ c1) (fun s H C cl fp => ?_) (fun s H C cl fp => pe2 _ kn.kn.blk (hr C cl)) (fun z => ?_)) fun D σ H h => z_comp c5 h
      · rcases c6 with ⟨rfl, rfl⟩ | ⟨c, w, rfl, h5, rfl⟩
        · exact pts_of0
        · exact pts_of ((snd_T (T := T) (N := N) (k := k) m).pt h5 kn.kn.blk (hr C cl))
      · cases iter <;> first | rfl | exact absurd rfl (ns _ _ _)
  · exact plain (nosw fun a b c d z => hl ⟨a, b, c, d, z⟩)
theorem sole_tup {es : List Expr} {kk : Nat} {tp : Pos} {e : Expr} {l : Nat} {env : PySem.Env} : swapsWithSole [.Tuple es kk tp] e l env = pure false := by
  cases e <;> rfl
theorem sole_sub {o i : Expr} {tp : Pos} {e : Expr} {l : Nat} {env : PySem.Env} : swapsWithSole [.Subscript o i tp] e l env = pure false := by
  cases e <;> rfl
theorem swapped_tup {es : List Expr} {kk : Nat} {tp : Pos} {e : Expr} {env : PySem.Env} (h : tupV e = none) : swappedStores [.Tuple es kk tp] e env = pure none := by
  cases e <;> first | rfl | (simp [tupV] at h)
theorem nms_inv {sc : Scope} : ∀ {es : List Expr} {is : List Nat}, allO (es.map (nmOf N sc)) = some is → ∃ xs : List (Str × Pos), es = xs.map (fun y => .Name y.1 y.2) ∧ is.length = xs.length ∧ ∀ i (h : i < xs.length) (h2 : i < is.length), N[is[i]]? = some xs[i].1
  | [], is, h => by cases h; exact ⟨[], rfl, rfl, fun i h => absurd h (by simp)⟩
  | e :: es, is, h => by
    obtain ⟨b, r', h1, h2, rfl⟩ := allO_cons h
    obtain ⟨x, p, rfl, h3, _⟩ := nm_inv h1
    obtain ⟨xs, h4, h5, h6⟩ := nms_inv h2
    refine ⟨(x, p) :: xs, by rw [h4]; rfl, by simp [h5], fun i hi hi2 => ?_⟩
    cases i with
    | zero => exact h3
    | succ i => exact h6 i (by simpa using hi) (by simpa using hi2)
theorem swap_shape {sc : Scope} {ts vs : List Expr} {names : List Str} (h : swapNames sc ts vs = some names) : (ts.length = 2 ∨ ts.length = 3) ∧ vs.length = ts.length ∧ names.length = ts.length ∧ names = ts.filterMap (fun
      | .Name id pos => if sc.names.lookup id == some .local && pos.line == (ts.head?.map (·.pos.line)).getD 0 then some id else none
      | _ => none) := by
  unfold swapNames at h
  split at h
  · cases h
  rename_i h1
  split at h
  · cases h
  simp only at h
  split at h
  · cases h
  rename_i h3
  split at h
  · cases h
  split at h
  · cases h
  have hn := Option.some.inj h
  have h1' := Bool.eq_false_iff.mpr h1
  have h3' := Bool.eq_false_iff.mpr h3
  rw [Bool.or_eq_false_iff] at h1' h3'
  have a1 : (ts.length == 2 || ts.length == 3) = true := by
    have q := h1'.1
    revert q
    cases (ts.length == 2 || ts.length == 3) <;> simp
  rw [Bool.or_eq_true, beq_iff_eq, beq_iff_eq] at a1
  have a2 : vs.length = ts.length := by simpa using h1'.2
  refine ⟨a1, a2, ?_, hn.symm⟩
  rw [← hn]
  simpa using h3'.1
theorem tDs_mono {K : PySem.W.Frag} {f : Zm (List Z.D)} {σ : L2.St} {H : Hp} {Q Q' : List V → Hp → Prop} (h : tDs K f σ H Q) (i : ∀ v H, Q v H → Q' v H) : tDs K f σ H Q' := by
  obtain ⟨M, env, e, h⟩ := h
  refine ⟨M, env, e, ?_⟩
  cases hx : f env with
  | bad => rw [hx] at h; exact h.elim
  | ex => rw [hx] at h; exact h.elim
  | ok p env1 =>
    rw [hx] at h
    exact fun M' H' v e' s' f' => i v H' (h M' H' v e' s' f')
/-- a, b = x, y and three of them -/
theorem ss_par {es vs : List Expr} {is : List Nat} {ies : List IE} {names : List Str} {kk k2 : Nat} {tp vp pos : Pos} {pin : Nat → Bool} (hw : swapNames X.env.scope es vs = some names) (hi : allO (es.map (nmOf N X.env.scope)) = some is) (he : allO (vs.map (cE T N n X.env.scope)) = some ies) (nd : is.Nodup)
    (kn : KnS T N X k) : PS X (.Assign [.Tuple es kk tp] (.Tuple vs k2 vp) pos) (tS X.K pin (evS (callK T.fns k) pin (.par is ies))) := by
  obtain ⟨l1, l2, l3, hnm⟩ := swap_shape hw
  have hswap := swap_ok (k := kk) (k2 := k2) (p := tp) (p2 := vp) kn.blk hw
  have hA := pa_es (snd_E (T := T) (N := N) (k := k) n) kn.kn rfl he
  obtain ⟨xs, rfl, hl, hx⟩ := nms_inv hi
  have hN : X.N.Nodup := by rw [kn.kn.hN]; exact kn.kn.nd
  -- each name is a local
  have loc : ∀ i (h : i < xs.length), X.env.scope.names.lookup xs[i].1 = some .local := by
    have all : ∀ (xs : List (Str × Pos)) (L : Nat), ((xs.map (fun y => Expr.Name y.1 y.2)).filterMap (fun
        | .Name id pos => if X.env.scope.names.lookup id == some .local && pos.line == L then some id else none
        | _ => none)).length = xs.length → ∀ i (h : i < xs.length), X.env.scope.names.lookup xs[i].1 = some .local := by
      intro xs L
      induction xs with
      | nil => intro _ i h; simp at h
      | cons y xs ih =>
        intro h i hi
        have le := List.length_filterMap_le (fun
          | .Name id pos => if X.env.scope.names.lookup id == some .local && pos.line == L then some id else none
          | _ => none) (xs.map (fun y => Expr.Name y.1 y.2))
        rw [List.length_map] at le
        simp only [List.map_cons, List.filterMap_cons] at h
        split at h
        · rename_i q
          simp only [List.length_cons] at h
          omega
        · rename_i b q
          split at q
          · rename_i hc
            rw [Bool.and_eq_true] at hc
            cases i with
            | zero => simpa using hc.1
            | succ i => exact ih (by simpa using h) i (by simpa using hi)
          · cases q
    refine all xs (((xs.map (fun y => Expr.Name y.1 y.2)).head?.map (·.pos.line)).getD 0) ?_
    have e1 : (xs.map (fun y => Expr.Name y.1 y.2)).length = xs.length := List.length_map _
    rw [← e1, ← l3, hnm]
  have hnames : names = xs.map (·.1) := by
    have all : ∀ (xs : List (Str × Pos)) (L : Nat), ((xs.map (fun y => Expr.Name y.1 y.2)).filterMap (fun
        | .Name id pos => if X.env.scope.names.lookup id == some .local && pos.line == L then some id else none
        | _ => none)).length = xs.length → ((xs.map (fun y => Expr.Name y.1 y.2)).filterMap (fun
        | .Name id pos => if X.env.scope.names.lookup id == some .local && pos.line == L then some id else none
        | _ => none)) = xs.map (·.1) := by
      intro xs L
      induction xs with
      | nil => intro _; rfl
      | cons y xs ih =>
        intro h
        have le := List.length_filterMap_le (fun
          | .Name id pos => if X.env.scope.names.lookup id == some .local && pos.line == L then some id else none
          | _ => none) (xs.map (fun y => Expr.Name y.1 y.2))
        rw [List.length_map] at le
        simp only [List.map_cons, List.filterMap_cons] at h ⊢
        split at h
        · rename_i q
          simp only [List.length_cons] at h
          omega
        · rename_i b q
          split at q
          · rename_i hc
            cases q
            exact congrArg (y.1 :: ·) (ih (by simpa using h))
          · cases q
    have e1 : (xs.map (fun y => Expr.Name y.1 y.2)).length = xs.length := List.length_map _
    rw [hnm]
    refine all xs (((xs.map (fun y => Expr.Name y.1 y.2)).head?.map (·.pos.line)).getD 0) ?_
    rw [← e1, ← l3, hnm]
  have lx : xs.length = 2 ∨ xs.length = 3 := by rw [List.length_map] at l1; exact l1
  have lv : vs.length = xs.length := by rw [List.length_map] at l2; exact l2
  match xs, is, vs, lx, lv, hl, hx, loc, nd, hA, hswap, hnames with
  | [(x, px), (y, py)], [i, j], [a, b], _, _, _, hx, loc, nd, hA, hswap, hnames =>
    subst hnames
    have ij : i ≠ j := fun z => by subst z; simp at nd
    have hi' := hx 0 (by simp) (by simp)
    have hj' := hx 1 (by simp) (by simp)
    refine PS.imp (ps_par (i := i) (j := j) kn.kn.calm hN (by rw [kn.kn.hN]; exact hi') (by rw [kn.kn.hN]; exact hj') ij (loc 0 (by simp)) (loc 1 (by simp)) hA hswap) fun D σ H h => ?_
    have q := s_par h
    refine tDs_mono q fun vs H1 ⟨l, q⟩ => ?_
    match vs, l, q with
    | [v, w], _, q => exact ⟨v, w, rfl, q⟩
  | [(x, px), (y, py), (z, pz)], [i, j, l], [a, b, c], _, _, _, hx, loc, nd, hA, hswap, hnames =>
    subst hnames
    have ij : i ≠ j := fun z => by subst z; simp at nd
    have il : i ≠ l := fun z => by subst z; simp at nd
    have jl : j ≠ l := fun z => by subst z; simp at nd
    have hi' := hx 0 (by simp) (by simp)
    have hj' := hx 1 (by simp) (by simp)
    have hl' := hx 2 (by simp) (by simp)
    refine PS.imp (ps_par3 (i := i) (j := j) (l := l) kn.kn.calm hN (by rw [kn.kn.hN]; exact hi') (by rw [kn.kn.hN]; exact hj') (by rw [kn.kn.hN]; exact hl') ij il jl (loc 0 (by simp)) (loc 1 (by simp)) (loc 2 (by simp)) hA hswap) fun D σ H h => ?_
    have q := s_par h
    refine tDs_mono q fun vs H1 ⟨l, q⟩ => ?_
    match vs, l, q with
    | [v, w, u], _, q => exact ⟨v, w, u, rfl, q⟩
  | [(_, _), (_, _)], [], _, _, _, hl, _, _, _, _, _, _ => simp at hl
  | [(_, _), (_, _)], [_], _, _, _, hl, _, _, _, _, _, _ => simp at hl
  | [(_, _), (_, _)], _ :: _ :: _ :: _, _, _, _, hl, _, _, _, _, _, _ => simp at hl
end
end Z
namespace Z
open PySem PySem.Spec PyProof.Rows L2
section
variable {T : Tab} {N : List Str} {k n : Nat} {X : Cx}
inductive BR (X : Cx) : List Nat → List V → List (Str × Value) → Prop
  | nil : BR X [] [] []
  | cons {i : Nat} {is : List Nat} {x : Str} {v : V} {vs : List V} {u : Value} {bs : List (Str × Value)} : X.N[i]? = some x → Loc X.env.scope x → RelV v u → BR X is vs bs → BR X (i :: is) (v :: vs) ((x, u) :: bs)
theorem BR.append {is js : List Nat} {vs ws : List V} {bs cs : List (Str × Value)} (h : BR X is vs bs) (h2 : BR X js ws cs) : BR X (is ++ js) (vs ++ ws) (bs ++ cs) := by
  induction h with
  | nil => exact h2
  | cons a b c _ ih => exact .cons a b c ih
def BRes (X : Cx) (M : Mk) (H : Hp) : Option (List Nat × List D) → Option (List (Str × Value)) → Prop
  | none, none => True
  | some p, some bs => ∃ vs, Reps X.K M H p.2 vs ∧ BR X p.1 vs bs
  | _, _ => False
theorem m0_ok (kn : KnS T N X k) {p : Pattern} {q : IP0} (hp : cP0 N X.env.scope p = some q) {pins : List (Addr × Obj)} {s : Shared} {σ : L2.St} {H : Hp} {M : Mk} {d : D} {v : V} {u : Value} {r : Option (List Nat × List D)}
    (I : Inv X pins σ H s) (rv : RelV v u) (rp : Rep X.K M H d v) (hm : m0 q d = some r) : wpAny (model X.prog X.w) X.A (matchPattern p X.env u) (fun r' s' => Inv X pins σ H s' ∧ BRes X M H r r') X.xe s := by
  have lit : ∀ {c : Str} {j pos pos2}, m0 (.lit c) d = some r → wpAny (model X.prog X.w) X.A (matchPattern (.MatchValue (.Constant (.str c) j pos) pos2) X.env u) (fun r' s' => Inv X pins σ H s' ∧ BRes X M H r r') X.xe s := by
    clear hm
    intro c j pos pos2 hm
    cases d <;> simp only [m0] at hm <;> try (cases hm; done)
    rename_i t
    cases rp
    refine wpAny_matchPattern_Value (thn (pe_str.run pins s σ H (fun v H' => v = .str c ∧ H' = H) I ⟨rfl, rfl⟩) fun u2 s1 ⟨v2, H1, I1, r2, e1, e2⟩ => ?_)
    subst e1
    subst e2
    refine thn (op_eq pins s1 σ H1 (.str t) (.str c) u u2 (fun v H' => v = .bl (decide (V.str t = V.str c)) ∧ H' = H1) I1 rv r2 ⟨rfl, rfl, rfl⟩) fun u3 s2 ⟨v3, H2, I2, r3, e1, e2⟩ => ?_
    subst e1
    subst e2
    cases r3
    refine wpAny_truthy_bool ?_
    by_cases h : t = c
    · rw [if_pos h] at hm
      cases hm
      rw [decide_eq_true (by rw [h])]
      exact ⟨I2, [], .nil, .nil⟩
    · rw [if_neg h] at hm
      cases hm
      rw [decide_eq_false (fun z => h (V.str.inj z))]
      exact ⟨I2, trivial⟩
  cases p <;> simp only [cP0] at hp <;> try (cases hp; done)
  case MatchValue e pos =>
    cases e <;> first | (cases hp; done) | skip
    rename_i c j pos2
    cases c <;> first | (cases hp; done) | skip
    cases hp
    exact lit hm
  case MatchAs op nm pos =>
    cases op with
    | some _ => simp only [cP0] at hp; cases hp
    | none =>
      cases nm with
      | none =>
        simp only [cP0] at hp
        cases hp
        simp only [m0] at hm
        cases hm
        exact wpAny_matchPattern_Capture ⟨I, [], .nil, .nil⟩
      | some x =>
        simp only [cP0] at hp
        obtain ⟨i, hi, rfl⟩ := map_some hp
        simp only [m0] at hm
        cases hm
        obtain ⟨h1, h2, _⟩ := nmS_get hi
        exact wpAny_matchPattern_Capture ⟨I, [v], .cons rp .nil, .cons (by rw [kn.kn.hN]; exact h1) h2 rv .nil⟩
theorem cP0_star {sc : Scope} {p : Pattern} {q : IP0} (hp : cP0 N sc p = some q) : p.isStar = false := by
  cases p <;> first | rfl | (simp only [cP0] at hp; cases hp)
theorem cP0_wild {sc : Scope} {p : Pattern} {q : IP0} (hp : cP0 N sc p = some q) (h : (!wildB q) = true) : p.isWildcard = false := by
  cases p <;> first | rfl | skip
  rename_i op nm pos
  cases op with
  | some _ => rfl
  | none =>
    cases nm with
    | some _ => rfl
    | none =>
      simp only [cP0] at hp
      cases hp
      simp [wildB] at h
theorem each_ok (kn : KnS T N X k) {pins : List (Addr × Obj)} {σ : L2.St} {H : Hp} {M : Mk} : ∀ {ps : List Pattern} {qs : List IP0} {ds : List D} {vs : List V} {us : List Value} {r : Option (List Nat × List D)} {s : Shared}, allO (ps.map (cP0 N X.env.scope)) = some qs →
    Inv X pins σ H s → Vals vs us → Reps X.K M H ds vs → mEach qs ds = some r → wpAny (model X.prog X.w) X.A (matchEach ps X.env us) (fun r' s' => Inv X pins σ H s' ∧ BRes X M H r r') X.xe s
  | [], qs, ds, vs, us, r, s, hq, I, rv, rp, hm => by
    cases hq
    cases rp with
    | cons _ _ => simp only [mEach] at hm; cases hm
    | nil =>
      simp only [mEach] at hm
      cases hm
      exact wpAny_matchEach_nil ⟨I, [], .nil, .nil⟩
  | p :: ps, qs, ds, vs, us, r, s, hq, I, rv, rp, hm => by
    obtain ⟨q, qs', h1, h2, rfl⟩ := allO_cons hq
    cases rp with
    | nil => simp only [mEach] at hm; cases hm
    | cons r0 rr =>
      cases rv with
      | cons w0 ww =>
        rename_i d ds v vs u us
        simp only [mEach] at hm
        cases hx : m0 q d with
        | none => rw [hx] at hm; cases hm
        | some a =>
          rw [hx] at hm
          refine wpAny_matchEach_cons (thn (m0_ok kn h1 I w0 r0 hx) fun r' s1 ⟨I1, b1⟩ => ?_) (cP0_star h1)
          cases a with
          | none =>
            cases hm
            cases r' with
            | none => exact ⟨I1, trivial⟩
            | some _ => exact b1.elim
          | some a =>
            cases r' with
            | none => exact b1.elim
            | some bs =>
              obtain ⟨ws, g1, g2⟩ := b1
              simp only at hm
              cases hy : mEach qs' ds with
              | none => rw [hy] at hm; cases hm
              | some b =>
                rw [hy] at hm
                refine thn (each_ok kn h2 I1 ww rr hy) fun r2 s2 ⟨I2, b2⟩ => ?_
                cases b with
                | none =>
                  cases hm
                  cases r2 with
                  | none => exact ⟨I2, trivial⟩
                  | some _ => exact b2.elim
                | some b =>
                  cases hm
                  cases r2 with
                  | none => exact b2.elim
                  | some cs =>
                    obtain ⟨zs, g3, g4⟩ := b2
                    exact ⟨I2, ws ++ zs, g1.append g3, g2.append g4⟩
theorem mP_ok (kn : KnS T N X k) {p : Pattern} {q : IP} (hp : cPt N X.env.scope p = some q) {pins : List (Addr × Obj)} {s : Shared} {σ : L2.St} {H : Hp} {M : Mk} {d : D} {v : V} {u : Value} {r : Option (List Nat × List D)}
    (I : Inv X pins σ H s) (rv : RelV v u) (rp : Rep X.K M H d v) (hm : mP q d = some r) : wpAny (model X.prog X.w) X.A (matchPattern p X.env u) (fun r' s' => Inv X pins σ H s' ∧ BRes X M H r r') X.xe s := by
  cases p <;> simp only [cPt] at hp <;> try (cases hp; done)
  case MatchValue e pos =>
    cases e <;> first | (cases hp; done) | skip
    rename_i c j pos2
    cases c <;> first | (cases hp; done) | skip
    cases hp
    exact m0_ok (q := .lit _) kn rfl I rv rp hm
  case MatchAs op nm pos =>
    cases op with
    | some _ => simp only [cPt] at hp; cases hp
    | none =>
      cases nm with
      | some _ => simp only [cPt] at hp; cases hp
      | none =>
        simp only [cPt] at hp
        cases hp
        simp only [mP] at hm
        cases hm
        exact wpAny_matchPattern_Capture ⟨I, [], .nil, .nil⟩
  case MatchSequence ps pos =>
    split at hp
    · rename_i l hl
      split at hp
      · rename_i hw
        cases hp
        cases d <;> simp only [mP] at hm <;> try (cases hm; done)
        rename_i ds
        cases rp with
        | tup hq rr =>
          cases rv
          obtain ⟨its, r1, ht, hz⟩ := I.tuple hq
          have hsz : its.length = ds.length := by rw [← r1.length, rr.length]
          have hfit : ((its.toArray.size : Nat) : Int) < 2 ^ 63 := by
            rw [List.size_toArray, ← r1.length]
            rw [sizeLine_eq] at hz
            omega
          have hlen : ∀ {ps : List Pattern} {l : List IP0}, allO (ps.map (cP0 N X.env.scope)) = some l → ps.length = l.length ∧ ps.findIdx? (·.isStar) = none ∧ (l.any (fun p => !wildB p) = true → (ps.all fun p => p.isWildcard || (p.isStar && p.names.isEmpty)) = false) := by
            intro ps
            induction ps with
            | nil => intro l h; cases h; exact ⟨rfl, rfl, fun z => by cases z⟩
            | cons p ps ih =>
              intro l h
              obtain ⟨b, r', h1, h2, rfl⟩ := allO_cons h
              obtain ⟨g1, g2, g3⟩ := ih h2
              have hs := cP0_star h1
              refine ⟨congrArg (· + 1) g1, ?_, fun z => ?_⟩
              · rw [List.findIdx?_cons, hs, g2]
                rfl
              · rw [List.all_cons]
                rw [List.any_cons, Bool.or_eq_true] at z
                rcases z with z | z
                · rw [cP0_wild h1 z, hs]
                  rfl
                · rw [g3 z, Bool.and_false]
          obtain ⟨hl1, hl2, hl3⟩ := hlen hl
          by_cases hn : ds.length = l.length
          · rw [if_pos hn] at hm
            refine matchSeq_tuple_hit ht hfit (by rw [List.size_toArray]; omega) ?_ hl2 (hl3 hw)
            have hps : ps.length = its.toArray.size := by rw [List.size_toArray]; omega
            rw [hps]
            have I0 := I.kept (h' := s.heap) (t' := s.toks + 1 + 1) fun b o e => e
            refine unpackItems_tuple (I.ok.hd kn.kn.calm) (s := { s with toks := s.toks + 1 + 1 }) ht fun h' hx => ?_
            have I1 := I0.kept (h' := h') (t' := s.toks + 1 + 1) fun b o e => hx b o (Nat.ne_of_lt (Heap.lt_size e)) e
            exact each_ok kn hl I1 (by simpa using r1) rr hm
          · rw [if_neg hn] at hm
            cases hm
            refine matchSeq_tuple_miss ht hfit (by rw [List.size_toArray]; omega) ?_ hl2 (hl3 hw)
            exact ⟨I.kept (h' := s.heap) (t' := s.toks + 1 + 1) fun b o e => e, trivial⟩
      · cases hp
    · cases hp
theorem binds_ok (kn : KnS T N X k) {pins : List (Addr × Obj)} {H : Hp} : ∀ {is : List Nat} {vs : List V} {bs : List (Str × Value)} {σ : L2.St} {s : Shared}, BR X is vs bs → Inv X pins σ H s →
    wpAny (model X.prog X.w) X.A (assignInOrder (bs.map fun (n, _) => bindName X.env n) (bs.map (·.2))) (fun _ s' => Inv X pins (setAllσ σ is vs) H s') X.xe s
  | _, _, _, σ, s, .nil, I => wpAny_assignInOrder_none (by simpa [setAllσ] using I)
  | _, _, _, σ, s, .cons (i := i) (x := x) h1 h2 h3 h4, I => by
    refine wpAny_assignInOrder_more (wpAny_bindName (store_ok I (by rw [kn.kn.hN]; exact kn.kn.nd) h1 h2 h3 (fun s2 I2 => ?_) (.inl (kn.fnT x))))
    simp only [setAllσ]
    exact binds_ok kn h4 I2
theorem s_one {K : PySem.W.Frag} {C : Cl} {pin : Nat → Bool} {x : IS} {D : Ends} {σ : L2.St} {H : Hp} (h : tS K pin (evSs C pin [x]) D σ H) : tS K pin (evS C pin x) D σ H := by
  obtain ⟨M, env, e, h⟩ := h
  refine ⟨M, env, e, ?_⟩
  simp only [evSs] at h
  cases hx : evS C pin x env with
  | bad => rw [hx] at h; exact h
  | ex => rw [hx] at h; exact h
  | ok fl e2 =>
    rw [hx] at h
    cases fl <;> exact h
theorem s_two {K : PySem.W.Frag} {C : Cl} {pin : Nat → Bool} {x : IS} {D : Ends} {σ : L2.St} {H : Hp} (h : tS K pin (evS C pin x) D σ H) : tS K pin (evSs C pin [x]) D σ H := by
  obtain ⟨M, env, e, h⟩ := h
  refine ⟨M, env, e, ?_⟩
  simp only [evSs]
  cases hx : evS C pin x env with
  | bad => rw [hx] at h; exact h
  | ex => rw [hx] at h; exact h
  | ok fl e2 =>
    rw [hx] at h
    cases fl <;> exact h
theorem cases_ok (ih : SS T N k n) (kn : KnS T N X k) (pin : Nat → Bool) {i : Nat} {pins : List (Addr × Obj)} {σ : L2.St} {H : Hp} {D : Ends} {v : V} {u : Value} : ∀ {cs : List MatchCase} {ms : List IS} {first : Bool} {s : Shared}, cM (cS T N n X.env.scope) N X.env.scope i cs = some ms →
    Inv X pins σ H s → RelV v u → σ[i]? = some (some v) → tS X.K pin (evSs (callK T.fns k) pin ms) D σ H → wpAny (model X.prog X.w) X.A (matchCases cs X.env u first) (SP X pins D) X.xe s
  | [], ms, first, s, hc, I, rv, hv, h => by
    simp only [cM] at hc
    cases hc
    exact wpAny_matchCases_nil ⟨σ, H, I, s_nil h⟩
  | c :: cs, ms, first, s, hc, I, rv, hv, h => by
    obtain ⟨pt, gd, body⟩ := c
    simp only [cM] at hc
    split at hc
    case h_2 => cases hc
    rename_i ip b m h1 h2 h3
    cases hc
    obtain ⟨M, env, e, h⟩ := s_one h
    simp only [evS] at h
    split at h
    case h_2 => exact h.elim
    rename_i d hd
    obtain ⟨v', g1, g2⟩ := e.slot i d .frz hd
    rw [hv] at g1
    cases g1
    split at h
    case h_3 => exact h.elim
    · rename_i bs hm
      refine wpAny_matchCases_cons (thn (mP_ok kn h1 I rv g2 hm) fun r' s1 ⟨I1, br⟩ => ?_)
      cases r' with
      | none => exact br.elim
      | some bb =>
        obtain ⟨vs, r1, r2⟩ := br
        refine thn (binds_ok kn r2 I1) fun _ s2 I2 => ?_
        cases hy : setAll pin bs.1 bs.2 env with
        | bad => rw [hy] at h; exact h.elim
        | ex => rw [hy] at h; exact h.elim
        | ok u2 env2 =>
          rw [hy] at h
          obtain ⟨e2, s2', _⟩ := setAll_ok (.refl (pin := pin)) e r1 hy
          exact (pss_all ih kn rfl pin h2).run pins s2 _ H D I2 ⟨M, env2, e2, FlP.back e s2' h⟩
    · rename_i hm
      refine wpAny_matchCases_cons (thn (mP_ok kn h1 I rv g2 hm) fun r' s1 ⟨I1, br⟩ => ?_)
      cases r' with
      | some _ => exact br.elim
      | none => exact cases_ok ih kn pin h3 I1 rv hv ⟨M, env, e, h⟩
theorem ps_match (ih : SS T N k n) (kn : KnS T N X k) (pin : Nat → Bool) {i : Nat} {x : Str} {p pos : Pos} {cs : List MatchCase} {m : IS} (hi : nmS N X.env.scope x = some i) (hc : cM (cS T N n X.env.scope) N X.env.scope i cs = some [m]) :
    PS X (.Match (.Name x p) cs pos) (tS X.K pin (evS (callK T.fns k) pin m)) := by
  refine ⟨fun pins s σ H D I h => ?_⟩
  have hv : ∃ v, σ[i]? = some (some v) := by
    cases cs with
    | nil => simp only [cM] at hc; cases hc
    | cons c cs =>
      simp only [cM] at hc
      split at hc
      case h_2 => cases hc
      cases hc
      obtain ⟨M, env, e, h⟩ := h
      simp only [evS] at h
      split at h
      case h_2 => exact h.elim
      rename_i d hd
      obtain ⟨v', g1, _⟩ := e.slot i d .frz hd
      exact ⟨v', g1⟩
  obtain ⟨v, hv⟩ := hv
  refine wpAny_Match (thn ((pv_nm kn hi).run pins s σ H (fun v' H' => v' = v ∧ H' = H) I ⟨v, hv, rfl, rfl⟩) fun u s1 ⟨v', H', I1, rv, e1, e2⟩ => ?_)
  subst e1
  subst e2
  exact cases_ok ih kn pin hc I1 rv hv (s_two h)
end
end Z
namespace Z
open PySem PySem.Spec PyProof.Rows L2
section
variable {T : Tab} {N : List Str} {k n : Nat}
theorem tupV_some {e : Expr} {vs : List Expr} (h : tupV e = some vs) : ∃ kk p, e = .Tuple vs kk p := by
  cases e <;> simp [tupV] at h
  subst h
  exact ⟨_, _, rfl⟩
theorem isStr_some {e : Expr} (h : isStr e = true) : ∃ x j p, e = .Constant (.str x) j p := by
  cases e <;> simp [isStr] at h
  rename_i c j p
  cases c <;> simp at h
  exact ⟨_, j, p, rfl⟩
theorem methV_some {e : Expr} {x m : Str} {a : Expr} {ln : Bool} (h : methV e = some (x, m, a, ln)) : ∃ p apos cpos, e = .Call (.Attribute (.Name x p) m apos) [a] [] cpos ∧ ln = (apos.endLine == cpos.line) := by
  cases e <;> simp only [methV] at h <;> try (cases h; done)
  rename_i fn as kw cpos
  split at h
  · rename_i o m' apos a'
    split at h
    · cases h
      exact ⟨_, apos, cpos, rfl, rfl⟩
    · cases h
  · cases h
theorem meth0V_some {e : Expr} {x m : Str} {ln : Bool} (h : meth0V e = some (x, m, ln)) : ∃ p apos cpos, e = .Call (.Attribute (.Name x p) m apos) [] [] cpos ∧ ln = (apos.endLine == cpos.line) := by
  cases e <;> simp only [meth0V] at h <;> try (cases h; done)
  rename_i fn as kw cpos
  split at h
  · rename_i o m' apos
    split at h
    · cases h
      exact ⟨_, apos, cpos, rfl, rfl⟩
    · cases h
  · cases h
theorem meth2V_some {e : Expr} {x m : Str} {a b : Expr} {ln : Bool} (h : meth2V e = some (x, m, a, b, ln)) : ∃ p apos cpos, e = .Call (.Attribute (.Name x p) m apos) [a, b] [] cpos ∧ ln = (apos.endLine == cpos.line) := by
  cases e <;> simp only [meth2V] at h <;> try (cases h; done)
  rename_i fn as kw cpos
  split at h
  · rename_i o m' apos a' b'
    split at h
    · cases h
      exact ⟨_, apos, cpos, rfl, rfl⟩
    · cases h
  · cases h
theorem subV_some {e : Expr} {p : Str × Expr} (h : subV e = some p) : ∃ p1 q1, e = .Subscript (.Name p.1 p1) p.2 q1 := by
  cases e <;> simp only [subV] at h <;> try (cases h; done)
  rename_i o k q
  obtain ⟨x, h1, h2⟩ := map_some h
  obtain ⟨p1, rfl⟩ := nameV_some h1
  subst h2
  exact ⟨p1, q, rfl⟩
theorem sub2V_some {es : List Expr} {x : Str} {k l : Expr} (h : sub2V es = some (x, k, l)) : ∃ p1 p2 q1 q2, es = [.Subscript (.Name x p1) k q1, .Subscript (.Name x p2) l q2] := by
  match es, h with
  | [], h => cases h
  | [_], h => cases h
  | _ :: _ :: _ :: _, h => cases h
  | [a, b], h =>
    simp only [sub2V] at h
    split at h
    · rename_i p q h1 h2
      split at h
      · rename_i e
        cases h
        obtain ⟨p1, q1, rfl⟩ := subV_some h1
        obtain ⟨p2, q2, rfl⟩ := subV_some h2
        rw [← e]
        exact ⟨p1, p2, q1, q2, rfl⟩
      · cases h
    · cases h
theorem swap_sub {env : PySem.Env} {o1 k1 o2 k2 : Expr} {p1 p2 p q : Pos} {vs : List Expr} {c d : Nat} : swappedStores [.Tuple [.Subscript o1 k1 p1, .Subscript o2 k2 p2] c p] (.Tuple vs d q) env = pure none := by
  unfold swappedStores
  refine (Classical.em _).elim (fun h => (if_pos h).trans rfl) (fun h => (if_neg h).trans ?_)
  refine (Classical.em _).elim (fun h => (if_pos h).trans rfl) (fun h => (if_neg h).trans ?_)
  exact (if_pos rfl).trans rfl
theorem ss_succ (ih : SS T N k n) : SS T N k (n + 1) := by
  intro sc st is h X kn hs pin
  subst hs
  have hN : X.N.Nodup := by rw [kn.kn.hN]; exact kn.kn.nd
  cases st <;> simp only [cS] at h <;> try (cases h; done)
  case Return v pos =>
    cases v with
    | none =>
      cases h
      exact PS.imp ps_retN fun _ _ _ => s_retn
    | some e =>
      simp only at h
      split at h
      · rename_i i hi
        cases h
        cases hn : nameV e with
        | none => rw [hn] at hi; cases hi
        | some x =>
          obtain ⟨p, rfl⟩ := nameV_some hn
          rw [hn] at hi
          exact PS.imp (ps_ret (pv_nm kn hi)) fun _ _ _ => s_retv
      · obtain ⟨ie, h1, rfl⟩ := map_some h
        obtain ⟨_, _, _, pe⟩ := snd_E (T := T) (N := N) (k := k) n _ e ie h1
        exact PS.imp (ps_ret (pe X kn.kn rfl)) fun _ _ _ => s_ret
  case Assign ts e pos =>
    cases ts with
    | nil => cases h
    | cons t ts =>
      cases ts with
      | cons _ _ => cases h
      | nil =>
        simp only at h
        cases t <;> simp only at h <;> try (cases h; done)
        case Name x p =>
          split at h
          · rename_i i ie h1 h2
            cases h
            exact PS.imp (ss_set h1 h2 kn) fun _ _ _ => s_set
          · cases h
        case Tuple es kk tp =>
          split at h
          · rename_i vs hv
            obtain ⟨k2, vp, rfl⟩ := tupV_some hv
            split at h
            · rename_i names is ies h1 h2 h3
              split at h
              · rename_i nd
                cases h
                exact ss_par h1 h2 h3 (of_decide_eq_true nd) kn
              · cases h
            · split at h
              · rename_i x ka la hs2
                obtain ⟨p1, p2, q1, q2, rfl⟩ := sub2V_some hs2
                split at h
                · rename_i i ik il ie h1 h2 h3 h4
                  cases h
                  obtain ⟨_, _, ns1, pk⟩ := snd_E (T := T) (N := N) (k := k) n _ ka ik h2
                  obtain ⟨_, _, ns2, pl⟩ := snd_E (T := T) (N := N) (k := k) n _ la il h3
                  obtain ⟨_, _, _, pe⟩ := snd_E (T := T) (N := N) (k := k) n _ _ ie h4
                  have hg1 := pg_sub (pos := q1) (pv_nm (pos := p1) kn h1) (pk X kn.kn rfl) set_list (by
                    intro v
                    cases ka <;> first | rfl | exact absurd rfl (ns1 _ _ _ _))
                  have hg2 := pg_sub (pos := q2) (pv_nm (pos := p2) kn h1) (pl X kn.kn rfl) set_list (by
                    intro v
                    cases la <;> first | rfl | exact absurd rfl (ns2 _ _ _ _))
                  have hg := pg_tup (pos := tp) (k := kk) kn.kn.calm (pgs_cons hg1 (pgs_cons hg2 pgs_nil)) rfl rfl
                  exact PS.imp (ps_asg (pe X kn.kn rfl) hg sole_tup swap_sub rfl) fun _ _ _ => s_parix
                · cases h
              · cases h
          · rename_i hv
            split at h
            · split at h
              · rename_i is ie h1 h2
                cases h
                obtain ⟨_, _, _, pe⟩ := snd_E (T := T) (N := N) (k := k) n _ e ie h2
                obtain ⟨g1, g2⟩ := nms_len (E := X.env) h1
                have hg := pg_unl (pos := tp) (k := kk) kn.kn.calm (pgs_nms kn.kn kn.sto h1) g1 g2
                exact PS.imp (ps_asg (pe X kn.kn rfl) hg sole_tup (swapped_tup hv) rfl) fun _ _ _ => s_unpl
              · cases h
            split at h
            · rename_i is ie h1 h2
              cases h
              obtain ⟨_, _, _, pe⟩ := snd_E (T := T) (N := N) (k := k) n _ e ie h2
              have hg := pg_tg (e := .Tuple es kk tp) (g := .tp is) kn.kn kn.sto pin (by simp only [tgOf]; rw [h1]; rfl)
              exact PS.imp (ps_asg (pe X kn.kn rfl) hg sole_tup (swapped_tup hv) rfl) fun _ _ _ => s_unp
            · cases h
        case Subscript o kx tp =>
          split at h
          · rename_i x ik ie h1 h2 h3
            obtain ⟨p, rfl⟩ := nameV_some h1
            obtain ⟨i, h4, rfl⟩ := map_some h
            obtain ⟨_, _, ns, pk⟩ := snd_E (T := T) (N := N) (k := k) n _ kx ik h2
            obtain ⟨_, _, _, pe⟩ := snd_E (T := T) (N := N) (k := k) n _ e ie h3
            have hg := pg_sub (pos := tp) (pv_nm (pos := p) kn h4) (pk X kn.kn rfl) set_list (by
              intro v
              cases kx <;> first | rfl | exact absurd rfl (ns _ _ _ _))
            exact PS.imp (ps_asg (pe X kn.kn rfl) hg sole_sub (by cases e <;> rfl) rfl) fun _ _ _ => s_setix
          · cases h
  case Match e cs pos =>
    split at h
    · rename_i i hi
      split at h
      · rename_i m hm
        cases h
        cases hn : nameV e with
        | none => rw [hn] at hi; cases hi
        | some x =>
          obtain ⟨p, rfl⟩ := nameV_some hn
          rw [hn] at hi
          exact ps_match ih kn pin hi hm
      · cases h
    · cases h
  case For tg it body orelse pos =>
    split at h
    · rename_i g src b h1 h2 h3
      cases h
      obtain ⟨ns, pi⟩ := snd_I (T := T) (N := N) (k := k) n _ tg it src h2
      exact PS.imp (ps_for kn.po kn.kn.calm (pi X kn.kn rfl) (pg_tg kn.kn kn.sto pin h1) (pss_all ih kn rfl pin h3) (fun x => by cases it <;> first | rfl | exact absurd rfl (ns _ _ _))) fun _ _ _ => s_for
    · cases h
  case While c body orelse pos =>
    split at h
    · rename_i x b h1 h2
      cases h
      exact PS.imp (ps_while kn.po ((snd_T (T := T) (N := N) (k := k) n).pt h1 kn.kn rfl) (pss_all ih kn rfl pin h2)) fun _ _ _ => s_while
    · cases h
  case If c a b pos =>
    split at h
    · rename_i x y z h1 h2 h3
      cases h
      exact PS.imp (ps_if ((snd_T (T := T) (N := N) (k := k) n).pt h1 kn.kn rfl) (pss_all ih kn rfl pin h2) (pss_all ih kn rfl pin h3)) fun _ _ _ => s_ife
    · cases h
  case Expr e pos =>
    split at h
    · rename_i hd
      cases h
      obtain ⟨x, j, p, rfl⟩ := isStr_some hd
      exact PS.imp ps_doc fun _ _ _ => s_pass
    · split at h
      · rename_i x m a ln hm
        obtain ⟨p, apos, cpos, rfl, hln⟩ := methV_some hm
        split at h
        · rename_i hc
          obtain ⟨rfl, rfl⟩ := hc
          split at h
          · rename_i i ia h1 h2
            cases h
            obtain ⟨nst, _, _, pa⟩ := snd_E (T := T) (N := N) (k := k) n _ a ia h2
            have hS := star_cons (es := []) (env := X.env) nst
            exact PS.imp (ps_expr (pe_bm PySem.F.plainAttrs_list PySem.F.slot_list_append PySem.F.type_list_append mt_append (pv_nm (pos := p) kn h1) (pa_cons (pa X kn.kn rfl) pa_nil hS) rfl (by rw [hS]; rfl) hln.symm hS rfl) rfl) fun _ _ _ => s_app
          · cases h
        · split at h
          · rename_i hc
            obtain ⟨rfl, rfl⟩ := hc
            split at h
            · rename_i i ia h1 h2
              cases h
              obtain ⟨nst, _, _, pa⟩ := snd_E (T := T) (N := N) (k := k) n _ a ia h2
              have hS := star_cons (es := []) (env := X.env) nst
              exact PS.imp (ps_expr (pe_bm PySem.F.plainAttrs_list PySem.F.slot_list_extend PySem.F.type_list_extend mt_extend (pv_nm (pos := p) kn h1) (pa_cons (pa X kn.kn rfl) pa_nil hS) rfl (by rw [hS]; rfl) hln.symm hS rfl) rfl) fun _ _ _ => s_ext
            · cases h
          · split at h
            · rename_i hc
              obtain ⟨rfl, rfl⟩ := hc
              split at h
              · rename_i i ia h1 h2
                cases h
                obtain ⟨nst, _, _, pa⟩ := snd_E (T := T) (N := N) (k := k) n _ a ia h2
                have hS := star_cons (es := []) (env := X.env) nst
                have hu : X.A.units + 65 < cLine := by have := kn.kn.room.un; omega
                exact PS.imp (ps_expr (pe_bm PySem.F.plainAttrs_list PySem.F.slot_list_remove PySem.F.type_list_remove (mt_removeD hu) (pv_nm (pos := p) kn h1) (pa_cons (pa X kn.kn rfl) pa_nil hS) rfl (by rw [hS]; rfl) hln.symm hS rfl) rfl) fun _ _ _ => s_rem
              · cases h
            · cases h
      · split at h
        · rename_i x m ln hm
          obtain ⟨p, apos, cpos, rfl, hln⟩ := meth0V_some hm
          split at h
          · rename_i hc
            obtain ⟨rfl, rfl⟩ := hc
            obtain ⟨i, h1, rfl⟩ := map_some h
            exact PS.imp (ps_expr (pe_bm0 PySem.F.plainAttrs_list PySem.F.slot_list_reverse PySem.F.type_list_reverse mt_reverse (pv_nm (pos := p) kn h1) rfl hln.symm) rfl) fun _ _ _ => s_rev
          · cases h
        · split at h
          · rename_i x m a b ln hm
            obtain ⟨p, apos, cpos, rfl, hln⟩ := meth2V_some hm
            split at h
            · rename_i hc
              obtain ⟨rfl, rfl⟩ := hc
              split at h
              · rename_i i ia ib h1 h2 h3
                cases h
                obtain ⟨nst, _, _, pa⟩ := snd_E (T := T) (N := N) (k := k) n _ a ia h2
                obtain ⟨nst2, _, _, pb⟩ := snd_E (T := T) (N := N) (k := k) n _ b ib h3
                have hS2 := star_cons (es := []) (env := X.env) nst2
                have hS := star_cons (es := [b]) (env := X.env) nst
                exact PS.imp (ps_expr (pe_bm PySem.F.plainAttrs_list PySem.F.slot_list_insert PySem.F.type_list_insert mt_ins (pv_nm (pos := p) kn h1) (pa_cons (pa X kn.kn rfl) (pa_cons (pb X kn.kn rfl) pa_nil hS2) hS) rfl (by rw [hS, hS2]; rfl) hln.symm hS (by rw [hS2]; rfl)) rfl) fun _ _ _ => s_ins
              · cases h
            · cases h
          · cases h
  case Raise => cases h; exact ⟨fun _ _ _ _ _ _ h => (s_no h).elim⟩
  case Pass pos => cases h; exact PS.imp ps_pass fun _ _ _ => s_pass
  case Break pos => cases h; exact PS.imp ps_break fun _ _ _ => s_brk
  case Continue pos => cases h; exact PS.imp ps_continue fun _ _ _ => s_cont
theorem snd_S : ∀ n, SS T N k n
  | 0 => fun sc st is h => by simp [cS] at h
  | n + 1 => ss_succ (snd_S n)
end
/-- the text's def at j, as the small language has it -/
structure DefIs (T : Tab) (st : Stmt) (F : Fn) (N ps : List Str) : Prop where
  sc : FnScope N ps (defScope st)
  body : allO ((defBody st).map (cS T N 100 (defScope st))) = some F.body
  np : ps.length = F.np
  n : N.length = F.n
  le : F.np ≤ F.n
section
variable {P : Program} {w : World} {K : PySem.W.Frag} {mg : Str → Option Value} {base : Heap}
theorem get_args {as : List (D × Mo)} {m i : Nat} {d : D} {o : Mo} (h : (as.map some ++ List.replicate m (none : Sl))[i]? = some (some (d, o))) : as[i]? = some (d, o) := by
  by_cases hi : i < as.length
  · rw [List.getElem?_append_left (by simpa using hi), List.getElem?_map] at h
    obtain ⟨x, h1, h2⟩ := map_some h
    cases h2
    exact h1
  · rw [List.getElem?_append_right (by simpa using hi), List.getElem?_replicate] at h
    split at h <;> cases h
theorem get_vals {vs : List V} {m i : Nat} {v : V} (h : (vs.map some ++ List.replicate m (none : Option V))[i]? = some (some v)) : vs[i]? = some v := by
  by_cases hi : i < vs.length
  · rw [List.getElem?_append_left (by simpa using hi), List.getElem?_map] at h
    obtain ⟨x, h1, h2⟩ := map_some h
    cases h2
    exact h1
  · rw [List.getElem?_append_right (by simpa using hi), List.getElem?_replicate] at h
    split at h <;> cases h
theorem def_ok {T : Tab} {x qual : Str} {st : Stmt} {f : Addr} {fd : FuncData} {N ps : List Str} {k : Nat} {F : Fn} {dvs : List V} (FF : FunD K x qual (defArgs st) (defBody st) (defScope st) dvs [] f fd) (D : DefIs T st F N ps)
    (fn : ∀ j f, T.names[j]? = some f → FnAt T P w K mg base k j f) (gl : ∀ x d, T.gls.lookup x = some d → ∃ v u, mg x = some u ∧ RelV v u ∧ ∀ M H, Rep K M H d v)
    (bl : ∀ x ∈ blts, mg x = none) (gc : T.gcd = true → mg "gcd" = some (.builtin "math.gcd")) (cm : T.cmb = true → mg "combinations" = some (.type "itertools.combinations")) : FnG P w K mg base (L2.CX P w) (k + 1) f fd ps (spZ K T.fns (k + 1) F) := by
  refine def_goG FF D.sc (fun vs H Q E h => h.1.trans D.np.symm) (fun cdv A outer s H vs Q E hr h => ?_)
  obtain ⟨hl, M, as, e, h⟩ := h
  have hla : as.length = F.np := by
    have := e.len
    simp only [List.length_map] at this
    omega
  have kn : KnS T N (cxOf (L2.CX P w) P w K mg base N qual (defScope st) f cdv A outer s H E) k :=
    ⟨⟨rfl, hr.rm, hr.no, rfl, D.sc.nd, fn, gl, bl, gc, cm⟩, fun _ => rfl, D.sc.kind, passes_of rfl⟩
  generalize hpin : pinOf as = pin at *
  refine ⟨_, pss_all (snd_S 100) kn rfl pin D.body, ?_⟩
  simp only [fullK, runFull] at h
  rw [if_pos hla, hpin] at h
  have hst : L2.start N vs = vs.map some ++ List.replicate (F.n - F.np) none := by
    unfold L2.start
    rw [D.n, hl]
  have e0 : EnvOk K M H (L2.start N vs) (as.map some ++ List.replicate (F.n - F.np) none) := by
    rw [hst]
    refine ⟨by simp [hl, hla], fun i d m g => ?_, fun i j a n ⟨d1, g1, g2⟩ ⟨d2, m2, g3, g4, g5⟩ => ?_, e.mok⟩
    · have g' := get_args g
      obtain ⟨v, h1, h2⟩ := e.slot i d m (by rw [List.getElem?_map, g']; rfl)
      refine ⟨v, ?_, h2⟩
      have hi := lt_of_get h1
      rw [List.getElem?_append_left hi]
      exact h1
    · refine e.apart i j a n ⟨d1, by rw [List.getElem?_map, get_args g1]; rfl, by rw [List.getElem?_map, get_vals g2]; rfl⟩ ⟨d2, m2, g3, by rw [List.getElem?_map, get_args g4]; rfl, by rw [List.getElem?_map, get_vals g5]; rfl⟩
  -- what the caller gets
  have ownA : ∀ {i a}, OwnAt (L2.start N vs) (as.map some ++ List.replicate (F.n - F.np) none) i a → OwnAt (vs.map some) (as.map some) i a ∧ pin i = true := by
    rintro i a ⟨d, g1, g2⟩
    have g1' := get_args g1
    rw [hst] at g2
    refine ⟨⟨d, by rw [List.getElem?_map, g1']; rfl, by rw [List.getElem?_map, get_vals g2]; rfl⟩, ?_⟩
    rw [← hpin]
    simp only [pinOf, g1']
  have wrA : ∀ a, Wr (L2.start N vs) (as.map some ++ List.replicate (F.n - F.np) none) a → Wr (vs.map some) (as.map some) a := fun a ⟨i, g⟩ => ⟨i, (ownA g).1⟩
  have cstp : ∀ {M' : Mk} {H' : Hp} {σ' : L2.St} {env' : En}, EnvOk K M' H' σ' env' → Stp pin M H (L2.start N vs) (as.map some ++ List.replicate (F.n - F.np) none) M' H' σ' env' →
      CStp K M H as vs ((env'.take F.np).map fun s => s.getD (.non, .frz)) M' H' := by
    intro M' H' σ' env' e' s'
    refine ⟨fun a o g n => s'.heap a o g fun w => n (wrA a w), s'.dom, s'.mold, fun a m n => s'.mkeep a m fun w => n (wrA a w), e'.mok, fun i d v g1 g2 => ?_⟩
    have hi : i < as.length := lt_of_get g1
    have hp : pin i = true := by rw [← hpin]; simp only [pinOf, g1]
    have g0 : (as.map some ++ List.replicate (F.n - F.np) (none : Sl))[i]? = some (some (d, .own)) := by
      rw [List.getElem?_append_left (by simpa using hi), List.getElem?_map, g1]
      rfl
    obtain ⟨t, ht⟩ := s'.pinS i hp ⟨_, g0⟩
    obtain ⟨d', m'⟩ := t
    have hσ : σ'[i]? = some (some v) := by
      rw [s'.pinσ i hp, hst, List.getElem?_append_left (by rw [List.length_map]; exact lt_of_get g2), List.getElem?_map, g2]
      rfl
    obtain ⟨v2, q1, q2⟩ := e'.slot i d' m' ht
    rw [hσ] at q1
    cases q1
    refine ⟨d', m', ?_, fun z => ?_, q2⟩
    · rw [List.getElem?_map, List.getElem?_take_of_lt (by omega), ht]
      rfl
    · subst z
      obtain ⟨d2, q3⟩ := (s'.lck i).mp ⟨d', ht⟩
      rw [g0] at q3
      cases q3
  refine ⟨M, _, e0, ?_⟩
  cases hx : evSs (callK T.fns k) pin F.body (as.map some ++ List.replicate (F.n - F.np) none) with
  | bad => rw [hx] at h; exact h.elim
  | ex => rw [hx] at h; exact h.elim
  | ok fl env1 =>
    rw [hx] at h
    cases fl with
    | bk => exact h.elim
    | ct => exact h.elim
    | nx => exact fun M' H' σ' e' s' => h M' H' .non (cstp e' s') .non
    | rt d fr =>
      intro M' H' σ' v e' s' r'
      refine h M' H' v (cstp e' s') ?_
      cases fr with
      | false => exact r'
      | true =>
        obtain ⟨ds, a, xs, h1, h2, h3, h4, h5, h6⟩ := r'
        refine ⟨ds, a, xs, h1, h2, ?_, h4, h5, h6⟩
        rcases h3 with h3 | ⟨i, p, w⟩
        · exact h3
        · rw [(ownA w).2] at p
          cases p
end
end Z
namespace Z
open PySem PySem.Spec PyProof.Rows L2
structure Ent where
  name : Str
  st : Stmt
  F : Fn
  N : List Str
  ps : List Str
structure EntOk (T : Tab) (K : PySem.W.Frag) (mg : Str → Option Value) (e : Ent) : Prop where
  is : DefIs T e.st e.F e.N e.ps
  ex : ∃ fa fd dvs, mg e.name = some (.ref fa) ∧ FunD K e.name e.name (defArgs e.st) (defBody e.st) (defScope e.st) dvs [] fa fd ∧ (∀ M H, Reps K M H e.F.dv dvs) ∧ ∀ n, n ≤ dvs.length → ∃ ds, Vals (dvs.drop n) ds ∧ Binds K fd e.ps ds
section
variable {P : Program} {w : World} {K : PySem.W.Frag} {mg : Str → Option Value} {base : Heap} {T : Tab}
theorem all_ok (es : List Ent) (hn : T.names = es.map (·.name)) (hf : ∀ j, T.fns j = (es[j]?).map (·.F)) (ok : ∀ e ∈ es, EntOk T K mg e)
    (gl : ∀ x d, T.gls.lookup x = some d → ∃ v u, mg x = some u ∧ RelV v u ∧ ∀ M H, Rep K M H d v) (bl : ∀ x ∈ blts, mg x = none) (gc : T.gcd = true → mg "gcd" = some (.builtin "math.gcd")) (cm : T.cmb = true → mg "combinations" = some (.type "itertools.combinations")) :
    ∀ k j f, T.names[j]? = some f → FnAt T P w K mg base k j f := by
  intro k
  induction k with
  | zero =>
    intro j f h
    rw [hn, List.getElem?_map] at h
    obtain ⟨e, h1, rfl⟩ := map_some h
    obtain ⟨is, fa, fd, dvs, h2, h3, h4, h5⟩ := ok e (List.mem_of_getElem? h1)
    exact ⟨fa, fd, e.ps, e.F, dvs, by rw [hf, h1]; rfl, h2, h3.kp, ⟨fun q => (q.1).trans is.np.symm, fun _ _ _ _ q => q.2.elim fun _ q => q.elim fun _ q => q.2.elim⟩, h4, h5⟩
  | succ k ih =>
    intro j f h
    rw [hn, List.getElem?_map] at h
    obtain ⟨e, h1, rfl⟩ := map_some h
    obtain ⟨is, fa, fd, dvs, h2, h3, h4, h5⟩ := ok e (List.mem_of_getElem? h1)
    exact ⟨fa, fd, e.ps, e.F, dvs, by rw [hf, h1]; rfl, h2, h3.kp, def_ok h3 is ih gl bl gc cm, h4, h5⟩
end
/-- the law's promise, by its run in the small language -/
def spL (K : PySem.W.Frag) (n : Nat) : Sp := fun vs H Q _ => ∃ (a : Addr) (ns : List Int), vs = [.ref a] ∧ SqL K H a (ns.map V.int) ∧ ns.length ≤ n ∧ ∀ H', Q (.bl true) H'
theorem reps_ints {K : PySem.W.Frag} {M : Mk} {H : Hp} : ∀ ns : List Int, Reps K M H (ns.map D.int) (ns.map V.int)
  | [] => .nil
  | n :: ns => .cons (.int n) (reps_ints ns)
theorem law_ok {P : Program} {w : World} {K : PySem.W.Frag} {mg : Str → Option Value} {base : Heap} {T : Tab} {k n : Nat} {F : Fn} {fa : Addr} {fd : FuncData} {ps : List Str}
    (h : FnG P w K mg base (L2.CX P w) k fa fd ps (spZ K T.fns k F)) (hl : ps.length = 1) (hp : F.np = 1)
    (hr : ∀ ns : List Int, ns.length ≤ n → ∃ fr outs, fullK T.fns k F [(.rol (ns.map D.int), .frz)] = .ok (.bl true) fr outs) : FnG P w K mg base (L2.CX P w) k fa fd ps (spL K n) := by
  have key : ∀ vs H Q E, spL K n vs H Q E → spZ K T.fns k F vs H Q E := by
    rintro vs H Q E ⟨a, ns, rfl, hS, hn, q⟩
    refine ⟨by rw [hp]; rfl, fun _ => False, [(.rol (ns.map D.int), .frz)], ⟨rfl, fun i d m g => ?_, fun i j b n1 ⟨d, g, _⟩ _ => ?_, fun _ z => z.elim⟩, ?_⟩
    · cases i with
      | zero =>
        cases g
        refine ⟨.ref a, rfl, .rol ?_ (reps_ints ns)⟩
        rcases hS with (hS | hS) | hS
        · exact .inl ⟨hS, fun z => z⟩
        · exact .inr (.inl hS)
        · exact .inr (.inr hS)
      | succ i => simp at g
    · cases i with
      | zero => cases g
      | succ i => simp at g
    · obtain ⟨fr, outs, e⟩ := hr ns hn
      rw [e]
      intro M' H' v _ r
      have : v = .bl true := by
        cases fr with
        | false => cases (show Rep K M' H' (.bl true) v from r); rfl
        | true => obtain ⟨_, _, _, z, _⟩ := r; cases z
      rw [this]
      exact q H'
  exact h.weak key
end Z
namespace Z
open PySem PySem.Spec PyProof.Rows L2
/-- the end of a law: what the run of the small language says -/
theorem end_ok {P : Program} {w : World} {K : PySem.W.Frag} {mg : Str → Option Value} {h : Heap} {T : Tab} {fa : Addr} (X : K.In h) (G : h.Ns mainGlobals mg) (hfa : mg "law" = some (.ref fa)) (es : List Ent) (hn : T.names = es.map (·.name)) (hf : ∀ j, T.fns j = (es[j]?).map (·.F))
    (ok : ∀ e ∈ es, EntOk T K mg e) (gl : ∀ x d, T.gls.lookup x = some d → ∃ v u, mg x = some u ∧ RelV v u ∧ ∀ M H, Rep K M H d v) (bl : ∀ x ∈ blts, mg x = none) (gc : T.gcd = true → mg "gcd" = some (.builtin "math.gcd")) (cm : T.cmb = true → mg "combinations" = some (.type "itertools.combinations"))
    {j : Nat} {e : Ent} (hj : es[j]? = some e) (he : e.name = "law") (hp : e.ps = ([("script" : Str)] : List Str)) (hnp : e.F.np = 1) (hdv : e.F.dv = [])
    (hb : ∀ (kV doc pm : Value) (an : Option Addr) (cdv ct : Value) (us : List Value), us.length = 1 → bindArgs (PySem.W.fnOf e.name e.name (defArgs e.st) (defBody e.st) (defScope e.st) .none kV doc pm an cdv ct) ⟨us, []⟩ = pure (([("script" : Str)] : List Str).zip us))
    (k n : Nat) (hr : ∀ ns : List Int, ns.length ≤ n → ∃ fr outs, fullK T.fns k e.F [(.rol (ns.map D.int), .frz)] = .ok (.bl true) fr outs) :
    ∃ fd : FuncData, (∀ (s : Shared) (v : Value), BindsTo s fd ⟨[v], []⟩ [("script", v)]) ∧ ∀ base : Heap, K.In base → base.Ns mainGlobals mg → FnG P w K mg base (L2.CX P w) k fa fd ["script"] (spL K n) := by
  obtain ⟨is, fa', fd, dvs, h2, h3, h4, h5⟩ := ok e (List.mem_of_getElem? hj)
  rw [he, hfa] at h2
  cases h2
  have hd0 : dvs = [] := by
    have := (h4 (fun _ => False) (fun _ => none)).length
    rw [hdv] at this
    exact List.eq_nil_of_length_eq_zero this.symm
  subst hd0
  refine ⟨fd, fun s v => ?_, fun base hK hG => ?_⟩
  · have := h3.bindsA (ps := ([("script" : Str)] : List Str)) hb s [v] rfl
    exact this
  · have hall := all_ok (P := P) (w := w) (base := base) es hn hf ok gl bl gc cm
    cases k with
    | zero =>
      exfalso
      obtain ⟨fr, outs, e2⟩ := hr [] (Nat.zero_le _)
      simp [fullK] at e2
    | succ k =>
      have := def_ok (P := P) (w := w) (base := base) h3 is (hall k) gl bl gc cm
      rw [hp] at this
      exact law_ok this rfl hnp hr
theorem CX_no {P : Program} {w : World} {H : Hp} {s : Shared} {e : Value} {s' : Shared} (h : L2.CX P w [] H s (fun _ _ _ => False) e s') : False := by
  obtain ⟨_, _, _, _, _, _, _, _, _, _, _, _, z⟩ := h
  exact z.elim
/-- a constant tuple of the top, item by item -/
inductive RVals (K : PySem.W.Frag) : List Value → List D → Prop
  | nil : RVals K [] []
  | cons {u : Value} {us : List Value} {d : D} {ds : List D} (v : V) (h : RelV v u) (r : ∀ M H, Rep K M H d v) (t : RVals K us ds) : RVals K (u :: us) (d :: ds)
theorem RVals.get {K : PySem.W.Frag} : ∀ {us : List Value} {ds : List D}, RVals K us ds → ∃ xs, Vals xs us ∧ ∀ M H, Reps K M H ds xs
  | _, _, .nil => ⟨[], .nil, fun _ _ => .nil⟩
  | _, _, .cons v h r t => by
    obtain ⟨xs, h1, h2⟩ := t.get
    exact ⟨v :: xs, .cons h h1, fun M H => .cons (r M H) (h2 M H)⟩
theorem rep_tupN {K : PySem.W.Frag} {t : Addr} {o : Obj} {ds : List D} {us : List Value} {n : Nat} (l : K.lookup t = some o) (hc : o.cls = .type "tuple") (hd : o.data = .seq us.toArray n) (hs : us.length ≤ 1000) (r : RVals K us ds) : ∀ M H, Rep K M H (.tup ds) (.ref t) := by
  obtain ⟨xs, h1, h2⟩ := r.get
  refine fun M H => .tup (.inr ⟨o, us.toArray, n, l, hc, hd, ?_, by simpa using h1⟩) (h2 M H)
  rw [List.size_toArray]
  exact Nat.le_trans hs (by decide)
end Z
namespace Z
open PySem
theorem lookup_ne {x y : Str} {v d : D} {l : List (Str × D)} (h : ¬ x = y) (hx : List.lookup x ((y, v) :: l) = some d) : List.lookup x l = some d := by
  rw [List.lookup_cons] at hx
  have : (x == y) = false := by simpa using h
  rw [this] at hx
  exact hx
theorem lookup_eq {x : Str} {v d : D} {l : List (Str × D)} (hx : List.lookup x ((x, v) :: l) = some d) : d = v := by
  rw [List.lookup_cons] at hx
  simp at hx
  exact hx.symm
end Z
namespace Z
open PySem PySem.Spec PyProof.Rows L2
def outOf (n : Nat) : Out Fl → CR
  | .ok (.rt d fr) env => .ok d fr ((env.take n).map fun s => s.getD (.non, .frz))
  | .ok .nx env => .ok .non false ((env.take n).map fun s => s.getD (.non, .frz))
  | _ => .bad
theorem callK_fn {T : Nat → Option Fn} {k f : Nat} {F : Fn} {as : List (D × Mo)} (h : T f = some F) : callK T (k + 1) f as = runFull (callK T k) F (withDv F as) := by
  show (match T f with | some F => runFull (callK T k) F (withDv F as) | none => .bad) = _
  rw [h]
theorem runFull_eq {C : Cl} {F : Fn} {bs : List (D × Mo)} (h : bs.length = F.np) : runFull C F bs = outOf F.np (evSs C (pinOf bs) F.body (bs.map some ++ List.replicate (F.n - F.np) none)) := by
  unfold runFull
  rw [if_pos h]
  unfold outOf
  cases evSs C (pinOf bs) F.body (bs.map some ++ List.replicate (F.n - F.np) none) with
  | ok fl e => cases fl <;> rfl
  | ex x e => rfl
  | bad => rfl
theorem callK_un {T : Nat → Option Fn} {k f : Nat} {F : Fn} {as bs : List (D × Mo)} (h : T f = some F) (hb : withDv F as = bs) (hl : bs.length = F.np) : callK T (k + 1) f as = outOf F.np (evSs (callK T k) (pinOf bs) F.body (bs.map some ++ List.replicate (F.n - F.np) none)) := by
  rw [callK_fn h, hb, runFull_eq hl]
theorem szp (n : Nat) (h : n ≤ 1000000) : n ≤ sizeLine := by rw [sizeLine_eq]; omega
theorem szl (n : Nat) (h : n < 1000000) : n < sizeLine := by rw [sizeLine_eq]; omega
end Z
namespace Z
open PySem PySem.Spec PyProof.Rows L2
section
variable {C : Cl} {pin : Nat → Bool} {env e1 e2 e3 : En} {d d' : D} {fr fr' : Bool} {i j : Nat} {p q : Pr} {as : List IA} {l : List PV} {ds ds' : List D} {e a b c : IE} {es : List IE} {m : Mo} {v : D × Mo} {s : IS} {ss sa sb : List IS} {fl : Fl}
theorem x_lk {s : Sl} (h : env[i]? = some s) : env[i]? = some s := h
theorem x_st {s : Sl} (h : env.set i s = e1) : env.set i s = e1 := h
theorem x_varf (h : env[i]? = some (some (d, .frz))) : evE C (.var i) env = .ok (d, false) env := by
  simp only [evE, getV, h]
theorem x_varo (h : env[i]? = some (some (d, .own))) (h2 : env.set i (some (d, .frz)) = e1) : evE C (.var i) env = .ok (d, false) e1 := by
  subst h2
  simp only [evE, getV, h]
theorem x_cst : evE C (.cst d) env = .ok (d, false) env := by simp only [evE]
theorem x_op (h1 : evAs C as env = .ok l e1) (h2 : fill e1 l = some ds) (h3 : prB p ds = some (d, fr)) : evE C (.op p as) env = .ok (d, fr) e1 := by
  simp only [evE, h1, h2, h3, Out.bind_ok, lift_some]
theorem x_call {f : Nat} (h1 : evAs C as env = .ok l e1) (h2 : doCall C f l e1 = .ok (d, fr) e2) : evE C (.call f as) env = .ok (d, fr) e2 := by
  simp only [evE, h1, h2, Out.bind_ok]
theorem x_tup (h1 : evEs C es env = .ok ds e1) (h2 : ds.length ≤ sizeLine) : evE C (.tup es) env = .ok (.tup ds, false) e1 := by
  simp only [evE, h1, h2, Out.bind_ok, if_true]
theorem x_lst (h1 : evEs C es env = .ok ds e1) (h2 : ds.length ≤ sizeLine) : evE C (.lst es) env = .ok (.lst ds, true) e1 := by
  simp only [evE, h1, h2, Out.bind_ok, if_true]
theorem x_not {k : Bool} (h1 : evE C a env = .ok (.bl k, fr') e1) : evE C (.not a) env = .ok (.bl (!k), false) e1 := by
  simp only [evE, h1, Out.bind_ok]
theorem x_at (h : env[i]? = some (some v)) : evA C (.at i) env = .ok (.at i) env := by
  simp only [evA, peek, h]
theorem x_val (h : evE C e env = .ok (d, fr) e1) : evA C (.val e) env = .ok (.val d) e1 := by
  simp only [evA, h, Out.bind_ok]
theorem x_as0 : evAs C [] env = .ok [] env := by simp only [evAs]
theorem x_as {a : IA} {pv : PV} (h1 : evA C a env = .ok pv e1) (h2 : evAs C as e1 = .ok l e2) : evAs C (a :: as) env = .ok (pv :: l) e2 := by
  simp only [evAs, h1, h2, Out.bind_ok]
theorem x_es0 : evEs C [] env = .ok [] env := by simp only [evEs]
theorem x_es (h1 : evE C e env = .ok (d, fr) e1) (h2 : evEs C es e1 = .ok ds e2) : evEs C (e :: es) env = .ok (d :: ds) e2 := by
  simp only [evEs, h1, h2, Out.bind_ok]
theorem x_fill0 : fill env [] = some [] := rfl
theorem x_fillv (h : fill env l = some ds) : fill env (.val d :: l) = some (d :: ds) := by
  simp only [fill, fill1, h]
theorem x_filla (h0 : env[i]? = some (some (d, m))) (h : fill env l = some ds) : fill env (.at i :: l) = some (d :: ds) := by
  simp only [fill, fill1, h0, h]
theorem x_argv0 : argv env [] = some [] := rfl
theorem x_argvv {l' : List (D × Mo)} (h : argv env l = some l') : argv env (.val d :: l) = some ((d, .frz) :: l') := by
  simp only [argv, argv1, h]
theorem x_argva {l' : List (D × Mo)} (h0 : env[i]? = some (some (d, m))) (h : argv env l = some l') : argv env (.at i :: l) = some ((d, m) :: l') := by
  simp only [argv, argv1, h0, h]
theorem x_own0 : ownIx env [] = [] := rfl
theorem x_ownv (h : ownIx env l = []) : ownIx env (.val d :: l) = [] := h
theorem x_owna (h0 : env[i]? = some (some (d, .frz))) (h : ownIx env l = []) : ownIx env (.at i :: l) = [] := by
  simp only [ownIx, h0, h]
theorem wb_no {os : List (D × Mo)} : ∀ {l : List PV} {os : List (D × Mo)} {e : En}, ownIx env l = [] → wb env l os e = e
  | [], _, _, _ => by simp only [wb]
  | .val d :: l, [], _, h => by simp only [wb]
  | .val d :: l, o :: os, e, h => by
    simp only [wb]
    exact wb_no (os := os) h
  | .at i :: l, [], _, h => by simp only [wb]
  | .at i :: l, o :: os, e, h => by
    simp only [wb]
    simp only [ownIx] at h
    split at h
    · cases h
    · rename_i hx
      exact wb_no (os := os) h
theorem x_do0 {f : Nat} {l' os : List (D × Mo)} (h1 : ownIx env l = []) (h2 : argv env l = some l') (h3 : C f l' = .ok d fr os) : doCall C f l env = .ok (d, fr) env := by
  simp only [doCall, h1, h2, h3, List.nodup_nil, if_true]
  rw [wb_no (os := os) h1]
theorem x_do1 {f : Nat} {l' os : List (D × Mo)} {o : D × Mo} (h0 : env[i]? = some (some (d', .own))) (h1 : ownIx env l = []) (h2 : argv env l = some l') (h3 : C f ((d', .own) :: l') = .ok d fr (o :: os)) (h4 : env.set i (some o) = e1) : doCall C f (.at i :: l) env = .ok (d, fr) e1 := by
  subst h4
  simp only [doCall, ownIx, argv, argv1, wb, h0, h1, h2, h3, List.nodup_cons, List.nodup_nil, List.not_mem_nil, not_false_eq_true, and_self, if_true]
  rw [wb_no (os := os) h1]
theorem x_T {A : IA} {pv : PV} {k : Bool} (h1 : evA C A env = .ok pv e1) (h2 : fill1 e1 pv = some d) (h3 : truthy d = some k) : evT C (.val A) env = .ok k e1 := by
  simp only [evT, h1, h2, h3, Out.bind_ok, lift_some]
theorem x_Tnot {c : IT} {k k' : Bool} (h1 : evT C c env = .ok k e1) (h2 : (!k) = k') : evT C (.not c) env = .ok k' e1 := by
  subst h2
  simp only [evT, h1, Out.bind_ok]
theorem x_f1v : fill1 env (.val d) = some d := rfl
theorem x_f1a (h0 : env[i]? = some (some (d, m))) : fill1 env (.at i) = some d := by
  simp only [fill1, h0]
theorem x_tr {k : Bool} : truthy (.bl k) = some k := rfl
theorem x_rng {i j : Int} (h1 : evE C a env = .ok (.int i, fr) e1) (h2 : evE C b e1 = .ok (.int j, fr') e2) (h3 : -(2 ^ 62) ≤ i ∧ i < 2 ^ 62 ∧ -(2 ^ 62) ≤ j ∧ j < 2 ^ 62) : evI C (.range a b) env = .ok (rangeD i (j - i).toNat, none) e2 := by
  simp only [evI, h1, h2, Out.bind_ok]
  rw [if_pos h3]
def isLck : Sl → Bool
  | some (_, .lck) => true
  | _ => false
theorem k_n : isLck none = false := rfl
theorem k_f : isLck (some (d, .frz)) = false := rfl
theorem k_o : isLck (some (d, .own)) = false := rfl
theorem x_pin {bs : List (D × Mo)} (h : pinOf bs i = false) : pinOf bs i = false := h
theorem x_setf {s : Sl} (h0 : env[i]? = some s) (h1 : isLck s = false) (h2 : pin i = false) (h3 : env.set i (some (d, .frz)) = e1) : setS pin i d false env = .ok () e1 := by
  subst h3
  unfold setS
  rw [h0]
  match s, h1 with
  | none, _ => simp only [h2, if_false, Bool.false_eq_true]
  | some (_, .frz), _ => simp only [h2, if_false, Bool.false_eq_true]
  | some (_, .own), _ => simp only [h2, if_false, Bool.false_eq_true]
theorem x_sett {s : Sl} (h0 : env[i]? = some s) (h1 : isLck s = false) (h2 : pin i = false) (h3 : env.set i (some (d, .own)) = e1) : setS pin i d true env = .ok () e1 := by
  subst h3
  unfold setS
  rw [h0]
  match s, h1 with
  | none, _ => simp only [h2, if_false, if_true, Bool.false_eq_true]
  | some (_, .frz), _ => simp only [h2, if_false, if_true, Bool.false_eq_true]
  | some (_, .own), _ => simp only [h2, if_false, if_true, Bool.false_eq_true]
theorem x_all0 : setAll pin [] [] env = .ok () env := rfl
theorem x_all {is : List Nat} (h1 : setS pin i d false env = .ok () e1) (h2 : setAll pin is ds e1 = .ok () e2) : setAll pin (i :: is) (d :: ds) env = .ok () e2 := by
  simp only [setAll, h1, h2, Out.bind_ok]
theorem x_set (h1 : evE C e env = .ok (d, fr) e1) (h2 : setS pin i d fr e1 = .ok () e2) : evS C pin (.set i e) env = .ok .nx e2 := by
  simp only [evS, h1, h2, Out.bind_ok]
theorem x_unp {is : List Nat} (h1 : evE C e env = .ok (.tup ds, fr) e1) (h2 : setAll pin is ds e1 = .ok () e2) : evS C pin (.unp is e) env = .ok .nx e2 := by
  simp only [evS, h1, setG, h2, Out.bind_ok]
theorem x_par {is : List Nat} (h1 : evEs C es env = .ok ds e1) (h2 : setAll pin is ds e1 = .ok () e2) : evS C pin (.par is es) env = .ok .nx e2 := by
  simp only [evS, h1, h2, Out.bind_ok]
theorem x_setix {k w : IE} {n : Nat} {j : Int} {v : D × Mo} (h1 : evE C w env = .ok (d, fr) e1) (h2 : e1[i]? = some (some v)) (h3 : evE C k e1 = .ok (.int j, fr') e2) (h4 : e2[i]? = some (some (.lst ds, .own))) (h5 : ixN ds.length j = some n) (h6 : e2.set i (some (.lst (ds.set n d), .own)) = e3) : evS C pin (.setix i k w) env = .ok .nx e3 := by
  subst h6
  simp only [evS, h1, peek, h2, h3, h4, h5, Out.bind_ok]
theorem x_app (h0 : env[i]? = some (some (.lst ds', m))) (h1 : evE C e env = .ok (d, fr) e1) (h2 : e1[i]? = some (some (.lst ds, .own))) (h3 : ds.length < sizeLine) (h4 : e1.set i (some (.lst (ds ++ [d]), .own)) = e2) : evS C pin (.app i e) env = .ok .nx e2 := by
  subst h4
  simp only [evS, h0, h1, h2, h3, Out.bind_ok, if_true]
theorem x_ret (h1 : evE C e env = .ok (d, fr) e1) : evS C pin (.ret e) env = .ok (.rt d fr) e1 := by
  simp only [evS, h1, Out.bind_ok]
theorem x_retvo (h : env[i]? = some (some (d, .own))) (hp : pin i = false) (h4 : env.set i none = e1) : evS C pin (.retv i) env = .ok (.rt d true) e1 := by
  subst h4
  simp only [evS, h, hp, if_false, Bool.false_eq_true]
theorem x_retvf (h : env[i]? = some (some (d, .frz))) : evS C pin (.retv i) env = .ok (.rt d false) env := by
  simp only [evS, h]
theorem x_ss0 : evSs C pin [] env = .ok .nx env := by simp only [evSs]
theorem x_ss (h1 : evS C pin s env = .ok .nx e1) (h2 : evSs C pin ss e1 = .ok fl e2) : evSs C pin (s :: ss) env = .ok fl e2 := by
  simp only [evSs, h1, h2, Out.bind_ok]
theorem x_stop (h1 : evS C pin s env = .ok (.rt d fr) e1) : evSs C pin (s :: ss) env = .ok (.rt d fr) e1 := by
  simp only [evSs, h1, Out.bind_ok]
theorem x_fn {T : Nat → Option Fn} {k f np n : Nat} {dv : List D} {body : List IS} {as bs outs : List (D × Mo)} (h : T f = some ⟨np, dv, n, body⟩) (hb : withDv ⟨np, dv, n, body⟩ as = bs) (hl : bs.length = np) (he : bs.map some ++ List.replicate (n - np) none = env) (h1 : evSs (callK T k) (pinOf bs) body env = .ok (.rt d fr) e1) (ho : (e1.take np).map (fun s => s.getD (.non, .frz)) = outs) : callK T (k + 1) f as = .ok d fr outs := by
  subst ho
  subst he
  rw [callK_un h hb hl, h1]
  rfl
theorem q_add {i j : Int} : prB .add [.int i, .int j] = some (.int (i + j), false) := rfl
theorem q_sub {i j : Int} : prB .sub [.int i, .int j] = some (.int (i - j), false) := rfl
theorem q_neg {i : Int} : prB .neg [.int i] = some (.int (-i), false) := rfl
theorem q_gcd {i j : Int} : prB .gcd [.int i, .int j] = some (.int ((Nat.gcd i.natAbs j.natAbs : Nat) : Int), false) := rfl
theorem q_int {i : Int} : prB .int [.int i] = some (.int i, false) := rfl
theorem q_abs {i : Int} : prB .abs [.int i] = some (.int (if i < 0 then -i else i), false) := rfl
theorem q_lt {i j : Int} : prB .lt [.int i, .int j] = some (.bl (decide (i < j)), false) := rfl
theorem q_le {i j : Int} : prB .le [.int i, .int j] = some (.bl (decide (i ≤ j)), false) := rfl
theorem q_gt {i j : Int} : prB .gt [.int i, .int j] = some (.bl (decide (j < i)), false) := rfl
theorem q_ge {i j : Int} : prB .ge [.int i, .int j] = some (.bl (decide (j ≤ i)), false) := rfl
theorem eqv_int (i j : Int) : D.eqv (.int i) (.int j) = decide (i = j) := by
  unfold D.eqv toP
  simp only [PyData.eqv]
  by_cases h : i = j <;> simp [h]
theorem eqv_bl (i j : Bool) : D.eqv (.bl i) (.bl j) = (i == j) := by
  unfold D.eqv toP
  cases i <;> cases j <;> rfl
theorem q_eq {i j : Int} : prB .eq [.int i, .int j] = some (.bl (decide (i = j)), false) := by
  rw [← eqv_int]
  rfl
theorem q_ne {i j : Int} : prB .ne [.int i, .int j] = some (.bl (!decide (i = j)), false) := by
  rw [← eqv_int]
  rfl
/-- a factor of a multiplication that is small enough -/
def Sm (i : Int) : Prop := i.natAbs < 2 ^ 64
theorem q_mul {i j : Int} (h : CMulZ i j) : prB .mul [.int i, .int j] = some (.int (i * j), false) := by
  show (if _ then _ else _) = _
  exact if_pos h
theorem q_fdiv {i j : Int} (h : 0 < j) (h2 : Sm j) : prB .fdiv [.int i, .int j] = some (.int (i / j), false) := by
  have h3 : j.natAbs.log2 < 9000 := by
    have := (Nat.log2_lt (n := j.natAbs) (k := 64) (by omega)).2 h2
    omega
  exact if_pos ⟨h, h3⟩
theorem q_mod {i j : Int} (h : 0 < j) : prB .mod [.int i, .int j] = some (.int (i % j), false) := by
  show (if _ then _ else _) = _
  rw [if_pos h]
theorem q_pow {i j : Int} (h : 0 ≤ j ∧ j ≤ 1000000 ∧ i.natAbs < 2 ^ 64) : prB .pow [.int i, .int j] = some (.int (i ^ j.toNat), false) := by
  show (if _ then _ else _) = _
  rw [if_pos h]
theorem q_ixt {i : Int} (h : atI ds i = some d) : prB .ix [.tup ds, .int i] = some (d, false) := by
  show (atI ds i).map _ = _
  rw [h]
  rfl
theorem q_ixl {i : Int} (h : atI ds i = some d) : prB .ix [.lst ds, .int i] = some (d, false) := by
  show (atI ds i).map _ = _
  rw [h]
  rfl
theorem q_ixr {i : Int} (h : atI ds i = some d) : prB .ix [.rol ds, .int i] = some (d, false) := by
  show (atI ds i).map _ = _
  rw [h]
  rfl
theorem q_lenl : prB .len [.lst ds] = some (.int ds.length, false) := rfl
theorem q_lent : prB .len [.tup ds] = some (.int ds.length, false) := rfl
theorem q_lenr : prB .len [.rol ds] = some (.int ds.length, false) := rfl
theorem q_isi {T : Ty5} {k : Bool} (h : isiD d T = some k) : prB (.isi T) [d] = some (.bl k, false) := by
  show (isiD d T).map _ = _
  rw [h]
  rfl
theorem at_ix0 : atI (d :: ds) 0 = some d := by
  simp [atI, ixN]
theorem at_ix1 {x : D} : atI (x :: d :: ds) 1 = some d := by
  simp [atI, ixN]
  rw [if_pos (by omega)]
  rfl
end
end Z
namespace Z
open PySem PySem.Spec PyProof.Rows L2
def bl (n : Nat) : Nat := if n = 0 then 0 else n.log2 + 1
theorem bl_le {n k : Nat} : bl n ≤ k ↔ n < 2 ^ k := by
  unfold bl
  split
  · rename_i h
    subst h
    exact ⟨fun _ => Nat.two_pow_pos k, fun _ => Nat.zero_le _⟩
  · rename_i h
    rw [← Nat.log2_lt h]
    omega
theorem lt_bl (n : Nat) : n < 2 ^ bl n := bl_le.mp (Nat.le_refl _)
theorem bl_mono {m n : Nat} (h : m ≤ n) : bl m ≤ bl n := bl_le.mpr (Nat.lt_of_le_of_lt h (lt_bl n))
theorem bl_mul (m n : Nat) : bl (m * n) ≤ bl m + bl n := by
  rw [bl_le, Nat.pow_add]
  exact Nat.mul_lt_mul'' (lt_bl m) (lt_bl n)
theorem bl_add {m n k : Nat} (h1 : bl m ≤ k) (h2 : bl n ≤ k) : bl (m + n) ≤ k + 1 := by
  rw [bl_le] at *
  rw [Nat.pow_succ]
  omega
def bi (i : Int) : Nat := bl i.natAbs
theorem bi_neg (i : Int) : bi (-i) = bi i := by unfold bi; rw [Int.natAbs_neg]
theorem bi_abs (i : Int) : bi (if i < 0 then -i else i) = bi i := by split <;> simp [bi_neg]
theorem bi_mul (i j : Int) : bi (i * j) ≤ bi i + bi j := by
  unfold bi
  rw [Int.natAbs_mul]
  exact bl_mul _ _
theorem bi_add {i j : Int} {k : Nat} (h1 : bi i ≤ k) (h2 : bi j ≤ k) : bi (i + j) ≤ k + 1 := Nat.le_trans (bl_mono (Int.natAbs_add_le i j)) (bl_add h1 h2)
theorem bi_sub {i j : Int} {k : Nat} (h1 : bi i ≤ k) (h2 : bi j ≤ k) : bi (i - j) ≤ k + 1 := by
  rw [Int.sub_eq_add_neg]
  exact bi_add h1 (by rw [bi_neg]; exact h2)
theorem bi_le {i : Int} {k : Nat} (h1 : -(2 ^ k) < i) (h2 : i < 2 ^ k) : bi i ≤ k := by
  unfold bi
  rw [bl_le]
  have : ((i.natAbs : Nat) : Int) < ((2 ^ k : Nat) : Int) := by
    rw [Int.natCast_pow]
    show _ < (2 : Int) ^ k
    omega
  omega
theorem CMulZ.bits {i j : Int} (h : bi i + bi j ≤ 1000000) : CMulZ i j := by
  refine .inr (.inr ?_)
  unfold bi bl at h
  have e0 : Nat.log2 0 = 0 := by decide
  split at h <;> split at h <;> simp_all <;> omega
theorem CMulZ.left {i j : Int} (h : bi i ≤ 64) : CMulZ i j := .inl (bl_le.mp h)
theorem CMulZ.right {i j : Int} (h : bi j ≤ 64) : CMulZ i j := .inr (.inl (bl_le.mp h))
theorem log2_of_bi {j : Int} (h : bi j ≤ 8000) : j.natAbs.log2 < 9000 := by
  unfold bi bl at h
  split at h
  · rename_i q; rw [q]; decide
  · omega
def sz (q : Rat) : Nat := max (bi q.num) (bl q.den)
theorem sz_num (q : Rat) : bi q.num ≤ sz q := Nat.le_max_left _ _
theorem sz_den (q : Rat) : bi (q.den : Int) ≤ sz q := Nat.le_max_right _ _
theorem natAbs_sign_mul (a b : Int) (h : b ≠ 0) : (b.sign * a).natAbs = a.natAbs := by
  rw [Int.natAbs_mul, Int.natAbs_sign_of_ne_zero h, Nat.one_mul]
theorem sz_divInt {a b : Int} {k : Nat} (hb0 : b ≠ 0) (ha : bi a ≤ k) (hb : bi b ≤ k) : sz (Rat.divInt a b) ≤ k := by
  unfold sz
  rw [Rat.num_divInt, Rat.den_divInt, if_neg hb0]
  refine Nat.max_le.mpr ⟨?_, ?_⟩
  · refine Nat.le_trans (bl_mono ?_) ha
    refine Nat.le_trans (Int.natAbs_ediv_le_natAbs _ _) ?_
    rw [natAbs_sign_mul a b hb0]
    exact Nat.le_refl _
  · exact Nat.le_trans (bl_mono (Nat.div_le_self _ _)) hb
theorem den_ne (q : Rat) : (q.den : Int) ≠ 0 := by
  have := q.den_nz
  omega
theorem mul_den_ne (p q : Rat) : (p.den : Int) * q.den ≠ 0 := Int.mul_ne_zero (den_ne p) (den_ne q)
theorem add_divInt (p q : Rat) : p + q = Rat.divInt (p.num * q.den + q.num * p.den) (p.den * q.den) := by
  rw [Rat.add_def', ← Rat.divInt_ofNat]
  rfl
theorem sub_divInt (p q : Rat) : p - q = Rat.divInt (p.num * q.den - q.num * p.den) (p.den * q.den) := by
  rw [Rat.sub_def', ← Rat.divInt_ofNat]
  rfl
theorem mul_divInt (p q : Rat) : p * q = Rat.divInt (p.num * q.num) (p.den * q.den) := by
  rw [Rat.mul_def', ← Rat.divInt_ofNat]
  rfl
theorem div_divInt (p q : Rat) : p / q = Rat.divInt (p.num * q.den) (p.den * q.num) := by
  rw [Rat.div_def, Rat.inv_def]
  conv => lhs; rw [← Rat.num_divInt_den p]
  rw [Rat.divInt_mul_divInt]
theorem sz_add (p q : Rat) : sz (p + q) ≤ sz p + sz q + 1 := by
  rw [add_divInt]
  have h1 := sz_num p
  have h2 := sz_den p
  have h3 := sz_num q
  have h4 := sz_den q
  have e1 := bi_mul p.num q.den
  have e2 := bi_mul q.num p.den
  have e3 := bi_mul p.den q.den
  exact sz_divInt (mul_den_ne p q) (bi_add (by omega) (by omega)) (by omega)
theorem sz_sub (p q : Rat) : sz (p - q) ≤ sz p + sz q + 1 := by
  rw [sub_divInt]
  have h1 := sz_num p
  have h2 := sz_den p
  have h3 := sz_num q
  have h4 := sz_den q
  have e1 := bi_mul p.num q.den
  have e2 := bi_mul q.num p.den
  have e3 := bi_mul p.den q.den
  exact sz_divInt (mul_den_ne p q) (bi_sub (by omega) (by omega)) (by omega)
theorem sz_mul (p q : Rat) : sz (p * q) ≤ sz p + sz q := by
  rw [mul_divInt]
  have h1 := sz_num p
  have h2 := sz_den p
  have h3 := sz_num q
  have h4 := sz_den q
  have e1 := bi_mul p.num q.num
  have e3 := bi_mul p.den q.den
  exact sz_divInt (mul_den_ne p q) (by omega) (by omega)
theorem num_ne {q : Rat} (h : q ≠ 0) : q.num ≠ 0 := fun e => h (Rat.num_eq_zero.mp e)
theorem sz_div {p q : Rat} (h : q ≠ 0) : sz (p / q) ≤ sz p + sz q := by
  rw [div_divInt]
  have h1 := sz_num p
  have h2 := sz_den p
  have h3 := sz_num q
  have h4 := sz_den q
  have e1 := bi_mul p.num q.den
  have e3 := bi_mul p.den q.num
  exact sz_divInt (Int.mul_ne_zero (den_ne p) (num_ne h)) (by omega) (by omega)
theorem sz_neg (p : Rat) : sz (-p) = sz p := by
  unfold sz
  rw [Rat.neg_num, Rat.neg_den, bi_neg]
def fr (q : Rat) : D := .tup [.int q.num, .int (q.den : Int)]
abbrev gz (a b : Int) : Int := ((Nat.gcd a.natAbs b.natAbs : Nat) : Int)
theorem gz_pos {a b : Int} (h : b ≠ 0) : 0 < gz a b := by
  have : 0 < Nat.gcd a.natAbs b.natAbs := Nat.gcd_pos_of_pos_right _ (by omega)
  unfold gz
  omega
theorem gz_le {a b : Int} (h : b ≠ 0) : gz a b ≤ b.natAbs := by
  have := Nat.gcd_le_right a.natAbs (n := b.natAbs) (by omega)
  unfold gz
  omega
theorem bi_gz {a b : Int} (h : b ≠ 0) : bi (gz a b) ≤ bi b := by
  refine bl_mono ?_
  have := gz_le (a := a) h
  have h2 : (gz a b).natAbs = Nat.gcd a.natAbs b.natAbs := rfl
  unfold gz at this
  omega
theorem fr_divInt (n d : Int) (h : 0 < d) : D.tup [.int (n / gz n d), .int (d / gz n d)] = fr (Rat.divInt n d) := by
  unfold fr
  rw [Rat.num_divInt, Rat.den_divInt, if_neg (by omega), Int.sign_eq_one_of_pos h, Int.one_mul]
  have e1 : gz n d = ((Int.gcd d n : Nat) : Int) := by
    unfold gz Int.gcd
    rw [Nat.gcd_comm]
  rw [e1, Int.natCast_ediv]
  have e2 : ((d.natAbs : Nat) : Int) = d := by omega
  rw [e2]
theorem fr_divInt_neg (n d : Int) (h : d < 0) : D.tup [.int (-n / gz (-n) (-d)), .int (-d / gz (-n) (-d))] = fr (Rat.divInt n d) := by
  rw [fr_divInt (-n) (-d) (by omega), Rat.neg_divInt_neg]
theorem q_f0 {q : Rat} : prB .ix [fr q, .int 0] = some (.int q.num, false) := q_ixt at_ix0
theorem q_f1 {q : Rat} : prB .ix [fr q, .int 1] = some (.int (q.den : Int), false) := q_ixt at_ix1
theorem eqv_fr (p q : Rat) : (fr p).eqv (fr q) = decide (p = q) := by
  have e : (fr p).eqv (fr q) = (decide (p.num = q.num) && decide ((p.den : Int) = q.den)) := by
    unfold D.eqv fr toP
    simp only [toPs, toP, PyData.eqv, PyData.eqvAll, Bool.and_true]
    congr 1 <;> (rw [Bool.eq_iff_iff]; simp)
  rw [e, Bool.eq_iff_iff]
  simp only [Bool.and_eq_true, decide_eq_true_eq]
  refine ⟨fun ⟨h1, h2⟩ => Rat.ext h1 (by omega), fun h => by rw [h]; exact ⟨rfl, rfl⟩⟩
theorem q_eqf {p q : Rat} : prB .eq [fr p, fr q] = some (.bl (decide (p = q)), false) := by rw [← eqv_fr]; rfl
theorem q_nef {p q : Rat} : prB .ne [fr p, fr q] = some (.bl (!decide (p = q)), false) := by rw [← eqv_fr]; rfl
def eu : Nat → Nat → Nat → Nat × Nat
  | 0, a, b => (a, b)
  | n + 1, a, b => if 0 < b then eu n b (a % b) else eu n a b
theorem eu_zero : ∀ n a, eu n a 0 = (a, 0)
  | 0, _ => rfl
  | n + 1, a => by simp only [eu, Nat.lt_irrefl, if_false]; exact eu_zero n a
theorem eu_gcd : ∀ (m a b n : Nat), b < 2 ^ m → 2 * m ≤ n → eu n a b = (Nat.gcd a b, 0)
  | 0, a, b, n, h, _ => by
    have : b = 0 := by simpa using h
    subst this
    rw [eu_zero, Nat.gcd_zero_right]
  | m + 1, a, b, n, h, hn => by
    obtain ⟨n, rfl⟩ : ∃ k, n = k + 2 := ⟨n - 2, by omega⟩
    by_cases hb : 0 < b
    · by_cases hc : 0 < a % b
      · have h1 : b % (a % b) < a % b := Nat.mod_lt _ hc
        have h2 : a % b < b := Nat.mod_lt _ hb
        have h3 : b % (a % b) + (a % b) ≤ b := by
          have e := Nat.div_add_mod b (a % b)
          have : 1 ≤ b / (a % b) := (Nat.one_le_div_iff hc).mpr (by omega)
          have : a % b * 1 ≤ a % b * (b / (a % b)) := Nat.mul_le_mul_left _ this
          omega
        have h4 : b % (a % b) < 2 ^ m := by rw [Nat.pow_succ] at h; omega
        simp only [eu, hb, hc, if_true]
        rw [eu_gcd m _ _ n h4 (by omega), Nat.gcd_comm, ← Nat.gcd_rec, ← Nat.gcd_rec, Nat.gcd_comm]
      · have h0 : a % b = 0 := by omega
        have e1 : eu (n + 2) a b = eu (n + 1) b 0 := by
          rw [show n + 2 = (n + 1) + 1 from rfl, eu, if_pos hb, h0]
        rw [e1, eu_zero, Nat.gcd_comm, Nat.gcd_rec, h0, Nat.gcd_zero_left]
    · have : b = 0 := by omega
      subst this
      rw [eu_zero, Nat.gcd_zero_right]
end Z
namespace Z
open PySem PySem.Spec PyProof.Rows L2
def Ret (C : Cl) (f : Nat) (as : List (D × Mo)) (d : D) (fr : Bool) : Prop := ∃ outs, C f as = .ok d fr outs
def RetB (C : Cl) (f : Nat) (a : D) (as : List (D × Mo)) (d : D) (fr : Bool) (b : D) : Prop := ∃ outs, C f ((a, .own) :: as) = .ok d fr ((b, .own) :: outs)
section
variable {C : Cl} {pin : Nat → Bool} {env e1 e2 e3 : En} {d d' d2 : D} {fr fr' : Bool} {i j : Nat} {as : List IA} {l : List PV} {ds ds' : List D} {s : IS} {ss sa sb : List IS} {fl : Fl} {f : Nat} {l' : List (D × Mo)}
theorem y_do0 (h1 : ownIx env l = []) (h2 : argv env l = some l') (h3 : Ret C f l' d fr) : doCall C f l env = .ok (d, fr) env := by
  obtain ⟨outs, h3⟩ := h3
  exact x_do0 h1 h2 h3
theorem y_do1 (h0 : env[i]? = some (some (d', .own))) (h1 : ownIx env l = []) (h2 : argv env l = some l') (h3 : RetB C f d' l' d fr d2) (h4 : env.set i (some (d2, .own)) = e1) : doCall C f (.at i :: l) env = .ok (d, fr) e1 := by
  obtain ⟨outs, h3⟩ := h3
  exact x_do1 h0 h1 h2 h3 h4
theorem y_fn {T : Nat → Option Fn} {k f np n : Nat} {dv : List D} {body : List IS} {as bs : List (D × Mo)} (h : T f = some ⟨np, dv, n, body⟩) (hb : withDv ⟨np, dv, n, body⟩ as = bs) (hl : bs.length = np) (he : bs.map some ++ List.replicate (n - np) none = env) (h1 : evSs (callK T k) (pinOf bs) body env = .ok (.rt d' fr) e1) (hd : d' = d) : Ret (callK T (k + 1)) f as d fr := by
  subst hd
  exact ⟨_, x_fn h hb hl he h1 rfl⟩
theorem y_fnB {T : Nat → Option Fn} {k f np n : Nat} {dv : List D} {body : List IS} {a b : D} {as bs : List (D × Mo)} (h : T f = some ⟨np, dv, n, body⟩) (hb : withDv ⟨np, dv, n, body⟩ ((a, .own) :: as) = bs) (hl : bs.length = np) (h0 : 0 < np) (he : bs.map some ++ List.replicate (n - np) none = env) (h1 : evSs (callK T k) (pinOf bs) body env = .ok (.rt d' fr) e1) (ho : e1[0]? = some (some (b, .own))) (hd : d' = d) : RetB (callK T (k + 1)) f a as d fr b := by
  subst hd
  refine ⟨((e1.drop 1).take (np - 1)).map (fun s => s.getD (.non, .frz)), x_fn h hb hl he h1 ?_⟩
  match e1, ho with
  | x :: xs, ho =>
    obtain ⟨np', rfl⟩ : ∃ k, np = k + 1 := ⟨np - 1, by omega⟩
    simp only [List.getElem?_cons_zero, Option.some.injEq] at ho
    subst ho
    rfl
def nones : Nat → En
  | 0 => []
  | n + 1 => none :: nones n
def mkEnv : List (D × Mo) → Nat → En
  | [], n => nones n
  | a :: as, n => some a :: mkEnv as n
theorem nones_eq : ∀ n, nones n = List.replicate n none
  | 0 => rfl
  | n + 1 => by rw [nones, nones_eq n]; rfl
theorem mkEnv_eq : ∀ (as : List (D × Mo)) (n : Nat), mkEnv as n = as.map some ++ List.replicate n none
  | [], n => nones_eq n
  | a :: as, n => by rw [mkEnv, mkEnv_eq as n]; rfl
theorem withDv0 {np n : Nat} {body : List IS} {as : List (D × Mo)} : withDv ⟨np, [], n, body⟩ as = as := by
  unfold withDv
  simp
theorem x_mk {as : List (D × Mo)} {n : Nat} (h : mkEnv as n = env) : mkEnv as n = env := h
theorem z_fn {T : Nat → Option Fn} {k f np n : Nat} {body : List IS} {as : List (D × Mo)} (h : T f = some ⟨np, [], n, body⟩) (hl : as.length = np) (he : mkEnv as (n - np) = env) (h1 : evSs (callK T k) (pinOf as) body env = .ok (.rt d' fr) e1) (hd : d' = d) : Ret (callK T (k + 1)) f as d fr :=
  y_fn h withDv0 hl (by rw [← mkEnv_eq]; exact he) h1 hd
theorem z_fnB {T : Nat → Option Fn} {k f np n : Nat} {body : List IS} {a b : D} {as : List (D × Mo)} (h : T f = some ⟨np, [], n, body⟩) (hl : ((a, Mo.own) :: as).length = np) (he : mkEnv ((a, .own) :: as) (n - np) = env) (h1 : evSs (callK T k) (pinOf ((a, .own) :: as)) body env = .ok (.rt d' fr) e1) (ho : e1[0]? = some (some (b, .own))) (hd : d' = d) : RetB (callK T (k + 1)) f a as d fr b :=
  y_fnB h withDv0 hl (by rw [← hl]; simp) (by rw [← mkEnv_eq]; exact he) h1 ho hd
/-- a def that comes to its end -/
theorem y_fnN {T : Nat → Option Fn} {k f np n : Nat} {dv : List D} {body : List IS} {as bs : List (D × Mo)} (h : T f = some ⟨np, dv, n, body⟩) (hb : withDv ⟨np, dv, n, body⟩ as = bs) (hl : bs.length = np) (he : bs.map some ++ List.replicate (n - np) none = env) (h1 : evSs (callK T k) (pinOf bs) body env = .ok .nx e1) : Ret (callK T (k + 1)) f as .non false :=
  ⟨_, by rw [callK_un h hb hl, he, h1]; rfl⟩
theorem x_pass : evS C pin .pass env = .ok .nx env := by simp only [evS]
theorem x_ss_set {e : IE} (h1 : evS C pin (.set i e) env = .ok .nx e1) (h2 : evSs C pin ss e1 = .ok fl e2) : evSs C pin (.set i e :: ss) env = .ok fl e2 := x_ss h1 h2
theorem x_ss_unp {e : IE} {is : List Nat} (h1 : evS C pin (.unp is e) env = .ok .nx e1) (h2 : evSs C pin ss e1 = .ok fl e2) : evSs C pin (.unp is e :: ss) env = .ok fl e2 := x_ss h1 h2
theorem x_ss_par {es : List IE} {is : List Nat} (h1 : evS C pin (.par is es) env = .ok .nx e1) (h2 : evSs C pin ss e1 = .ok fl e2) : evSs C pin (.par is es :: ss) env = .ok fl e2 := x_ss h1 h2
theorem x_ss_app {e : IE} (h1 : evS C pin (.app i e) env = .ok .nx e1) (h2 : evSs C pin ss e1 = .ok fl e2) : evSs C pin (.app i e :: ss) env = .ok fl e2 := x_ss h1 h2
theorem x_ss_setix {e e' : IE} (h1 : evS C pin (.setix i e e') env = .ok .nx e1) (h2 : evSs C pin ss e1 = .ok fl e2) : evSs C pin (.setix i e e' :: ss) env = .ok fl e2 := x_ss h1 h2
theorem evSs_append : ∀ (sa ss : List IS) (env : En), evSs C pin (sa ++ ss) env = (evSs C pin sa env).bind fun fl env => match fl with
    | .nx => evSs C pin ss env
    | .bk => .ok Fl.bk env
    | .ct => .ok Fl.ct env
    | .rt d fr => .ok (Fl.rt d fr) env
  | [], ss, env => by simp only [evSs, List.nil_append, Out.bind_ok]
  | s :: sa, ss, env => by
    simp only [evSs, List.cons_append]
    cases evS C pin s env with
    | bad => rfl
    | ex => rfl
    | ok fl e =>
      cases fl with
      | nx => exact evSs_append sa ss e
      | bk => rfl
      | ct => rfl
      | rt => rfl
theorem x_ite {c : IT} {k : Bool} {st : List IS} (h1 : evT C c env = .ok k e1) (h2 : cond k sa sb ++ ss = st) (h3 : evSs C pin st e1 = .ok fl e2) : evSs C pin (.ife c sa sb :: ss) env = .ok fl e2 := by
  subst h2
  rw [evSs_append] at h3
  simp only [evSs, evS, h1, Out.bind_ok]
  cases k <;> exact h3
theorem x_c_t {k : Bool} {st : List IS} (h : k = true) (h2 : sa ++ ss = st) : cond k sa sb ++ ss = st := by
  subst h
  exact h2
theorem x_c_f {k : Bool} {st : List IS} (h : k = false) (h2 : sb ++ ss = st) : cond k sa sb ++ ss = st := by
  subst h
  exact h2
theorem x_cnil : ([] : List IS) ++ ss = ss := rfl
theorem x_ccons {st : List IS} (h : sa ++ ss = st) : (s :: sa) ++ ss = s :: st := by rw [← h]; rfl
theorem x_ifE {c : IT} {k : Bool} {a b e' : IE} (h1 : evT C c env = .ok k e1) (h2 : cond k a b = e') (h3 : evE C e' e1 = .ok (d, fr) e2) : evE C (.ife c a b) env = .ok (d, fr) e2 := by
  subst h2
  simp only [evE, h1, Out.bind_ok]
  cases k <;> exact h3
theorem x_cE_t {k : Bool} {a b : IE} (h : k = true) : cond k a b = a := by rw [h]; rfl
theorem x_cE_f {k : Bool} {a b : IE} (h : k = false) : cond k a b = b := by rw [h]; rfl
theorem x_notT {c : IT} {k : Bool} (h1 : evT C c env = .ok k e1) : evT C (.not c) env = .ok (!k) e1 := x_Tnot h1 rfl
theorem ix_0 {n : Nat} : ixN (n + 1) 0 = some 0 := by unfold ixN; rw [if_pos (by omega), if_pos (by omega)]; rfl
theorem ix_1 {n : Nat} : ixN (n + 2) 1 = some 1 := by unfold ixN; rw [if_pos (by omega), if_pos (by omega)]; rfl
theorem ix_l0 {x : D} {xs : List D} : ixN (x :: xs).length 0 = some 0 := ix_0
theorem ix_l1 {x y : D} {xs : List D} : ixN (x :: y :: xs).length 1 = some 1 := ix_1
theorem x_retn : evS C pin .retn env = .ok (.rt .non false) env := by simp only [evS]
end
end Z
namespace Z
open PySem PySem.Spec PyProof.Rows L2
theorem CMulZ.bb {i j : Int} {m n : Nat} (h1 : bi i ≤ m) (h2 : bi j ≤ n) (h : m + n ≤ 1000000) : CMulZ i j := .bits (by omega)
theorem bb_mul {i j : Int} {m n : Nat} (h1 : bi i ≤ m) (h2 : bi j ≤ n) : bi (i * j) ≤ m + n := by have := bi_mul i j; omega
theorem bb_add {i j : Int} {m n : Nat} (h1 : bi i ≤ m) (h2 : bi j ≤ n) : bi (i + j) ≤ (m + n) + 1 := bi_add (by omega) (by omega)
theorem bb_sub {i j : Int} {m n : Nat} (h1 : bi i ≤ m) (h2 : bi j ≤ n) : bi (i - j) ≤ (m + n) + 1 := bi_sub (by omega) (by omega)
theorem bb_neg {i : Int} {m : Nat} (h1 : bi i ≤ m) : bi (-i) ≤ m := by rw [bi_neg]; exact h1
theorem bb_abs {i : Int} {m : Nat} (h1 : bi i ≤ m) : bi (if i < 0 then -i else i) ≤ m := by rw [bi_abs]; exact h1
theorem bb_num {q : Rat} {m : Nat} (h1 : sz q ≤ m) : bi q.num ≤ m := Nat.le_trans (sz_num q) h1
theorem bb_den {q : Rat} {m : Nat} (h1 : sz q ≤ m) : bi (q.den : Int) ≤ m := Nat.le_trans (sz_den q) h1
theorem bb_lit {i : Int} (h : -(2 ^ 64) < i) (h2 : i < 2 ^ 64) : bi i ≤ 64 := bi_le h h2
theorem ss_add {p q : Rat} {m n : Nat} (h1 : sz p ≤ m) (h2 : sz q ≤ n) : sz (p + q) ≤ m + n + 1 := by have := sz_add p q; omega
theorem ss_sub {p q : Rat} {m n : Nat} (h1 : sz p ≤ m) (h2 : sz q ≤ n) : sz (p - q) ≤ m + n + 1 := by have := sz_sub p q; omega
theorem ss_mul {p q : Rat} {m n : Nat} (h1 : sz p ≤ m) (h2 : sz q ≤ n) : sz (p * q) ≤ m + n := by have := sz_mul p q; omega
theorem ss_neg {p : Rat} {m : Nat} (h1 : sz p ≤ m) : sz (-p) ≤ m := by rw [sz_neg]; exact h1
theorem ss_div {p q : Rat} {m n : Nat} (h0 : q ≠ 0) (h1 : sz p ≤ m) (h2 : sz q ≤ n) : sz (p / q) ≤ m + n := by have := sz_div (p := p) h0; omega
theorem ss_abs {p : Rat} {m : Nat} (h1 : sz p ≤ m) : sz (if p < 0 then -p else p) ≤ m := by split; rw [sz_neg]; exact h1; exact h1
theorem ss_0 : sz (0 : Rat) ≤ 1 := Nat.le_refl 1
theorem ss_1 : sz (1 : Rat) ≤ 1 := Nat.le_refl 1
theorem ss_self {p : Rat} : sz p ≤ sz p := Nat.le_refl _
theorem szs2 {p q : Rat} {m n N : Nat} (h1 : sz p ≤ m) (h2 : sz q ≤ n) (h : m + n ≤ N) : sz p + sz q ≤ N := by omega
theorem szs1 {p : Rat} {m N : Nat} (h1 : sz p ≤ m) (h : m ≤ N) : sz p ≤ N := by omega
theorem bbs1 {p : Int} {m N : Nat} (h1 : bi p ≤ m) (h : m ≤ N) : bi p ≤ N := by omega
theorem q_nebb {i j : Bool} : prB .ne [.bl i, .bl j] = some (.bl (!(i == j)), false) := by
  have : prB .ne [.bl i, .bl j] = some (.bl (!D.eqv (.bl i) (.bl j)), false) := rfl
  rw [this, eqv_bl]
theorem q_eqbb {i j : Bool} : prB .eq [.bl i, .bl j] = some (.bl (i == j), false) := by
  have : prB .eq [.bl i, .bl j] = some (.bl (D.eqv (.bl i) (.bl j)), false) := rfl
  rw [this, eqv_bl]
theorem law_of {T : Nat → Option Fn} {k f : Nat} {F : Fn} {a : D} (h : Ret (callK T k) f [(a, .frz)] (.bl true) false) (hf : T f = some F) (hdv : F.dv = []) : ∃ fr outs, fullK T k F [(a, .frz)] = .ok (.bl true) fr outs := by
  obtain ⟨outs, h⟩ := h
  rw [callK_eq, hf] at h
  simp only at h
  have e : withDv F [(a, .frz)] = [(a, .frz)] := by
    unfold withDv
    rw [hdv]
    simp
  rw [e] at h
  exact ⟨_, _, h⟩
theorem q_lenf {q : Rat} : prB .len [fr q] = some (.int 2, false) := rfl
theorem q_isi' {d : D} {T : Ty5} {k : Bool} (h : isiD d T = some k) : prB (.isi T) [d] = some (.bl k, false) := q_isi h
theorem isi_fr {q : Rat} : isiD (fr q) .tuple = some true := rfl
def AndT (C : Cl) (k : Bool) (c : IT) (env : En) (o : Out Bool) : Prop := cond k (evT C c env) (.ok false env) = o
def OrT (C : Cl) (k : Bool) (c : IT) (env : En) (o : Out Bool) : Prop := cond k (.ok true env) (evT C c env) = o
def AndE (C : Cl) (k : Bool) (e : IE) (env : En) (o : Out (D × Bool)) : Prop := cond k (evE C e env) (.ok (.bl false, false) env) = o
def OrE (C : Cl) (k : Bool) (e : IE) (env : En) (o : Out (D × Bool)) : Prop := cond k (.ok (.bl true, false) env) (evE C e env) = o
section
variable {C : Cl} {env e1 e2 : En} {k k' : Bool} {c c' : IT} {a b : IE} {o : Out Bool} {u : Out (D × Bool)} {fr : Bool}
theorem x_And (h1 : evT C c env = .ok k e1) (h2 : AndT C k c' e1 o) : evT C (.and c c') env = o := by
  subst h2
  simp only [evT, h1, Out.bind_ok]
  cases k <;> rfl
theorem x_Or (h1 : evT C c env = .ok k e1) (h2 : OrT C k c' e1 o) : evT C (.or c c') env = o := by
  subst h2
  simp only [evT, h1, Out.bind_ok]
  cases k <;> rfl
theorem x_AndE (h1 : evE C a env = .ok (.bl k, fr) e1) (h2 : AndE C k b e1 u) : evE C (.and a b) env = u := by
  subst h2
  simp only [evE, h1, Out.bind_ok]
  cases k <;> rfl
theorem x_OrE (h1 : evE C a env = .ok (.bl k, fr) e1) (h2 : OrE C k b e1 u) : evE C (.or a b) env = u := by
  subst h2
  simp only [evE, h1, Out.bind_ok]
  cases k <;> rfl
theorem andT_t (h : k = true) (h2 : evT C c env = o) : AndT C k c env o := by subst h; exact h2
theorem andT_f (h : k = false) : AndT C k c env (.ok false env) := by subst h; rfl
theorem orT_f (h : k = false) (h2 : evT C c env = o) : OrT C k c env o := by subst h; exact h2
theorem orT_t (h : k = true) : OrT C k c env (.ok true env) := by subst h; rfl
theorem andE_t (h : k = true) (h2 : evE C a env = u) : AndE C k a env u := by subst h; exact h2
theorem andE_f (h : k = false) : AndE C k a env (.ok (.bl false, false) env) := by subst h; rfl
theorem orE_f (h : k = false) (h2 : evE C a env = u) : OrE C k a env u := by subst h; exact h2
theorem orE_t (h : k = true) : OrE C k a env (.ok (.bl true, false) env) := by subst h; rfl
end
def od : Option Rat → D
  | none => .non
  | some q => fr q
theorem q_isnf {q : Rat} : prB .isn [fr q] = some (.bl false, false) := rfl
theorem q_notnf {q : Rat} : prB .notn [fr q] = some (.bl true, false) := rfl
theorem q_isn0 : prB .isn [.non] = some (.bl true, false) := rfl
theorem q_notn0 : prB .notn [.non] = some (.bl false, false) := rfl
theorem q_neo {a : Option Rat} : prB .ne [od a, od a] = some (.bl false, false) := by
  cases a with
  | none => rfl
  | some q => simp only [od, q_nef, decide_true, Bool.not_true]
theorem q_eqo {a : Option Rat} : prB .eq [od a, od a] = some (.bl true, false) := by
  cases a with
  | none => rfl
  | some q => simp only [od, q_eqf, decide_true]
theorem x_tup01 {C : Cl} {env : En} : evE C (.tup [.cst (.int 0), .cst (.int 1)]) env = .ok (fr 0, false) env :=
  x_tup (x_es x_cst (x_es x_cst x_es0)) (szp _ (by simp))
theorem x_tup11 {C : Cl} {env : En} : evE C (.tup [.cst (.int 1), .cst (.int 1)]) env = .ok (fr 1, false) env :=
  x_tup (x_es x_cst (x_es x_cst x_es0)) (szp _ (by simp))
theorem x_tup12 {C : Cl} {env : En} : evE C (.tup [.cst (.int 1), .cst (.int 2)]) env = .ok (fr (Rat.divInt 1 2), false) env :=
  x_tup (x_es x_cst (x_es x_cst x_es0)) (szp _ (by simp))
theorem x_cst01 {C : Cl} {env : En} : evE C (.cst (.tup [.int 0, .int 1])) env = .ok (fr 0, false) env := x_cst
theorem x_cst11 {C : Cl} {env : En} : evE C (.cst (.tup [.int 1, .int 1])) env = .ok (fr 1, false) env := x_cst
theorem at_ix2 {x y d : D} {ds : List D} : atI (x :: y :: d :: ds) 2 = some d := by
  unfold atI ixN
  rw [if_pos (by omega), if_pos (by simp only [List.length_cons]; omega)]
  rfl
theorem at_ix3 {x y z d : D} {ds : List D} : atI (x :: y :: z :: d :: ds) 3 = some d := by
  unfold atI ixN
  rw [if_pos (by omega), if_pos (by simp only [List.length_cons]; omega)]
  rfl
theorem map_get {α β : Type} {f : α → β} {l : List α} {j : Nat} {y : β} (h : (l.map f)[j]? = some y) : ∃ x, l[j]? = some x ∧ y = f x := by
  rw [List.getElem?_map] at h
  cases hx : l[j]? with
  | none => rw [hx] at h; cases h
  | some x => rw [hx] at h; exact ⟨x, rfl, (Option.some.inj h).symm⟩
structure Po where
  N : En → Prop
  B : En → Prop
  T : En → Prop
  R : D → Bool → En → Prop
def WpD (p : Po) : Out Fl → Prop
  | .ok .nx e => p.N e
  | .ok .bk e => p.B e
  | .ok .ct e => p.T e
  | .ok (.rt d fr) e => p.R d fr e
  | _ => False
structure Wp (p : Po) (o : Out Fl) : Prop where
  out : WpD p o
theorem Wp.imp {p q : Po} {o : Out Fl} (hN : ∀ e, p.N e → q.N e) (hB : ∀ e, p.B e → q.B e) (hT : ∀ e, p.T e → q.T e) (hR : ∀ d fr e, p.R d fr e → q.R d fr e) (h : Wp p o) : Wp q o := by
  refine ⟨?_⟩
  replace h := h.out
  cases o with
  | bad => exact h
  | ex => exact h
  | ok fl e =>
    cases fl with
    | nx => exact hN _ h
    | bk => exact hB _ h
    | ct => exact hT _ h
    | rt d fr => exact hR _ _ _ h
/-- what a def with frozen arguments promises -/
def poR (d : D) (fr : Bool) : Po := ⟨fun _ => d = .non ∧ fr = false, fun _ => False, fun _ => False, fun d' fr' _ => d' = d ∧ fr' = fr⟩
def poB (d : D) (fr : Bool) (b : D) : Po := ⟨fun e => d = .non ∧ fr = false ∧ e[0]? = some (some (b, .own)), fun _ => False, fun _ => False, fun d' fr' e => d' = d ∧ fr' = fr ∧ e[0]? = some (some (b, .own))⟩
/-- the same, with a value that is told by a property -/
def poP (P : D → Prop) (fr : Bool) : Po := ⟨fun _ => P .non ∧ fr = false, fun _ => False, fun _ => False, fun d' fr' _ => P d' ∧ fr' = fr⟩
section
variable {C : Cl} {pin : Nat → Bool} {env e1 e2 e3 : En} {d d' d2 : D} {fr fr' : Bool} {i j : Nat} {as : List IA} {l : List PV} {ds ds' : List D} {s : IS} {ss sa sb st : List IS} {fl : Fl} {f : Nat} {l' : List (D × Mo)} {p q : Po} {e e' : IE} {es : List IE} {is : List Nat} {c : IT} {m : Mo}
theorem evSs_cons : evSs C pin (s :: ss) env = (evS C pin s env).bind fun fl env => match fl with
    | .nx => evSs C pin ss env
    | .bk => .ok Fl.bk env
    | .ct => .ok Fl.ct env
    | .rt d fr => .ok (Fl.rt d fr) env := by
  first
  | (simp only [evSs]; done)
  | (simp only [evSs]; rfl)
theorem w_nil (h : p.N env) : Wp p (evSs C pin [] env) := by
  rw [x_ss0]
  exact ⟨h⟩
theorem w_step (h1 : evS C pin s env = .ok .nx e1) (h2 : Wp p (evSs C pin ss e1)) : Wp p (evSs C pin (s :: ss) env) := by
  rw [evSs_cons, h1]
  exact h2
theorem w_seq (h : Wp ⟨fun e => Wp p (evSs C pin ss e), p.B, p.T, p.R⟩ (evS C pin s env)) : Wp p (evSs C pin (s :: ss) env) := by
  rw [evSs_cons]
  replace h := h.out
  refine ⟨?_⟩
  cases hx : evS C pin s env with
  | bad => rw [hx] at h; exact h.elim
  | ex => rw [hx] at h; exact h.elim
  | ok fl e =>
    rw [hx] at h
    cases fl with
    | nx => exact (show Wp p _ from h).out
    | bk => exact h
    | ct => exact h
    | rt => exact h
theorem w_set (h1 : evE C e env = .ok (d, fr) e1) (h2 : setS pin i d fr e1 = .ok () e2) (h3 : Wp p (evSs C pin ss e2)) : Wp p (evSs C pin (.set i e :: ss) env) := w_step (x_set h1 h2) h3
theorem w_unp (h1 : evE C e env = .ok (.tup ds, fr) e1) (h2 : setAll pin is ds e1 = .ok () e2) (h3 : Wp p (evSs C pin ss e2)) : Wp p (evSs C pin (.unp is e :: ss) env) := w_step (x_unp h1 h2) h3
theorem w_par (h1 : evEs C es env = .ok ds e1) (h2 : setAll pin is ds e1 = .ok () e2) (h3 : Wp p (evSs C pin ss e2)) : Wp p (evSs C pin (.par is es :: ss) env) := w_step (x_par h1 h2) h3
theorem w_setix {k w : IE} {n : Nat} {j : Int} {v : D × Mo} (h1 : evE C w env = .ok (d, fr) e1) (h2 : e1[i]? = some (some v)) (h3 : evE C k e1 = .ok (.int j, fr') e2) (h4 : e2[i]? = some (some (.lst ds, .own))) (h5 : ixN ds.length j = some n) (h6 : e2.set i (some (.lst (ds.set n d), .own)) = e3) (h7 : Wp p (evSs C pin ss e3)) : Wp p (evSs C pin (.setix i k w :: ss) env) := w_step (x_setix h1 h2 h3 h4 h5 h6) h7
theorem w_app (h0 : env[i]? = some (some (.lst ds', m))) (h1 : evE C e env = .ok (d, fr) e1) (h2 : e1[i]? = some (some (.lst ds, .own))) (h3 : ds.length < sizeLine) (h4 : e1.set i (some (.lst (ds ++ [d]), .own)) = e2) (h5 : Wp p (evSs C pin ss e2)) : Wp p (evSs C pin (.app i e :: ss) env) := w_step (x_app h0 h1 h2 h3 h4) h5
theorem w_pass (h : Wp p (evSs C pin ss env)) : Wp p (evSs C pin (.pass :: ss) env) := w_step x_pass h
theorem w_ret (h1 : evE C e env = .ok (d, fr) e1) (h2 : p.R d fr e1) : Wp p (evSs C pin (.ret e :: ss) env) := by
  rw [x_stop (x_ret h1)]
  exact ⟨h2⟩
theorem w_retn (h2 : p.R .non false env) : Wp p (evSs C pin (.retn :: ss) env) := by
  rw [x_stop x_retn]
  exact ⟨h2⟩
theorem w_retvf (h : env[i]? = some (some (d, .frz))) (h2 : p.R d false env) : Wp p (evSs C pin (.retv i :: ss) env) := by
  rw [x_stop (x_retvf h)]
  exact ⟨h2⟩
theorem w_retvo (h : env[i]? = some (some (d, .own))) (hp : pin i = false) (h4 : env.set i none = e1) (h2 : p.R d true e1) : Wp p (evSs C pin (.retv i :: ss) env) := by
  rw [x_stop (x_retvo h hp h4)]
  exact ⟨h2⟩
/-- the branches of an if -/
def Br (p : Po) (C : Cl) (pin : Nat → Bool) (k : Bool) (sa sb ss : List IS) (env : En) : Prop := Wp p (evSs C pin (cond k sa sb ++ ss) env)
theorem w_ite {k : Bool} (h1 : evT C c env = .ok k e1) (h2 : Br p C pin k sa sb ss e1) : Wp p (evSs C pin (.ife c sa sb :: ss) env) := by
  have : evSs C pin (.ife c sa sb :: ss) env = evSs C pin (cond k sa sb ++ ss) e1 := by
    rw [evSs_append]
    simp only [evSs, evS, h1, Out.bind_ok]
    cases k <;> rfl
  rw [this]
  exact h2
theorem br_t {k : Bool} (h : k = true) (h2 : sa ++ ss = st) (h3 : Wp p (evSs C pin st env)) : Br p C pin k sa sb ss env := by
  subst h
  subst h2
  exact h3
theorem br_f {k : Bool} (h : k = false) (h2 : sb ++ ss = st) (h3 : Wp p (evSs C pin st env)) : Br p C pin k sa sb ss env := by
  subst h
  subst h2
  exact h3
theorem br_split {k : Bool} (h1 : k = true → Br p C pin true sa sb ss env) (h2 : k = false → Br p C pin false sa sb ss env) : Br p C pin k sa sb ss env := by
  cases k
  · exact h2 rfl
  · exact h1 rfl
theorem br_dec {P : Prop} [Decidable P] (h1 : P → Br p C pin true sa sb ss env) (h2 : ¬ P → Br p C pin false sa sb ss env) : Br p C pin (decide P) sa sb ss env :=
  br_split (fun h => h1 (of_decide_eq_true h)) (fun h => h2 (of_decide_eq_false h))
theorem br_mid {k : Bool} (Q : En → Prop) (h1 : Br ⟨Q, p.B, p.T, p.R⟩ C pin k sa sb [] env) (h2 : ∀ e, Q e → Wp p (evSs C pin ss e)) : Br p C pin k sa sb ss env := by
  unfold Br at *
  rw [List.append_nil] at h1
  rw [evSs_append]
  generalize evSs C pin (cond k sa sb) env = o at h1
  replace h1 := h1.out
  refine ⟨?_⟩
  cases o with
  | bad => exact h1
  | ex => exact h1
  | ok fl e =>
    cases fl with
    | nx => exact (h2 e h1).out
    | bk => exact h1
    | ct => exact h1
    | rt d fr => exact h1
/-- a for loop -/
theorem loop_inv {g : D → Zm Fl} (I : Nat → En → Prop) (p : Po) : ∀ (ds : List D) (k : Nat) (env : En), I k env →
    (∀ j d env, ds[j]? = some d → I (k + j) env → Wp ⟨I (k + j + 1), p.N, I (k + j + 1), p.R⟩ (g d env)) → (∀ e, I (k + ds.length) e → p.N e) → Wp p (loopFor g ds env)
  | [], k, env, h0, _, he => ⟨he env h0⟩
  | d :: ds, k, env, h0, h, he => by
    have h1 := (h 0 d env rfl h0).out
    simp only [loopFor]
    cases hx : g d env with
    | bad => rw [hx] at h1; exact h1.elim
    | ex => rw [hx] at h1; exact h1.elim
    | ok fl e =>
      rw [hx] at h1
      have next : I (k + 1) e → Wp p (loopFor g ds e) := fun hI => loop_inv I p ds (k + 1) e hI
        (fun j d env hd hI => by
          have := h (j + 1) d env (by simpa using hd) (by rw [show k + (j + 1) = k + 1 + j by omega]; exact hI)
          rw [show k + (j + 1) = k + 1 + j by omega] at this
          exact this)
        (fun e hI => he e (by rw [List.length_cons, show k + (ds.length + 1) = k + 1 + ds.length by omega]; exact hI))
      cases fl with
      | nx => exact next h1
      | ct => exact next h1
      | bk => exact ⟨h1⟩
      | rt d fr => exact ⟨h1⟩
theorem Wp.mapEn {g : En → En} {o : Out Fl} (h : Wp ⟨fun e => p.N (g e), fun e => p.B (g e), fun e => p.T (g e), fun d fr e => p.R d fr (g e)⟩ o) : Wp p (o.mapEn g) := by
  replace h := h.out
  refine ⟨?_⟩
  cases o with
  | bad => exact h
  | ex => exact h
  | ok fl e => cases fl <;> exact h
theorem w_for {tg : IG} {src : II} (I : Nat → En → Prop) (h1 : evI C src env = .ok (ds, none) e1) (h0 : I 0 e1)
    (hs : ∀ j d env, ds[j]? = some d → I j env → Wp ⟨I (j + 1), fun e => Wp p (evSs C pin ss e), I (j + 1), p.R⟩ ((setG pin tg d env).bind fun _ env => evSs C pin sa env))
    (he : ∀ e, I ds.length e → Wp p (evSs C pin ss e)) : Wp p (evSs C pin (.forr tg src sa :: ss) env) := by
  refine w_seq ?_
  have : evS C pin (.forr tg src sa) env = (loopFor (fun d env => (setG pin tg d env).bind fun _ env => evSs C pin sa env) ds e1).mapEn (fun e => e) := by
    simp only [evS, h1, Out.bind_ok, lock]
    congr 1
  rw [this]
  refine Wp.mapEn (loop_inv I _ ds 0 e1 h0 (fun j d env hd hI => ?_) fun e hI => ?_)
  · rw [Nat.zero_add] at hI ⊢
    exact hs j d env hd hI
  · rw [Nat.zero_add] at hI
    exact he e hI
/-- a for loop over a list that a name may own -/
theorem w_forL {tg : IG} {src : II} {lk : Option Nat} (I : Nat → En → Prop) (h1 : evI C src env = .ok (ds, lk) e1) (h0 : I 0 (lock lk e1))
    (hs : ∀ j d env, ds[j]? = some d → I j env → Wp ⟨I (j + 1), fun e => Wp p (evSs C pin ss (unlock lk e)), I (j + 1), fun d fr e => p.R d fr (unlock lk e)⟩ ((setG pin tg d env).bind fun _ env => evSs C pin sa env))
    (he : ∀ e, I ds.length e → Wp p (evSs C pin ss (unlock lk e))) : Wp p (evSs C pin (.forr tg src sa :: ss) env) := by
  refine w_seq ?_
  have : evS C pin (.forr tg src sa) env = (loopFor (fun d env => (setG pin tg d env).bind fun _ env => evSs C pin sa env) ds (lock lk e1)).mapEn (unlock lk) := by
    simp only [evS, h1, Out.bind_ok]
  rw [this]
  refine Wp.mapEn (loop_inv I ⟨fun e => Wp p (evSs C pin ss (unlock lk e)), fun e => p.B (unlock lk e), fun e => p.T (unlock lk e), fun d fr e => p.R d fr (unlock lk e)⟩ ds 0 (lock lk e1) h0 (fun j d env hd hI => ?_) fun e hI => ?_)
  · rw [Nat.zero_add] at hI ⊢
    exact hs j d env hd hI
  · rw [Nat.zero_add] at hI
    exact he e hI
theorem w_turn {b : D} (h1 : setS pin i b false env = .ok () e1) (h2 : Wp p (evSs C pin sa e1)) : Wp p ((setG pin (.nm i) b env).bind fun _ env => evSs C pin sa env) := by
  simp only [setG, h1, Out.bind_ok]
  exact h2
theorem w_turnT {bs : List D} (h1 : setAll pin is bs env = .ok () e1) (h2 : Wp p (evSs C pin sa e1)) : Wp p ((setG pin (.tp is) (.tup bs) env).bind fun _ env => evSs C pin sa env) := by
  simp only [setG, h1, Out.bind_ok]
  exact h2
theorem x_over {A : IA} {pv : PV} (h1 : evA C A env = .ok pv e1) (h2 : fill1 e1 pv = some d) (h3 : seqOf d = some ds) : evI C (.over A) env = .ok (ds, lockOf e1 pv) e1 := by
  simp only [evI, h1, h2, h3, Out.bind_ok]
theorem x_overo (h : env[i]? = some (some (.lst ds, .own))) : evI C (.over (.at i)) env = .ok (ds, some i) env := by
  rw [x_over (x_at h) (x_f1a h) rfl]
  simp only [lockOf, h]
theorem x_overf (h : env[i]? = some (some (d, .frz))) (h3 : seqOf d = some ds) : evI C (.over (.at i)) env = .ok (ds, none) env := by
  rw [x_over (x_at h) (x_f1a h) h3]
  simp only [lockOf, h]
theorem x_overv (h1 : evE C e env = .ok (d, fr) e1) (h3 : seqOf d = some ds) : evI C (.over (.val e)) env = .ok (ds, none) e1 := by
  rw [x_over (x_val h1) x_f1v h3]
  rfl
theorem rangeD_length : ∀ (n : Nat) (a : Int), (rangeD a n).length = n
  | 0, _ => rfl
  | n + 1, a => by rw [rangeD, List.length_cons, rangeD_length n]
/-- for i in range(a, b) -/
theorem w_range {a b : IE} {lo hi : Int} (I : Nat → En → Prop) (h1 : evE C a env = .ok (.int lo, fr) e1) (h2 : evE C b e1 = .ok (.int hi, fr') e2) (h3 : -(2 ^ 62) ≤ lo ∧ lo < 2 ^ 62 ∧ -(2 ^ 62) ≤ hi ∧ hi < 2 ^ 62) (h0 : I 0 e2)
    (hs : ∀ (j : Nat) env, (j : Int) < hi - lo → I j env → ∃ e', setS pin i (.int (lo + (j : Int))) false env = .ok () e' ∧ Wp ⟨I (j + 1), fun e => Wp p (evSs C pin ss e), I (j + 1), p.R⟩ (evSs C pin sa e'))
    (he : ∀ e, I (hi - lo).toNat e → Wp p (evSs C pin ss e)) : Wp p (evSs C pin (.forr (.nm i) (.range a b) sa :: ss) env) := by
  refine w_for I (x_rng h1 h2 h3) h0 (fun j d env hd hI => ?_) fun e hI => he e (by rw [rangeD_length] at hI; exact hI)
  obtain ⟨hj, rfl⟩ := rangeD_get hd
  obtain ⟨e', h4, h5⟩ := hs j env (by omega) hI
  simp only [setG, h4, Out.bind_ok]
  exact h5
theorem v_fn {T : Nat → Option Fn} {k f np n : Nat} {body : List IS} {as : List (D × Mo)} (h : T f = some ⟨np, [], n, body⟩) (hl : as.length = np) (he : mkEnv as (n - np) = env) (h1 : Wp (poR d fr) (evSs (callK T k) (pinOf as) body env)) : Ret (callK T (k + 1)) f as d fr := by
  have hE : as.map some ++ List.replicate (n - np) none = env := by rw [← mkEnv_eq]; exact he
  replace h1 := h1.out
  cases hx : evSs (callK T k) (pinOf as) body env with
  | bad => rw [hx] at h1; exact h1.elim
  | ex => rw [hx] at h1; exact h1.elim
  | ok fl e =>
    rw [hx] at h1
    cases fl with
    | nx =>
      obtain ⟨rfl, rfl⟩ := h1
      exact y_fnN h withDv0 hl hE hx
    | bk => exact h1.elim
    | ct => exact h1.elim
    | rt d' fr' =>
      obtain ⟨rfl, rfl⟩ := h1
      exact y_fn h withDv0 hl hE hx rfl
theorem v_fnB {T : Nat → Option Fn} {k f np n : Nat} {body : List IS} {a b : D} {as : List (D × Mo)} (h : T f = some ⟨np, [], n, body⟩) (hl : ((a, Mo.own) :: as).length = np) (he : mkEnv ((a, .own) :: as) (n - np) = env) (h1 : Wp (poB d fr b) (evSs (callK T k) (pinOf ((a, .own) :: as)) body env)) : RetB (callK T (k + 1)) f a as d fr b := by
  have hE : ((a, Mo.own) :: as).map some ++ List.replicate (n - np) none = env := by rw [← mkEnv_eq]; exact he
  have h0 : 0 < np := by rw [← hl]; simp
  replace h1 := h1.out
  cases hx : evSs (callK T k) (pinOf ((a, Mo.own) :: as)) body env with
  | bad => rw [hx] at h1; exact h1.elim
  | ex => rw [hx] at h1; exact h1.elim
  | ok fl e =>
    rw [hx] at h1
    cases fl with
    | nx =>
      obtain ⟨rfl, rfl, h3⟩ := h1
      match e, h3 with
      | x :: xs, h3 =>
        simp only [List.getElem?_cons_zero, Option.some.injEq] at h3
        subst h3
        refine ⟨(xs.take (np - 1)).map (fun s => s.getD (.non, .frz)), ?_⟩
        rw [callK_un h withDv0 hl, hE, hx]
        obtain ⟨m, rfl⟩ : ∃ m, np = m + 1 := ⟨np - 1, by omega⟩
        rfl
    | bk => exact h1.elim
    | ct => exact h1.elim
    | rt d' fr' =>
      obtain ⟨rfl, rfl, h3⟩ := h1
      exact y_fnB h withDv0 hl h0 hE hx h3 rfl
/-- a value that is told by a property -/
theorem v_fnP {T : Nat → Option Fn} {k f np n : Nat} {body : List IS} {as : List (D × Mo)} {P : D → Prop} (h : T f = some ⟨np, [], n, body⟩) (hl : as.length = np) (he : mkEnv as (n - np) = env) (h1 : Wp (poP P fr) (evSs (callK T k) (pinOf as) body env)) : ∃ d, P d ∧ Ret (callK T (k + 1)) f as d fr := by
  have hE : as.map some ++ List.replicate (n - np) none = env := by rw [← mkEnv_eq]; exact he
  replace h1 := h1.out
  cases hx : evSs (callK T k) (pinOf as) body env with
  | bad => rw [hx] at h1; exact h1.elim
  | ex => rw [hx] at h1; exact h1.elim
  | ok fl e =>
    rw [hx] at h1
    cases fl with
    | nx =>
      obtain ⟨hp, rfl⟩ := h1
      exact ⟨_, hp, y_fnN h withDv0 hl hE hx⟩
    | bk => exact h1.elim
    | ct => exact h1.elim
    | rt d' fr' =>
      obtain ⟨hp, rfl⟩ := h1
      exact ⟨_, hp, y_fn h withDv0 hl hE hx rfl⟩
end
end Z
namespace Z
open PySem PySem.Spec PyProof.Rows L2
def Mt (p : Po) (C : Cl) (pin : Nat → Bool) (r : Option (List Nat × List D)) (sa sb ss : List IS) (env : En) : Prop := match r with
  | none => Wp p (evSs C pin (sb ++ ss) env)
  | some bs => ∃ e1, setAll pin bs.1 bs.2 env = .ok () e1 ∧ Wp p (evSs C pin (sa ++ ss) e1)
section
variable {C : Cl} {pin : Nat → Bool} {env e1 e2 e3 : En} {d d' d2 : D} {i j : Nat} {ds ds' : List D} {s : IS} {ss sa sb st : List IS} {p : Po} {q : IP} {r : Option (List Nat × List D)} {is : List Nat} {ps : List IP0} {c t : Str}
theorem w_mt (h0 : env[i]? = some (some (d, .frz))) (h1 : mP q d = some r) (h2 : Mt p C pin r sa sb ss env) : Wp p (evSs C pin (.mt i q sa sb :: ss) env) := by
  rw [evSs_cons]
  cases r with
  | none =>
    have h2 : Wp p (evSs C pin (sb ++ ss) env) := h2
    rw [evSs_append] at h2
    simp only [evS, h0, h1]
    exact h2
  | some bs =>
    obtain ⟨e1, h3, h4⟩ := h2
    rw [evSs_append] at h4
    simp only [evS, h0, h1, h3, Out.bind_ok]
    exact h4
theorem mt_n (h : sb ++ ss = st) (h2 : Wp p (evSs C pin st env)) : Mt p C pin none sa sb ss env := by
  subst h
  exact h2
theorem mt_s (h1 : setAll pin is ds env = .ok () e1) (h : sa ++ ss = st) (h2 : Wp p (evSs C pin st e1)) : Mt p C pin (some (is, ds)) sa sb ss env := by
  subst h
  exact ⟨e1, h1, h2⟩
theorem mp_wild : mP .wild d = some (some ([], [])) := rfl
theorem mp_len (h : ds.length ≠ ps.length) : mP (.seq ps) (.tup ds) = some none := by
  show (if _ then _ else _) = _
  rw [if_neg h]
theorem mp_seq (h : ds.length = ps.length) (h2 : mEach ps ds = some r) : mP (.seq ps) (.tup ds) = some r := by
  show (if _ then _ else _) = _
  rw [if_pos h, h2]
theorem me_nil : mEach [] [] = some (some ([], [])) := rfl
theorem me_lit (h : mEach ps ds = some r) : mEach (.lit c :: ps) (.str c :: ds) = some r := by
  simp only [mEach, m0, if_true, h]
  cases r <;> rfl
theorem me_litn (h : t ≠ c) : mEach (.lit c :: ps) (.str t :: ds) = some none := by
  simp only [mEach, m0, if_neg h]
theorem me_cap (h : mEach ps ds = some (some (is, ds'))) : mEach (.cap i :: ps) (d :: ds) = some (some (i :: is, d :: ds')) := by
  simp only [mEach, m0, h]
  rfl
theorem me_wild (h : mEach ps ds = some r) : mEach (.wild :: ps) (d :: ds) = some r := by
  simp only [mEach, m0, h]
  cases r <;> rfl
theorem lc_inv {f : D → Zm (Option D)} (I : Nat → List D → En → Prop) : ∀ (ds : List D) (k : Nat) (acc : List D) (env : En), I k acc env →
    (∀ j d acc env, ds[j]? = some d → I (k + j) acc env → ∃ x e', f d env = .ok (some x) e' ∧ acc.length < sizeLine ∧ I (k + j + 1) (acc ++ [x]) e') → ∃ acc' e', loopLc f ds acc env = .ok acc' e' ∧ I (k + ds.length) acc' e'
  | [], k, acc, env, h0, _ => ⟨acc, env, rfl, h0⟩
  | d :: ds, k, acc, env, h0, h => by
    obtain ⟨x, e', h1, h2, h3⟩ := h 0 d acc env rfl h0
    obtain ⟨a2, e2, h4, h5⟩ := lc_inv I ds (k + 1) (acc ++ [x]) e' h3 (fun j d acc env hd hI => by
      have := h (j + 1) d acc env (by simpa using hd) (by rw [show k + (j + 1) = k + 1 + j by omega]; exact hI)
      rw [show k + (j + 1) = k + 1 + j by omega] at this
      exact this)
    refine ⟨a2, e2, ?_, by rw [List.length_cons, show k + (ds.length + 1) = k + 1 + ds.length by omega]; exact h5⟩
    simp only [loopLc, h1, Out.bind_ok, h2, if_true]
    exact h4
theorem comp_all {own : List Nat} {tg : IG} {src : II} {elt : IE} (I : Nat → List D → En → Prop) (h1 : evI C src env = .ok (ds, none) e1) (hp : plainAt e1 own = true) (h0 : I 0 [] (wipeE e1 own))
    (hs : ∀ j d acc env, ds[j]? = some d → I j acc env → ∃ x fr e2 e3, setG (fun _ => false) tg d env = .ok () e2 ∧ evE C elt e2 = .ok (x, fr) e3 ∧ acc.length < sizeLine ∧ I (j + 1) (acc ++ [x]) (wipeE e3 own)) :
    ∃ acc e', evE C (.comp own tg src [] elt) env = .ok (.lst acc, true) (restore e1 e' own) ∧ I ds.length acc e' := by
  obtain ⟨acc, e', h2, h3⟩ := lc_inv (f := fun d env => (setG (fun _ => false) tg d env).bind fun _ env => (evTs C [] env).bind (fun b env =>
        if b then (evE C elt env).bind (fun x env => .ok (some x.1) (wipeE env own)) else .ok none (wipeE env own))) I ds 0 [] (wipeE e1 own) h0 (fun j d acc env hd hI => by
    rw [Nat.zero_add] at hI ⊢
    obtain ⟨x, fr, e2, e3, g1, g2, g3, g4⟩ := hs j d acc env hd hI
    exact ⟨x, _, by simp only [g1, evTs, g2, Out.bind_ok, if_true], g3, g4⟩)
  rw [Nat.zero_add] at h3
  refine ⟨acc, e', ?_, h3⟩
  simp only [evE, h1, Out.bind_ok, lock, hp, if_true]
  rw [h2]
  rfl
theorem lc_pure {α : Type} {f : D → Zm (Option D)} {w : En} {u : α → D} {p : α → Option D} : ∀ (l : List α) (acc : List D), (∀ a ∈ l, f (u a) w = .ok (p a) w) → acc.length + l.length ≤ sizeLine → loopLc f (l.map u) acc w = .ok (acc ++ l.filterMap p) w
  | [], acc, _, _ => by simp [loopLc]
  | a :: l, acc, h, hz => by
    have h1 := h a List.mem_cons_self
    have ih := fun acc => lc_pure (f := f) (w := w) (u := u) (p := p) l acc fun b hb => h b (List.mem_cons_of_mem _ hb)
    simp only [List.map_cons, loopLc, h1, Out.bind_ok, List.filterMap_cons]
    rw [List.length_cons] at hz
    cases hp : p a with
    | none => simp only; exact ih acc (by omega)
    | some x =>
      simp only
      rw [if_pos (by omega), ih (acc ++ [x]) (by rw [List.length_append, List.length_singleton]; omega), List.append_assoc]
      rfl
/-- a comprehension that changes nothing -/
theorem comp_pure {α : Type} {own : List Nat} {tg : IG} {src : II} {cond : List IT} {elt : IE} {lk : Option Nat} (l : List α) (u : α → D) (p : α → Option D) (h1 : evI C src env = .ok (ds, lk) e1) (hp : plainAt (lock lk e1) own = true) (hd : ds = l.map u) (hz : l.length ≤ sizeLine)
    (hw : wipeE (lock lk e1) own = w) (hr : unlock lk (restore (lock lk e1) w own) = e3)
    (hs : ∀ a ∈ l, ∃ e2, setG (fun _ => false) tg (u a) w = .ok () e2 ∧ ((∃ x fr e3 e4, evTs C cond e2 = .ok true e3 ∧ evE C elt e3 = .ok (x, fr) e4 ∧ p a = some x ∧ wipeE e4 own = w) ∨ (∃ e3, evTs C cond e2 = .ok false e3 ∧ p a = none ∧ wipeE e3 own = w))) :
    evE C (.comp own tg src cond elt) env = .ok (.lst (l.filterMap p), true) e3 := by
  subst hd
  have h2 := lc_pure (f := fun d env => (setG (fun _ => false) tg d env).bind fun _ env => (evTs C cond env).bind (fun b env =>
        if b then (evE C elt env).bind (fun x env => .ok (some x.1) (wipeE env own)) else .ok none (wipeE env own))) (w := w) (u := u) (p := p) l [] (fun a ha => by
    obtain ⟨e2, g1, g2⟩ := hs a ha
    rcases g2 with ⟨x, fr, e3, e4, g2, g3, g4, g5⟩ | ⟨e3, g2, g4, g5⟩
    · simp only [g1, g2, g3, g4, g5, Out.bind_ok, if_true]
    · simp only [g1, g2, g4, g5, Out.bind_ok, Bool.false_eq_true, if_false]) (by simpa using hz)
  simp only [evE, h1, Out.bind_ok, hp, if_true, hw]
  rw [h2]
  simp only [Out.bind_ok, List.nil_append, Out.mapEn, hr]
theorem ts_nil : evTs C [] env = .ok true env := by simp only [evTs]
theorem ts_one {c : IT} {k : Bool} (h : evT C c env = .ok k e1) : evTs C [c] env = .ok k e1 := by
  simp only [evTs, h, Out.bind_ok]
  cases k <;> rfl
theorem andT_b {C : Cl} {c : IT} {k q : Bool} {env : En} (h : evT C c env = .ok q env) : AndT C k c env (.ok (k && q) env) := by
  unfold AndT
  cases k
  · rfl
  · exact h
theorem orT_b {C : Cl} {c : IT} {k q : Bool} {env : En} (h : evT C c env = .ok q env) : OrT C k c env (.ok (k || q) env) := by
  unfold OrT
  cases k
  · exact h
  · rfl
theorem andE_b {C : Cl} {e : IE} {k q : Bool} {env : En} (h : evE C e env = .ok (.bl q, false) env) : AndE C k e env (.ok (.bl (k && q), false) env) := by
  unfold AndE
  cases k
  · rfl
  · exact h
theorem orE_b {C : Cl} {e : IE} {k q : Bool} {env : En} (h : evE C e env = .ok (.bl q, false) env) : OrE C k e env (.ok (.bl (k || q), false) env) := by
  unfold OrE
  cases k
  · exact h
  · rfl
theorem w_ext {i : Nat} {e : IE} {m : Mo} {ds' xs : List D} {fr : Bool} (h0 : env[i]? = some (some (.lst ds', m))) (h1 : evE C e env = .ok (.lst xs, fr) e1) (h2 : e1[i]? = some (some (.lst ds, .own))) (h3 : ds.length + xs.length ≤ sizeLine) (h4 : e1.set i (some (.lst (ds ++ xs), .own)) = e2) (h5 : Wp p (evSs C pin ss e2)) : Wp p (evSs C pin (.ext i e :: ss) env) := by
  refine w_step ?_ h5
  simp only [evS, h0, h1, Out.bind_ok, h2, if_pos h3, h4]
theorem w_rev {i : Nat} (h0 : env[i]? = some (some (.lst ds, .own))) (h4 : env.set i (some (.lst ds.reverse, .own)) = e2) (h5 : Wp p (evSs C pin ss e2)) : Wp p (evSs C pin (.rev i :: ss) env) := by
  refine w_step ?_ h5
  simp only [evS, h0, h4]
theorem evI_enum {A : IA} {pv : PV} (h1 : evA C A env = .ok pv e1) (h2 : fill1 e1 pv = some d) (h3 : seqL d = some ds) : evI C (.enum A) env = .ok ((List.range ds.length).zipWith (fun (k : Nat) d => D.tup [.int (k : Int), d]) ds, lockOf e1 pv) e1 := by
  simp only [evI, h1, h2, h3, Out.bind_ok]
theorem x_enumo (h : env[i]? = some (some (.lst ds, .own))) : evI C (.enum (.at i)) env = .ok ((List.range ds.length).zipWith (fun (k : Nat) d => D.tup [.int (k : Int), d]) ds, some i) env := by
  rw [evI_enum (x_at h) (x_f1a h) rfl]
  simp only [lockOf, h]
theorem enum_at {ds : List D} {j : Nat} {d : D} (h : ((List.range ds.length).zipWith (fun (k : Nat) d => D.tup [.int (k : Int), d]) ds)[j]? = some d) : ∃ x, ds[j]? = some x ∧ d = .tup [.int (j : Int), x] := by
  rw [List.getElem?_zipWith] at h
  cases hx : ds[j]? with
  | none => rw [hx] at h; simp at h
  | some x =>
    have hj := lt_of_get hx
    rw [hx, List.getElem?_range hj] at h
    exact ⟨x, rfl, (Option.some.inj h).symm⟩
theorem enum_size {ds : List D} : ((List.range ds.length).zipWith (fun (k : Nat) d => D.tup [.int (k : Int), d]) ds).length = ds.length := by
  rw [List.length_zipWith, List.length_range, Nat.min_self]
theorem at_nat {α : Type} {xs : List α} {n : Nat} {x : α} (h : xs[n]? = some x) : atI xs (n : Int) = some x := by
  unfold atI ixN
  have := lt_of_get h
  rw [if_pos (by omega), if_pos (by omega)]
  simpa using h
end
def Dk (n : Nat) (d : D) : Prop := (toP d).canLay0 = true ∧ (toP d).depth ≤ n
theorem dk_non {n : Nat} : Dk n .non := ⟨rfl, Nat.zero_le _⟩
theorem dk_int {n : Nat} {i : Int} : Dk n (.int i) := ⟨rfl, Nat.zero_le _⟩
theorem dk_all {n : Nat} : ∀ {ds : List D}, (∀ x ∈ ds, Dk n x) → PyData.canLayAll0 (toPs ds) = true ∧ PyData.depthAll (toPs ds) ≤ n
  | [], _ => ⟨rfl, Nat.zero_le _⟩
  | d :: ds, h => by
    obtain ⟨h1, h2⟩ := h d List.mem_cons_self
    obtain ⟨h3, h4⟩ := dk_all fun x hx => h x (List.mem_cons_of_mem _ hx)
    refine ⟨?_, ?_⟩
    · show ((toP d).canLay0 && PyData.canLayAll0 (toPs ds)) = true
      rw [h1, h3]
      rfl
    · simp only [toPs, PyData.depthAll]
      exact Nat.max_le.mpr ⟨h2, h4⟩
theorem dk_tup {n : Nat} {ds : List D} (h : ∀ x ∈ ds, Dk n x) : Dk (n + 1) (.tup ds) := by
  obtain ⟨h1, h2⟩ := dk_all h
  refine ⟨?_, ?_⟩
  · unfold toP
    simpa only [PyData.canLay0] using h1
  · unfold toP
    simp only [PyData.depth]
    omega
theorem dk_lst {n : Nat} {ds : List D} (h : ∀ x ∈ ds, Dk n x) : Dk (n + 1) (.lst ds) := by
  obtain ⟨h1, h2⟩ := dk_all h
  refine ⟨?_, ?_⟩
  · unfold toP
    simpa only [PyData.canLay0] using h1
  · unfold toP
    simp only [PyData.depth]
    omega
theorem Dk.mono {m n : Nat} {d : D} (h : Dk m d) (hn : m ≤ n) : Dk n d := ⟨h.1, Nat.le_trans h.2 hn⟩
theorem dk_fr (q : Rat) : Dk 1 (fr q) := dk_tup fun x hx => by
  rcases List.mem_cons.mp hx with rfl | hx
  · exact dk_int
  · rcases List.mem_cons.mp hx with rfl | hx
    · exact dk_int
    · cases hx
theorem dk_ok {n : Nat} {d : D} (h : Dk n d) (hn : n ≤ 64) : d.ok = true := by
  unfold D.ok SeqAt.shaped
  rw [h.1, decide_eq_true (Nat.le_trans h.2 hn)]
  rfl
theorem q_ned {n : Nat} {d : D} (h : Dk n d) (hn : n ≤ 64) : prB .ne [d, d] = some (.bl false, false) := by
  show (if _ then _ else _) = _
  rw [dk_ok h hn]
  unfold D.eqv
  rw [SeqAt.eqv_refl _ h.1]
  rfl
theorem eqv_str (a b : Str) : D.eqv (.str a) (.str b) = decide (a = b) := by
  unfold D.eqv toP
  simp only [PyData.eqv]
  by_cases h : a = b
  · subst h; simp
  · rw [decide_eq_false h]
    simpa using h
theorem q_eqs {a b : Str} (ha : (D.str a).ok = true) (hb : (D.str b).ok = true) : prB .eq [.str a, .str b] = some (.bl (decide (a = b)), false) := by
  rw [← eqv_str]
  show (if _ then _ else _) = _
  rw [ha, hb]
  rfl
theorem q_nes {a b : Str} (ha : (D.str a).ok = true) (hb : (D.str b).ok = true) : prB .ne [.str a, .str b] = some (.bl (!decide (a = b)), false) := by
  rw [← eqv_str]
  show (if _ then _ else _) = _
  rw [ha, hb]
  rfl
end Z
namespace Z
open PySem PySem.Spec PyProof.Rows L2
structure Sh (n : Nat) (d : D) : Prop where
  can : (toP d).showable = true
  len : (toP d).shown.length ≤ n
theorem Sh.mono {m n : Nat} {d : D} (h : Sh m d) (hn : m ≤ n) : Sh n d := ⟨h.can, Nat.le_trans h.len hn⟩
def RetC (C : Cl) (f : Nat) (a b : D) (as : List (D × Mo)) (d : D) (fr : Bool) (a' b' : D) : Prop := ∃ outs, C f ((a, .own) :: (b, .own) :: as) = .ok d fr ((a', .own) :: (b', .own) :: outs)
section
variable {C : Cl} {pin : Nat → Bool} {env e1 : En} {d d1 d2 d3 d4 : D} {fr : Bool} {i j f : Nat} {l : List PV} {l' : List (D × Mo)} {p : Po} {ss : List IS} {as : List IA}
theorem y_do2 (h0 : env[i]? = some (some (d1, .own))) (h5 : env[j]? = some (some (d2, .own))) (hij : i ≠ j) (h1 : ownIx env l = []) (h2 : argv env l = some l') (h3 : RetC C f d1 d2 l' d fr d3 d4) (h4 : (env.set i (some (d3, .own))).set j (some (d4, .own)) = e1) : doCall C f (.at i :: .at j :: l) env = .ok (d, fr) e1 := by
  obtain ⟨outs, h3⟩ := h3
  subst h4
  have hn : ([i, j] : List Nat).Nodup := by simp [hij]
  simp only [doCall, ownIx, argv, argv1, wb, h0, h5, h1, h2, h3, hn, if_true]
  rw [wb_no (os := outs) h1]
theorem w_retR (h : evAs C as env = .ok l e1) (hn : (ownIx e1 l).Nodup) (ha : argv e1 l = some l') (h3 : Ret C f l' d fr) (hp : ∀ e, p.R d fr e) : Wp p (evSs C pin (.ret (.call f as) :: ss) env) := by
  obtain ⟨outs, h3⟩ := h3
  refine w_ret (e1 := wb e1 l outs e1) ?_ (hp _)
  simp only [evE, h, Out.bind_ok, doCall, if_pos hn, ha, h3]
end
def poC (d : D) (fr : Bool) (a b : D) : Po := ⟨fun e => d = .non ∧ fr = false ∧ e[0]? = some (some (a, .own)) ∧ e[1]? = some (some (b, .own)), fun _ => False, fun _ => False, fun d' fr' e => d' = d ∧ fr' = fr ∧ e[0]? = some (some (a, .own)) ∧ e[1]? = some (some (b, .own))⟩
theorem v_fnC {T : Nat → Option Fn} {k f np n : Nat} {body : List IS} {a b a' b' d : D} {fr : Bool} {env : En} {as : List (D × Mo)} (h : T f = some ⟨np, [], n, body⟩) (hl : ((a, Mo.own) :: (b, Mo.own) :: as).length = np) (he : mkEnv ((a, .own) :: (b, .own) :: as) (n - np) = env)
    (h1 : Wp (poC d fr a' b') (evSs (callK T k) (pinOf ((a, .own) :: (b, .own) :: as)) body env)) : RetC (callK T (k + 1)) f a b as d fr a' b' := by
  have hE : ((a, Mo.own) :: (b, Mo.own) :: as).map some ++ List.replicate (n - np) none = env := by rw [← mkEnv_eq]; exact he
  obtain ⟨m, rfl⟩ : ∃ m, np = m + 2 := ⟨np - 2, by rw [← hl]; simp⟩
  replace h1 := h1.out
  cases hx : evSs (callK T k) (pinOf ((a, Mo.own) :: (b, .own) :: as)) body env with
  | bad => rw [hx] at h1; exact h1.elim
  | ex => rw [hx] at h1; exact h1.elim
  | ok fl e =>
    rw [hx] at h1
    cases fl with
    | nx =>
      obtain ⟨rfl, rfl, h3, h4⟩ := h1
      match e, h3, h4 with
      | x :: y :: xs, h3, h4 =>
        simp only [List.getElem?_cons_zero, List.getElem?_cons_succ, Option.some.injEq] at h3 h4
        subst h3
        subst h4
        refine ⟨(xs.take m).map (fun s => s.getD (.non, .frz)), ?_⟩
        rw [callK_un h withDv0 hl, hE, hx]
        rfl
    | bk => exact h1.elim
    | ct => exact h1.elim
    | rt d' fr' =>
      obtain ⟨rfl, rfl, h3, h4⟩ := h1
      match e, h3, h4 with
      | x :: y :: xs, h3, h4 =>
        simp only [List.getElem?_cons_zero, List.getElem?_cons_succ, Option.some.injEq] at h3 h4
        subst h3
        subst h4
        refine ⟨(xs.take m).map (fun s => s.getD (.non, .frz)), ?_⟩
        rw [callK_un h withDv0 hl, hE, hx]
        rfl
end Z
namespace Z
open PySem PySem.Spec PyProof.Rows L2
def flP (S : Nat → Bool) : PV → Bool
  | .at i => S i
  | .val _ => false
def flA (S : Nat → Bool) : IA → Bool
  | .at i => S i
  | .val _ => false
def noS (S : Nat → Bool) (l : List Nat) : Bool := l.all fun i => !S i
def noG (S : Nat → Bool) : IG → Bool
  | .nm i => !S i
  | .tp l => noS S l
def capP0 : IP0 → List Nat
  | .cap i => [i]
  | _ => []
def capsP : IP → List Nat
  | .seq ps => ps.flatMap capP0
  | _ => []
section
variable (chk : Nat → List Bool → Bool) (S : Nat → Bool)
mutual
def roE : IE → Bool
  | .var i => !S i
  | .cst _ => true
  | .op _ as => roAs as
  | .and a b => roE a && roE b
  | .or a b => roE a && roE b
  | .not a => roE a
  | .ife c a b => roT c && (roE a && roE b)
  | .call f as => roAs as && chk f (as.map (flA S))
  | .callv i _ as => !S i && (roAs as && as.all fun a => !flA S a)
  | .tup es => roEs es
  | .lst es => roEs es
  | .chain _ _ a b c => roE a && (roE b && roE c)
  | .comp own tg src cond elt => noS S own && (noG S tg && (roI src && (roTs cond && roE elt)))
def roA : IA → Bool
  | .at _ => true
  | .val e => roE e
def roAs : List IA → Bool
  | [] => true
  | a :: as => roA a && roAs as
def roEs : List IE → Bool
  | [] => true
  | a :: as => roE a && roEs as
def roT : IT → Bool
  | .val a => roA a
  | .and a b => roT a && roT b
  | .or a b => roT a && roT b
  | .not a => roT a
def roTs : List IT → Bool
  | [] => true
  | a :: as => roT a && roTs as
def roI : II → Bool
  | .over a => roA a
  | .range a b => roE a && roE b
  | .cmb a _ => roA a
  | .cmbR e _ => roE e
  | .enum a => roA a
  | .rev a => roA a
  | .zipt a b => roA a && roA b
end
mutual
def roS : IS → Bool
  | .set i e => !S i && roE chk S e
  | .unp l e => noS S l && roE chk S e
  | .par l es => noS S l && roEs chk S es
  | .setix i k v => !S i && (roE chk S k && roE chk S v)
  | .app i e => !S i && roE chk S e
  | .ext i e => !S i && roE chk S e
  | .rev i => !S i
  | .ins i k e => !S i && (roE chk S k && roE chk S e)
  | .rem i e => !S i && roE chk S e
  | .unpl l e => noS S l && roE chk S e
  | .parix i k l e => !S i && (roE chk S k && (roE chk S l && roE chk S e))
  | .no => true
  | .ife c a b => roT chk S c && (roSs a && roSs b)
  | .forr tg src body => noG S tg && (roI chk S src && roSs body)
  | .whil c body => roT chk S c && roSs body
  | .mt i p hit miss => !S i && (noS S (capsP p) && (roSs hit && roSs miss))
  | .ret e => roE chk S e
  | .retv i => !S i
  | .retn => true
  | .brk => true
  | .cont => true
  | .pass => true
def roSs : List IS → Bool
  | [] => true
  | s :: ss => roS s && roSs ss
end
end
section
variable {S : Nat → Bool} {mo : Mo} {chk : Nat → List Bool → Bool}
def rxS (S : Nat → Bool) (mo : Mo) (i : Nat) (s : Sl) : Sl := if S i then s.map (fun x => (x.1, mo)) else s
def rx (S : Nat → Bool) (mo : Mo) (env : En) : En := env.mapIdx (rxS S mo)
structure KeepS (S : Nat → Bool) (env e1 : En) : Prop where
  len : e1.length = env.length
  dat : ∀ i d m, S i = true → env[i]? = some (some (d, m)) → m ≠ Mo.frz → ∃ m1, m1 ≠ Mo.frz ∧ e1[i]? = some (some (d, m1))
def HdS (S : Nat → Bool) (env : En) : Prop := ∀ i, S i = true → ∃ d m, m ≠ Mo.frz ∧ env[i]? = some (some (d, m))
theorem KeepS.refl {env : En} : KeepS S env env := ⟨rfl, fun _ _ m _ h hm => ⟨m, hm, h⟩⟩
theorem KeepS.trans {a b c : En} (h : KeepS S a b) (g : KeepS S b c) : KeepS S a c :=
  ⟨g.len.trans h.len, fun i d m hs he hm => by
    obtain ⟨m1, h1, h2⟩ := h.dat i d m hs he hm
    exact g.dat i d m1 hs h2 h1⟩
theorem HdS.keep {a b : En} (h : HdS S a) (k : KeepS S a b) : HdS S b := fun i hi => by
  obtain ⟨d, m, hm, he⟩ := h i hi
  obtain ⟨m1, h1, h2⟩ := k.dat i d m hi he hm
  exact ⟨d, m1, h1, h2⟩
theorem rx_get (env : En) (i : Nat) : (rx S mo env)[i]? = (env[i]?).map (rxS S mo i) := by
  unfold rx
  rw [List.getElem?_mapIdx]
theorem rx_no {env : En} {i : Nat} (h : S i = false) : (rx S mo env)[i]? = env[i]? := by
  rw [rx_get]
  cases env[i]? with
  | none => rfl
  | some s => simp only [Option.map_some, rxS, h]; rfl
theorem rx_yes {env : En} {i : Nat} {d : D} {m : Mo} (h : S i = true) (e : env[i]? = some (some (d, m))) : (rx S mo env)[i]? = some (some (d, mo)) := by
  rw [rx_get, e]
  simp only [Option.map_some, rxS, h, if_true]
theorem rx_len (env : En) : (rx S mo env).length = env.length := by unfold rx; rw [List.length_mapIdx]
theorem rx_set {env : En} {i : Nat} {s : Sl} : rx S mo (env.set i s) = (rx S mo env).set i (rxS S mo i s) := by
  apply List.ext_getElem?
  intro j
  rw [rx_get]
  by_cases e : i = j
  · subst e
    by_cases hl : i < env.length
    · rw [List.getElem?_set_self hl, List.getElem?_set_self (by rw [rx_len]; exact hl)]
      rfl
    · rw [List.getElem?_eq_none (by rw [List.length_set]; omega), List.getElem?_eq_none (by rw [List.length_set, rx_len]; omega)]
      rfl
  · rw [List.getElem?_set_ne e, List.getElem?_set_ne e, rx_get]
theorem rx_setn {env : En} {i : Nat} {s : Sl} (h : S i = false) : rx S mo (env.set i s) = (rx S mo env).set i s := by
  rw [rx_set]
  simp only [rxS, h]
  rfl
theorem keep_set {env : En} {i : Nat} {s : Sl} (h : S i = false) : KeepS S env (env.set i s) :=
  ⟨List.length_set, fun j d m hj he hm => ⟨m, hm, by rw [List.getElem?_set_ne (fun z => by subst z; rw [h] at hj; cases hj)]; exact he⟩⟩
/-- a step that does alike -/
def Sim (S : Nat → Bool) (mo : Mo) {α : Type} (f f' : Zm α) : Prop := ∀ env a e1, HdS S env → f env = .ok a e1 → f' (rx S mo env) = .ok a (rx S mo e1) ∧ KeepS S env e1
theorem sim_pure {α : Type} {a : α} : Sim S mo (fun env => .ok a env) (fun env => .ok a env) := fun env b e1 _ e => by
  cases e
  exact ⟨rfl, .refl⟩
theorem sim_bad {α : Type} {g : Zm α} : Sim S mo (fun _ => .bad) g := fun _ _ _ _ e => by cases e
theorem sim_bind {α β : Type} {f f' : Zm α} {g g' : α → Zm β} (h : Sim S mo f f') (k : ∀ a, Sim S mo (g a) (g' a)) : Sim S mo (fun env => (f env).bind g) (fun env => (f' env).bind g') := fun env b e1 hh e => by
  replace e : (f env).bind g = .ok b e1 := e
  cases q : f env with
  | bad => rw [q] at e; cases e
  | ex => rw [q] at e; cases e
  | ok a e2 =>
    rw [q] at e
    obtain ⟨h1, h2⟩ := h env a e2 hh q
    obtain ⟨h3, h4⟩ := k a e2 b e1 (hh.keep h2) e
    refine ⟨?_, h2.trans h4⟩
    simp only [h1, Out.bind_ok]
    exact h3
theorem sim_lift {α : Type} {o : Option α} : Sim S mo (lift o) (lift o) := by
  cases o with
  | none => exact sim_bad
  | some a => exact sim_pure
theorem Sim.of {α : Type} {f f' g g' : Zm α} (h : Sim S mo f f') (e1 : ∀ env, g env = f env) (e2 : ∀ env, g' env = f' env) : Sim S mo g g' := fun env a e hh q => by
  rw [e2]
  rw [e1] at q
  exact h env a e hh q
theorem rx_fill1 {env : En} (hh : HdS S env) (p : PV) : fill1 (rx S mo env) p = fill1 env p := by
  cases p with
  | val d => rfl
  | «at» i =>
    simp only [fill1]
    cases h : S i with
    | false => rw [rx_no h]
    | true =>
      obtain ⟨d, m, hm, e⟩ := hh i h
      rw [rx_yes h e, e]
theorem rx_fill {env : En} (hh : HdS S env) : ∀ l : List PV, fill (rx S mo env) l = fill env l
  | [] => rfl
  | p :: ps => by simp only [fill, rx_fill1 hh p, rx_fill hh ps]
def rxA (P : List Bool) (mo : Mo) (as : List (D × Mo)) : List (D × Mo) := as.mapIdx fun j x => if P.getD j false then (x.1, mo) else x
theorem rxA_get {P : List Bool} {as : List (D × Mo)} {j : Nat} : (rxA P mo as)[j]? = (as[j]?).map fun x => if P.getD j false then (x.1, mo) else x := by
  unfold rxA
  rw [List.getElem?_mapIdx]
theorem rxA_len {P : List Bool} {as : List (D × Mo)} : (rxA P mo as).length = as.length := by unfold rxA; rw [List.length_mapIdx]
theorem rxA_cons {b : Bool} {P : List Bool} {x : D × Mo} {as : List (D × Mo)} : rxA (b :: P) mo (x :: as) = (if b then (x.1, mo) else x) :: rxA P mo as := by
  unfold rxA
  rw [List.mapIdx_cons]
  rfl
theorem rxA_nil {P : List Bool} : rxA P mo [] = [] := rfl
theorem rxA_no {P : List Bool} (h : P.any id = false) (as : List (D × Mo)) : rxA P mo as = as := by
  apply List.ext_getElem?
  intro j
  rw [rxA_get]
  have : P.getD j false = false := by
    rw [List.getD_eq_getElem?_getD]
    cases e : P[j]? with
    | none => rfl
    | some b => simpa using List.any_eq_false.mp h b (List.mem_of_getElem? e)
  cases as[j]? with
  | none => rfl
  | some x => simp only [Option.map_some, this]; rfl
/-- calls that do alike -/
structure SimC (mo : Mo) (chk : Nat → List Bool → Bool) (C C' : Cl) : Prop where
  fre : ∀ f P, P.any id = false → chk f P = true
  sim : ∀ f P as d fr outs, chk f P = true → (∀ j, P.getD j false = true → ∃ d m, m ≠ Mo.frz ∧ as[j]? = some (d, m)) → C f as = .ok d fr outs →
  C' f (rxA P mo as) = .ok d fr (rxA P mo outs) ∧ ∀ j d m, P.getD j false = true → as[j]? = some (d, m) → m ≠ Mo.frz → ∃ m1, m1 ≠ Mo.frz ∧ outs[j]? = some (d, m1)
theorem rx_argv {env : En} (hh : HdS S env) : ∀ {l : List PV} {as : List (D × Mo)}, argv env l = some as → argv (rx S mo env) l = some (rxA (l.map (flP S)) mo as) ∧ ∀ (j i : Nat), l[j]? = some (PV.at i) → S i = true → ∃ d m, m ≠ Mo.frz ∧ env[i]? = some (some (d, m)) ∧ as[j]? = some (d, m)
  | [], as, h => by
    cases h
    exact ⟨rfl, fun j i e => by simp at e⟩
  | p :: ps, as, h => by
    simp only [argv] at h
    split at h
    · rename_i x xs h1 h2
      cases h
      obtain ⟨g1, g2⟩ := rx_argv hh h2
      have q : argv1 (rx S mo env) p = some (if flP S p then (x.1, mo) else x) := by
        have q1 : ∀ b : Bool, flP S p = b → argv1 (rx S mo env) p = some (if b then (x.1, mo) else x) := by
          intro b hb
          cases p with
          | val d =>
            cases hb
            exact h1
          | «at» i =>
            have hb : S i = b := hb
            simp only [argv1] at h1 ⊢
            cases b with
            | false => rw [rx_no hb]; exact h1
            | true =>
              obtain ⟨d, m, hm, e⟩ := hh i hb
              rw [e] at h1
              cases h1
              rw [rx_yes hb e]
              rfl
        exact q1 _ rfl
      refine ⟨by simp only [argv, q, g1, List.map_cons, rxA_cons], fun j i e hs => ?_⟩
      cases j with
      | zero =>
        simp at e
        subst e
        obtain ⟨d, m, hm, e⟩ := hh i hs
        simp only [argv1, e] at h1
        cases h1
        exact ⟨d, m, hm, e, rfl⟩
      | succ j => simpa using g2 j i (by simpa using e) hs
    · cases h
theorem rx_ownIx {env : En} (hmo : mo ≠ .own) (hh : HdS S env) : ∀ l : List PV, (ownIx (rx S mo env) l).Sublist (ownIx env l)
  | [] => .slnil
  | .val d :: ps => rx_ownIx hmo hh ps
  | .at i :: ps => by
    have ih := rx_ownIx hmo hh ps
    simp only [ownIx]
    cases hs : S i with
    | false =>
      rw [rx_no hs]
      split
      · exact ih.cons₂ _
      · exact ih
    | true =>
      obtain ⟨d, m, hm, e⟩ := hh i hs
      rw [rx_yes hs e, e]
      have h1 : (match (some (some (d, mo)) : Option Sl) with | some (some (_, Mo.own)) => i :: ownIx (rx S mo env) ps | _ => ownIx (rx S mo env) ps) = ownIx (rx S mo env) ps := by
        cases mo with
        | own => exact absurd rfl hmo
        | frz => rfl
        | lck => rfl
      refine List.Sublist.trans (l₂ := ownIx (rx S mo env) ps) ?_ (List.Sublist.trans ih ?_)
      · cases mo with
        | own => exact absurd rfl hmo
        | frz => exact List.Sublist.refl _
        | lck => exact List.Sublist.refl _
      · cases m with
        | frz => exact List.Sublist.refl _
        | own => exact List.sublist_cons_self _ _
        | lck => exact List.Sublist.refl _
theorem rx_wb {env0 : En} (hmo : mo ≠ .own) (hh : HdS S env0) : ∀ {l : List PV} {outs : List (D × Mo)} {env : En}, KeepS S env0 env → (∀ (j i : Nat) d m, l[j]? = some (PV.at i) → S i = true → env0[i]? = some (some (d, m)) → m ≠ Mo.frz → ∃ m1, m1 ≠ Mo.frz ∧ outs[j]? = some (d, m1)) →
    rx S mo (wb env0 l outs env) = wb (rx S mo env0) l (rxA (l.map (flP S)) mo outs) (rx S mo env) ∧ KeepS S env0 (wb env0 l outs env)
  | [], _, env, k, _ => by simp only [wb, List.map_nil]; exact ⟨trivial, k⟩
  | .val _ :: ps, [], env, k, _ => by simp only [wb, rxA_nil]; exact ⟨trivial, k⟩
  | .at _ :: ps, [], env, k, _ => by simp only [wb, rxA_nil]; exact ⟨trivial, k⟩
  | .val x :: ps, o :: os, env, k, ho => by
    simp only [wb, List.map_cons, rxA_cons]
    exact rx_wb hmo hh k fun j i d m e => by have := ho (j + 1) i d m (by simpa using e); simpa using this
  | .at i :: ps, o :: os, env, k, ho => by
    have ho' : ∀ (j i : Nat) d m, ps[j]? = some (PV.at i) → S i = true → env0[i]? = some (some (d, m)) → m ≠ Mo.frz → ∃ m1, m1 ≠ Mo.frz ∧ os[j]? = some (d, m1) := fun j i d m e => by have := ho (j + 1) i d m (by simpa using e); simpa using this
    simp only [wb, List.map_cons, rxA_cons]
    cases hs : S i with
    | false =>
      have hf : flP S (.at i) = false := hs
      rw [rx_no hs, hf]
      simp only [Bool.false_eq_true, if_false]
      split
      · have := rx_wb hmo hh (k.trans (keep_set (s := some o) hs)) ho'
        rw [rx_setn hs] at this
        exact this
      · exact rx_wb hmo hh k ho'
    | true =>
      obtain ⟨d, m, hm, e⟩ := hh i hs
      obtain ⟨m1, hm1, e1⟩ := ho 0 i d m rfl hs e hm
      simp at e1
      subst e1
      rw [rx_yes hs e, e]
      have key : ∀ env, KeepS S env0 env → rx S mo (env.set i (some (d, m1))) = rx S mo env ∧ KeepS S env0 (env.set i (some (d, m1))) := fun env k => by
        obtain ⟨m2, hm2, e2⟩ := k.dat i d m hs e hm
        refine ⟨?_, ⟨by rw [List.length_set]; exact k.len, fun j d' m' hj he hm' => ?_⟩⟩
        · apply List.ext_getElem?
          intro j
          rw [rx_get, rx_get]
          by_cases z : i = j
          · subst z
            rw [List.getElem?_set_self (lt_of_get e2), e2]
            simp only [Option.map_some, rxS, hs, if_true]
          · rw [List.getElem?_set_ne z]
        · by_cases z : i = j
          · subst z
            rw [e] at he
            cases he
            exact ⟨m1, hm1, List.getElem?_set_self (lt_of_get e2)⟩
          · rw [List.getElem?_set_ne z]
            exact k.dat j d' m' hj he hm'
      have r : wb (rx S mo env0) ps (rxA (ps.map (flP S)) mo os) (rx S mo env) = (match (some (some (d, mo)) : Option Sl) with | some (some (_, Mo.own)) => wb (rx S mo env0) ps (rxA (ps.map (flP S)) mo os) ((rx S mo env).set i (some (if flP S (.at i) = true then ((d, m1).1, mo) else (d, m1)))) | _ => wb (rx S mo env0) ps (rxA (ps.map (flP S)) mo os) (rx S mo env)) := by
        cases mo with
        | own => exact absurd rfl hmo
        | frz => rfl
        | lck => rfl
      cases m with
      | frz => exact absurd rfl hm
      | own =>
        obtain ⟨k1, k2⟩ := key env k
        have := rx_wb hmo hh k2 ho'
        rw [k1] at this
        refine ⟨this.1.trans ?_, this.2⟩
        cases mo with
        | own => exact absurd rfl hmo
        | frz => rfl
        | lck => rfl
      | lck =>
        have := rx_wb hmo hh k ho'
        refine ⟨this.1.trans ?_, this.2⟩
        cases mo with
        | own => exact absurd rfl hmo
        | frz => rfl
        | lck => rfl
theorem getD_map {α : Type} {f : α → Bool} {l : List α} {j : Nat} (h : (l.map f).getD j false = true) : ∃ a, l[j]? = some a ∧ f a = true := by
  rw [List.getD_eq_getElem?_getD, List.getElem?_map] at h
  cases e : l[j]? with
  | none => rw [e] at h; cases h
  | some a => rw [e] at h; exact ⟨a, rfl, h⟩
theorem sim_call {C C' : Cl} (hmo : mo ≠ .own) (hC : SimC mo chk C C') {f : Nat} {l : List PV} (hc : chk f (l.map (flP S)) = true) : Sim S mo (doCall C f l) (doCall C' f l) := by
  intro env a e1 hh e
  unfold doCall at e ⊢
  split at e
  case isFalse => cases e
  case isTrue nd =>
  rw [if_pos (nd.sublist (rx_ownIx hmo hh l))]
  cases ha : argv env l with
  | none => rw [ha] at e; cases e
  | some as =>
    rw [ha] at e
    obtain ⟨g1, g2⟩ := rx_argv (mo := mo) hh ha
    rw [g1]
    simp only at e ⊢
    cases hr : C f as with
    | bad => rw [hr] at e; cases e
    | ok d fr outs =>
      rw [hr] at e
      cases e
      obtain ⟨c1, c2⟩ := hC.sim f (l.map (flP S)) as d fr outs hc (fun j hj => by
        obtain ⟨p, hp, hf⟩ := getD_map hj
        cases p with
        | val x => cases hf
        | «at» i =>
          obtain ⟨d, m, hm, _, e⟩ := g2 j i hp hf
          exact ⟨d, m, hm, e⟩) hr
      rw [c1]
      simp only
      obtain ⟨w1, w2⟩ := rx_wb (outs := outs) hmo hh (l := l) (env := env) KeepS.refl (fun j i d m hj hs he hm => by
        obtain ⟨d', m', hm', he', ea⟩ := g2 j i hj hs
        rw [he] at he'
        cases he'
        refine c2 j d m ?_ ea hm
        rw [List.getD_eq_getElem?_getD, List.getElem?_map, hj]
        exact hs)
      rw [← w1]
      exact ⟨rfl, w2⟩
theorem peek_sim (i : Nat) : Sim S mo (peek i) (peek i) := by
  intro env a e1 hh e
  unfold peek at e ⊢
  split at e
  · rename_i s q
    cases e
    by_cases hs : S i = true
    · obtain ⟨d, m, hm, z⟩ := hh i hs
      rw [rx_yes hs z]
      exact ⟨rfl, .refl⟩
    · rw [rx_no (by simpa using hs), q]
      exact ⟨rfl, .refl⟩
  · cases e
theorem getV_sim {i : Nat} (h : S i = false) : Sim S mo (getV i) (getV i) := by
  intro env a e1 hh e
  unfold getV at e ⊢
  rw [rx_no h]
  split at e
  · rename_i d q
    cases e
    exact ⟨rfl, .refl⟩
  · rename_i d q
    cases e
    refine ⟨?_, keep_set h⟩
    rw [rx_setn h]
  · cases e
theorem not_t {b : Bool} (h : (!b) = true) : b = false := by simpa using h
theorem setS_sim {pin pin' : Nat → Bool} {i : Nat} {d : D} {fr : Bool} (h : S i = false) (hp : pin' i = pin i) : Sim S mo (setS pin i d fr) (setS pin' i d fr) := by
  intro env a e1 hh e
  unfold setS at e ⊢
  rw [rx_no h, hp]
  split at e
  · cases e
  · rename_i s q1 q2
    split at e
    · cases e
    · rename_i c
      cases e
      refine ⟨?_, keep_set h⟩
      rw [if_neg c, rx_setn h]
  · cases e
def PinS (S : Nat → Bool) (pin pin' : Nat → Bool) : Prop := ∀ i, S i = false → pin' i = pin i
theorem setAll_sim {pin pin' : Nat → Bool} (hp : PinS S pin pin') : ∀ {is : List Nat} {ds : List D}, noS S is = true → Sim S mo (setAll pin is ds) (setAll pin' is ds)
  | [], [], _ => sim_pure.of (fun _ => rfl) fun _ => rfl
  | [], _ :: _, _ => sim_bad.of (fun _ => rfl) fun _ => rfl
  | _ :: _, [], _ => sim_bad.of (fun _ => rfl) fun _ => rfl
  | i :: is, d :: ds, h => by
    simp only [noS, List.all_cons, Bool.and_eq_true] at h
    have h1 := not_t h.1
    exact (sim_bind (setS_sim (d := d) (fr := false) h1 (hp i h1)) fun _ => setAll_sim hp (ds := ds) h.2).of (fun _ => rfl) fun _ => rfl
theorem setG_sim {pin pin' : Nat → Bool} (hp : PinS S pin pin') {g : IG} {d : D} (h : noG S g = true) : Sim S mo (setG pin g d) (setG pin' g d) := by
  cases g with
  | nm i => exact setS_sim (not_t h) (hp i (not_t h))
  | tp l =>
    cases d with
    | tup ds => exact setAll_sim hp h
    | _ => exact sim_bad.of (fun _ => rfl) fun _ => rfl
theorem loopFor_sim {f f' : D → Zm Fl} (h : ∀ d, Sim S mo (f d) (f' d)) : ∀ ds : List D, Sim S mo (loopFor f ds) (loopFor f' ds)
  | [] => sim_pure.of (fun _ => rfl) fun _ => rfl
  | d :: ds => by
    refine (sim_bind (h d) (g := fun fl => match fl with | .nx => loopFor f ds | .ct => loopFor f ds | .bk => fun e => .ok .nx e | .rt d fr => fun e => .ok (.rt d fr) e) (g' := fun fl => match fl with | .nx => loopFor f' ds | .ct => loopFor f' ds | .bk => fun e => .ok .nx e | .rt d fr => fun e => .ok (.rt d fr) e) fun fl => ?_).of (fun _ => rfl) fun _ => rfl
    cases fl with
    | nx => exact loopFor_sim h ds
    | ct => exact loopFor_sim h ds
    | bk => exact sim_pure
    | rt d fr => exact sim_pure
theorem loopWhile_sim {c c' : Zm Bool} {f f' : Zm Fl} (hc : Sim S mo c c') (h : Sim S mo f f') : ∀ n, Sim S mo (loopWhile c f n) (loopWhile c' f' n)
  | 0 => sim_bad.of (fun _ => rfl) fun _ => rfl
  | n + 1 => by
    refine (sim_bind hc (g := fun b => if b then fun e => (f e).bind fun fl => match fl with
      | .nx => loopWhile c f n
      | .ct => loopWhile c f n
      | .bk => fun e => .ok .nx e
      | .rt d fr => fun e => .ok (.rt d fr) e
    else fun e => .ok .nx e) (g' := fun b => if b then fun e => (f' e).bind fun fl => match fl with
      | .nx => loopWhile c' f' n
      | .ct => loopWhile c' f' n
      | .bk => fun e => .ok .nx e
      | .rt d fr => fun e => .ok (.rt d fr) e
    else fun e => .ok .nx e) fun b => ?_).of (fun _ => rfl) fun _ => rfl
    cases b with
    | false => exact sim_pure
    | true =>
      refine sim_bind h fun fl => ?_
      cases fl with
      | nx => exact loopWhile_sim hc h n
      | ct => exact loopWhile_sim hc h n
      | bk => exact sim_pure
      | rt d fr => exact sim_pure
theorem loopLc_sim {f f' : D → Zm (Option D)} (h : ∀ d, Sim S mo (f d) (f' d)) : ∀ (ds acc : List D), Sim S mo (loopLc f ds acc) (loopLc f' ds acc)
  | [], acc => sim_pure.of (fun _ => rfl) fun _ => rfl
  | d :: ds, acc => by
    refine (sim_bind (h d) (g := fun o => match o with
      | some x => if acc.length < sizeLine then loopLc f ds (acc ++ [x]) else fun _ => .bad
      | none => loopLc f ds acc) (g' := fun o => match o with
      | some x => if acc.length < sizeLine then loopLc f' ds (acc ++ [x]) else fun _ => .bad
      | none => loopLc f' ds acc) fun o => ?_).of (fun _ => rfl) fun _ => rfl
    cases o with
    | none => exact loopLc_sim h ds acc
    | some x =>
      simp only
      split
      · exact loopLc_sim h ds _
      · exact sim_bad
def drp (S : Nat → Bool) : Option Nat → Option Nat
  | some i => if S i then none else some i
  | none => none
theorem rx_lockOf {env : En} (hmo : mo ≠ .own) (hh : HdS S env) (p : PV) : lockOf (rx S mo env) p = drp S (lockOf env p) := by
  cases p with
  | val d => rfl
  | «at» i =>
    simp only [lockOf]
    by_cases hs : S i = true
    · obtain ⟨d, m, hm, e⟩ := hh i hs
      rw [rx_yes hs e, e]
      cases mo with
      | own => exact absurd rfl hmo
      | frz => cases m <;> simp [drp, hs]
      | lck => cases m <;> simp [drp, hs]
    · have hs : S i = false := by simpa using hs
      rw [rx_no hs]
      split <;> simp [drp, hs]
theorem rx_setd {env : En} {i : Nat} {d : D} {m m1 : Mo} (hs : S i = true) (e : env[i]? = some (some (d, m))) : rx S mo (env.set i (some (d, m1))) = rx S mo env := by
  apply List.ext_getElem?
  intro j
  rw [rx_get, rx_get]
  by_cases z : i = j
  · subst z
    rw [List.getElem?_set_self (lt_of_get e), e]
    simp only [Option.map_some, rxS, hs, if_true]
  · rw [List.getElem?_set_ne z]
theorem keep_setd {env : En} {i : Nat} {d : D} {m m1 : Mo} (h1 : m1 ≠ .frz) (e : env[i]? = some (some (d, m))) : KeepS S env (env.set i (some (d, m1))) :=
  ⟨List.length_set, fun j d' m' hj he hm => by
    by_cases z : i = j
    · subst z
      rw [e] at he
      cases he
      exact ⟨m1, h1, List.getElem?_set_self (lt_of_get e)⟩
    · exact ⟨m', hm, by rw [List.getElem?_set_ne z]; exact he⟩⟩
theorem rx_lock {env : En} (hh : HdS S env) (o : Option Nat) : rx S mo (lock o env) = lock (drp S o) (rx S mo env) ∧ KeepS S env (lock o env) := by
  cases o with
  | none => exact ⟨rfl, .refl⟩
  | some i =>
    by_cases hs : S i = true
    · obtain ⟨d, m, hm, e⟩ := hh i hs
      have e1 : lock (some i) env = env.set i (some (d, .lck)) := by simp only [lock, e]
      have e2 : drp S (some i) = none := if_pos hs
      rw [e1, e2, rx_setd hs e]
      exact ⟨rfl, keep_setd (by decide) e⟩
    · have hs : S i = false := by simpa using hs
      have e2 : drp S (some i) = some i := if_neg (by rw [hs]; decide)
      rw [e2]
      simp only [lock]
      rw [rx_no hs]
      split
      · exact ⟨rx_setn hs, keep_set hs⟩
      · exact ⟨rfl, .refl⟩
theorem rx_unlock {env : En} (hh : HdS S env) (o : Option Nat) : rx S mo (unlock o env) = unlock (drp S o) (rx S mo env) ∧ KeepS S env (unlock o env) := by
  cases o with
  | none => exact ⟨rfl, .refl⟩
  | some i =>
    by_cases hs : S i = true
    · obtain ⟨d, m, hm, e⟩ := hh i hs
      have e1 : unlock (some i) env = env.set i (some (d, .own)) := by simp only [unlock, e]
      have e2 : drp S (some i) = none := if_pos hs
      rw [e1, e2, rx_setd hs e]
      exact ⟨rfl, keep_setd (by decide) e⟩
    · have hs : S i = false := by simpa using hs
      have e2 : drp S (some i) = some i := if_neg (by rw [hs]; decide)
      rw [e2]
      simp only [unlock]
      rw [rx_no hs]
      split
      · exact ⟨rx_setn hs, keep_set hs⟩
      · exact ⟨rfl, .refl⟩
theorem rx_plain {env : En} {own : List Nat} (h : noS S own = true) : plainAt (rx S mo env) own = plainAt env own := by
  unfold plainAt
  induction own with
  | nil => rfl
  | cons i own ih =>
    simp only [noS, List.all_cons, Bool.and_eq_true] at h
    simp only [List.all_cons, rx_no (not_t h.1), ih h.2]
theorem rx_wipe {env : En} : ∀ {own : List Nat}, noS S own = true → rx S mo (wipeE env own) = wipeE (rx S mo env) own ∧ KeepS S env (wipeE env own)
  | [], _ => ⟨rfl, .refl⟩
  | i :: own, h => by
    simp only [noS, List.all_cons, Bool.and_eq_true] at h
    obtain ⟨h1, h2⟩ := rx_wipe (env := env) h.2
    simp only [wipeE]
    rw [rx_setn (not_t h.1), h1]
    exact ⟨rfl, h2.trans (keep_set (not_t h.1))⟩
theorem rx_restore {env0 env : En} : ∀ {own : List Nat}, noS S own = true → rx S mo (restore env0 env own) = restore (rx S mo env0) (rx S mo env) own ∧ KeepS S env (restore env0 env own)
  | [], _ => ⟨rfl, .refl⟩
  | i :: own, h => by
    simp only [noS, List.all_cons, Bool.and_eq_true] at h
    obtain ⟨h1, h2⟩ := rx_restore (env0 := env0) (env := env) h.2
    simp only [restore]
    rw [rx_setn (not_t h.1), h1, rx_no (not_t h.1)]
    exact ⟨rfl, h2.trans (keep_set (not_t h.1))⟩
/-- what is walked: alike but for what is held -/
def SimI (S : Nat → Bool) (mo : Mo) (f f' : Zm (List D × Option Nat)) : Prop := ∀ env ds o e1, HdS S env → f env = .ok (ds, o) e1 → f' (rx S mo env) = .ok (ds, drp S o) (rx S mo e1) ∧ KeepS S env e1
variable {C C' : Cl}
theorem evAs_fl {C : Cl} : ∀ {as : List IA} {env e1 : En} {l : List PV}, evAs C as env = .ok l e1 → l.map (flP S) = as.map (flA S)
  | [], env, e1, l, h => by
    simp only [evAs] at h
    cases h
    rfl
  | a :: as, env, e1, l, h => by
    simp only [evAs] at h
    cases hx : evA C a env with
    | bad => rw [hx] at h; cases h
    | ex => rw [hx] at h; cases h
    | ok p env1 =>
      rw [hx] at h
      simp only [Out.bind_ok] at h
      cases hy : evAs C as env1 with
      | bad => rw [hy] at h; cases h
      | ex => rw [hy] at h; cases h
      | ok ps env2 =>
        rw [hy] at h
        cases h
        have ih := evAs_fl hy
        have hp : flP S p = flA S a := by
          cases a with
          | «at» i =>
            simp only [evA, peek] at hx
            split at hx
            · cases hx; rfl
            · cases hx
          | val e =>
            simp only [evA] at hx
            cases hz : evE C e env with
            | bad => rw [hz] at hx; cases hx
            | ex => rw [hz] at hx; cases hx
            | ok z env3 => rw [hz] at hx; cases hx; rfl
        simp only [List.map_cons, ih, hp]
mutual
theorem simE (hmo : mo ≠ .own) (hC : SimC mo chk C C') : ∀ e : IE, roE chk S e = true → Sim S mo (evE C e) (evE C' e)
  | .var i, h => (getV_sim (not_t h)).of (fun _ => by simp only [evE]) fun _ => by simp only [evE]
  | .cst d, _ => (sim_pure (a := (d, false))).of (fun _ => by simp only [evE]) fun _ => by simp only [evE]
  | .op p as, h => by
    intro env a e1 hh e
    simp only [evE] at e ⊢
    have ih := simAs hmo hC as (by simpa only [roE] using h)
    cases hx : evAs C as env with
    | bad => rw [hx] at e; cases e
    | ex => rw [hx] at e; cases e
    | ok l env1 =>
      rw [hx] at e
      obtain ⟨g1, g2⟩ := ih env l env1 hh hx
      rw [g1]
      simp only [Out.bind_ok] at e ⊢
      rw [rx_fill (hh.keep g2)]
      cases hf : fill env1 l with
      | none => rw [hf] at e; cases e
      | some ds =>
        rw [hf] at e
        obtain ⟨k1, k2⟩ := sim_lift (S := S) (mo := mo) (o := prB p ds) env1 a e1 (hh.keep g2) e
        exact ⟨k1, g2.trans k2⟩
  | .and a b, h => by
    simp only [roE, Bool.and_eq_true] at h
    intro env z e1 hh e
    simp only [evE] at e ⊢
    cases hx : evE C a env with
    | bad => rw [hx] at e; cases e
    | ex => rw [hx] at e; cases e
    | ok x env1 =>
      rw [hx] at e
      obtain ⟨g1, g2⟩ := simE hmo hC a h.1 env x env1 hh hx
      rw [g1]
      simp only [Out.bind_ok] at e ⊢
      split at e
      · obtain ⟨k1, k2⟩ := simE hmo hC b h.2 env1 z e1 (hh.keep g2) e
        exact ⟨k1, g2.trans k2⟩
      · cases e
        exact ⟨rfl, g2⟩
      · cases e
  | .or a b, h => by
    simp only [roE, Bool.and_eq_true] at h
    intro env z e1 hh e
    simp only [evE] at e ⊢
    cases hx : evE C a env with
    | bad => rw [hx] at e; cases e
    | ex => rw [hx] at e; cases e
    | ok x env1 =>
      rw [hx] at e
      obtain ⟨g1, g2⟩ := simE hmo hC a h.1 env x env1 hh hx
      rw [g1]
      simp only [Out.bind_ok] at e ⊢
      split at e
      · obtain ⟨k1, k2⟩ := simE hmo hC b h.2 env1 z e1 (hh.keep g2) e
        exact ⟨k1, g2.trans k2⟩
      · cases e
        exact ⟨rfl, g2⟩
      · cases e
  | .not a, h => by
    intro env z e1 hh e
    simp only [evE] at e ⊢
    cases hx : evE C a env with
    | bad => rw [hx] at e; cases e
    | ex => rw [hx] at e; cases e
    | ok x env1 =>
      rw [hx] at e
      obtain ⟨g1, g2⟩ := simE hmo hC a (by simpa only [roE] using h) env x env1 hh hx
      rw [g1]
      simp only [Out.bind_ok] at e ⊢
      split at e
      · cases e
        exact ⟨rfl, g2⟩
      · cases e
  | .ife c a b, h => by
    simp only [roE, Bool.and_eq_true] at h
    refine (sim_bind (simT hmo hC c h.1) (g := fun x env => if x then evE C a env else evE C b env) (g' := fun x env => if x then evE C' a env else evE C' b env) fun x => ?_).of (fun _ => by simp only [evE]) fun _ => by simp only [evE]
    cases x with
    | true => exact simE hmo hC a h.2.1
    | false => exact simE hmo hC b h.2.2
  | .call f as, h => by
    simp only [roE, Bool.and_eq_true] at h
    intro env a e1 hh e
    simp only [evE] at e ⊢
    cases hx : evAs C as env with
    | bad => rw [hx] at e; cases e
    | ex => rw [hx] at e; cases e
    | ok l env1 =>
      rw [hx] at e
      obtain ⟨g1, g2⟩ := simAs hmo hC as h.1 env l env1 hh hx
      rw [g1]
      obtain ⟨k1, k2⟩ := sim_call hmo hC (l := l) (f := f) (by rw [evAs_fl hx]; exact h.2) env1 a e1 (hh.keep g2) e
      exact ⟨k1, g2.trans k2⟩
  | .callv i tb as, h => by
    simp only [roE, Bool.and_eq_true] at h
    obtain ⟨h0, h1, h2⟩ := h
    intro env a e1 hh e
    simp only [evE] at e ⊢
    rw [rx_no (not_t h0)]
    split at e
    · split at e
      · rename_i x q f q2
        cases hx : evAs C as env with
        | bad => rw [hx] at e; cases e
        | ex => rw [hx] at e; cases e
        | ok l env1 =>
          rw [hx] at e
          obtain ⟨g1, g2⟩ := simAs hmo hC as h1 env l env1 hh hx
          have hn : (l.map (flP S)).any id = false := by
            rw [evAs_fl hx, List.any_eq_false]
            intro b hb
            obtain ⟨z, hz, rfl⟩ := List.mem_map.mp hb
            have := List.all_eq_true.mp h2 z hz
            simpa using this
          rw [g1]
          obtain ⟨k1, k2⟩ := sim_call hmo hC (l := l) (f := f) (hC.fre f _ hn) env1 a e1 (hh.keep g2) e
          exact ⟨k1, g2.trans k2⟩
      · cases e
    · cases e
  | .tup es, h => by
    refine (sim_bind (simEs hmo hC es (by simpa only [roE] using h)) (g := fun ds env => if ds.length ≤ sizeLine then .ok (.tup ds, false) env else .bad) (g' := fun ds env => if ds.length ≤ sizeLine then .ok (.tup ds, false) env else .bad) fun ds => ?_).of (fun _ => by simp only [evE]) fun _ => by simp only [evE]
    by_cases c : ds.length ≤ sizeLine
    · simp only [if_pos c]; exact sim_pure
    · simp only [if_neg c]; exact sim_bad
  | .lst es, h => by
    refine (sim_bind (simEs hmo hC es (by simpa only [roE] using h)) (g := fun ds env => if ds.length ≤ sizeLine then .ok (.lst ds, true) env else .bad) (g' := fun ds env => if ds.length ≤ sizeLine then .ok (.lst ds, true) env else .bad) fun ds => ?_).of (fun _ => by simp only [evE]) fun _ => by simp only [evE]
    by_cases c : ds.length ≤ sizeLine
    · simp only [if_pos c]; exact sim_pure
    · simp only [if_neg c]; exact sim_bad
  | .chain p q a b c, h => by
    simp only [roE, Bool.and_eq_true] at h
    intro env z e1 hh e
    simp only [evE] at e ⊢
    cases hx : evE C a env with
    | bad => rw [hx] at e; cases e
    | ex => rw [hx] at e; cases e
    | ok x env1 =>
      rw [hx] at e
      obtain ⟨g1, g2⟩ := simE hmo hC a h.1 env x env1 hh hx
      rw [g1]
      simp only [Out.bind_ok] at e ⊢
      have hh1 := hh.keep g2
      cases hy : evE C b env1 with
      | bad => rw [hy] at e; cases e
      | ex => rw [hy] at e; cases e
      | ok y env2 =>
        rw [hy] at e
        obtain ⟨g3, g4⟩ := simE hmo hC b h.2.1 env1 y env2 hh1 hy
        rw [g3]
        simp only [Out.bind_ok] at e ⊢
        have hh2 := hh1.keep g4
        split at e
        · obtain ⟨k1, k2⟩ := sim_bind (simE hmo hC c h.2.2) (g := fun z env => lift (prB q [y.1, z.1]) env) (g' := fun z env => lift (prB q [y.1, z.1]) env) (fun z => sim_lift) env2 z e1 hh2 e
          exact ⟨k1, g2.trans (g4.trans k2)⟩
        · cases e
          exact ⟨rfl, g2.trans g4⟩
        · cases e
  | .comp own tg src cond elt, h => by
    simp only [roE, Bool.and_eq_true] at h
    obtain ⟨h1, h2, h3, h4, h5⟩ := h
    intro env a e1 hh e
    simp only [evE] at e ⊢
    cases hx : evI C src env with
    | bad => rw [hx] at e; cases e
    | ex => rw [hx] at e; cases e
    | ok x env1 =>
      obtain ⟨ds, o⟩ := x
      rw [hx] at e
      obtain ⟨g1, g2⟩ := simI hmo hC src h3 env ds o env1 hh hx
      rw [g1]
      simp only [Out.bind_ok] at e ⊢
      have hh1 := hh.keep g2
      obtain ⟨l1, l2⟩ := rx_lock (mo := mo) hh1 o
      rw [← l1, rx_plain h1]
      have hh2 := hh1.keep l2
      split at e
      case isFalse => cases e
      case isTrue hp =>
      rw [if_pos hp]
      obtain ⟨w1, w2⟩ := rx_wipe (mo := mo) (env := lock o env1) h1
      have hh3 := hh2.keep w2
      rw [← w1]
      have turn : ∀ d : D, Sim S mo (fun env => (setG (fun _ => false) tg d env).bind fun _ env => (evTs C cond env).bind (fun b env => if b then (evE C elt env).bind (fun x env => .ok (some x.1) (wipeE env own)) else .ok none (wipeE env own)))
          (fun env => (setG (fun _ => false) tg d env).bind fun _ env => (evTs C' cond env).bind (fun b env => if b then (evE C' elt env).bind (fun x env => .ok (some x.1) (wipeE env own)) else .ok none (wipeE env own))) := fun d => by
        have wp : ∀ a : Option D, Sim S mo (fun env => .ok a (wipeE env own)) (fun env => .ok a (wipeE env own)) := fun a env b e1 hh e => by
          cases e
          obtain ⟨w1, w2⟩ := rx_wipe (mo := mo) (env := env) h1
          exact ⟨by rw [w1], w2⟩
        refine sim_bind (setG_sim (fun _ _ => rfl) h2) fun _ => sim_bind (simTs hmo hC cond h4) fun b => ?_
        cases b with
        | true => exact sim_bind (simE hmo hC elt h5) fun x => wp _
        | false => exact wp _
      cases hl : loopLc (fun d env => (setG (fun _ => false) tg d env).bind fun _ env => (evTs C cond env).bind (fun b env => if b then (evE C elt env).bind (fun x env => .ok (some x.1) (wipeE env own)) else .ok none (wipeE env own))) ds [] (wipeE (lock o env1) own) with
      | bad => rw [hl] at e; cases e
      | ex => rw [hl] at e; cases e
      | ok L env4 =>
        rw [hl] at e
        cases e
        obtain ⟨k1, k2⟩ := loopLc_sim turn ds [] _ L env4 hh3 hl
        rw [k1]
        obtain ⟨r1, r2⟩ := rx_restore (mo := mo) (env0 := lock o env1) (env := env4) h1
        have hh5 := (hh3.keep k2).keep r2
        obtain ⟨u1, u2⟩ := rx_unlock (mo := mo) hh5 o
        refine ⟨?_, g2.trans (l2.trans (w2.trans (k2.trans (r2.trans u2))))⟩
        show Out.ok _ _ = _
        rw [u1, r1]
theorem simA (hmo : mo ≠ .own) (hC : SimC mo chk C C') : ∀ a : IA, roA chk S a = true → Sim S mo (evA C a) (evA C' a)
  | .at i, _ => (peek_sim i).of (fun _ => by simp only [evA]) fun _ => by simp only [evA]
  | .val e, h => (sim_bind (simE hmo hC e (by simpa only [roA] using h)) (g := fun x env => .ok (.val x.1) env) (g' := fun x env => .ok (.val x.1) env) fun x => sim_pure).of (fun _ => by simp only [evA]) fun _ => by simp only [evA]
theorem simAs (hmo : mo ≠ .own) (hC : SimC mo chk C C') : ∀ as : List IA, roAs chk S as = true → Sim S mo (evAs C as) (evAs C' as)
  | [], _ => (sim_pure (a := ([] : List PV))).of (fun _ => by simp only [evAs]) fun _ => by simp only [evAs]
  | a :: as, h => by
    simp only [roAs, Bool.and_eq_true] at h
    exact (sim_bind (simA hmo hC a h.1) (g := fun p env => (evAs C as env).bind (fun ps env => .ok (p :: ps) env)) (g' := fun p env => (evAs C' as env).bind (fun ps env => .ok (p :: ps) env)) fun p => sim_bind (simAs hmo hC as h.2) fun ps => sim_pure).of (fun _ => by simp only [evAs]) fun _ => by simp only [evAs]
theorem simEs (hmo : mo ≠ .own) (hC : SimC mo chk C C') : ∀ as : List IE, roEs chk S as = true → Sim S mo (evEs C as) (evEs C' as)
  | [], _ => (sim_pure (a := ([] : List D))).of (fun _ => by simp only [evEs]) fun _ => by simp only [evEs]
  | a :: as, h => by
    simp only [roEs, Bool.and_eq_true] at h
    exact (sim_bind (simE hmo hC a h.1) (g := fun x env => (evEs C as env).bind (fun xs env => .ok (x.1 :: xs) env)) (g' := fun x env => (evEs C' as env).bind (fun xs env => .ok (x.1 :: xs) env)) fun p => sim_bind (simEs hmo hC as h.2) fun ps => sim_pure).of (fun _ => by simp only [evEs]) fun _ => by simp only [evEs]
theorem simT (hmo : mo ≠ .own) (hC : SimC mo chk C C') : ∀ c : IT, roT chk S c = true → Sim S mo (evT C c) (evT C' c)
  | .val a, h => by
    intro env b e1 hh e
    simp only [evT] at e ⊢
    cases hx : evA C a env with
    | bad => rw [hx] at e; cases e
    | ex => rw [hx] at e; cases e
    | ok p env1 =>
      rw [hx] at e
      obtain ⟨g1, g2⟩ := simA hmo hC a (by simpa only [roT] using h) env p env1 hh hx
      rw [g1]
      simp only [Out.bind_ok] at e ⊢
      rw [rx_fill1 (hh.keep g2)]
      cases hf : fill1 env1 p with
      | none => rw [hf] at e; cases e
      | some d =>
        rw [hf] at e
        obtain ⟨k1, k2⟩ := sim_lift (S := S) (mo := mo) (o := truthy d) env1 b e1 (hh.keep g2) e
        exact ⟨k1, g2.trans k2⟩
  | .and a b, h => by
    simp only [roT, Bool.and_eq_true] at h
    refine (sim_bind (simT hmo hC a h.1) (g := fun x env => if x then evT C b env else .ok false env) (g' := fun x env => if x then evT C' b env else .ok false env) fun x => ?_).of (fun _ => by simp only [evT]) fun _ => by simp only [evT]
    cases x with
    | true => exact simT hmo hC b h.2
    | false => exact sim_pure
  | .or a b, h => by
    simp only [roT, Bool.and_eq_true] at h
    refine (sim_bind (simT hmo hC a h.1) (g := fun x env => if x then .ok true env else evT C b env) (g' := fun x env => if x then .ok true env else evT C' b env) fun x => ?_).of (fun _ => by simp only [evT]) fun _ => by simp only [evT]
    cases x with
    | true => exact sim_pure
    | false => exact simT hmo hC b h.2
  | .not a, h => (sim_bind (simT hmo hC a (by simpa only [roT] using h)) (g := fun x env => .ok (!x) env) (g' := fun x env => .ok (!x) env) fun x => sim_pure).of (fun _ => by simp only [evT]) fun _ => by simp only [evT]
theorem simTs (hmo : mo ≠ .own) (hC : SimC mo chk C C') : ∀ cs : List IT, roTs chk S cs = true → Sim S mo (evTs C cs) (evTs C' cs)
  | [], _ => (sim_pure (a := true)).of (fun _ => by simp only [evTs]) fun _ => by simp only [evTs]
  | c :: cs, h => by
    simp only [roTs, Bool.and_eq_true] at h
    refine (sim_bind (simT hmo hC c h.1) (g := fun x env => if x then evTs C cs env else .ok false env) (g' := fun x env => if x then evTs C' cs env else .ok false env) fun x => ?_).of (fun _ => by simp only [evTs]) fun _ => by simp only [evTs]
    cases x with
    | true => exact simTs hmo hC cs h.2
    | false => exact sim_pure
theorem simI (hmo : mo ≠ .own) (hC : SimC mo chk C C') : ∀ src : II, roI chk S src = true → SimI S mo (evI C src) (evI C' src)
  | .over a, h => by
    intro env ds o e1 hh e
    simp only [evI] at e ⊢
    cases hx : evA C a env with
    | bad => rw [hx] at e; cases e
    | ex => rw [hx] at e; cases e
    | ok p env1 =>
      rw [hx] at e
      obtain ⟨g1, g2⟩ := simA hmo hC a (by simpa only [roI] using h) env p env1 hh hx
      rw [g1]
      simp only [Out.bind_ok] at e ⊢
      rw [rx_fill1 (hh.keep g2), rx_lockOf hmo (hh.keep g2)]
      split at e
      · split at e
        · cases e
          exact ⟨rfl, g2⟩
        · cases e
      · cases e
  | .enum a, h => by
    intro env ds o e1 hh e
    simp only [evI] at e ⊢
    cases hx : evA C a env with
    | bad => rw [hx] at e; cases e
    | ex => rw [hx] at e; cases e
    | ok p env1 =>
      rw [hx] at e
      obtain ⟨g1, g2⟩ := simA hmo hC a (by simpa only [roI] using h) env p env1 hh hx
      rw [g1]
      simp only [Out.bind_ok] at e ⊢
      rw [rx_fill1 (hh.keep g2), rx_lockOf hmo (hh.keep g2)]
      split at e
      · split at e
        · cases e
          exact ⟨rfl, g2⟩
        · cases e
      · cases e
  | .rev a, h => by
    intro env ds o e1 hh e
    simp only [evI] at e ⊢
    cases hx : evA C a env with
    | bad => rw [hx] at e; cases e
    | ex => rw [hx] at e; cases e
    | ok p env1 =>
      rw [hx] at e
      obtain ⟨g1, g2⟩ := simA hmo hC a (by simpa only [roI] using h) env p env1 hh hx
      rw [g1]
      simp only [Out.bind_ok] at e ⊢
      rw [rx_fill1 (hh.keep g2), rx_lockOf hmo (hh.keep g2)]
      split at e
      · cases e
        exact ⟨rfl, g2⟩
      · cases e
  | .zipt a b, h => by
    simp only [roI, Bool.and_eq_true] at h
    intro env ds o e1 hh e
    simp only [evI] at e ⊢
    cases hx : evA C a env with
    | bad => rw [hx] at e; cases e
    | ex => rw [hx] at e; cases e
    | ok p env1 =>
      rw [hx] at e
      obtain ⟨g1, g2⟩ := simA hmo hC a h.1 env p env1 hh hx
      rw [g1]
      simp only [Out.bind_ok] at e ⊢
      cases hy : evA C b env1 with
      | bad => rw [hy] at e; cases e
      | ex => rw [hy] at e; cases e
      | ok q env2 =>
        rw [hy] at e
        obtain ⟨g3, g4⟩ := simA hmo hC b h.2 env1 q env2 (hh.keep g2) hy
        rw [g3]
        simp only [Out.bind_ok] at e ⊢
        rw [rx_fill1 ((hh.keep g2).keep g4), rx_fill1 ((hh.keep g2).keep g4), rx_lockOf hmo ((hh.keep g2).keep g4)]
        split at e
        · cases e
          exact ⟨rfl, g2.trans g4⟩
        · cases e
          exact ⟨rfl, g2.trans g4⟩
        · cases e
  | .cmb a r, h => by
    intro env ds o e1 hh e
    simp only [evI] at e ⊢
    cases hx : evA C a env with
    | bad => rw [hx] at e; cases e
    | ex => rw [hx] at e; cases e
    | ok p env1 =>
      rw [hx] at e
      obtain ⟨g1, g2⟩ := simA hmo hC a (by simpa only [roI] using h) env p env1 hh hx
      rw [g1]
      simp only [Out.bind_ok] at e ⊢
      rw [rx_fill1 (hh.keep g2)]
      split at e
      · split at e
        · cases e
          exact ⟨rfl, g2⟩
        · cases e
      · cases e
  | .range a b, h => by
    simp only [roI, Bool.and_eq_true] at h
    intro env ds o e1 hh e
    simp only [evI] at e ⊢
    cases hx : evE C a env with
    | bad => rw [hx] at e; cases e
    | ex => rw [hx] at e; cases e
    | ok x env1 =>
      rw [hx] at e
      obtain ⟨g1, g2⟩ := simE hmo hC a h.1 env x env1 hh hx
      rw [g1]
      simp only [Out.bind_ok] at e ⊢
      cases hy : evE C b env1 with
      | bad => rw [hy] at e; cases e
      | ex => rw [hy] at e; cases e
      | ok y env2 =>
        rw [hy] at e
        obtain ⟨g3, g4⟩ := simE hmo hC b h.2 env1 y env2 (hh.keep g2) hy
        rw [g3]
        simp only [Out.bind_ok] at e ⊢
        split at e
        · split at e
          · rename_i c
            cases e
            rw [if_pos c]
            exact ⟨rfl, g2.trans g4⟩
          · cases e
        · cases e
  | .cmbR a r, h => by
    intro env ds o e1 hh e
    simp only [evI] at e ⊢
    cases hx : evE C a env with
    | bad => rw [hx] at e; cases e
    | ex => rw [hx] at e; cases e
    | ok x env1 =>
      rw [hx] at e
      obtain ⟨g1, g2⟩ := simE hmo hC a (by simpa only [roI] using h) env x env1 hh hx
      rw [g1]
      simp only [Out.bind_ok] at e ⊢
      split at e
      · split at e
        · rename_i c
          rw [if_pos c]
          split at e
          · cases e
            exact ⟨rfl, g2⟩
          · cases e
        · cases e
      · cases e
end
end
section
variable {S : Nat → Bool} {mo : Mo} {chk : Nat → List Bool → Bool} {C C' : Cl} {pin pin' : Nat → Bool}
theorem m0_caps {p : IP0} {d : D} {a : List Nat × List D} (h : m0 p d = some (some a)) : ∀ j ∈ a.1, j ∈ capP0 p := by
  cases p with
  | wild => cases h; intro j hj; cases hj
  | cap i => cases h; intro j hj; exact hj
  | lit s =>
    cases d <;> simp only [m0] at h <;> try (cases h; done)
    split at h
    · cases h; intro j hj; cases hj
    · cases h
theorem mEach_caps : ∀ {ps : List IP0} {ds : List D} {a : List Nat × List D}, mEach ps ds = some (some a) → ∀ j ∈ a.1, j ∈ ps.flatMap capP0
  | [], [], a, h => by
    simp only [mEach] at h
    cases h
    intro j hj
    cases hj
  | [], _ :: _, a, h => by simp [mEach] at h
  | _ :: _, [], a, h => by simp [mEach] at h
  | p :: ps, d :: ds, a, h => by
    simp only [mEach] at h
    cases q : m0 p d with
    | none => rw [q] at h; cases h
    | some r =>
      rw [q] at h
      cases r with
      | none => cases h
      | some x =>
        simp only at h
        cases q2 : mEach ps ds with
        | none => rw [q2] at h; cases h
        | some r2 =>
          rw [q2] at h
          cases r2 with
          | none => cases h
          | some y =>
            cases h
            intro j hj
            rw [List.flatMap_cons]
            rcases List.mem_append.mp hj with hj | hj
            · exact List.mem_append_left _ (m0_caps q j hj)
            · exact List.mem_append_right _ (mEach_caps q2 j hj)
theorem mP_caps {p : IP} {d : D} {a : List Nat × List D} (h : mP p d = some (some a)) (hn : noS S (capsP p) = true) : noS S a.1 = true := by
  refine List.all_eq_true.mpr fun j hj => ?_
  refine List.all_eq_true.mp hn j ?_
  cases p with
  | wild => simp only [mP] at h; cases h; cases hj
  | lit s => have := m0_caps (p := .lit s) (d := d) (by simpa only [mP] using h) j hj; cases this
  | seq ps =>
    cases d <;> simp only [mP] at h <;> try (cases h; done)
    split at h
    · exact mEach_caps h j hj
    · cases h
theorem sim_wrI (hmo : mo ≠ .own) (hC : SimC mo chk C C') {i : Nat} {k : IE} {d : D} (hi : S i = false) (hk : roE chk S k = true) : Sim S mo (wrI C i k d) (wrI C' i k d) := by
  intro env a e1 hh e
  simp only [wrI] at e ⊢
  cases hp : peek i env with
  | bad => rw [hp] at e; cases e
  | ex => rw [hp] at e; cases e
  | ok p env1 =>
    rw [hp] at e
    obtain ⟨g1, g2⟩ := peek_sim i env p env1 hh hp
    rw [g1]
    simp only [Out.bind_ok] at e ⊢
    have hh1 := hh.keep g2
    cases hx : evE C k env1 with
    | bad => rw [hx] at e; cases e
    | ex => rw [hx] at e; cases e
    | ok y env2 =>
      rw [hx] at e
      obtain ⟨g3, g4⟩ := simE hmo hC k hk env1 y env2 hh1 hx
      rw [g3]
      simp only [Out.bind_ok] at e ⊢
      rw [rx_no hi]
      split at e
      · split at e
        · split at e
          · cases e
            rw [rx_setn hi]
            exact ⟨rfl, g2.trans (g4.trans (keep_set hi))⟩
          · cases e
        · cases e
      · cases e
mutual
theorem simS (hmo : mo ≠ .own) (hC : SimC mo chk C C') (hp : PinS S pin pin') : ∀ s : IS, roS chk S s = true → Sim S mo (evS C pin s) (evS C' pin' s)
  | .set i e, h => by
    simp only [roS, Bool.and_eq_true] at h
    exact (sim_bind (simE hmo hC e h.2) (g := fun x env => (setS pin i x.1 x.2 env).bind fun _ env => .ok Fl.nx env) (g' := fun x env => (setS pin' i x.1 x.2 env).bind fun _ env => .ok Fl.nx env) fun x => sim_bind (setS_sim (not_t h.1) (hp i (not_t h.1))) fun _ => sim_pure).of (fun _ => by simp only [evS]) fun _ => by simp only [evS]
  | .unp l e, h => by
    simp only [roS, Bool.and_eq_true] at h
    exact (sim_bind (simE hmo hC e h.2) (g := fun x env => (setG pin (.tp l) x.1 env).bind fun _ env => .ok Fl.nx env) (g' := fun x env => (setG pin' (.tp l) x.1 env).bind fun _ env => .ok Fl.nx env) fun x => sim_bind (setG_sim hp (g := .tp l) h.1) fun _ => sim_pure).of (fun _ => by simp only [evS]) fun _ => by simp only [evS]
  | .par l es, h => by
    simp only [roS, Bool.and_eq_true] at h
    exact (sim_bind (simEs hmo hC es h.2) (g := fun ds env => (setAll pin l ds env).bind fun _ env => .ok Fl.nx env) (g' := fun ds env => (setAll pin' l ds env).bind fun _ env => .ok Fl.nx env) fun ds => sim_bind (setAll_sim hp h.1) fun _ => sim_pure).of (fun _ => by simp only [evS]) fun _ => by simp only [evS]
  | .setix i k v, h => by
    simp only [roS, Bool.and_eq_true] at h
    have hi := not_t h.1
    intro env a e1 hh e
    simp only [evS] at e ⊢
    cases hx : evE C v env with
    | bad => rw [hx] at e; cases e
    | ex => rw [hx] at e; cases e
    | ok x env1 =>
      rw [hx] at e
      obtain ⟨g1, g2⟩ := simE hmo hC v h.2.2 env x env1 hh hx
      rw [g1]
      simp only [Out.bind_ok] at e ⊢
      have hh1 := hh.keep g2
      cases hq : peek i env1 with
      | bad => rw [hq] at e; cases e
      | ex => rw [hq] at e; cases e
      | ok p env2 =>
        rw [hq] at e
        obtain ⟨g3, g4⟩ := peek_sim i env1 p env2 hh1 hq
        rw [g3]
        simp only [Out.bind_ok] at e ⊢
        have hh2 := hh1.keep g4
        cases hy : evE C k env2 with
        | bad => rw [hy] at e; cases e
        | ex => rw [hy] at e; cases e
        | ok y env3 =>
          rw [hy] at e
          obtain ⟨g5, g6⟩ := simE hmo hC k h.2.1 env2 y env3 hh2 hy
          rw [g5]
          simp only [Out.bind_ok] at e ⊢
          rw [rx_no hi]
          split at e
          · split at e
            · split at e
              · cases e
                rw [rx_setn hi]
                exact ⟨rfl, g2.trans (g4.trans (g6.trans (keep_set hi)))⟩
              · cases e
            · cases e
          · cases e
  | .app i x, h => by
    simp only [roS, Bool.and_eq_true] at h
    have hi := not_t h.1
    intro env a e1 hh e
    simp only [evS] at e ⊢
    rw [rx_no hi]
    split at e
    · cases hx : evE C x env with
      | bad => rw [hx] at e; cases e
      | ex => rw [hx] at e; cases e
      | ok y env1 =>
        rw [hx] at e
        obtain ⟨g1, g2⟩ := simE hmo hC x h.2 env y env1 hh hx
        rw [g1]
        simp only [Out.bind_ok] at e ⊢
        rw [rx_no hi]
        split at e
        · split at e
          · rename_i c
            cases e
            rw [if_pos c, rx_setn hi]
            exact ⟨rfl, g2.trans (keep_set hi)⟩
          · cases e
        · cases e
    · cases e
  | .ext i x, h => by
    simp only [roS, Bool.and_eq_true] at h
    have hi := not_t h.1
    intro env a e1 hh e
    simp only [evS] at e ⊢
    rw [rx_no hi]
    split at e
    · cases hx : evE C x env with
      | bad => rw [hx] at e; cases e
      | ex => rw [hx] at e; cases e
      | ok y env1 =>
        rw [hx] at e
        obtain ⟨g1, g2⟩ := simE hmo hC x h.2 env y env1 hh hx
        rw [g1]
        simp only [Out.bind_ok] at e ⊢
        split at e
        · rw [rx_no hi]
          split at e
          · split at e
            · rename_i c
              cases e
              rw [if_pos c, rx_setn hi]
              exact ⟨rfl, g2.trans (keep_set hi)⟩
            · cases e
          · cases e
        · cases e
    · cases e
  | .rev i, h => by
    have hi := not_t (by simpa only [roS] using h : (!S i) = true)
    intro env a e1 hh e
    simp only [evS] at e ⊢
    rw [rx_no hi]
    split at e
    · cases e
      rw [rx_setn hi]
      exact ⟨rfl, keep_set hi⟩
    · cases e
  | .ins i k x, h => by
    simp only [roS, Bool.and_eq_true] at h
    have hi := not_t h.1
    intro env a e1 hh e
    simp only [evS] at e ⊢
    rw [rx_no hi]
    split at e
    · cases hx : evE C k env with
      | bad => rw [hx] at e; cases e
      | ex => rw [hx] at e; cases e
      | ok y env1 =>
        rw [hx] at e
        obtain ⟨g1, g2⟩ := simE hmo hC k h.2.1 env y env1 hh hx
        rw [g1]
        simp only [Out.bind_ok] at e ⊢
        have hh1 := hh.keep g2
        cases hy : evE C x env1 with
        | bad => rw [hy] at e; cases e
        | ex => rw [hy] at e; cases e
        | ok z env2 =>
          rw [hy] at e
          obtain ⟨g3, g4⟩ := simE hmo hC x h.2.2 env1 z env2 hh1 hy
          rw [g3]
          simp only [Out.bind_ok] at e ⊢
          rw [rx_no hi]
          split at e
          · split at e
            · split at e
              · rename_i c
                cases e
                rw [if_pos c, rx_setn hi]
                exact ⟨rfl, g2.trans (g4.trans (keep_set hi))⟩
              · cases e
            · cases e
          · cases e
    · cases e
  | .rem i x, h => by
    simp only [roS, Bool.and_eq_true] at h
    have hi := not_t h.1
    intro env a e1 hh e
    simp only [evS] at e ⊢
    rw [rx_no hi]
    split at e
    · cases hx : evE C x env with
      | bad => rw [hx] at e; cases e
      | ex => rw [hx] at e; cases e
      | ok y env1 =>
        rw [hx] at e
        obtain ⟨g1, g2⟩ := simE hmo hC x h.2 env y env1 hh hx
        rw [g1]
        simp only [Out.bind_ok] at e ⊢
        rw [rx_no hi]
        split at e
        · split at e
          · rename_i c
            rw [if_pos c]
            split at e
            · cases e
              rw [rx_setn hi]
              exact ⟨rfl, g2.trans (keep_set hi)⟩
            · cases e
          · cases e
        · cases e
    · cases e
  | .unpl l x, h => by
    simp only [roS, Bool.and_eq_true] at h
    intro env a e1 hh e
    simp only [evS] at e ⊢
    cases hx : evE C x env with
    | bad => rw [hx] at e; cases e
    | ex => rw [hx] at e; cases e
    | ok y env1 =>
      rw [hx] at e
      obtain ⟨g1, g2⟩ := simE hmo hC x h.2 env y env1 hh hx
      rw [g1]
      simp only [Out.bind_ok] at e ⊢
      split at e
      · obtain ⟨k1, k2⟩ := sim_bind (setAll_sim hp h.1) (g := fun _ env => .ok Fl.nx env) (g' := fun _ env => .ok Fl.nx env) (fun _ => sim_pure) env1 a e1 (hh.keep g2) e
        exact ⟨k1, g2.trans k2⟩
      · cases e
  | .parix i k l x, h => by
    simp only [roS, Bool.and_eq_true] at h
    have hi := not_t h.1
    intro env a e1 hh e
    simp only [evS] at e ⊢
    cases hx : evE C x env with
    | bad => rw [hx] at e; cases e
    | ex => rw [hx] at e; cases e
    | ok y env1 =>
      rw [hx] at e
      obtain ⟨g1, g2⟩ := simE hmo hC x h.2.2.2 env y env1 hh hx
      rw [g1]
      simp only [Out.bind_ok] at e ⊢
      split at e
      · rename_i u v _
        obtain ⟨k1, k2⟩ := sim_bind (sim_wrI (d := u) hmo hC hi h.2.1) (g := fun _ env => (wrI C i l v env).bind fun _ env => .ok Fl.nx env) (g' := fun _ env => (wrI C' i l v env).bind fun _ env => .ok Fl.nx env) (fun _ => sim_bind (sim_wrI hmo hC hi h.2.2.1) fun _ => sim_pure) env1 a e1 (hh.keep g2) e
        exact ⟨k1, g2.trans k2⟩
      · cases e
  | .no, _ => (sim_bad (g := fun _ => .bad)).of (fun _ => by simp only [evS]) fun _ => by simp only [evS]
  | .ife c a b, h => by
    simp only [roS, Bool.and_eq_true] at h
    refine (sim_bind (simT hmo hC c h.1) (g := fun x env => if x then evSs C pin a env else evSs C pin b env) (g' := fun x env => if x then evSs C' pin' a env else evSs C' pin' b env) fun x => ?_).of (fun _ => by simp only [evS]) fun _ => by simp only [evS]
    cases x with
    | true => exact simSs hmo hC hp a h.2.1
    | false => exact simSs hmo hC hp b h.2.2
  | .forr tg src body, h => by
    simp only [roS, Bool.and_eq_true] at h
    intro env a e1 hh e
    simp only [evS] at e ⊢
    cases hx : evI C src env with
    | bad => rw [hx] at e; cases e
    | ex => rw [hx] at e; cases e
    | ok x env1 =>
      obtain ⟨ds, o⟩ := x
      rw [hx] at e
      obtain ⟨g1, g2⟩ := simI hmo hC src h.2.1 env ds o env1 hh hx
      rw [g1]
      simp only [Out.bind_ok] at e ⊢
      have hh1 := hh.keep g2
      obtain ⟨l1, l2⟩ := rx_lock (mo := mo) hh1 o
      rw [← l1]
      have hh2 := hh1.keep l2
      have turn : ∀ d : D, Sim S mo (fun env => (setG pin tg d env).bind fun _ env => evSs C pin body env) (fun env => (setG pin' tg d env).bind fun _ env => evSs C' pin' body env) := fun d => sim_bind (setG_sim hp h.1) fun _ => simSs hmo hC hp body h.2.2
      cases hl : loopFor (fun d env => (setG pin tg d env).bind fun _ env => evSs C pin body env) ds (lock o env1) with
      | bad => rw [hl] at e; cases e
      | ex => rw [hl] at e; cases e
      | ok L env4 =>
        rw [hl] at e
        cases e
        obtain ⟨k1, k2⟩ := loopFor_sim turn ds _ _ env4 hh2 hl
        rw [k1]
        obtain ⟨u1, u2⟩ := rx_unlock (mo := mo) (hh2.keep k2) o
        refine ⟨?_, g2.trans (l2.trans (k2.trans u2))⟩
        show Out.ok _ _ = _
        rw [u1]
  | .whil c body, h => by
    simp only [roS, Bool.and_eq_true] at h
    exact (loopWhile_sim (simT hmo hC c h.1) (simSs hmo hC hp body h.2) WF).of (fun _ => by simp only [evS]) fun _ => by simp only [evS]
  | .mt i p hit miss, h => by
    simp only [roS, Bool.and_eq_true] at h
    intro env a e1 hh e
    simp only [evS] at e ⊢
    rw [rx_no (not_t h.1)]
    split at e
    · split at e
      · rename_i bs q
        obtain ⟨k1, k2⟩ := sim_bind (setAll_sim hp (mP_caps q h.2.1)) (g := fun _ env => evSs C pin hit env) (g' := fun _ env => evSs C' pin' hit env) (fun _ => simSs hmo hC hp hit h.2.2.1) env a e1 hh e
        exact ⟨k1, k2⟩
      · exact simSs hmo hC hp miss h.2.2.2 env a e1 hh e
      · cases e
    · cases e
  | .ret e, h => (sim_bind (simE hmo hC e (by simpa only [roS] using h)) (g := fun x env => .ok (Fl.rt x.1 x.2) env) (g' := fun x env => .ok (Fl.rt x.1 x.2) env) fun x => sim_pure).of (fun _ => by simp only [evS]) fun _ => by simp only [evS]
  | .retv i, h => by
    have hi := not_t (by simpa only [roS] using h : (!S i) = true)
    intro env a e1 hh e
    simp only [evS] at e ⊢
    rw [rx_no hi, hp i hi]
    split at e
    · split at e
      · rename_i c
        rw [if_pos c]
        obtain ⟨k1, k2⟩ := sim_bind (getV_sim (S := S) (mo := mo) hi) (g := fun x env => .ok (Fl.rt x.1 false) env) (g' := fun x env => .ok (Fl.rt x.1 false) env) (fun x => sim_pure) env a e1 hh e
        exact ⟨k1, k2⟩
      · rename_i c
        rw [if_neg c]
        cases e
        rw [rx_setn hi]
        exact ⟨rfl, keep_set hi⟩
    · cases e
      exact ⟨rfl, .refl⟩
    · cases e
  | .retn, _ => (sim_pure (a := Fl.rt .non false)).of (fun _ => by simp only [evS]) fun _ => by simp only [evS]
  | .brk, _ => (sim_pure (a := Fl.bk)).of (fun _ => by simp only [evS]) fun _ => by simp only [evS]
  | .cont, _ => (sim_pure (a := Fl.ct)).of (fun _ => by simp only [evS]) fun _ => by simp only [evS]
  | .pass, _ => (sim_pure (a := Fl.nx)).of (fun _ => by simp only [evS]) fun _ => by simp only [evS]
theorem simSs (hmo : mo ≠ .own) (hC : SimC mo chk C C') (hp : PinS S pin pin') : ∀ ss : List IS, roSs chk S ss = true → Sim S mo (evSs C pin ss) (evSs C' pin' ss)
  | [], _ => (sim_pure (a := Fl.nx)).of (fun _ => by simp only [evSs]) fun _ => by simp only [evSs]
  | s :: ss, h => by
    simp only [roSs, Bool.and_eq_true] at h
    intro env a e1 hh e
    simp only [evSs] at e ⊢
    cases hx : evS C pin s env with
    | bad => rw [hx] at e; cases e
    | ex => rw [hx] at e; cases e
    | ok fl env1 =>
      rw [hx] at e
      obtain ⟨g1, g2⟩ := simS hmo hC hp s h.1 env fl env1 hh hx
      rw [g1]
      simp only [Out.bind_ok] at e ⊢
      cases fl with
      | nx =>
        obtain ⟨k1, k2⟩ := simSs hmo hC hp ss h.2 env1 a e1 (hh.keep g2) e
        exact ⟨k1, g2.trans k2⟩
      | bk => cases e; exact ⟨rfl, g2⟩
      | ct => cases e; exact ⟨rfl, g2⟩
      | rt d fr => cases e; exact ⟨rfl, g2⟩
end
end
/-- whether a def only reads some of its arguments, so many calls deep -/
def roF (T : Nat → Option Fn) : Nat → Nat → List Bool → Bool
  | 0, _, P => !P.any id
  | n + 1, f, P => !P.any id || match T f with
    | some F => roSs (roF T n) (fun i => P.getD i false) F.body
    | none => true
theorem roF_fre {T : Nat → Option Fn} {n f : Nat} {P : List Bool} (h : P.any id = false) : roF T n f P = true := by
  cases n <;> simp [roF, h]
theorem env0_rx {P : List Bool} {mo : Mo} {bs : List (D × Mo)} {n : Nat} (hP : ∀ j, P.getD j false = true → ∃ d m, m ≠ Mo.frz ∧ bs[j]? = some (d, m)) :
    rx (fun i => P.getD i false) mo (bs.map some ++ List.replicate n none) = (rxA P mo bs).map some ++ List.replicate n none := by
  apply List.ext_getElem?
  intro j
  rw [rx_get]
  by_cases hj : j < bs.length
  · rw [List.getElem?_append_left (by simpa using hj), List.getElem?_append_left (by rw [List.length_map, rxA_len]; exact hj), List.getElem?_map, List.getElem?_map, rxA_get]
    cases bs[j]? with
    | none => rfl
    | some x =>
      simp only [Option.map_some, rxS]
      cases P.getD j false <;> rfl
  · rw [List.getElem?_append_right (by simpa using hj), List.getElem?_append_right (by rw [List.length_map, rxA_len]; omega), List.length_map, List.length_map, rxA_len]
    cases e : (List.replicate n (none : Sl))[j - bs.length]? with
    | none => rfl
    | some s =>
      have : s = none := List.eq_of_mem_replicate (List.mem_of_getElem? e)
      subst this
      simp only [Option.map_some, rxS]
      split <;> rfl
theorem sim_all {T : Nat → Option Fn} {mo : Mo} (hmo : mo ≠ .own) : ∀ n k, SimC mo (roF T n) (callK T k) (callK T k) := by
  have free : ∀ (P : List Bool) (as : List (D × Mo)) (d : D) (fr : Bool) (outs : List (D × Mo)) (f k : Nat), P.any id = false → callK T k f as = .ok d fr outs →
      callK T k f (rxA P mo as) = .ok d fr (rxA P mo outs) ∧ ∀ j d m, P.getD j false = true → as[j]? = some (d, m) → m ≠ Mo.frz → ∃ m1, m1 ≠ Mo.frz ∧ outs[j]? = some (d, m1) := fun P as d fr outs f k hp hr => by
    rw [rxA_no hp, rxA_no hp]
    refine ⟨hr, fun j d m hj => ?_⟩
    exfalso
    rw [List.getD_eq_getElem?_getD] at hj
    cases q : P[j]? with
    | none => rw [q] at hj; cases hj
    | some b => rw [q] at hj; exact List.any_eq_false.mp hp b (List.mem_of_getElem? q) (by simpa using hj)
  intro n
  induction n with
  | zero =>
    intro k
    refine ⟨fun f P h => roF_fre h, fun f P as d fr outs hc _ hr => free P as d fr outs f k (by simpa [roF] using hc) hr⟩
  | succ n ih =>
    intro k
    refine ⟨fun f P h => roF_fre h, fun f P as d fr outs hc hP hr => ?_⟩
    by_cases hn : P.any id = false
    · exact free P as d fr outs f k hn hr
    · have hn : P.any id = true := by simpa using hn
      simp only [roF, hn, Bool.not_true, Bool.false_or] at hc
      cases k with
      | zero => simp [callK] at hr
      | succ k =>
        simp only [callK] at hr ⊢
        cases hF : T f with
        | none => rw [hF] at hr; cases hr
        | some F =>
          rw [hF] at hr hc
          simp only at hr hc ⊢
          have hw : withDv F (rxA P mo as) = rxA P mo (withDv F as) := by
            unfold withDv
            rw [rxA_len]
            apply List.ext_getElem?
            intro j
            by_cases hj : j < as.length
            · rw [List.getElem?_append_left (by rw [rxA_len]; exact hj), rxA_get, rxA_get, List.getElem?_append_left hj]
            · rw [List.getElem?_append_right (by rw [rxA_len]; omega), rxA_get, List.getElem?_append_right (by omega), rxA_len]
              have hf : P.getD j false = false := by
                cases q : P.getD j false with
                | false => rfl
                | true =>
                  obtain ⟨d, m, _, e⟩ := hP j q
                  exact absurd (lt_of_get e) hj
              rw [hf]
              cases (List.map (fun d => (d, Mo.frz)) (List.drop (F.dv.length - (F.np - as.length)) F.dv))[j - as.length]? <;> rfl
          rw [hw]
          have hP' : ∀ j, P.getD j false = true → ∃ d m, m ≠ Mo.frz ∧ (withDv F as)[j]? = some (d, m) := fun j hj => by
            obtain ⟨d, m, hm, e⟩ := hP j hj
            exact ⟨d, m, hm, by unfold withDv; rw [List.getElem?_append_left (lt_of_get e)]; exact e⟩
          have hA : ∀ j d m, P.getD j false = true → as[j]? = some (d, m) → (withDv F as)[j]? = some (d, m) := fun j d m hj e => by
            unfold withDv
            rw [List.getElem?_append_left (lt_of_get e)]
            exact e
          generalize withDv F as = bs at *
          unfold runFull at hr ⊢
          rw [rxA_len]
          split at hr
          case isFalse => cases hr
          case isTrue hl =>
          rw [if_pos hl, ← env0_rx hP']
          have hd : HdS (fun i => P.getD i false) (bs.map some ++ List.replicate (F.n - F.np) none) := fun i hi => by
            obtain ⟨d, m, hm, e⟩ := hP' i hi
            exact ⟨d, m, hm, by rw [List.getElem?_append_left (by rw [List.length_map]; exact lt_of_get e), List.getElem?_map, e]; rfl⟩
          have hpin : PinS (fun i => P.getD i false) (pinOf bs) (pinOf (rxA P mo bs)) := fun i hi => by
            unfold pinOf
            rw [rxA_get]
            simp only at hi
            rw [hi]
            cases bs[i]? <;> rfl
          have go := simSs (pin := pinOf bs) (pin' := pinOf (rxA P mo bs)) hmo (ih k) hpin F.body hc
          have outOf : ∀ env : En, KeepS (fun i => P.getD i false) (bs.map some ++ List.replicate (F.n - F.np) none) env →
              ((rx (fun i => P.getD i false) mo env).take F.np).map (fun s => s.getD (.non, .frz)) = rxA P mo ((env.take F.np).map fun s => s.getD (.non, .frz)) ∧
              ∀ j d m, P.getD j false = true → as[j]? = some (d, m) → m ≠ Mo.frz → ∃ m1, m1 ≠ Mo.frz ∧ ((env.take F.np).map fun s => s.getD (.non, .frz))[j]? = some (d, m1) := fun env kp => by
            have at1 : ∀ j d m, P.getD j false = true → bs[j]? = some (d, m) → m ≠ Mo.frz → ∃ m1, m1 ≠ Mo.frz ∧ env[j]? = some (some (d, m1)) ∧ j < F.np := fun j d m hj e hm => by
              obtain ⟨m1, h1, h2⟩ := kp.dat j d m hj (by rw [List.getElem?_append_left (by rw [List.length_map]; exact lt_of_get e), List.getElem?_map, e]; rfl) hm
              exact ⟨m1, h1, h2, by rw [← hl]; exact lt_of_get e⟩
            constructor
            · apply List.ext_getElem?
              intro j
              rw [rxA_get, List.getElem?_map, List.getElem?_map]
              by_cases hj : j < F.np
              · rw [List.getElem?_take_of_lt hj, List.getElem?_take_of_lt hj, rx_get]
                by_cases hs : P.getD j false = true
                · obtain ⟨d, m, hm, e⟩ := hP' j hs
                  obtain ⟨m1, _, e1, _⟩ := at1 j d m hs e hm
                  rw [e1]
                  simp only [Option.map_some, rxS, hs, if_true, Option.getD_some]
                · have hs : P.getD j false = false := by simpa using hs
                  cases env[j]? with
                  | none => rfl
                  | some s => simp only [Option.map_some, rxS, hs, Bool.false_eq_true, if_false]
              · rw [List.getElem?_eq_none (by rw [List.length_take]; omega), List.getElem?_eq_none (by rw [List.length_take]; omega)]
                rfl
            · intro j d m hj e hm
              obtain ⟨m1, h1, h2, h3⟩ := at1 j d m hj (hA j d m hj e) hm
              refine ⟨m1, h1, ?_⟩
              rw [List.getElem?_map, List.getElem?_take_of_lt h3, h2]
              rfl
          split at hr
          · rename_i d' fr' env' q
            cases hr
            obtain ⟨k1, k2⟩ := go _ _ _ hd q
            rw [k1]
            obtain ⟨o1, o2⟩ := outOf env' k2
            exact ⟨by simp only; rw [o1], o2⟩
          · rename_i env' q
            cases hr
            obtain ⟨k1, k2⟩ := go _ _ _ hd q
            rw [k1]
            obtain ⟨o1, o2⟩ := outOf env' k2
            exact ⟨by simp only; rw [o1], o2⟩
          · cases hr
/-- a promise for an owned list that is only read is one for a frozen, for a held one -/
theorem RetB.ro {T : Nat → Option Fn} {k f : Nat} {a b d : D} {fr : Bool} {as : List (D × Mo)} (h : RetB (callK T k) f a as d fr b) {mo : Mo} (hmo : mo ≠ .own) (hc : roF T 60 f [true] = true) : Ret (callK T k) f ((a, mo) :: as) d fr := by
  obtain ⟨outs, h⟩ := h
  obtain ⟨h1, _⟩ := (sim_all (T := T) hmo 60 k).sim f [true] _ _ _ _ hc (fun j hj => by
    cases j with
    | zero => exact ⟨a, .own, by decide, rfl⟩
    | succ j => simp at hj) h
  rw [rxA_cons, if_pos rfl, rxA_no rfl] at h1
  exact ⟨_, h1⟩
theorem RetC.ro {T : Nat → Option Fn} {k f : Nat} {a b a' b' d : D} {fr : Bool} {as : List (D × Mo)} (h : RetC (callK T k) f a b as d fr a' b') {mo : Mo} (hmo : mo ≠ .own) (hc : roF T 60 f [true, true] = true) : Ret (callK T k) f ((a, mo) :: (b, mo) :: as) d fr := by
  obtain ⟨outs, h⟩ := h
  obtain ⟨h1, _⟩ := (sim_all (T := T) hmo 60 k).sim f [true, true] _ _ _ _ hc (fun j hj => by
    match j with
    | 0 => exact ⟨a, .own, by decide, rfl⟩
    | 1 => exact ⟨b, .own, by decide, rfl⟩
    | j + 2 => simp at hj) h
  rw [rxA_cons, rxA_cons, if_pos rfl, if_pos rfl, rxA_no rfl] at h1
  exact ⟨_, h1⟩
theorem RetB.frz {T : Nat → Option Fn} {k f : Nat} {a b d : D} {fr : Bool} {as : List (D × Mo)} (h : RetB (callK T k) f a as d fr b) (hc : roF T 60 f [true] = true) : Ret (callK T k) f ((a, .frz) :: as) d fr := h.ro (by decide) hc
theorem RetB.lck {T : Nat → Option Fn} {k f : Nat} {a b d : D} {fr : Bool} {as : List (D × Mo)} (h : RetB (callK T k) f a as d fr b) (hc : roF T 60 f [true] = true) : Ret (callK T k) f ((a, .lck) :: as) d fr := h.ro (by decide) hc
end Z
namespace Z
open PySem PySem.Spec PyProof.Rows L2
section
variable {C : Cl} {pin : Nat → Bool} {env e1 e2 e3 : En} {d d1 d2 d3 d4 c c2 : D} {m m1 m2 : Mo} {fr f1 f2 f3 : Bool} {i j f : Nat} {p q : Pr} {a b : IE} {s s2 s3 : Sl} {t t2 t3 : D × Mo}
theorem gd_out {α : Type} {a b : Out α} (h : a = b) : a = b := h
theorem gd_opt {α : Type} {a b : Option α} (h : a = b) : a = b := h
theorem gd_prB {l : List D} {r : Option (D × Bool)} (h : prB p l = r) : prB p l = r := h
theorem gd_padd {x y : D} {r : Option (D × Bool)} (h : prB .add [x, y] = r) : prB .add [x, y] = r := h
theorem gd_psl {lo hi : Bool} {l : List D} {r : Option (D × Bool)} (h : prB (.sl lo hi) l = r) : prB (.sl lo hi) l = r := h
theorem gd_pix0 {x : D} {r : Option (D × Bool)} (h : prB .ix [x, .int 0] = r) : prB .ix [x, .int 0] = r := h
theorem gd_pix1 {x : D} {r : Option (D × Bool)} (h : prB .ix [x, .int 1] = r) : prB .ix [x, .int 1] = r := h
theorem gd_plen {x : D} {r : Option (D × Bool)} (h : prB .len [x] = r) : prB .len [x] = r := h
theorem gd_bool {a b : Bool} (h : a = b) : a = b := h
theorem gd_evE {x : IE} {r : Out (D × Bool)} (h : evE C x env = r) : evE C x env = r := h
theorem gd_wp {P : Po} {o : Out Fl} (h : Wp P o) : Wp P o := h
theorem z1 (h1 : evE C a env = .ok (d1, f1) e1) (h2 : prB p [d1] = some (d, fr)) : evE C (.op p [.val a]) env = .ok (d, fr) e1 := x_op (x_as (x_val h1) x_as0) (x_fillv x_fill0) h2
theorem z1a (h1 : env[i]? = some (some (d1, m1))) (h2 : prB p [d1] = some (d, fr)) : evE C (.op p [.at i]) env = .ok (d, fr) env := x_op (x_as (x_at h1) x_as0) (x_filla h1 x_fill0) h2
theorem z2c (h1 : evE C a env = .ok (d1, f1) e1) (h2 : prB p [d1, c] = some (d, fr)) : evE C (.op p [.val a, .val (.cst c)]) env = .ok (d, fr) e1 := x_op (x_as (x_val h1) (x_as (x_val x_cst) x_as0)) (x_fillv (x_fillv x_fill0)) h2
theorem z2ac (h1 : env[i]? = some (some (d1, m1))) (h2 : prB p [d1, c] = some (d, fr)) : evE C (.op p [.at i, .val (.cst c)]) env = .ok (d, fr) env := x_op (x_as (x_at h1) (x_as (x_val x_cst) x_as0)) (x_filla h1 (x_fillv x_fill0)) h2
theorem z2ca (h1 : env[i]? = some (some (d1, m1))) (h2 : prB p [c, d1] = some (d, fr)) : evE C (.op p [.val (.cst c), .at i]) env = .ok (d, fr) env := x_op (x_as (x_val x_cst) (x_as (x_at h1) x_as0)) (x_fillv (x_filla h1 x_fill0)) h2
theorem z2vv (h1 : evE C a env = .ok (d1, f1) e1) (h3 : evE C b e1 = .ok (d2, f2) e2) (h2 : prB p [d1, d2] = some (d, fr)) : evE C (.op p [.val a, .val b]) env = .ok (d, fr) e2 := x_op (x_as (x_val h1) (x_as (x_val h3) x_as0)) (x_fillv (x_fillv x_fill0)) h2
theorem z2av (h1 : env[i]? = some (some t)) (h3 : evE C b env = .ok (d2, f2) e2) (h4 : e2[i]? = some (some (d1, m1))) (h2 : prB p [d1, d2] = some (d, fr)) : evE C (.op p [.at i, .val b]) env = .ok (d, fr) e2 := x_op (x_as (x_at h1) (x_as (x_val h3) x_as0)) (x_filla h4 (x_fillv x_fill0)) h2
theorem z2va (h1 : evE C a env = .ok (d1, f1) e1) (h4 : e1[i]? = some (some (d2, m2))) (h2 : prB p [d1, d2] = some (d, fr)) : evE C (.op p [.val a, .at i]) env = .ok (d, fr) e1 := x_op (x_as (x_val h1) (x_as (x_at h4) x_as0)) (x_fillv (x_filla h4 x_fill0)) h2
theorem z2aa (h1 : env[i]? = some (some (d1, m1))) (h3 : env[j]? = some (some (d2, m2))) (h2 : prB p [d1, d2] = some (d, fr)) : evE C (.op p [.at i, .at j]) env = .ok (d, fr) env := x_op (x_as (x_at h1) (x_as (x_at h3) x_as0)) (x_filla h1 (x_filla h3 x_fill0)) h2
theorem z2ac0 (h1 : env[i]? = some (some (d1, m1))) (h2 : prB p [d1, Z.fr 0] = some (d, f1)) : evE C (.op p [.at i, .val (.cst (.tup [.int 0, .int 1]))]) env = .ok (d, f1) env := z2ac h1 h2
theorem z2c0 (h1 : evE C a env = .ok (d1, f1) e1) (h2 : prB p [d1, Z.fr 0] = some (d, f2)) : evE C (.op p [.val a, .val (.cst (.tup [.int 0, .int 1]))]) env = .ok (d, f2) e1 := z2c h1 h2
theorem z2ca0 (h1 : env[i]? = some (some (d1, m1))) (h2 : prB p [Z.fr 0, d1] = some (d, f1)) : evE C (.op p [.val (.cst (.tup [.int 0, .int 1])), .at i]) env = .ok (d, f1) env := z2ca h1 h2
theorem z2ac1 (h1 : env[i]? = some (some (d1, m1))) (h2 : prB p [d1, Z.fr 1] = some (d, f1)) : evE C (.op p [.at i, .val (.cst (.tup [.int 1, .int 1]))]) env = .ok (d, f1) env := z2ac h1 h2
theorem z2c1 (h1 : evE C a env = .ok (d1, f1) e1) (h2 : prB p [d1, Z.fr 1] = some (d, f2)) : evE C (.op p [.val a, .val (.cst (.tup [.int 1, .int 1]))]) env = .ok (d, f2) e1 := z2c h1 h2
theorem z2ca1 (h1 : env[i]? = some (some (d1, m1))) (h2 : prB p [Z.fr 1, d1] = some (d, f1)) : evE C (.op p [.val (.cst (.tup [.int 1, .int 1])), .at i]) env = .ok (d, f1) env := z2ca h1 h2
theorem zcv {a0 : IE} {g0 : Bool} {w0 : En} {x0 : D} (h0 : evE C a0 env = .ok (x0, g0) w0) (h : Ret C f [(x0, .frz)] d fr) : evE C (.call f [.val a0]) env = .ok (d, fr) w0 := x_call (x_as (x_val h0) x_as0) (y_do0 (x_ownv x_own0) (x_argvv x_argv0) h)
theorem zca {i0 : Nat} {x0 : D} (u0 : env[i0]? = some (some (x0, .frz))) (h : Ret C f [(x0, .frz)] d fr) : evE C (.call f [.at i0]) env = .ok (d, fr) env := x_call (x_as (x_at u0) x_as0) (y_do0 (x_owna u0 x_own0) (x_argva u0 x_argv0) h)
theorem zcvv {a0 : IE} {g0 : Bool} {w0 : En} {x0 : D} {a1 : IE} {g1 : Bool} {w1 : En} {x1 : D} (h0 : evE C a0 env = .ok (x0, g0) w0) (h1 : evE C a1 w0 = .ok (x1, g1) w1) (h : Ret C f [(x0, .frz), (x1, .frz)] d fr) : evE C (.call f [.val a0, .val a1]) env = .ok (d, fr) w1 := x_call (x_as (x_val h0) (x_as (x_val h1) x_as0)) (y_do0 (x_ownv (x_ownv x_own0)) (x_argvv (x_argvv x_argv0)) h)
theorem zcva {a0 : IE} {g0 : Bool} {w0 : En} {x0 : D} {i1 : Nat} {x1 y1 : D} (u1 : env[i1]? = some (some (y1, .frz))) (h0 : evE C a0 env = .ok (x0, g0) w0) (k1 : w0[i1]? = some (some (x1, .frz))) (h : Ret C f [(x0, .frz), (x1, .frz)] d fr) : evE C (.call f [.val a0, .at i1]) env = .ok (d, fr) w0 := x_call (x_as (x_val h0) (x_as (x_at k1) x_as0)) (y_do0 (x_ownv (x_owna k1 x_own0)) (x_argvv (x_argva k1 x_argv0)) h)
theorem zcav {i0 : Nat} {x0 y0 : D} {a1 : IE} {g1 : Bool} {w1 : En} {x1 : D} (u0 : env[i0]? = some (some (y0, .frz))) (h1 : evE C a1 env = .ok (x1, g1) w1) (k0 : w1[i0]? = some (some (x0, .frz))) (h : Ret C f [(x0, .frz), (x1, .frz)] d fr) : evE C (.call f [.at i0, .val a1]) env = .ok (d, fr) w1 := x_call (x_as (x_at u0) (x_as (x_val h1) x_as0)) (y_do0 (x_owna k0 (x_ownv x_own0)) (x_argva k0 (x_argvv x_argv0)) h)
theorem zcaa {i0 : Nat} {x0 : D} {i1 : Nat} {x1 : D} (u0 : env[i0]? = some (some (x0, .frz))) (u1 : env[i1]? = some (some (x1, .frz))) (h : Ret C f [(x0, .frz), (x1, .frz)] d fr) : evE C (.call f [.at i0, .at i1]) env = .ok (d, fr) env := x_call (x_as (x_at u0) (x_as (x_at u1) x_as0)) (y_do0 (x_owna u0 (x_owna u1 x_own0)) (x_argva u0 (x_argva u1 x_argv0)) h)
theorem zcvvv {a0 : IE} {g0 : Bool} {w0 : En} {x0 : D} {a1 : IE} {g1 : Bool} {w1 : En} {x1 : D} {a2 : IE} {g2 : Bool} {w2 : En} {x2 : D} (h0 : evE C a0 env = .ok (x0, g0) w0) (h1 : evE C a1 w0 = .ok (x1, g1) w1) (h2 : evE C a2 w1 = .ok (x2, g2) w2) (h : Ret C f [(x0, .frz), (x1, .frz), (x2, .frz)] d fr) : evE C (.call f [.val a0, .val a1, .val a2]) env = .ok (d, fr) w2 := x_call (x_as (x_val h0) (x_as (x_val h1) (x_as (x_val h2) x_as0))) (y_do0 (x_ownv (x_ownv (x_ownv x_own0))) (x_argvv (x_argvv (x_argvv x_argv0))) h)
theorem zcvva {a0 : IE} {g0 : Bool} {w0 : En} {x0 : D} {a1 : IE} {g1 : Bool} {w1 : En} {x1 : D} {i2 : Nat} {x2 y2 : D} (u2 : env[i2]? = some (some (y2, .frz))) (h0 : evE C a0 env = .ok (x0, g0) w0) (h1 : evE C a1 w0 = .ok (x1, g1) w1) (k2 : w1[i2]? = some (some (x2, .frz))) (h : Ret C f [(x0, .frz), (x1, .frz), (x2, .frz)] d fr) : evE C (.call f [.val a0, .val a1, .at i2]) env = .ok (d, fr) w1 := x_call (x_as (x_val h0) (x_as (x_val h1) (x_as (x_at k2) x_as0))) (y_do0 (x_ownv (x_ownv (x_owna k2 x_own0))) (x_argvv (x_argvv (x_argva k2 x_argv0))) h)
theorem zcvav {a0 : IE} {g0 : Bool} {w0 : En} {x0 : D} {i1 : Nat} {x1 y1 z1 : D} {a2 : IE} {g2 : Bool} {w2 : En} {x2 : D} (u1 : env[i1]? = some (some (y1, .frz))) (h0 : evE C a0 env = .ok (x0, g0) w0) (p1 : w0[i1]? = some (some (z1, .frz))) (h2 : evE C a2 w0 = .ok (x2, g2) w2) (k1 : w2[i1]? = some (some (x1, .frz))) (h : Ret C f [(x0, .frz), (x1, .frz), (x2, .frz)] d fr) : evE C (.call f [.val a0, .at i1, .val a2]) env = .ok (d, fr) w2 := x_call (x_as (x_val h0) (x_as (x_at p1) (x_as (x_val h2) x_as0))) (y_do0 (x_ownv (x_owna k1 (x_ownv x_own0))) (x_argvv (x_argva k1 (x_argvv x_argv0))) h)
theorem zcvaa {a0 : IE} {g0 : Bool} {w0 : En} {x0 : D} {i1 : Nat} {x1 y1 : D} {i2 : Nat} {x2 y2 : D} (u1 : env[i1]? = some (some (y1, .frz))) (u2 : env[i2]? = some (some (y2, .frz))) (h0 : evE C a0 env = .ok (x0, g0) w0) (k1 : w0[i1]? = some (some (x1, .frz))) (k2 : w0[i2]? = some (some (x2, .frz))) (h : Ret C f [(x0, .frz), (x1, .frz), (x2, .frz)] d fr) : evE C (.call f [.val a0, .at i1, .at i2]) env = .ok (d, fr) w0 := x_call (x_as (x_val h0) (x_as (x_at k1) (x_as (x_at k2) x_as0))) (y_do0 (x_ownv (x_owna k1 (x_owna k2 x_own0))) (x_argvv (x_argva k1 (x_argva k2 x_argv0))) h)
theorem zcavv {i0 : Nat} {x0 y0 : D} {a1 : IE} {g1 : Bool} {w1 : En} {x1 : D} {a2 : IE} {g2 : Bool} {w2 : En} {x2 : D} (u0 : env[i0]? = some (some (y0, .frz))) (h1 : evE C a1 env = .ok (x1, g1) w1) (h2 : evE C a2 w1 = .ok (x2, g2) w2) (k0 : w2[i0]? = some (some (x0, .frz))) (h : Ret C f [(x0, .frz), (x1, .frz), (x2, .frz)] d fr) : evE C (.call f [.at i0, .val a1, .val a2]) env = .ok (d, fr) w2 := x_call (x_as (x_at u0) (x_as (x_val h1) (x_as (x_val h2) x_as0))) (y_do0 (x_owna k0 (x_ownv (x_ownv x_own0))) (x_argva k0 (x_argvv (x_argvv x_argv0))) h)
theorem zcava {i0 : Nat} {x0 y0 : D} {a1 : IE} {g1 : Bool} {w1 : En} {x1 : D} {i2 : Nat} {x2 y2 : D} (u0 : env[i0]? = some (some (y0, .frz))) (u2 : env[i2]? = some (some (y2, .frz))) (h1 : evE C a1 env = .ok (x1, g1) w1) (k0 : w1[i0]? = some (some (x0, .frz))) (k2 : w1[i2]? = some (some (x2, .frz))) (h : Ret C f [(x0, .frz), (x1, .frz), (x2, .frz)] d fr) : evE C (.call f [.at i0, .val a1, .at i2]) env = .ok (d, fr) w1 := x_call (x_as (x_at u0) (x_as (x_val h1) (x_as (x_at k2) x_as0))) (y_do0 (x_owna k0 (x_ownv (x_owna k2 x_own0))) (x_argva k0 (x_argvv (x_argva k2 x_argv0))) h)
theorem zcaav {i0 : Nat} {x0 y0 : D} {i1 : Nat} {x1 y1 : D} {a2 : IE} {g2 : Bool} {w2 : En} {x2 : D} (u0 : env[i0]? = some (some (y0, .frz))) (u1 : env[i1]? = some (some (y1, .frz))) (h2 : evE C a2 env = .ok (x2, g2) w2) (k0 : w2[i0]? = some (some (x0, .frz))) (k1 : w2[i1]? = some (some (x1, .frz))) (h : Ret C f [(x0, .frz), (x1, .frz), (x2, .frz)] d fr) : evE C (.call f [.at i0, .at i1, .val a2]) env = .ok (d, fr) w2 := x_call (x_as (x_at u0) (x_as (x_at u1) (x_as (x_val h2) x_as0))) (y_do0 (x_owna k0 (x_owna k1 (x_ownv x_own0))) (x_argva k0 (x_argva k1 (x_argvv x_argv0))) h)
theorem zcaaa {i0 : Nat} {x0 : D} {i1 : Nat} {x1 : D} {i2 : Nat} {x2 : D} (u0 : env[i0]? = some (some (x0, .frz))) (u1 : env[i1]? = some (some (x1, .frz))) (u2 : env[i2]? = some (some (x2, .frz))) (h : Ret C f [(x0, .frz), (x1, .frz), (x2, .frz)] d fr) : evE C (.call f [.at i0, .at i1, .at i2]) env = .ok (d, fr) env := x_call (x_as (x_at u0) (x_as (x_at u1) (x_as (x_at u2) x_as0))) (y_do0 (x_owna u0 (x_owna u1 (x_owna u2 x_own0))) (x_argva u0 (x_argva u1 (x_argva u2 x_argv0))) h)
theorem zb {y z' : D}  (o : env[i]? = some (some (y, .own))) (h : RetB C f y [] d fr z') (hs : env.set i (some (z', .own)) = e3) : evE C (.call f [.at i]) env = .ok (d, fr) e3 := x_call (x_as (x_at o) x_as0) (y_do1 o x_own0 x_argv0 h hs)
theorem zbv {y z z' : D} {a0 : IE} {g0 : Bool} {w0 : En} {x0 : D} (o : env[i]? = some (some (y, .own))) (h0 : evE C a0 env = .ok (x0, g0) w0) (o2 : w0[i]? = some (some (z, .own))) (h : RetB C f z [(x0, .frz)] d fr z') (hs : w0.set i (some (z', .own)) = e3) : evE C (.call f [.at i, .val a0]) env = .ok (d, fr) e3 := x_call (x_as (x_at o) (x_as (x_val h0) x_as0)) (y_do1 o2 (x_ownv x_own0) (x_argvv x_argv0) h hs)
theorem zba {y z' : D} {i0 : Nat} {x0 : D} (o : env[i]? = some (some (y, .own))) (u0 : env[i0]? = some (some (x0, .frz))) (h : RetB C f y [(x0, .frz)] d fr z') (hs : env.set i (some (z', .own)) = e3) : evE C (.call f [.at i, .at i0]) env = .ok (d, fr) e3 := x_call (x_as (x_at o) (x_as (x_at u0) x_as0)) (y_do1 o (x_owna u0 x_own0) (x_argva u0 x_argv0) h hs)
theorem zbvv {y z z' : D} {a0 : IE} {g0 : Bool} {w0 : En} {x0 : D} {a1 : IE} {g1 : Bool} {w1 : En} {x1 : D} (o : env[i]? = some (some (y, .own))) (h0 : evE C a0 env = .ok (x0, g0) w0) (h1 : evE C a1 w0 = .ok (x1, g1) w1) (o2 : w1[i]? = some (some (z, .own))) (h : RetB C f z [(x0, .frz), (x1, .frz)] d fr z') (hs : w1.set i (some (z', .own)) = e3) : evE C (.call f [.at i, .val a0, .val a1]) env = .ok (d, fr) e3 := x_call (x_as (x_at o) (x_as (x_val h0) (x_as (x_val h1) x_as0))) (y_do1 o2 (x_ownv (x_ownv x_own0)) (x_argvv (x_argvv x_argv0)) h hs)
theorem zbva {y z z' : D} {a0 : IE} {g0 : Bool} {w0 : En} {x0 : D} {i1 : Nat} {x1 y1 : D} (o : env[i]? = some (some (y, .own))) (u1 : env[i1]? = some (some (y1, .frz))) (h0 : evE C a0 env = .ok (x0, g0) w0) (k1 : w0[i1]? = some (some (x1, .frz))) (o2 : w0[i]? = some (some (z, .own))) (h : RetB C f z [(x0, .frz), (x1, .frz)] d fr z') (hs : w0.set i (some (z', .own)) = e3) : evE C (.call f [.at i, .val a0, .at i1]) env = .ok (d, fr) e3 := x_call (x_as (x_at o) (x_as (x_val h0) (x_as (x_at k1) x_as0))) (y_do1 o2 (x_ownv (x_owna k1 x_own0)) (x_argvv (x_argva k1 x_argv0)) h hs)
theorem zbav {y z z' : D} {i0 : Nat} {x0 y0 : D} {a1 : IE} {g1 : Bool} {w1 : En} {x1 : D} (o : env[i]? = some (some (y, .own))) (u0 : env[i0]? = some (some (y0, .frz))) (h1 : evE C a1 env = .ok (x1, g1) w1) (k0 : w1[i0]? = some (some (x0, .frz))) (o2 : w1[i]? = some (some (z, .own))) (h : RetB C f z [(x0, .frz), (x1, .frz)] d fr z') (hs : w1.set i (some (z', .own)) = e3) : evE C (.call f [.at i, .at i0, .val a1]) env = .ok (d, fr) e3 := x_call (x_as (x_at o) (x_as (x_at u0) (x_as (x_val h1) x_as0))) (y_do1 o2 (x_owna k0 (x_ownv x_own0)) (x_argva k0 (x_argvv x_argv0)) h hs)
theorem zbaa {y z' : D} {i0 : Nat} {x0 : D} {i1 : Nat} {x1 : D} (o : env[i]? = some (some (y, .own))) (u0 : env[i0]? = some (some (x0, .frz))) (u1 : env[i1]? = some (some (x1, .frz))) (h : RetB C f y [(x0, .frz), (x1, .frz)] d fr z') (hs : env.set i (some (z', .own)) = e3) : evE C (.call f [.at i, .at i0, .at i1]) env = .ok (d, fr) e3 := x_call (x_as (x_at o) (x_as (x_at u0) (x_as (x_at u1) x_as0))) (y_do1 o (x_owna u0 (x_owna u1 x_own0)) (x_argva u0 (x_argva u1 x_argv0)) h hs)
theorem gd_c1 {x : IA} {r : Out (D × Bool)} (h : evE C (.call f [x]) env = r) : evE C (.call f [x]) env = r := h
theorem gd_c2 {x y : IA} {r : Out (D × Bool)} (h : evE C (.call f [x, y]) env = r) : evE C (.call f [x, y]) env = r := h
theorem gd_c3 {x y z : IA} {r : Out (D × Bool)} (h : evE C (.call f [x, y, z]) env = r) : evE C (.call f [x, y, z]) env = r := h
theorem gd_op {l : List IA} {r : Out (D × Bool)} (h : evE C (.op p l) env = r) : evE C (.op p l) env = r := h
theorem zTv {k : Bool} (h1 : evE C a env = .ok (d, f1) e1) (h2 : truthy d = some k) : evT C (.val (.val a)) env = .ok k e1 := x_T (x_val h1) x_f1v h2
theorem zTa {k : Bool} (h1 : env[i]? = some (some (d, m))) (h2 : truthy d = some k) : evT C (.val (.at i)) env = .ok k env := x_T (x_at h1) (x_f1a h1) h2
end
end Z
namespace Z
open PySem PySem.Spec PyProof.Rows L2
def topS (i : Nat) : Stmt := PySem.Challenge.pw_raytrain_k07_empty_regions_and_their_pap.main.body.getD i (.Pass ⟨0, 0, 0, 0⟩)
def F_common_divisor : Fn := ⟨2, [], 2, [.ret (.op .gcd [(.at 0), (.at 1)])]⟩
def F_fraction : Fn := ⟨2, [(.int (1))], 3, [.ife (.val (.val (.op .lt [(.at 1), (.val (.cst (.int (0))))]))) [.par [0, 1] [(.op .neg [(.at 0)]), (.op .neg [(.at 1)])]] [], .set 2 (.call 0 [(.at 0), (.at 1)]), .ret (.tup [(.op .fdiv [(.at 0), (.at 2)]), (.op .fdiv [(.at 1), (.at 2)])])]⟩
def F_add : Fn := ⟨2, [], 2, [.ret (.call 1 [(.val (.op .add [(.val (.op .mul [(.val (.op .ix [(.at 0), (.val (.cst (.int (0))))])), (.val (.op .ix [(.at 1), (.val (.cst (.int (1))))]))])), (.val (.op .mul [(.val (.op .ix [(.at 1), (.val (.cst (.int (0))))])), (.val (.op .ix [(.at 0), (.val (.cst (.int (1))))]))]))])), (.val (.op .mul [(.val (.op .ix [(.at 0), (.val (.cst (.int (1))))])), (.val (.op .ix [(.at 1), (.val (.cst (.int (1))))]))]))])]⟩
def F_subtract : Fn := ⟨2, [], 2, [.ret (.call 2 [(.at 0), (.val (.call 6 [(.at 1)]))])]⟩
def F_multiply : Fn := ⟨2, [], 2, [.ret (.call 1 [(.val (.op .mul [(.val (.op .ix [(.at 0), (.val (.cst (.int (0))))])), (.val (.op .ix [(.at 1), (.val (.cst (.int (0))))]))])), (.val (.op .mul [(.val (.op .ix [(.at 0), (.val (.cst (.int (1))))])), (.val (.op .ix [(.at 1), (.val (.cst (.int (1))))]))]))])]⟩
def F_divide : Fn := ⟨2, [], 2, [.ret (.call 1 [(.val (.op .mul [(.val (.op .ix [(.at 0), (.val (.cst (.int (0))))])), (.val (.op .ix [(.at 1), (.val (.cst (.int (1))))]))])), (.val (.op .mul [(.val (.op .ix [(.at 0), (.val (.cst (.int (1))))])), (.val (.op .ix [(.at 1), (.val (.cst (.int (0))))]))]))])]⟩
def F_negative : Fn := ⟨1, [], 1, [.ret (.tup [(.op .neg [(.val (.op .ix [(.at 0), (.val (.cst (.int (0))))]))]), (.op .ix [(.at 0), (.val (.cst (.int (1))))])])]⟩
def F_sign : Fn := ⟨1, [], 1, [.ret (.call 8 [(.at 0), (.val (.cst (.tup [(.int (0)), (.int (1))])))])]⟩
def F_compare : Fn := ⟨2, [], 4, [.set 2 (.op .mul [(.val (.op .ix [(.at 0), (.val (.cst (.int (0))))])), (.val (.op .ix [(.at 1), (.val (.cst (.int (1))))]))]), .set 3 (.op .mul [(.val (.op .ix [(.at 1), (.val (.cst (.int (0))))])), (.val (.op .ix [(.at 0), (.val (.cst (.int (1))))]))]), .ife (.val (.val (.op .lt [(.at 2), (.at 3)]))) [.ret (.op .neg [(.val (.cst (.int (1))))])] [], .ret (.ife (.val (.val (.op .gt [(.at 2), (.at 3)]))) (.cst (.int (1))) (.cst (.int (0))))]⟩
def F_is_less : Fn := ⟨2, [], 2, [.ret (.op .lt [(.val (.call 8 [(.at 0), (.at 1)])), (.val (.cst (.int (0))))])]⟩
def F_is_at_most : Fn := ⟨2, [], 2, [.ret (.op .le [(.val (.call 8 [(.at 0), (.at 1)])), (.val (.cst (.int (0))))])]⟩
def F_least_of : Fn := ⟨1, [], 3, [.set 1 (.cst .non), .forr (.nm 2) (.over (.at 0)) [.ife (.and (.val (.val (.op .notn [(.at 2)]))) (.or (.val (.val (.op .isn [(.at 1)]))) (.val (.val (.call 9 [(.at 2), (.at 1)]))))) [.set 1 (.var 2)] []], .retv 1]⟩
def F_greatest_of : Fn := ⟨1, [], 3, [.set 1 (.cst .non), .forr (.nm 2) (.over (.at 0)) [.ife (.and (.val (.val (.op .notn [(.at 2)]))) (.or (.val (.val (.op .isn [(.at 1)]))) (.val (.val (.call 9 [(.at 1), (.at 2)]))))) [.set 1 (.var 2)] []], .retv 1]⟩
def F_nearest_to_zero : Fn := ⟨2, [], 2, [.ife (.and (.val (.val (.op .notn [(.at 0)]))) (.val (.val (.op .gt [(.val (.call 7 [(.at 0)])), (.val (.cst (.int (0))))])))) [.retv 0] [], .ife (.and (.val (.val (.op .notn [(.at 1)]))) (.val (.val (.op .lt [(.val (.call 7 [(.at 1)])), (.val (.cst (.int (0))))])))) [.retv 1] [], .ret (.cst (.tup [(.int (0)), (.int (1))]))]⟩
def F_span_between : Fn := ⟨2, [], 4, [.set 2 (.call 12 [(.at 0)]), .set 3 (.call 11 [(.at 1)]), .ife (.and (.val (.val (.op .notn [(.at 2)]))) (.and (.val (.val (.op .notn [(.at 3)]))) (.val (.val (.call 9 [(.at 3), (.at 2)]))))) [.ret (.cst .non)] [], .ret (.tup [(.var 2), (.var 3)])]⟩
def F_value_at : Fn := ⟨2, [], 7, [.unp [2, 3, 4] (.var 0), .unp [5, 6] (.var 1), .ret (.call 1 [(.val (.op .add [(.val (.op .mul [(.val (.op .mul [(.at 2), (.val (.op .ix [(.at 5), (.val (.cst (.int (0))))]))])), (.val (.op .ix [(.at 6), (.val (.cst (.int (1))))]))])), (.val (.op .mul [(.val (.op .mul [(.at 3), (.val (.op .ix [(.at 6), (.val (.cst (.int (0))))]))])), (.val (.op .ix [(.at 5), (.val (.cst (.int (1))))]))]))])), (.val (.op .mul [(.val (.op .ix [(.at 5), (.val (.cst (.int (1))))])), (.val (.op .ix [(.at 6), (.val (.cst (.int (1))))]))]))])]⟩
def F_contains_ray : Fn := ⟨2, [], 3, [.forr (.nm 2) (.over (.at 0)) [.ife (.not (.val (.val (.call 10 [(.val (.call 15 [(.at 2), (.at 1)])), (.val (.call 1 [(.val (.op .ix [(.at 2), (.val (.cst (.int (2))))]))]))])))) [.ret (.cst (.bl false))] []], .ret (.cst (.bl true))]⟩
def F_determinant : Fn := ⟨2, [], 2, [.ret (.op .sub [(.val (.op .mul [(.val (.op .ix [(.at 0), (.val (.cst (.int (0))))])), (.val (.op .ix [(.at 1), (.val (.cst (.int (1))))]))])), (.val (.op .mul [(.val (.op .ix [(.at 0), (.val (.cst (.int (1))))])), (.val (.op .ix [(.at 1), (.val (.cst (.int (0))))]))]))])]⟩
def F_product : Fn := ⟨2, [], 2, [.ret (.op .add [(.val (.op .mul [(.val (.op .ix [(.at 0), (.val (.cst (.int (0))))])), (.val (.op .ix [(.at 1), (.val (.cst (.int (0))))]))])), (.val (.op .mul [(.val (.op .ix [(.at 0), (.val (.cst (.int (1))))])), (.val (.op .ix [(.at 1), (.val (.cst (.int (1))))]))]))])]⟩
def F_nearest_ray : Fn := ⟨1, [], 5, [.unp [1, 2, 3] (.var 0), .set 4 (.call 18 [(.at 0), (.at 0)]), .ret (.tup [(.call 1 [(.val (.op .mul [(.at 1), (.at 3)])), (.at 4)]), (.call 1 [(.val (.op .mul [(.at 2), (.at 3)])), (.at 4)])])]⟩
def F_ray_along : Fn := ⟨2, [], 7, [.unp [2, 3, 4] (.var 0), .unp [5, 6] (.call 19 [(.at 0)]), .ret (.tup [(.call 2 [(.at 5), (.val (.call 4 [(.at 1), (.val (.call 1 [(.val (.op .neg [(.at 3)]))]))]))]), (.call 2 [(.at 6), (.val (.call 4 [(.at 1), (.val (.call 1 [(.at 2)]))]))])])]⟩
def F_span_on_line : Fn := ⟨2, [], 8, [.set 2 (.call 19 [(.at 0)]), .set 3 (.lst []), .set 4 (.lst []), .forr (.nm 5) (.over (.at 1)) [.set 6 (.call 3 [(.val (.call 1 [(.val (.op .ix [(.at 5), (.val (.cst (.int (2))))]))])), (.val (.call 15 [(.at 5), (.at 2)]))]), .set 7 (.call 17 [(.at 0), (.at 5)]), .ife (.val (.val (.op .gt [(.at 7), (.val (.cst (.int (0))))]))) [.app 4 (.call 5 [(.at 6), (.val (.call 1 [(.at 7)]))])] [.ife (.val (.val (.op .lt [(.at 7), (.val (.cst (.int (0))))]))) [.app 3 (.call 5 [(.at 6), (.val (.call 1 [(.at 7)]))])] [.ife (.val (.val (.op .lt [(.val (.call 7 [(.at 6)])), (.val (.cst (.int (0))))]))) [.ret (.cst .non)] []]]], .ret (.call 14 [(.at 3), (.at 4)])]⟩
def F_some_ray : Fn := ⟨1, [], 7, [.set 1 (.tup [(.cst (.tup [(.int (0)), (.int (1))])), (.cst (.tup [(.int (0)), (.int (1))]))]), .forr (.tp [2, 3]) (.enum (.at 0)) [.ife (.not (.val (.val (.call 16 [(.val (.lst [(.var 3)])), (.at 1)])))) [.set 4 (.call 21 [(.at 3), (.val (.op (.sl false true) [(.at 0), (.val (.var 2))]))]), .ife (.val (.val (.op .isn [(.at 4)]))) [.ret (.cst .non)] [], .unp [5, 6] (.var 4), .set 1 (.call 20 [(.at 3), (.val (.call 13 [(.at 5), (.at 6)]))])] []], .retv 1]⟩
def F_is_empty : Fn := ⟨1, [], 1, [.ret (.op .isn [(.val (.call 22 [(.at 0)]))])]⟩
def F_share_of : Fn := ⟨2, [], 2, [.ife (.or (.val (.val (.op .ne [(.val (.call 17 [(.at 0), (.at 1)])), (.val (.cst (.int (0))))]))) (.val (.val (.op .lt [(.val (.call 18 [(.at 0), (.at 1)])), (.val (.cst (.int (0))))])))) [.ret (.cst .non)] [], .ret (.call 1 [(.val (.call 18 [(.at 0), (.at 1)])), (.val (.call 18 [(.at 1), (.at 1)]))])]⟩
def F_sum_of : Fn := ⟨2, [], 8, [.set 2 (.tup [(.cst (.tup [(.int (0)), (.int (1))])), (.cst (.tup [(.int (0)), (.int (1))])), (.cst (.tup [(.int (0)), (.int (1))]))]), .forr (.tp [3, 4]) (.over (.at 1)) [.set 5 (.comp [6, 7] (.nm 7) (.over (.val (.op .ix [(.at 0), (.at 3)]))) [] (.call 4 [(.at 4), (.val (.call 1 [(.at 7)]))])), .set 2 (.tup [(.call 2 [(.val (.op .ix [(.at 2), (.val (.cst (.int (0))))])), (.val (.op .ix [(.at 5), (.val (.cst (.int (0))))]))]), (.call 2 [(.val (.op .ix [(.at 2), (.val (.cst (.int (1))))])), (.val (.op .ix [(.at 5), (.val (.cst (.int (1))))]))]), (.call 2 [(.val (.op .ix [(.at 2), (.val (.cst (.int (2))))])), (.val (.op .ix [(.at 5), (.val (.cst (.int (2))))]))])])], .retv 2]⟩
def F_is_well_formed : Fn := ⟨2, [], 5, [.set 2 (.op .neg [(.val (.cst (.int (1))))]), .forr (.tp [3, 4]) (.over (.at 1)) [.ife (.or (.val (.val (.op .le [(.at 3), (.at 2)]))) (.or (.val (.val (.op .ge [(.at 3), (.val (.op .len [(.at 0)]))]))) (.val (.val (.op .le [(.val (.call 7 [(.at 4)])), (.val (.cst (.int (0))))]))))) [.ret (.cst (.bl false))] [], .set 2 (.var 3)], .ret (.cst (.bl true))]⟩
def F_verify_emptiness : Fn := ⟨2, [], 5, [.ife (.not (.val (.val (.call 26 [(.at 0), (.at 1)])))) [.ret (.cst (.bl false))] [], .unp [2, 3, 4] (.call 25 [(.at 0), (.at 1)]), .ret (.and (.op .eq [(.at 2), (.val (.cst (.tup [(.int (0)), (.int (1))])))]) (.and (.op .eq [(.at 3), (.val (.cst (.tup [(.int (0)), (.int (1))])))]) (.op .lt [(.val (.call 7 [(.at 4)])), (.val (.cst (.int (0))))])))]⟩
def F_emptiness_certificate : Fn := ⟨1, [], 2, [.ife (.not (.val (.val (.call 23 [(.at 0)])))) [.ret (.cst .non)] [], .set 1 (.call 29 [(.at 0)]), .ret (.ife (.val (.val (.op .isn [(.at 1)]))) (.call 30 [(.at 0)]) (.var 1))]⟩
def F_first_contrary_pair : Fn := ⟨1, [], 10, [.forr (.tp [1, 2]) (.cmbR (.op .len [(.at 0)]) 2) [.unp [3, 4, 5] (.op .ix [(.at 0), (.at 2)]), .set 6 (.call 24 [(.val (.tup [(.op .neg [(.at 3)]), (.op .neg [(.at 4)]), (.cst (.int (0)))])), (.val (.op .ix [(.at 0), (.at 1)]))]), .ife (.val (.val (.op .notn [(.at 6)]))) [.unp [7, 8] (.var 6), .set 9 (.lst [(.tup [(.var 1), (.call 1 [(.at 7)])]), (.tup [(.var 2), (.call 1 [(.at 8)])])]), .ife (.val (.val (.call 27 [(.at 0), (.at 9)]))) [.retv 9] []] []], .ret (.cst .non)]⟩
def F_first_contrary_three : Fn := ⟨1, [], 7, [.forr (.nm 1) (.cmbR (.op .len [(.at 0)]) 3) [.set 2 (.call 31 [(.val (.comp [4, 5] (.nm 5) (.over (.at 1)) [] (.op .ix [(.at 0), (.at 5)])))]), .ife (.val (.val (.op .notn [(.at 2)]))) [.set 3 (.comp [4, 5, 6] (.tp [5, 6]) (.zipt (.at 1) (.at 2)) [] (.tup [(.var 5), (.call 1 [(.at 6)])])), .ife (.val (.val (.call 27 [(.at 0), (.at 3)]))) [.retv 3] []] []], .ret (.cst .non)]⟩
def F_balancing_weights : Fn := ⟨1, [], 8, [.unpl [1, 2, 3] (.var 0), .set 4 (.lst [(.call 17 [(.at 2), (.at 3)]), (.call 17 [(.at 3), (.at 1)]), (.call 17 [(.at 1), (.at 2)])]), .ife (.val (.val (.op .lt [(.val (.op .min [(.at 4)])), (.val (.cst (.int (0))))]))) [.set 4 (.comp [6, 7] (.nm 7) (.over (.at 4)) [] (.op .neg [(.at 7)]))] [], .ife (.val (.val (.op .le [(.val (.op .min [(.at 4)])), (.val (.cst (.int (0))))]))) [.ret (.cst .non)] [], .set 5 (.call 0 [(.val (.call 0 [(.val (.op .ix [(.at 4), (.val (.cst (.int (0))))])), (.val (.op .ix [(.at 4), (.val (.cst (.int (1))))]))])), (.val (.op .ix [(.at 4), (.val (.cst (.int (2))))]))]), .ret (.comp [6, 7] (.nm 7) (.over (.at 4)) [] (.op .fdiv [(.at 7), (.at 5)]))]⟩
def F__law_cell : Fn := ⟨2, [], 2, [.ife (.val (.val (.op .lt [(.at 1), (.val (.op .len [(.at 0)]))]))) [.ret (.op .ix [(.at 0), (.at 1)])] [], .ret (.cst (.int (0)))]⟩
def F__law_digits : Fn := ⟨3, [], 8, [.set 3 (.lst []), .forr (.nm 4) (.range (.var 1) (.var 2)) [.set 5 (.call 32 [(.at 0), (.at 4)]), .ife (.val (.val (.op .lt [(.at 5), (.val (.cst (.int (0))))]))) [.set 5 (.op .sub [(.val (.cst (.int (1)))), (.val (.op .mul [(.val (.cst (.int (2)))), (.at 5)]))])] [], .ife (.val (.val (.op .ge [(.at 5), (.val (.op .pow [(.val (.cst (.int (10)))), (.val (.cst (.int (18))))]))]))) [.forr (.nm 6) (.range (.cst (.int (0))) (.cst (.int (60)))) [.ife (.val (.val (.op .gt [(.at 5), (.val (.cst (.int (0))))]))) [.app 3 (.op .mod [(.val (.op .int [(.at 5)])), (.val (.cst (.int (1000))))]), .set 5 (.op .fdiv [(.at 5), (.val (.cst (.int (1000))))])] []]] [.set 7 (.op .mod [(.val (.op .int [(.val (.op .add [(.val (.op .add [(.val (.op .mul [(.at 5), (.val (.cst (.int (48271))))])), (.val (.op .mul [(.at 4), (.val (.cst (.int (69621))))]))])), (.val (.cst (.int (11))))]))])), (.val (.cst (.int (2147483647))))]), .forr (.nm 6) (.range (.cst (.int (0))) (.cst (.int (12)))) [.set 7 (.op .mod [(.val (.op .int [(.val (.op .add [(.val (.op .add [(.val (.op .mul [(.at 7), (.val (.cst (.int (16807))))])), (.val (.op .mul [(.val (.cst (.int (7)))), (.at 6)]))])), (.val (.cst (.int (1))))]))])), (.val (.cst (.int (2147483647))))]), .app 3 (.op .mod [(.val (.op .int [(.val (.op .fdiv [(.at 7), (.val (.cst (.int (997))))]))])), (.val (.cst (.int (1000))))])]]], .retv 3]⟩
def F__law_draw : Fn := ⟨2, [], 3, [.set 2 (.op .ix [(.at 0), (.val (.cst (.int (1))))]), .setix 0 (.cst (.int (1))) (.op .add [(.at 2), (.val (.cst (.int (1))))]), .ife (.val (.val (.op .lt [(.at 2), (.val (.op .len [(.val (.op .ix [(.at 0), (.val (.cst (.int (0))))]))]))]))) [.ret (.op .mod [(.val (.op .int [(.val (.op .ix [(.val (.op .ix [(.at 0), (.val (.cst (.int (0))))])), (.at 2)]))])), (.at 1)])] [], .ret (.cst (.int (0)))]⟩
def F__law_divisor : Fn := ⟨2, [], 3, [.set 0 (.op .abs [(.at 0)]), .set 1 (.op .abs [(.at 1)]), .forr (.nm 2) (.range (.cst (.int (0))) (.cst (.int (400)))) [.ife (.val (.val (.op .gt [(.at 1), (.val (.cst (.int (0))))]))) [.par [0, 1] [(.var 1), (.op .mod [(.at 0), (.at 1)])]] []], .retv 0]⟩
def F__law_fr : Fn := ⟨2, [], 3, [.ife (.val (.val (.op .lt [(.at 1), (.val (.cst (.int (0))))]))) [.set 0 (.op .sub [(.val (.cst (.int (0)))), (.at 0)]), .set 1 (.op .sub [(.val (.cst (.int (0)))), (.at 1)])] [], .set 2 (.call 35 [(.at 0), (.at 1)]), .ret (.tup [(.op .fdiv [(.at 0), (.at 2)]), (.op .fdiv [(.at 1), (.at 2)])])]⟩
def F__law_add : Fn := ⟨2, [], 2, [.ret (.call 36 [(.val (.op .add [(.val (.op .mul [(.val (.op .ix [(.at 0), (.val (.cst (.int (0))))])), (.val (.op .ix [(.at 1), (.val (.cst (.int (1))))]))])), (.val (.op .mul [(.val (.op .ix [(.at 1), (.val (.cst (.int (0))))])), (.val (.op .ix [(.at 0), (.val (.cst (.int (1))))]))]))])), (.val (.op .mul [(.val (.op .ix [(.at 0), (.val (.cst (.int (1))))])), (.val (.op .ix [(.at 1), (.val (.cst (.int (1))))]))]))])]⟩
def F__law_mul : Fn := ⟨2, [], 2, [.ret (.call 36 [(.val (.op .mul [(.val (.op .ix [(.at 0), (.val (.cst (.int (0))))])), (.val (.op .ix [(.at 1), (.val (.cst (.int (0))))]))])), (.val (.op .mul [(.val (.op .ix [(.at 0), (.val (.cst (.int (1))))])), (.val (.op .ix [(.at 1), (.val (.cst (.int (1))))]))]))])]⟩
def F__law_less : Fn := ⟨2, [], 2, [.ret (.op .lt [(.val (.op .mul [(.val (.op .ix [(.at 0), (.val (.cst (.int (0))))])), (.val (.op .ix [(.at 1), (.val (.cst (.int (1))))]))])), (.val (.op .mul [(.val (.op .ix [(.at 1), (.val (.cst (.int (0))))])), (.val (.op .ix [(.at 0), (.val (.cst (.int (1))))]))]))])]⟩
def F__law_plane : Fn := ⟨1, [], 5, [.set 1 (.op .sub [(.val (.call 34 [(.at 0), (.val (.cst (.int (5))))])), (.val (.cst (.int (2))))]), .set 2 (.op .sub [(.val (.call 34 [(.at 0), (.val (.cst (.int (5))))])), (.val (.cst (.int (2))))]), .ife (.and (.val (.val (.op .eq [(.at 1), (.val (.cst (.int (0))))]))) (.val (.val (.op .eq [(.at 2), (.val (.cst (.int (0))))])))) [.set 1 (.cst (.int (1)))] [], .set 3 (.op .sub [(.val (.call 34 [(.at 0), (.val (.cst (.int (11))))])), (.val (.cst (.int (4))))]), .set 4 (.call 35 [(.val (.call 35 [(.at 1), (.at 2)])), (.at 3)]), .ret (.tup [(.op .fdiv [(.at 1), (.at 4)]), (.op .fdiv [(.at 2), (.at 4)]), (.op .fdiv [(.at 3), (.at 4)])])]⟩
def F__law_planes : Fn := ⟨2, [], 6, [.set 2 (.comp [4, 5] (.nm 5) (.range (.cst (.int (0))) (.call 34 [(.at 0), (.val (.op .add [(.at 1), (.val (.cst (.int (1))))]))])) [] (.call 40 [(.at 0)])), .ife (.and (.val (.val (.op .gt [(.val (.op .len [(.at 2)])), (.val (.cst (.int (0))))]))) (.val (.val (.op .eq [(.val (.call 34 [(.at 0), (.val (.cst (.int (4))))])), (.val (.cst (.int (0))))])))) [.set 3 (.op .ix [(.at 2), (.val (.call 34 [(.at 0), (.val (.op .len [(.at 2)]))]))]), .app 2 (.tup [(.op .sub [(.val (.cst (.int (0)))), (.val (.op .ix [(.at 3), (.val (.cst (.int (0))))]))]), (.op .sub [(.val (.cst (.int (0)))), (.val (.op .ix [(.at 3), (.val (.cst (.int (1))))]))]), (.op .sub [(.val (.cst (.int (0)))), (.val (.op .ix [(.at 3), (.val (.cst (.int (2))))]))])])] [], .retv 2]⟩
def F__law_value : Fn := ⟨2, [], 2, [.ret (.call 37 [(.val (.call 38 [(.val (.tup [(.op .ix [(.at 0), (.val (.cst (.int (0))))]), (.cst (.int (1)))])), (.val (.op .ix [(.at 1), (.val (.cst (.int (0))))]))])), (.val (.call 38 [(.val (.tup [(.op .ix [(.at 0), (.val (.cst (.int (1))))]), (.cst (.int (1)))])), (.val (.op .ix [(.at 1), (.val (.cst (.int (1))))]))]))])]⟩
def F__law_holds : Fn := ⟨2, [], 3, [.forr (.nm 2) (.over (.at 0)) [.ife (.val (.val (.call 39 [(.val (.tup [(.op .ix [(.at 2), (.val (.cst (.int (2))))]), (.cst (.int (1)))])), (.val (.call 42 [(.at 2), (.at 1)]))]))) [.ret (.cst (.bl false))] []], .ret (.cst (.bl true))]⟩
def F__law_meet : Fn := ⟨2, [], 3, [.set 2 (.op .sub [(.val (.op .mul [(.val (.op .ix [(.at 0), (.val (.cst (.int (0))))])), (.val (.op .ix [(.at 1), (.val (.cst (.int (1))))]))])), (.val (.op .mul [(.val (.op .ix [(.at 0), (.val (.cst (.int (1))))])), (.val (.op .ix [(.at 1), (.val (.cst (.int (0))))]))]))]), .ife (.val (.val (.op .eq [(.at 2), (.val (.cst (.int (0))))]))) [.ret (.cst .non)] [], .ret (.tup [(.call 36 [(.val (.op .sub [(.val (.op .mul [(.val (.op .ix [(.at 0), (.val (.cst (.int (2))))])), (.val (.op .ix [(.at 1), (.val (.cst (.int (1))))]))])), (.val (.op .mul [(.val (.op .ix [(.at 1), (.val (.cst (.int (2))))])), (.val (.op .ix [(.at 0), (.val (.cst (.int (1))))]))]))])), (.at 2)]), (.call 36 [(.val (.op .sub [(.val (.op .mul [(.val (.op .ix [(.at 0), (.val (.cst (.int (0))))])), (.val (.op .ix [(.at 1), (.val (.cst (.int (2))))]))])), (.val (.op .mul [(.val (.op .ix [(.at 1), (.val (.cst (.int (0))))])), (.val (.op .ix [(.at 0), (.val (.cst (.int (2))))]))]))])), (.at 2)])])]⟩
def F__law_points : Fn := ⟨1, [], 7, [.set 1 (.lst [(.tup [(.tup [(.cst (.int (0))), (.cst (.int (1)))]), (.tup [(.cst (.int (0))), (.cst (.int (1)))])])]), .forr (.nm 2) (.over (.at 0)) [.set 3 (.op .add [(.val (.op .mul [(.val (.op .ix [(.at 2), (.val (.cst (.int (0))))])), (.val (.op .ix [(.at 2), (.val (.cst (.int (0))))]))])), (.val (.op .mul [(.val (.op .ix [(.at 2), (.val (.cst (.int (1))))])), (.val (.op .ix [(.at 2), (.val (.cst (.int (1))))]))]))]), .app 1 (.tup [(.call 36 [(.val (.op .mul [(.val (.op .ix [(.at 2), (.val (.cst (.int (2))))])), (.val (.op .ix [(.at 2), (.val (.cst (.int (0))))]))])), (.at 3)]), (.call 36 [(.val (.op .mul [(.val (.op .ix [(.at 2), (.val (.cst (.int (2))))])), (.val (.op .ix [(.at 2), (.val (.cst (.int (1))))]))])), (.at 3)])]), .forr (.nm 4) (.over (.at 0)) [.set 5 (.call 44 [(.at 2), (.at 4)]), .ife (.val (.val (.op .notn [(.at 5)]))) [.app 1 (.var 5)] []]], .ret (.comp [6, 5] (.nm 5) (.over (.at 1)) [(.val (.val (.call 43 [(.at 0), (.at 5)])))] (.var 5))]⟩
def F__law_pair : Fn := ⟨2, [], 5, [.ife (.or (.val (.val (.op .ne [(.val (.op .mul [(.val (.op .ix [(.at 0), (.val (.cst (.int (0))))])), (.val (.op .ix [(.at 1), (.val (.cst (.int (1))))]))])), (.val (.op .mul [(.val (.op .ix [(.at 0), (.val (.cst (.int (1))))])), (.val (.op .ix [(.at 1), (.val (.cst (.int (0))))]))]))]))) (.val (.val (.op .ge [(.val (.op .add [(.val (.op .mul [(.val (.op .ix [(.at 0), (.val (.cst (.int (0))))])), (.val (.op .ix [(.at 1), (.val (.cst (.int (0))))]))])), (.val (.op .mul [(.val (.op .ix [(.at 0), (.val (.cst (.int (1))))])), (.val (.op .ix [(.at 1), (.val (.cst (.int (1))))]))]))])), (.val (.cst (.int (0))))])))) [.ret (.cst .non)] [], .set 2 (.op .add [(.val (.op .abs [(.val (.op .ix [(.at 1), (.val (.cst (.int (0))))]))])), (.val (.op .abs [(.val (.op .ix [(.at 1), (.val (.cst (.int (1))))]))]))]), .set 3 (.op .add [(.val (.op .abs [(.val (.op .ix [(.at 0), (.val (.cst (.int (0))))]))])), (.val (.op .abs [(.val (.op .ix [(.at 0), (.val (.cst (.int (1))))]))]))]), .set 4 (.call 35 [(.at 2), (.at 3)]), .ife (.val (.val (.op .ge [(.val (.op .add [(.val (.op .mul [(.val (.op .fdiv [(.at 2), (.at 4)])), (.val (.op .ix [(.at 0), (.val (.cst (.int (2))))]))])), (.val (.op .mul [(.val (.op .fdiv [(.at 3), (.at 4)])), (.val (.op .ix [(.at 1), (.val (.cst (.int (2))))]))]))])), (.val (.cst (.int (0))))]))) [.ret (.cst .non)] [], .ret (.lst [(.op .fdiv [(.at 2), (.at 4)]), (.op .fdiv [(.at 3), (.at 4)])])]⟩
def F__law_three : Fn := ⟨3, [], 7, [.set 3 (.op .sub [(.val (.op .mul [(.val (.op .ix [(.at 1), (.val (.cst (.int (0))))])), (.val (.op .ix [(.at 2), (.val (.cst (.int (1))))]))])), (.val (.op .mul [(.val (.op .ix [(.at 1), (.val (.cst (.int (1))))])), (.val (.op .ix [(.at 2), (.val (.cst (.int (0))))]))]))]), .set 4 (.op .sub [(.val (.op .mul [(.val (.op .ix [(.at 2), (.val (.cst (.int (0))))])), (.val (.op .ix [(.at 0), (.val (.cst (.int (1))))]))])), (.val (.op .mul [(.val (.op .ix [(.at 2), (.val (.cst (.int (1))))])), (.val (.op .ix [(.at 0), (.val (.cst (.int (0))))]))]))]), .set 5 (.op .sub [(.val (.op .mul [(.val (.op .ix [(.at 0), (.val (.cst (.int (0))))])), (.val (.op .ix [(.at 1), (.val (.cst (.int (1))))]))])), (.val (.op .mul [(.val (.op .ix [(.at 0), (.val (.cst (.int (1))))])), (.val (.op .ix [(.at 1), (.val (.cst (.int (0))))]))]))]), .ife (.val (.val (.op .lt [(.at 3), (.val (.cst (.int (0))))]))) [.par [3, 4, 5] [(.op .sub [(.val (.cst (.int (0)))), (.at 3)]), (.op .sub [(.val (.cst (.int (0)))), (.at 4)]), (.op .sub [(.val (.cst (.int (0)))), (.at 5)])]] [], .ife (.or (.val (.val (.op .le [(.at 3), (.val (.cst (.int (0))))]))) (.or (.val (.val (.op .le [(.at 4), (.val (.cst (.int (0))))]))) (.or (.val (.val (.op .le [(.at 5), (.val (.cst (.int (0))))]))) (.val (.val (.op .ge [(.val (.op .add [(.val (.op .add [(.val (.op .mul [(.at 3), (.val (.op .ix [(.at 0), (.val (.cst (.int (2))))]))])), (.val (.op .mul [(.at 4), (.val (.op .ix [(.at 1), (.val (.cst (.int (2))))]))]))])), (.val (.op .mul [(.at 5), (.val (.op .ix [(.at 2), (.val (.cst (.int (2))))]))]))])), (.val (.cst (.int (0))))])))))) [.ret (.cst .non)] [], .set 6 (.call 35 [(.val (.call 35 [(.at 3), (.at 4)])), (.at 5)]), .ret (.lst [(.op .fdiv [(.at 3), (.at 6)]), (.op .fdiv [(.at 4), (.at 6)]), (.op .fdiv [(.at 5), (.at 6)])])]⟩
def F__law_first : Fn := ⟨1, [], 6, [.set 1 (.op .len [(.at 0)]), .forr (.nm 2) (.range (.cst (.int (0))) (.var 1)) [.forr (.nm 3) (.range (.op .add [(.at 2), (.val (.cst (.int (1))))]) (.var 1)) [.set 4 (.call 46 [(.val (.op .ix [(.at 0), (.at 2)])), (.val (.op .ix [(.at 0), (.at 3)]))]), .ife (.val (.val (.op .notn [(.at 4)]))) [.ret (.lst [(.tup [(.var 2), (.tup [(.op .ix [(.at 4), (.val (.cst (.int (0))))]), (.cst (.int (1)))])]), (.tup [(.var 3), (.tup [(.op .ix [(.at 4), (.val (.cst (.int (1))))]), (.cst (.int (1)))])])])] []]], .forr (.nm 2) (.range (.cst (.int (0))) (.var 1)) [.forr (.nm 3) (.range (.op .add [(.at 2), (.val (.cst (.int (1))))]) (.var 1)) [.forr (.nm 5) (.range (.op .add [(.at 3), (.val (.cst (.int (1))))]) (.var 1)) [.set 4 (.call 47 [(.val (.op .ix [(.at 0), (.at 2)])), (.val (.op .ix [(.at 0), (.at 3)])), (.val (.op .ix [(.at 0), (.at 5)]))]), .ife (.val (.val (.op .notn [(.at 4)]))) [.ret (.lst [(.tup [(.var 2), (.tup [(.op .ix [(.at 4), (.val (.cst (.int (0))))]), (.cst (.int (1)))])]), (.tup [(.var 3), (.tup [(.op .ix [(.at 4), (.val (.cst (.int (1))))]), (.cst (.int (1)))])]), (.tup [(.var 5), (.tup [(.op .ix [(.at 4), (.val (.cst (.int (2))))]), (.cst (.int (1)))])])])] []]]], .ret (.cst .non)]⟩
def F_law : Fn := ⟨1, [], 7, [.set 1 (.lst [(.call 33 [(.at 0), (.val (.cst (.int (0)))), (.val (.cst (.int (63))))]), (.cst (.int (0)))]), .forr (.nm 2) (.range (.cst (.int (0))) (.cst (.int (2)))) [.set 3 (.call 41 [(.at 1), (.val (.cst (.int (6))))]), .set 4 (.call 48 [(.at 3)]), .set 5 (.op .eq [(.val (.op .len [(.val (.call 45 [(.at 3)]))])), (.val (.cst (.int (0))))]), .ife (.or (.val (.val (.op .ne [(.at 5), (.val (.op .notn [(.at 4)]))]))) (.val (.val (.op .ne [(.val (.call 23 [(.at 3)])), (.at 5)])))) [.ret (.cst (.bl false))] [], .set 6 (.call 28 [(.at 3)]), .ife (.val (.val (.op .ne [(.at 6), (.at 4)]))) [.ret (.cst (.bl false))] [], .ife (.and (.val (.val (.op .notn [(.at 6)]))) (.val (.val (.op .nisb [(.val (.call 27 [(.at 3), (.at 6)])), (.val (.cst (.bl true)))])))) [.ret (.cst (.bl false))] []], .ret (.cst (.bl true))]⟩
def names : List Str := ((["common_divisor", "fraction", "add", "subtract", "multiply", "divide", "negative", "sign", "compare", "is_less", "is_at_most", "least_of", "greatest_of", "nearest_to_zero", "span_between", "value_at", "contains_ray", "determinant", "product", "nearest_ray", "ray_along", "span_on_line", "some_ray", "is_empty"] : List Str) ++ (["share_of", "sum_of", "is_well_formed", "verify_emptiness", "emptiness_certificate", "first_contrary_pair", "first_contrary_three", "balancing_weights", "_law_cell", "_law_digits", "_law_draw", "_law_divisor", "_law_fr", "_law_add", "_law_mul", "_law_less", "_law_plane", "_law_planes", "_law_value", "_law_holds", "_law_meet", "_law_points", "_law_pair", "_law_three"] : List Str) ++ (["_law_first", "law"] : List Str))
def ents : List Ent := [⟨"common_divisor", topS 4, F_common_divisor, ["first", "second"], ["first", "second"]⟩,
  ⟨"fraction", topS 5, F_fraction, ["numerator", "denominator", "divisor"], ["numerator", "denominator"]⟩,
  ⟨"add", topS 6, F_add, ["first", "second"], ["first", "second"]⟩,
  ⟨"subtract", topS 7, F_subtract, ["first", "second"], ["first", "second"]⟩,
  ⟨"multiply", topS 8, F_multiply, ["first", "second"], ["first", "second"]⟩,
  ⟨"divide", topS 9, F_divide, ["first", "second"], ["first", "second"]⟩,
  ⟨"negative", topS 10, F_negative, ["value"], ["value"]⟩,
  ⟨"sign", topS 11, F_sign, ["value"], ["value"]⟩,
  ⟨"compare", topS 12, F_compare, ["first", "second", "left", "right"], ["first", "second"]⟩,
  ⟨"is_less", topS 13, F_is_less, ["first", "second"], ["first", "second"]⟩,
  ⟨"is_at_most", topS 14, F_is_at_most, ["first", "second"], ["first", "second"]⟩,
  ⟨"least_of", topS 15, F_least_of, ["values", "least", "value"], ["values"]⟩,
  ⟨"greatest_of", topS 16, F_greatest_of, ["values", "greatest", "value"], ["values"]⟩,
  ⟨"nearest_to_zero", topS 17, F_nearest_to_zero, ["lower", "upper"], ["lower", "upper"]⟩,
  ⟨"span_between", topS 18, F_span_between, ["lowers", "uppers", "lower", "upper"], ["lowers", "uppers"]⟩,
  ⟨"value_at", topS 20, F_value_at, ["half_plane", "ray", "p", "q", "_", "height", "slope"], ["half_plane", "ray"]⟩,
  ⟨"contains_ray", topS 21, F_contains_ray, ["half_planes", "ray", "half_plane"], ["half_planes", "ray"]⟩,
  ⟨"determinant", topS 22, F_determinant, ["first", "second"], ["first", "second"]⟩,
  ⟨"product", topS 23, F_product, ["first", "second"], ["first", "second"]⟩,
  ⟨"nearest_ray", topS 24, F_nearest_ray, ["line", "p", "q", "r", "square"], ["line"]⟩,
  ⟨"ray_along", topS 25, F_ray_along, ["line", "steps", "p", "q", "_", "height", "slope"], ["line", "steps"]⟩,
  ⟨"span_on_line", topS 26, F_span_on_line, ["line", "half_planes", "start", "lowers", "uppers", "half_plane", "room", "growth"], ["line", "half_planes"]⟩,
  ⟨"some_ray", topS 27, F_some_ray, ["half_planes", "ray", "index", "half_plane", "span", "lower", "upper"], ["half_planes"]⟩,
  ⟨"is_empty", topS 28, F_is_empty, ["half_planes"], ["half_planes"]⟩,
  ⟨"share_of", topS 29, F_share_of, ["goal", "half_plane"], ["goal", "half_plane"]⟩,
  ⟨"sum_of", topS 31, F_sum_of, ["half_planes", "certificate", "total", "index", "multiplier", "terms", ".0", "number"], ["half_planes", "certificate"]⟩,
  ⟨"is_well_formed", topS 32, F_is_well_formed, ["half_planes", "certificate", "last", "index", "multiplier"], ["half_planes", "certificate"]⟩,
  ⟨"verify_emptiness", topS 33, F_verify_emptiness, ["half_planes", "certificate", "p", "q", "r"], ["half_planes", "certificate"]⟩,
  ⟨"emptiness_certificate", topS 34, F_emptiness_certificate, ["half_planes", "certificate"], ["half_planes"]⟩,
  ⟨"first_contrary_pair", topS 35, F_first_contrary_pair, ["half_planes", "first", "second", "p", "q", "_", "share", "numerator", "denominator", "certificate"], ["half_planes"]⟩,
  ⟨"first_contrary_three", topS 36, F_first_contrary_three, ["half_planes", "indexes", "weights", "certificate", ".0", "index", "weight"], ["half_planes"]⟩,
  ⟨"balancing_weights", topS 37, F_balancing_weights, ["half_planes", "one", "two", "three", "weights", "divisor", ".0", "weight"], ["half_planes"]⟩,
  ⟨"_law_cell", topS 39, F__law_cell, ["script", "k"], ["script", "k"]⟩,
  ⟨"_law_digits", topS 40, F__law_digits, ["script", "first", "last", "digits", "k", "cell", "turn", "seed"], ["script", "first", "last"]⟩,
  ⟨"_law_draw", topS 41, F__law_draw, ["box", "many", "at"], ["box", "many"]⟩,
  ⟨"_law_divisor", topS 42, F__law_divisor, ["one", "other", "turn"], ["one", "other"]⟩,
  ⟨"_law_fr", topS 43, F__law_fr, ["n", "d", "g"], ["n", "d"]⟩,
  ⟨"_law_add", topS 44, F__law_add, ["x", "y"], ["x", "y"]⟩,
  ⟨"_law_mul", topS 46, F__law_mul, ["x", "y"], ["x", "y"]⟩,
  ⟨"_law_less", topS 47, F__law_less, ["x", "y"], ["x", "y"]⟩,
  ⟨"_law_plane", topS 51, F__law_plane, ["box", "p", "q", "r", "g"], ["box"]⟩,
  ⟨"_law_planes", topS 52, F__law_planes, ["box", "most", "planes", "one", ".0", "k"], ["box", "most"]⟩,
  ⟨"_law_value", topS 53, F__law_value, ["plane", "point"], ["plane", "point"]⟩,
  ⟨"_law_holds", topS 54, F__law_holds, ["planes", "point", "plane"], ["planes", "point"]⟩,
  ⟨"_law_meet", topS 55, F__law_meet, ["one", "other", "whole"], ["one", "other"]⟩,
  ⟨"_law_points", topS 56, F__law_points, ["planes", "found", "plane", "norm", "other", "point", ".0"], ["planes"]⟩,
  ⟨"_law_pair", topS 60, F__law_pair, ["one", "other", "first", "second", "g"], ["one", "other"]⟩,
  ⟨"_law_three", topS 61, F__law_three, ["a", "b", "c", "one", "two", "six", "g"], ["a", "b", "c"]⟩,
  ⟨"_law_first", topS 62, F__law_first, ["planes", "many", "i", "j", "found", "k"], ["planes"]⟩,
  ⟨"law", topS 63, F_law, ["script", "box", "turn", "planes", "due", "none", "told"], ["script"]⟩]
def tab : Tab := ⟨names, fun j => (ents[j]?).map (·.F), [("ZERO", (.tup [(.int (0)), (.int (1))]))], true, true⟩
theorem is_common_divisor : DefIs tab (topS 4) F_common_divisor ["first", "second"] ["first", "second"] := ⟨⟨rfl, rfl, rfl, by decide +kernel, rfl, by decide +kernel, by decide +kernel⟩, by kernel_rfl, rfl, rfl, by decide⟩
theorem is_fraction : DefIs tab (topS 5) F_fraction ["numerator", "denominator", "divisor"] ["numerator", "denominator"] := ⟨⟨rfl, rfl, rfl, by decide +kernel, rfl, by decide +kernel, by decide +kernel⟩, by kernel_rfl, rfl, rfl, by decide⟩
theorem is_add : DefIs tab (topS 6) F_add ["first", "second"] ["first", "second"] := ⟨⟨rfl, rfl, rfl, by decide +kernel, rfl, by decide +kernel, by decide +kernel⟩, by kernel_rfl, rfl, rfl, by decide⟩
theorem is_subtract : DefIs tab (topS 7) F_subtract ["first", "second"] ["first", "second"] := ⟨⟨rfl, rfl, rfl, by decide +kernel, rfl, by decide +kernel, by decide +kernel⟩, by kernel_rfl, rfl, rfl, by decide⟩
theorem is_multiply : DefIs tab (topS 8) F_multiply ["first", "second"] ["first", "second"] := ⟨⟨rfl, rfl, rfl, by decide +kernel, rfl, by decide +kernel, by decide +kernel⟩, by kernel_rfl, rfl, rfl, by decide⟩
theorem is_divide : DefIs tab (topS 9) F_divide ["first", "second"] ["first", "second"] := ⟨⟨rfl, rfl, rfl, by decide +kernel, rfl, by decide +kernel, by decide +kernel⟩, by kernel_rfl, rfl, rfl, by decide⟩
theorem is_negative : DefIs tab (topS 10) F_negative ["value"] ["value"] := ⟨⟨rfl, rfl, rfl, by decide +kernel, rfl, by decide +kernel, by decide +kernel⟩, by kernel_rfl, rfl, rfl, by decide⟩
theorem is_sign : DefIs tab (topS 11) F_sign ["value"] ["value"] := ⟨⟨rfl, rfl, rfl, by decide +kernel, rfl, by decide +kernel, by decide +kernel⟩, by kernel_rfl, rfl, rfl, by decide⟩
theorem is_compare : DefIs tab (topS 12) F_compare ["first", "second", "left", "right"] ["first", "second"] := ⟨⟨rfl, rfl, rfl, by decide +kernel, rfl, by decide +kernel, by decide +kernel⟩, by kernel_rfl, rfl, rfl, by decide⟩
theorem is_is_less : DefIs tab (topS 13) F_is_less ["first", "second"] ["first", "second"] := ⟨⟨rfl, rfl, rfl, by decide +kernel, rfl, by decide +kernel, by decide +kernel⟩, by kernel_rfl, rfl, rfl, by decide⟩
theorem is_is_at_most : DefIs tab (topS 14) F_is_at_most ["first", "second"] ["first", "second"] := ⟨⟨rfl, rfl, rfl, by decide +kernel, rfl, by decide +kernel, by decide +kernel⟩, by kernel_rfl, rfl, rfl, by decide⟩
theorem is_least_of : DefIs tab (topS 15) F_least_of ["values", "least", "value"] ["values"] := ⟨⟨rfl, rfl, rfl, by decide +kernel, rfl, by decide +kernel, by decide +kernel⟩, by kernel_rfl, rfl, rfl, by decide⟩
theorem is_greatest_of : DefIs tab (topS 16) F_greatest_of ["values", "greatest", "value"] ["values"] := ⟨⟨rfl, rfl, rfl, by decide +kernel, rfl, by decide +kernel, by decide +kernel⟩, by kernel_rfl, rfl, rfl, by decide⟩
theorem is_nearest_to_zero : DefIs tab (topS 17) F_nearest_to_zero ["lower", "upper"] ["lower", "upper"] := ⟨⟨rfl, rfl, rfl, by decide +kernel, rfl, by decide +kernel, by decide +kernel⟩, by kernel_rfl, rfl, rfl, by decide⟩
theorem is_span_between : DefIs tab (topS 18) F_span_between ["lowers", "uppers", "lower", "upper"] ["lowers", "uppers"] := ⟨⟨rfl, rfl, rfl, by decide +kernel, rfl, by decide +kernel, by decide +kernel⟩, by kernel_rfl, rfl, rfl, by decide⟩
theorem is_value_at : DefIs tab (topS 20) F_value_at ["half_plane", "ray", "p", "q", "_", "height", "slope"] ["half_plane", "ray"] := ⟨⟨rfl, rfl, rfl, by decide +kernel, rfl, by decide +kernel, by decide +kernel⟩, by kernel_rfl, rfl, rfl, by decide⟩
theorem is_contains_ray : DefIs tab (topS 21) F_contains_ray ["half_planes", "ray", "half_plane"] ["half_planes", "ray"] := ⟨⟨rfl, rfl, rfl, by decide +kernel, rfl, by decide +kernel, by decide +kernel⟩, by kernel_rfl, rfl, rfl, by decide⟩
theorem is_determinant : DefIs tab (topS 22) F_determinant ["first", "second"] ["first", "second"] := ⟨⟨rfl, rfl, rfl, by decide +kernel, rfl, by decide +kernel, by decide +kernel⟩, by kernel_rfl, rfl, rfl, by decide⟩
theorem is_product : DefIs tab (topS 23) F_product ["first", "second"] ["first", "second"] := ⟨⟨rfl, rfl, rfl, by decide +kernel, rfl, by decide +kernel, by decide +kernel⟩, by kernel_rfl, rfl, rfl, by decide⟩
theorem is_nearest_ray : DefIs tab (topS 24) F_nearest_ray ["line", "p", "q", "r", "square"] ["line"] := ⟨⟨rfl, rfl, rfl, by decide +kernel, rfl, by decide +kernel, by decide +kernel⟩, by kernel_rfl, rfl, rfl, by decide⟩
theorem is_ray_along : DefIs tab (topS 25) F_ray_along ["line", "steps", "p", "q", "_", "height", "slope"] ["line", "steps"] := ⟨⟨rfl, rfl, rfl, by decide +kernel, rfl, by decide +kernel, by decide +kernel⟩, by kernel_rfl, rfl, rfl, by decide⟩
theorem is_span_on_line : DefIs tab (topS 26) F_span_on_line ["line", "half_planes", "start", "lowers", "uppers", "half_plane", "room", "growth"] ["line", "half_planes"] := ⟨⟨rfl, rfl, rfl, by decide +kernel, rfl, by decide +kernel, by decide +kernel⟩, by kernel_rfl, rfl, rfl, by decide⟩
theorem is_some_ray : DefIs tab (topS 27) F_some_ray ["half_planes", "ray", "index", "half_plane", "span", "lower", "upper"] ["half_planes"] := ⟨⟨rfl, rfl, rfl, by decide +kernel, rfl, by decide +kernel, by decide +kernel⟩, by kernel_rfl, rfl, rfl, by decide⟩
theorem is_is_empty : DefIs tab (topS 28) F_is_empty ["half_planes"] ["half_planes"] := ⟨⟨rfl, rfl, rfl, by decide +kernel, rfl, by decide +kernel, by decide +kernel⟩, by kernel_rfl, rfl, rfl, by decide⟩
theorem is_share_of : DefIs tab (topS 29) F_share_of ["goal", "half_plane"] ["goal", "half_plane"] := ⟨⟨rfl, rfl, rfl, by decide +kernel, rfl, by decide +kernel, by decide +kernel⟩, by kernel_rfl, rfl, rfl, by decide⟩
theorem is_sum_of : DefIs tab (topS 31) F_sum_of ["half_planes", "certificate", "total", "index", "multiplier", "terms", ".0", "number"] ["half_planes", "certificate"] := ⟨⟨rfl, rfl, rfl, by decide +kernel, rfl, by decide +kernel, by decide +kernel⟩, by kernel_rfl, rfl, rfl, by decide⟩
theorem is_is_well_formed : DefIs tab (topS 32) F_is_well_formed ["half_planes", "certificate", "last", "index", "multiplier"] ["half_planes", "certificate"] := ⟨⟨rfl, rfl, rfl, by decide +kernel, rfl, by decide +kernel, by decide +kernel⟩, by kernel_rfl, rfl, rfl, by decide⟩
theorem is_verify_emptiness : DefIs tab (topS 33) F_verify_emptiness ["half_planes", "certificate", "p", "q", "r"] ["half_planes", "certificate"] := ⟨⟨rfl, rfl, rfl, by decide +kernel, rfl, by decide +kernel, by decide +kernel⟩, by kernel_rfl, rfl, rfl, by decide⟩
theorem is_emptiness_certificate : DefIs tab (topS 34) F_emptiness_certificate ["half_planes", "certificate"] ["half_planes"] := ⟨⟨rfl, rfl, rfl, by decide +kernel, rfl, by decide +kernel, by decide +kernel⟩, by kernel_rfl, rfl, rfl, by decide⟩
theorem is_first_contrary_pair : DefIs tab (topS 35) F_first_contrary_pair ["half_planes", "first", "second", "p", "q", "_", "share", "numerator", "denominator", "certificate"] ["half_planes"] := ⟨⟨rfl, rfl, rfl, by decide +kernel, rfl, by decide +kernel, by decide +kernel⟩, by kernel_rfl, rfl, rfl, by decide⟩
theorem is_first_contrary_three : DefIs tab (topS 36) F_first_contrary_three ["half_planes", "indexes", "weights", "certificate", ".0", "index", "weight"] ["half_planes"] := ⟨⟨rfl, rfl, rfl, by decide +kernel, rfl, by decide +kernel, by decide +kernel⟩, by kernel_rfl, rfl, rfl, by decide⟩
theorem is_balancing_weights : DefIs tab (topS 37) F_balancing_weights ["half_planes", "one", "two", "three", "weights", "divisor", ".0", "weight"] ["half_planes"] := ⟨⟨rfl, rfl, rfl, by decide +kernel, rfl, by decide +kernel, by decide +kernel⟩, by kernel_rfl, rfl, rfl, by decide⟩
theorem is__law_cell : DefIs tab (topS 39) F__law_cell ["script", "k"] ["script", "k"] := ⟨⟨rfl, rfl, rfl, by decide +kernel, rfl, by decide +kernel, by decide +kernel⟩, by kernel_rfl, rfl, rfl, by decide⟩
theorem is__law_digits : DefIs tab (topS 40) F__law_digits ["script", "first", "last", "digits", "k", "cell", "turn", "seed"] ["script", "first", "last"] := ⟨⟨rfl, rfl, rfl, by decide +kernel, rfl, by decide +kernel, by decide +kernel⟩, by kernel_rfl, rfl, rfl, by decide⟩
theorem is__law_draw : DefIs tab (topS 41) F__law_draw ["box", "many", "at"] ["box", "many"] := ⟨⟨rfl, rfl, rfl, by decide +kernel, rfl, by decide +kernel, by decide +kernel⟩, by kernel_rfl, rfl, rfl, by decide⟩
theorem is__law_divisor : DefIs tab (topS 42) F__law_divisor ["one", "other", "turn"] ["one", "other"] := ⟨⟨rfl, rfl, rfl, by decide +kernel, rfl, by decide +kernel, by decide +kernel⟩, by kernel_rfl, rfl, rfl, by decide⟩
theorem is__law_fr : DefIs tab (topS 43) F__law_fr ["n", "d", "g"] ["n", "d"] := ⟨⟨rfl, rfl, rfl, by decide +kernel, rfl, by decide +kernel, by decide +kernel⟩, by kernel_rfl, rfl, rfl, by decide⟩
theorem is__law_add : DefIs tab (topS 44) F__law_add ["x", "y"] ["x", "y"] := ⟨⟨rfl, rfl, rfl, by decide +kernel, rfl, by decide +kernel, by decide +kernel⟩, by kernel_rfl, rfl, rfl, by decide⟩
theorem is__law_mul : DefIs tab (topS 46) F__law_mul ["x", "y"] ["x", "y"] := ⟨⟨rfl, rfl, rfl, by decide +kernel, rfl, by decide +kernel, by decide +kernel⟩, by kernel_rfl, rfl, rfl, by decide⟩
theorem is__law_less : DefIs tab (topS 47) F__law_less ["x", "y"] ["x", "y"] := ⟨⟨rfl, rfl, rfl, by decide +kernel, rfl, by decide +kernel, by decide +kernel⟩, by kernel_rfl, rfl, rfl, by decide⟩
theorem is__law_plane : DefIs tab (topS 51) F__law_plane ["box", "p", "q", "r", "g"] ["box"] := ⟨⟨rfl, rfl, rfl, by decide +kernel, rfl, by decide +kernel, by decide +kernel⟩, by kernel_rfl, rfl, rfl, by decide⟩
theorem is__law_planes : DefIs tab (topS 52) F__law_planes ["box", "most", "planes", "one", ".0", "k"] ["box", "most"] := ⟨⟨rfl, rfl, rfl, by decide +kernel, rfl, by decide +kernel, by decide +kernel⟩, by kernel_rfl, rfl, rfl, by decide⟩
theorem is__law_value : DefIs tab (topS 53) F__law_value ["plane", "point"] ["plane", "point"] := ⟨⟨rfl, rfl, rfl, by decide +kernel, rfl, by decide +kernel, by decide +kernel⟩, by kernel_rfl, rfl, rfl, by decide⟩
theorem is__law_holds : DefIs tab (topS 54) F__law_holds ["planes", "point", "plane"] ["planes", "point"] := ⟨⟨rfl, rfl, rfl, by decide +kernel, rfl, by decide +kernel, by decide +kernel⟩, by kernel_rfl, rfl, rfl, by decide⟩
theorem is__law_meet : DefIs tab (topS 55) F__law_meet ["one", "other", "whole"] ["one", "other"] := ⟨⟨rfl, rfl, rfl, by decide +kernel, rfl, by decide +kernel, by decide +kernel⟩, by kernel_rfl, rfl, rfl, by decide⟩
theorem is__law_points : DefIs tab (topS 56) F__law_points ["planes", "found", "plane", "norm", "other", "point", ".0"] ["planes"] := ⟨⟨rfl, rfl, rfl, by decide +kernel, rfl, by decide +kernel, by decide +kernel⟩, by kernel_rfl, rfl, rfl, by decide⟩
theorem is__law_pair : DefIs tab (topS 60) F__law_pair ["one", "other", "first", "second", "g"] ["one", "other"] := ⟨⟨rfl, rfl, rfl, by decide +kernel, rfl, by decide +kernel, by decide +kernel⟩, by kernel_rfl, rfl, rfl, by decide⟩
theorem is__law_three : DefIs tab (topS 61) F__law_three ["a", "b", "c", "one", "two", "six", "g"] ["a", "b", "c"] := ⟨⟨rfl, rfl, rfl, by decide +kernel, rfl, by decide +kernel, by decide +kernel⟩, by kernel_rfl, rfl, rfl, by decide⟩
theorem is__law_first : DefIs tab (topS 62) F__law_first ["planes", "many", "i", "j", "found", "k"] ["planes"] := ⟨⟨rfl, rfl, rfl, by decide +kernel, rfl, by decide +kernel, by decide +kernel⟩, by kernel_rfl, rfl, rfl, by decide⟩
theorem is_law : DefIs tab (topS 63) F_law ["script", "box", "turn", "planes", "due", "none", "told"] ["script"] := ⟨⟨rfl, rfl, rfl, by decide +kernel, rfl, by decide +kernel, by decide +kernel⟩, by kernel_rfl, rfl, rfl, by decide⟩
abbrev i_common_divisor : Nat := 0
theorem fn_common_divisor : tab.fns 0 = some F_common_divisor := rfl
abbrev i_fraction : Nat := 1
theorem fn_fraction : tab.fns 1 = some F_fraction := rfl
abbrev i_add : Nat := 2
theorem fn_add : tab.fns 2 = some F_add := rfl
abbrev i_subtract : Nat := 3
theorem fn_subtract : tab.fns 3 = some F_subtract := rfl
abbrev i_multiply : Nat := 4
theorem fn_multiply : tab.fns 4 = some F_multiply := rfl
abbrev i_divide : Nat := 5
theorem fn_divide : tab.fns 5 = some F_divide := rfl
abbrev i_negative : Nat := 6
theorem fn_negative : tab.fns 6 = some F_negative := rfl
abbrev i_sign : Nat := 7
theorem fn_sign : tab.fns 7 = some F_sign := rfl
abbrev i_compare : Nat := 8
theorem fn_compare : tab.fns 8 = some F_compare := rfl
abbrev i_is_less : Nat := 9
theorem fn_is_less : tab.fns 9 = some F_is_less := rfl
abbrev i_is_at_most : Nat := 10
theorem fn_is_at_most : tab.fns 10 = some F_is_at_most := rfl
abbrev i_least_of : Nat := 11
theorem fn_least_of : tab.fns 11 = some F_least_of := rfl
abbrev i_greatest_of : Nat := 12
theorem fn_greatest_of : tab.fns 12 = some F_greatest_of := rfl
abbrev i_nearest_to_zero : Nat := 13
theorem fn_nearest_to_zero : tab.fns 13 = some F_nearest_to_zero := rfl
abbrev i_span_between : Nat := 14
theorem fn_span_between : tab.fns 14 = some F_span_between := rfl
abbrev i_value_at : Nat := 15
theorem fn_value_at : tab.fns 15 = some F_value_at := rfl
abbrev i_contains_ray : Nat := 16
theorem fn_contains_ray : tab.fns 16 = some F_contains_ray := rfl
abbrev i_determinant : Nat := 17
theorem fn_determinant : tab.fns 17 = some F_determinant := rfl
abbrev i_product : Nat := 18
theorem fn_product : tab.fns 18 = some F_product := rfl
abbrev i_nearest_ray : Nat := 19
theorem fn_nearest_ray : tab.fns 19 = some F_nearest_ray := rfl
abbrev i_ray_along : Nat := 20
theorem fn_ray_along : tab.fns 20 = some F_ray_along := rfl
abbrev i_span_on_line : Nat := 21
theorem fn_span_on_line : tab.fns 21 = some F_span_on_line := rfl
abbrev i_some_ray : Nat := 22
theorem fn_some_ray : tab.fns 22 = some F_some_ray := rfl
abbrev i_is_empty : Nat := 23
theorem fn_is_empty : tab.fns 23 = some F_is_empty := rfl
abbrev i_share_of : Nat := 24
theorem fn_share_of : tab.fns 24 = some F_share_of := rfl
abbrev i_sum_of : Nat := 25
theorem fn_sum_of : tab.fns 25 = some F_sum_of := rfl
abbrev i_is_well_formed : Nat := 26
theorem fn_is_well_formed : tab.fns 26 = some F_is_well_formed := rfl
abbrev i_verify_emptiness : Nat := 27
theorem fn_verify_emptiness : tab.fns 27 = some F_verify_emptiness := rfl
abbrev i_emptiness_certificate : Nat := 28
theorem fn_emptiness_certificate : tab.fns 28 = some F_emptiness_certificate := rfl
abbrev i_first_contrary_pair : Nat := 29
theorem fn_first_contrary_pair : tab.fns 29 = some F_first_contrary_pair := rfl
abbrev i_first_contrary_three : Nat := 30
theorem fn_first_contrary_three : tab.fns 30 = some F_first_contrary_three := rfl
abbrev i_balancing_weights : Nat := 31
theorem fn_balancing_weights : tab.fns 31 = some F_balancing_weights := rfl
abbrev i__law_cell : Nat := 32
theorem fn__law_cell : tab.fns 32 = some F__law_cell := rfl
abbrev i__law_digits : Nat := 33
theorem fn__law_digits : tab.fns 33 = some F__law_digits := rfl
abbrev i__law_draw : Nat := 34
theorem fn__law_draw : tab.fns 34 = some F__law_draw := rfl
abbrev i__law_divisor : Nat := 35
theorem fn__law_divisor : tab.fns 35 = some F__law_divisor := rfl
abbrev i__law_fr : Nat := 36
theorem fn__law_fr : tab.fns 36 = some F__law_fr := rfl
abbrev i__law_add : Nat := 37
theorem fn__law_add : tab.fns 37 = some F__law_add := rfl
abbrev i__law_mul : Nat := 38
theorem fn__law_mul : tab.fns 38 = some F__law_mul := rfl
abbrev i__law_less : Nat := 39
theorem fn__law_less : tab.fns 39 = some F__law_less := rfl
abbrev i__law_plane : Nat := 40
theorem fn__law_plane : tab.fns 40 = some F__law_plane := rfl
abbrev i__law_planes : Nat := 41
theorem fn__law_planes : tab.fns 41 = some F__law_planes := rfl
abbrev i__law_value : Nat := 42
theorem fn__law_value : tab.fns 42 = some F__law_value := rfl
abbrev i__law_holds : Nat := 43
theorem fn__law_holds : tab.fns 43 = some F__law_holds := rfl
abbrev i__law_meet : Nat := 44
theorem fn__law_meet : tab.fns 44 = some F__law_meet := rfl
abbrev i__law_points : Nat := 45
theorem fn__law_points : tab.fns 45 = some F__law_points := rfl
abbrev i__law_pair : Nat := 46
theorem fn__law_pair : tab.fns 46 = some F__law_pair := rfl
abbrev i__law_three : Nat := 47
theorem fn__law_three : tab.fns 47 = some F__law_three := rfl
abbrev i__law_first : Nat := 48
theorem fn__law_first : tab.fns 48 = some F__law_first := rfl
abbrev i_law : Nat := 49
theorem fn_law : tab.fns 49 = some F_law := rfl
end Z
namespace Z
open PySem PySem.Spec PyProof.Rows L2
/-- a def's entry from the facts of the head -/
theorem ent_f {T : Tab} {K : PySem.W.Frag} {mg : Str → Option Value} {e : Ent} {f : Addr} {fd : FuncData} (is : DefIs T e.st e.F e.N e.ps) (g : mg e.name = some (.ref f)) (F : FunD K e.name e.name (defArgs e.st) (defBody e.st) (defScope e.st) [] [] f fd) (hd : e.F.dv = [])
    (hb : ∀ (kV doc pm : Value) (an : Option Addr) (cdv ct : Value) (us : List Value), us.length = e.ps.length → bindArgs (PySem.W.fnOf e.name e.name (defArgs e.st) (defBody e.st) (defScope e.st) .none kV doc pm an cdv ct) ⟨us, []⟩ = pure (e.ps.zip us)) : EntOk T K mg e := by
  refine ⟨is, f, _, [], g, F, fun M H => by rw [hd]; exact .nil, fun n hn => ?_⟩
  have hn : n = 0 := by simpa using hn
  subst hn
  exact ⟨[], .nil, F.bindsN hb⟩
theorem ent_fD {T : Tab} {K : PySem.W.Frag} {mg : Str → Option Value} {e : Ent} {f : Addr} {fd : FuncData} (is : DefIs T e.st e.F e.N e.ps) (g : mg e.name = some (.ref f)) (dvs : List V) (F : FunD K e.name e.name (defArgs e.st) (defBody e.st) (defScope e.st) dvs [] f fd)
    (hne : dvs ≠ []) (hd : ∀ M H, Reps K M H e.F.dv dvs) (hlen : dvs.length ≤ e.ps.length)
    (hb : ∀ j, j ≤ dvs.length → ∀ (T : Addr) (kV doc pm : Value) (an : Option Addr) (cdv ct : Value) (us its : List Value), us.length + (dvs.length - j) = e.ps.length → its.length = dvs.length →
      ∃ k, bindArgs (PySem.W.fnOf e.name e.name (defArgs e.st) (defBody e.st) (defScope e.st) (.ref T) kV doc pm an cdv ct) ⟨us, []⟩ = seqItems? (.ref T) >>= k ∧ k (some its.toArray) = pure (e.ps.zip (us ++ its.drop j))) : EntOk T K mg e := by
  refine ⟨is, f, _, dvs, g, F, hd, fun j hj => ?_⟩
  exact F.binds1 (e.ps.length - (dvs.length - j)) j hne (by omega) fun T kV doc pm an cdv ct us its hu hi => hb j hj T kV doc pm an cdv ct us its (by omega) hi
end Z
namespace Z
open PySem PySem.Spec PyProof.Rows L2
theorem walk_GE {l : PySem.W.OpenLaw} {n k : Nat} {q : Program} {loose : List Str} {XP : (Str → Option Value) → Heap → Prop} {YP : World → Heap → Prop} {d : DefRec} {C : World → CXT} {x : Str}
    (most : l.most = some n) (few : n ≤ sizeLine) (plain : d.params.defaults = []) (rm : Room k callerA)
    (F : ∀ (w : World) (mg : Str → Option Value) (fa : Addr) (h : Heap), YP w h → h.Ns mainGlobals mg → mg d.name = some (.ref fa) →
      ∃ (K : PySem.W.Frag) (fd : FuncData) (sp : Sp), K.In h ∧ (∀ (s : Shared) (u : Value), BindsTo s fd ⟨[u], []⟩ [(x, u)]) ∧
        (∀ (H : Hp) (a : Addr) (ns : List Int), ns.length ≤ n → Only H → SqL K H a (ns.map V.int) → sp [.ref a] H (fun v _ => v = .bl true) fun _ _ _ => False) ∧
        ∀ base : Heap, K.In base → base.Ns mainGlobals mg → FnG l.prog w K mg base (C w) k fa fd [x] sp)
    (none_out : ∀ (w : World) (H : Hp) (s : Shared) (e : Value) (s2 : Shared), C w [] H s (fun _ _ _ => False) e s2 → False) :
    PySem.W.WalkO q loose XP YP l.row.toRowW d [] (fun f vs => PySem.call f vs) := by
  apply Att.attach_call most plain
  intro w s1 s mg mb fa o pm cd doc a vs ns G Y _ _ _ hm at_a wh len gn
  obtain ⟨K, fd, sp, KX, bd, say, F2⟩ := F w mg fa _ Y G.T.g hm
  exact law_goG KX G.T.g G.T.b G.T.builtins G.T.nolimit gn at_a wh (Nat.le_trans len few) rm F2 bd (fun H h1 h2 => say H a ns len h1 h2) (fun H e s2 => none_out w H s e s2)
end Z
namespace Z
open PySem PySem.Spec PyProof.Rows L2
/-- do a value and a datum go together pairwise -/
def all2 (f : Value → D → Bool) : List Value → List D → Bool
  | [], [] => true
  | u :: us, d :: ds => f u d && all2 f us ds
  | _, _ => false
/-- is a constant of the top the datum d -/
def repB (K : PySem.W.Frag) : Nat → Value → D → Bool
  | k + 1, u, d => match u, d with
    | .int j _, .int i => decide (j = i)
    | .ref t, .tup ds => match K.lookup t with
      | some o => match o.cls, o.data with
        | .type c, .seq its _ => decide (c = "tuple") && (Nat.ble its.toList.length 1000 && all2 (repB K k) its.toList ds)
        | _, _ => false
      | none => false
    | _, _ => false
  | 0, _, _ => false
theorem all2_ok {K : PySem.W.Frag} {f : Value → D → Bool} (h : ∀ u d, f u d = true → ∃ v, RelV v u ∧ ∀ M H, Rep K M H d v) : ∀ us ds, all2 f us ds = true → RVals K us ds
  | [], [], _ => .nil
  | u :: us, d :: ds, e => by
    have e2 := Bool.and_eq_true_iff.mp (show (f u d && all2 f us ds) = true from e)
    obtain ⟨v, a, b⟩ := h u d e2.1
    exact .cons v a b (all2_ok h us ds e2.2)
  | [], _ :: _, e => nomatch (show false = true from e)
  | _ :: _, [], e => nomatch (show false = true from e)
theorem repB_ok {K : PySem.W.Frag} : ∀ (k : Nat) (u : Value) (d : D), repB K k u d = true → ∃ v, RelV v u ∧ ∀ M H, Rep K M H d v
  | 0, _, _, e => by simp [repB] at e
  | k + 1, u, d, e => by
    unfold repB at e
    split at e
    · rename_i j t i
      have q := of_decide_eq_true e
      subst q
      exact ⟨.int _, ⟨_, rfl⟩, fun _ _ => .int _⟩
    · rename_i t ds
      split at e
      · rename_i o l
        split at e
        · rename_i c its n hc hd
          have e1 := Bool.and_eq_true_iff.mp e
          have e2 := Bool.and_eq_true_iff.mp e1.2
          have q := of_decide_eq_true e1.1
          subst q
          exact ⟨.ref t, rfl, rep_tupN l hc (by simpa using hd) (Nat.le_of_ble_eq_true e2.1) (all2_ok (repB_ok k) _ _ e2.2)⟩
        · cases e
      · cases e
    · cases e
end Z
namespace Z
open PySem PySem.Spec PyProof.Rows L2
def topB (K : PySem.W.Frag) (x : Str) (d : D) : Bool := match PySem.W.nsIn K mainGlobals x with
  | some (some u) => repB K 5 u d
  | _ => false
def bimB (K : PySem.W.Frag) (gc cm : Bool) : Bool := (!gc || He.eqO (PySem.W.nsIn K mainGlobals "gcd") (some (some (.builtin "math.gcd")))) && (!cm || He.eqO (PySem.W.nsIn K mainGlobals "combinations") (some (some (.type "itertools.combinations"))))
theorem topB_ok {K : PySem.W.Frag} {h : Heap} {mg : Str → Option Value} (X : K.In h) (G : h.Ns mainGlobals mg) {x : Str} {d : D} (c : topB K x d = true) : ∃ v u, mg x = some u ∧ RelV v u ∧ ∀ M H, Rep K M H d v := by
  unfold topB at c
  split at c
  · rename_i u e
    obtain ⟨v, a, b⟩ := repB_ok 5 u d c
    exact ⟨v, u, PySem.W.mg_of X G e, a, b⟩
  · cases c
theorem bimB_ok {K : PySem.W.Frag} {h : Heap} {mg : Str → Option Value} (X : K.In h) (G : h.Ns mainGlobals mg) {gc cm : Bool} (c : bimB K gc cm = true) : (gc = true → mg "gcd" = some (.builtin "math.gcd")) ∧ (cm = true → mg "combinations" = some (.type "itertools.combinations")) := by
  have e := Bool.and_eq_true_iff.mp c
  refine ⟨fun g => ?_, fun g => ?_⟩
  · subst g
    exact PySem.W.mg_of X G (He.eqO_ok (by simpa using e.1))
  · subst g
    exact PySem.W.mg_of X G (He.eqO_ok (by simpa using e.2))
abbrev AlZ : Type := He.AlD × Bool
def obsZ (n : Nat) (fa : List He.Fa) (fn : List He.DefD) (gl : List (Str × D)) (gc cm : Bool) (g : Addr → Option Obj) : AlZ :=
  (He.obsD fa fn (He.frG g (He.asD g n)), (gl.all fun q => topB (He.frG g (He.asD g n)) q.1 q.2) && bimB (He.frG g (He.asD g n)) gc cm)
def hookZ (n : Nat) (fa : List He.Fa) (fn : List He.DefD) (gl : List (Str × D)) (gc cm : Bool) : PySem.W.Hook where
  α := AlZ
  obs := fun s => obsZ n fa fn gl gc cm s.heap.get?
  val := fun _ => (He.valD fn, true)
  says := fun _ h => ∃ K : PySem.W.Frag, K.In h ∧ He.SaysD fa fn K ∧ ((gl.all fun q => topB K q.1 q.2) && bimB K gc cm) = true
  of := fun _ _ e => ⟨_, He.frG_in, congrArg (fun z : AlZ => z.1) e, congrArg (fun z : AlZ => z.2) e⟩
  keeps := fun _ _ _ ⟨K, hK, c⟩ k => ⟨K, PySem.W.Frag.In.keeps hK k, c⟩
theorem obsZ_eq {n : Nat} {fa : List He.Fa} {fn : List He.DefD} {gl : List (Str × D)} {gc cm : Bool} {g : Addr → Option Obj} {s : Shared} (h : ∀ a, g a = s.heap.get? a) : obsZ n fa fn gl gc cm g = (hookZ n fa fn gl gc cm).obs s := by
  have e : g = s.heap.get? := funext h
  rw [e] <;> rfl
end Z
set_option maxHeartbeats 0
namespace ZE
open PySem PySem.Spec PyProof.Rows L2 Z
def d0 : He.DefD := ⟨("common_divisor", none), "common_divisor", "common_divisor", defArgs (topS 4), defBody (topS 4), defScope (topS 4), [], []⟩
def d1 : He.DefD := ⟨("fraction", none), "fraction", "fraction", defArgs (topS 5), defBody (topS 5), defScope (topS 5), [.int (1)], []⟩
def d2 : He.DefD := ⟨("add", none), "add", "add", defArgs (topS 6), defBody (topS 6), defScope (topS 6), [], []⟩
def d3 : He.DefD := ⟨("subtract", none), "subtract", "subtract", defArgs (topS 7), defBody (topS 7), defScope (topS 7), [], []⟩
def d4 : He.DefD := ⟨("multiply", none), "multiply", "multiply", defArgs (topS 8), defBody (topS 8), defScope (topS 8), [], []⟩
def d5 : He.DefD := ⟨("divide", none), "divide", "divide", defArgs (topS 9), defBody (topS 9), defScope (topS 9), [], []⟩
def d6 : He.DefD := ⟨("negative", none), "negative", "negative", defArgs (topS 10), defBody (topS 10), defScope (topS 10), [], []⟩
def d7 : He.DefD := ⟨("sign", none), "sign", "sign", defArgs (topS 11), defBody (topS 11), defScope (topS 11), [], []⟩
def d8 : He.DefD := ⟨("compare", none), "compare", "compare", defArgs (topS 12), defBody (topS 12), defScope (topS 12), [], []⟩
def d9 : He.DefD := ⟨("is_less", none), "is_less", "is_less", defArgs (topS 13), defBody (topS 13), defScope (topS 13), [], []⟩
def d10 : He.DefD := ⟨("is_at_most", none), "is_at_most", "is_at_most", defArgs (topS 14), defBody (topS 14), defScope (topS 14), [], []⟩
def d11 : He.DefD := ⟨("least_of", none), "least_of", "least_of", defArgs (topS 15), defBody (topS 15), defScope (topS 15), [], []⟩
def d12 : He.DefD := ⟨("greatest_of", none), "greatest_of", "greatest_of", defArgs (topS 16), defBody (topS 16), defScope (topS 16), [], []⟩
def d13 : He.DefD := ⟨("nearest_to_zero", none), "nearest_to_zero", "nearest_to_zero", defArgs (topS 17), defBody (topS 17), defScope (topS 17), [], []⟩
def d14 : He.DefD := ⟨("span_between", none), "span_between", "span_between", defArgs (topS 18), defBody (topS 18), defScope (topS 18), [], []⟩
def d15 : He.DefD := ⟨("value_at", none), "value_at", "value_at", defArgs (topS 20), defBody (topS 20), defScope (topS 20), [], []⟩
def d16 : He.DefD := ⟨("contains_ray", none), "contains_ray", "contains_ray", defArgs (topS 21), defBody (topS 21), defScope (topS 21), [], []⟩
def d17 : He.DefD := ⟨("determinant", none), "determinant", "determinant", defArgs (topS 22), defBody (topS 22), defScope (topS 22), [], []⟩
def d18 : He.DefD := ⟨("product", none), "product", "product", defArgs (topS 23), defBody (topS 23), defScope (topS 23), [], []⟩
def d19 : He.DefD := ⟨("nearest_ray", none), "nearest_ray", "nearest_ray", defArgs (topS 24), defBody (topS 24), defScope (topS 24), [], []⟩
def d20 : He.DefD := ⟨("ray_along", none), "ray_along", "ray_along", defArgs (topS 25), defBody (topS 25), defScope (topS 25), [], []⟩
def d21 : He.DefD := ⟨("span_on_line", none), "span_on_line", "span_on_line", defArgs (topS 26), defBody (topS 26), defScope (topS 26), [], []⟩
def d22 : He.DefD := ⟨("some_ray", none), "some_ray", "some_ray", defArgs (topS 27), defBody (topS 27), defScope (topS 27), [], []⟩
def d23 : He.DefD := ⟨("is_empty", none), "is_empty", "is_empty", defArgs (topS 28), defBody (topS 28), defScope (topS 28), [], []⟩
def d24 : He.DefD := ⟨("share_of", none), "share_of", "share_of", defArgs (topS 29), defBody (topS 29), defScope (topS 29), [], []⟩
def d25 : He.DefD := ⟨("sum_of", none), "sum_of", "sum_of", defArgs (topS 31), defBody (topS 31), defScope (topS 31), [], []⟩
def d26 : He.DefD := ⟨("is_well_formed", none), "is_well_formed", "is_well_formed", defArgs (topS 32), defBody (topS 32), defScope (topS 32), [], []⟩
def d27 : He.DefD := ⟨("verify_emptiness", none), "verify_emptiness", "verify_emptiness", defArgs (topS 33), defBody (topS 33), defScope (topS 33), [], []⟩
def d28 : He.DefD := ⟨("emptiness_certificate", none), "emptiness_certificate", "emptiness_certificate", defArgs (topS 34), defBody (topS 34), defScope (topS 34), [], []⟩
def d29 : He.DefD := ⟨("first_contrary_pair", none), "first_contrary_pair", "first_contrary_pair", defArgs (topS 35), defBody (topS 35), defScope (topS 35), [], []⟩
def d30 : He.DefD := ⟨("first_contrary_three", none), "first_contrary_three", "first_contrary_three", defArgs (topS 36), defBody (topS 36), defScope (topS 36), [], []⟩
def d31 : He.DefD := ⟨("balancing_weights", none), "balancing_weights", "balancing_weights", defArgs (topS 37), defBody (topS 37), defScope (topS 37), [], []⟩
def d32 : He.DefD := ⟨("_law_cell", none), "_law_cell", "_law_cell", defArgs (topS 39), defBody (topS 39), defScope (topS 39), [], []⟩
def d33 : He.DefD := ⟨("_law_digits", none), "_law_digits", "_law_digits", defArgs (topS 40), defBody (topS 40), defScope (topS 40), [], []⟩
def d34 : He.DefD := ⟨("_law_draw", none), "_law_draw", "_law_draw", defArgs (topS 41), defBody (topS 41), defScope (topS 41), [], []⟩
def d35 : He.DefD := ⟨("_law_divisor", none), "_law_divisor", "_law_divisor", defArgs (topS 42), defBody (topS 42), defScope (topS 42), [], []⟩
def d36 : He.DefD := ⟨("_law_fr", none), "_law_fr", "_law_fr", defArgs (topS 43), defBody (topS 43), defScope (topS 43), [], []⟩
def d37 : He.DefD := ⟨("_law_add", none), "_law_add", "_law_add", defArgs (topS 44), defBody (topS 44), defScope (topS 44), [], []⟩
def d38 : He.DefD := ⟨("_law_mul", none), "_law_mul", "_law_mul", defArgs (topS 46), defBody (topS 46), defScope (topS 46), [], []⟩
def d39 : He.DefD := ⟨("_law_less", none), "_law_less", "_law_less", defArgs (topS 47), defBody (topS 47), defScope (topS 47), [], []⟩
def d40 : He.DefD := ⟨("_law_plane", none), "_law_plane", "_law_plane", defArgs (topS 51), defBody (topS 51), defScope (topS 51), [], []⟩
def d41 : He.DefD := ⟨("_law_planes", none), "_law_planes", "_law_planes", defArgs (topS 52), defBody (topS 52), defScope (topS 52), [], []⟩
def d42 : He.DefD := ⟨("_law_value", none), "_law_value", "_law_value", defArgs (topS 53), defBody (topS 53), defScope (topS 53), [], []⟩
def d43 : He.DefD := ⟨("_law_holds", none), "_law_holds", "_law_holds", defArgs (topS 54), defBody (topS 54), defScope (topS 54), [], []⟩
def d44 : He.DefD := ⟨("_law_meet", none), "_law_meet", "_law_meet", defArgs (topS 55), defBody (topS 55), defScope (topS 55), [], []⟩
def d45 : He.DefD := ⟨("_law_points", none), "_law_points", "_law_points", defArgs (topS 56), defBody (topS 56), defScope (topS 56), [], []⟩
def d46 : He.DefD := ⟨("_law_pair", none), "_law_pair", "_law_pair", defArgs (topS 60), defBody (topS 60), defScope (topS 60), [], []⟩
def d47 : He.DefD := ⟨("_law_three", none), "_law_three", "_law_three", defArgs (topS 61), defBody (topS 61), defScope (topS 61), [], []⟩
def d48 : He.DefD := ⟨("_law_first", none), "_law_first", "_law_first", defArgs (topS 62), defBody (topS 62), defScope (topS 62), [], []⟩
def d49 : He.DefD := ⟨("law", none), "law", "law", defArgs (topS 63), defBody (topS 63), defScope (topS 63), [], []⟩
def fn_0 : List He.DefD := [d0, d1, d2, d3, d4, d5, d6, d7, d8, d9, d10, d11, d12, d13, d14, d15, d16, d17, d18, d19, d20, d21, d22, d23, d24, d25, d26, d27, d28, d29, d30, d31, d32, d33, d34, d35, d36, d37]
def fn_1 : List He.DefD := [d38, d39, d40, d41, d42, d43, d44, d45, d46, d47, d48, d49]
def fn : List He.DefD := fn_0 ++ fn_1
def fa_0 : List He.Fa := [.glo "common_divisor", .glo "fraction", .glo "add", .glo "subtract", .glo "multiply", .glo "divide", .glo "negative", .glo "sign", .glo "compare", .glo "is_less", .glo "is_at_most", .glo "least_of", .glo "greatest_of", .glo "nearest_to_zero", .glo "span_between", .glo "value_at", .glo "contains_ray", .glo "determinant", .glo "product", .glo "nearest_ray", .glo "ray_along", .glo "span_on_line", .glo "some_ray", .glo "is_empty", .glo "share_of", .glo "sum_of", .glo "is_well_formed", .glo "verify_emptiness", .glo "emptiness_certificate", .glo "first_contrary_pair", .glo "first_contrary_three", .glo "balancing_weights", .glo "_law_cell", .glo "_law_digits", .glo "_law_draw", .glo "_law_divisor", .glo "_law_fr", .glo "_law_add"]
def fa_1 : List He.Fa := [.glo "_law_mul", .glo "_law_less", .glo "_law_plane", .glo "_law_planes", .glo "_law_value", .glo "_law_holds", .glo "_law_meet", .glo "_law_points", .glo "_law_pair", .glo "_law_three", .glo "_law_first", .glo "law", .free "len", .free "abs", .free "int", .free "list", .free "isinstance", .free "range", .free "enumerate", .free "tuple", .free "bool", .free "str", .free "repr", .free "min", .free "max", .free "sum", .free "any", .free "all", .free "zip", .free "reversed", .free "dict", .free "set", .glo "ZERO"]
def fa : List He.Fa := fa_0 ++ fa_1
def loose_0 : List PySem.Str := [("combinations" : PySem.Str), ("gcd" : PySem.Str), ("ZERO" : PySem.Str), ("common_divisor" : PySem.Str), ("fraction" : PySem.Str), ("add" : PySem.Str), ("subtract" : PySem.Str), ("multiply" : PySem.Str), ("divide" : PySem.Str), ("negative" : PySem.Str), ("sign" : PySem.Str), ("compare" : PySem.Str), ("is_less" : PySem.Str), ("is_at_most" : PySem.Str), ("least_of" : PySem.Str), ("greatest_of" : PySem.Str), ("nearest_to_zero" : PySem.Str), ("span_between" : PySem.Str), ("value_at" : PySem.Str), ("contains_ray" : PySem.Str), ("determinant" : PySem.Str), ("product" : PySem.Str), ("nearest_ray" : PySem.Str), ("ray_along" : PySem.Str), ("span_on_line" : PySem.Str), ("some_ray" : PySem.Str), ("is_empty" : PySem.Str), ("share_of" : PySem.Str), ("sum_of" : PySem.Str), ("is_well_formed" : PySem.Str), ("verify_emptiness" : PySem.Str), ("emptiness_certificate" : PySem.Str), ("first_contrary_pair" : PySem.Str), ("first_contrary_three" : PySem.Str), ("balancing_weights" : PySem.Str), ("_law_cell" : PySem.Str), ("_law_digits" : PySem.Str), ("_law_draw" : PySem.Str)]
def loose_1 : List PySem.Str := [("_law_divisor" : PySem.Str), ("_law_fr" : PySem.Str), ("_law_add" : PySem.Str), ("_law_sub" : PySem.Str), ("_law_mul" : PySem.Str), ("_law_less" : PySem.Str), ("_law_some" : PySem.Str), ("_law_other" : PySem.Str), ("_law_is_fr" : PySem.Str), ("_law_plane" : PySem.Str), ("_law_planes" : PySem.Str), ("_law_value" : PySem.Str), ("_law_holds" : PySem.Str), ("_law_meet" : PySem.Str), ("_law_points" : PySem.Str), ("_law_ways" : PySem.Str), ("_law_most" : PySem.Str), ("_law_least" : PySem.Str), ("_law_pair" : PySem.Str), ("_law_three" : PySem.Str), ("_law_first" : PySem.Str)]
def loose : List PySem.Str := loose_0 ++ loose_1
def gl : List (Str × D) := [("ZERO", (.tup [(.int (0)), (.int (1))]))]
abbrev R : PySem.W.OpenRow := PySem.W.OpenLaw.row PySem.Challenge.rw_raytrain_k07_empty_regions_and_their_pap
abbrev hk : PySem.W.Hook := Z.hookZ 2 fa fn gl true true
def ob (s : PySem.W.SharedT) : Z.AlZ := Z.obsZ 2 fa fn gl true true (HandSHeadRun.getT s)
theorem ob_eq (s : PySem.W.SharedT) : ob s = hk.obs s.abs := Z.obsZ_eq (HandSHeadRun.getT_eq s)
theorem run (w : World) : HandSHeadRun.RunEqI R (PySem.W.view R.prog [0, 1, 63]) hk ob 8000 loose w := by
  unfold HandSHeadRun.RunEqI
  kernel_rfl
end ZE
set_option maxHeartbeats 4000000
section
open PySem PySem.Spec PyProof.Rows L2 Z
local macro_rules | `(tactic| lcg_off) => `(tactic| exact ss_self)
local macro_rules | `(tactic| lcg_off) => `(tactic| exact ss_1)
local macro_rules | `(tactic| lcg_off) => `(tactic| exact ss_0)
local macro_rules | `(tactic| lcg_off) => `(tactic| (apply ss_abs; lcg_off))
local macro_rules | `(tactic| lcg_off) => `(tactic| (apply ss_div; lcg_off; lcg_off; lcg_off))
local macro_rules | `(tactic| lcg_off) => `(tactic| (apply ss_neg; lcg_off))
local macro_rules | `(tactic| lcg_off) => `(tactic| (apply ss_mul; lcg_off; lcg_off))
local macro_rules | `(tactic| lcg_off) => `(tactic| (apply ss_sub; lcg_off; lcg_off))
local macro_rules | `(tactic| lcg_off) => `(tactic| (apply ss_add; lcg_off; lcg_off))
local macro_rules | `(tactic| lcg_off) => `(tactic| assumption)
local macro_rules | `(tactic| k_places) => `(tactic| (refine bb_lit ?_ ?_ <;> decide))
local macro_rules | `(tactic| k_places) => `(tactic| (apply bb_sub; k_places; k_places))
local macro_rules | `(tactic| k_places) => `(tactic| (apply bb_add; k_places; k_places))
local macro_rules | `(tactic| k_places) => `(tactic| (apply bb_neg; k_places))
local macro_rules | `(tactic| k_places) => `(tactic| (apply bb_abs; k_places))
local macro_rules | `(tactic| k_places) => `(tactic| (apply bb_den; lcg_off))
local macro_rules | `(tactic| k_places) => `(tactic| (apply bb_num; lcg_off))
local macro_rules | `(tactic| k_places) => `(tactic| (apply bb_mul; k_places; k_places))
local macro_rules | `(tactic| k_places) => `(tactic| assumption)
local macro_rules | `(tactic| walk_at "sz") => `(tactic| repeat (first | assumption | apply ss_add | apply ss_sub | apply ss_mul | apply ss_neg | apply ss_div | apply ss_abs | exact ss_0 | exact ss_1 | exact ss_self))
local macro_rules | `(tactic| walk_at "bb") => `(tactic| repeat (first | assumption | apply bb_mul | (apply bb_num; walk_at "sz") | (apply bb_den; walk_at "sz") | apply bb_abs | apply bb_neg | apply bb_add | apply bb_sub | (refine bb_lit ?_ ?_ <;> decide)))
local macro_rules | `(tactic| kaf_pre) => `(tactic| (apply szs2; lcg_off; lcg_off; omega))
local macro_rules | `(tactic| ktr_units) => `(tactic| (apply szs1; lcg_off; omega))
local macro_rules | `(tactic| kt_at_in) => `(tactic| (apply bbs1; k_places; omega))
local macro_rules | `(tactic| kas_types) => `(tactic| (apply CMulZ.bb; k_places; k_places; omega))
local macro_rules | `(tactic| kas_types) => `(tactic| (refine CMulZ.left (bi_le ?_ ?_) <;> decide))
local macro_rules | `(tactic| kas_types) => `(tactic| (refine CMulZ.right (bi_le ?_ ?_) <;> decide))
local macro_rules | `(tactic| kas_types) => `(tactic| assumption)
local macro_rules | `(tactic| kfm_turns) => `(tactic| (simp only [decide_eq_true_eq, decide_eq_false_iff_not, Bool.not_eq_true', Bool.not_eq_false', Bool.not_eq_eq_eq_not, Bool.not_true, Bool.not_false, ne_eq, Decidable.not_not, Int.reduceEq, eq_self, decide_true, decide_false]; first | assumption | omega))
local macro_rules | `(tactic| kfm_turns) => `(tactic| (focus (simp only [decide_eq_true_eq, decide_eq_false_iff_not, Bool.not_eq_true', Bool.not_eq_false', Bool.not_eq_eq_eq_not, Bool.not_true, Bool.not_false, ne_eq, Decidable.not_not, Int.reduceEq, eq_self, decide_true, decide_false]; done)))
local macro_rules | `(tactic| kfm_turns) => `(tactic| exact decide_eq_false (by omega))
local macro_rules | `(tactic| kfm_turns) => `(tactic| exact decide_eq_true (by omega))
local macro_rules | `(tactic| kfm_turns) => `(tactic| exact decide_eq_false (by assumption))
local macro_rules | `(tactic| kfm_turns) => `(tactic| exact decide_eq_true (by assumption))
local macro_rules | `(tactic| kfm_turns) => `(tactic| exact Bool.not_false)
local macro_rules | `(tactic| kfm_turns) => `(tactic| exact Bool.not_true)
local macro_rules | `(tactic| kfm_turns) => `(tactic| assumption)
local macro_rules | `(tactic| kfm_turns) => `(tactic| rfl)
local macro_rules | `(tactic| lcg_src) => `(tactic| repeat (first | apply x_ownv | (apply x_owna; (focus (with_unfolding_all rfl))) | exact x_own0))
local macro_rules | `(tactic| kt_at_notin) => `(tactic| assumption)
local macro_rules | `(tactic| kxt_pos) => `(tactic| apply x_OrE)
local macro_rules | `(tactic| kxt_pos) => `(tactic| apply x_AndE)
local macro_rules | `(tactic| kxt_pos) => `(tactic| apply x_not)
local macro_rules | `(tactic| kxt_pos) => `(tactic| apply x_ifE)
local macro_rules | `(tactic| kxt_pos) => `(tactic| apply x_lst)
local macro_rules | `(tactic| kxt_pos) => `(tactic| (apply x_varo; with_unfolding_all rfl))
local macro_rules | `(tactic| kxt_pos) => `(tactic| apply x_tup)
local macro_rules | `(tactic| kxt_pos) => `(tactic| apply x_call)
local macro_rules | `(tactic| kxt_pos) => `(tactic| (apply gd_c3; k_updF))
local macro_rules | `(tactic| kxt_pos) => `(tactic| (apply gd_c2; kbt_split))
local macro_rules | `(tactic| kxt_pos) => `(tactic| (apply gd_c1; kba_ints))
local macro_rules | `(tactic| kxt_pos) => `(tactic| apply x_cst)
local macro_rules | `(tactic| kxt_pos) => `(tactic| exact x_tup12)
local macro_rules | `(tactic| kxt_pos) => `(tactic| exact x_tup11)
local macro_rules | `(tactic| kxt_pos) => `(tactic| exact x_tup01)
local macro_rules | `(tactic| kxt_pos) => `(tactic| exact x_cst11)
local macro_rules | `(tactic| kxt_pos) => `(tactic| exact x_cst01)
local macro_rules | `(tactic| kxt_pos) => `(tactic| apply x_op)
local macro_rules | `(tactic| kxt_pos) => `(tactic| (apply gd_op; k_upd))
local macro_rules | `(tactic| kxt_pos) => `(tactic| (apply x_varf; with_unfolding_all rfl))
local macro_rules | `(tactic| k_upd) => `(tactic| apply z2vv)
local macro_rules | `(tactic| k_upd) => `(tactic| (apply z2va))
local macro_rules | `(tactic| k_upd) => `(tactic| (apply z2aa; (focus (with_unfolding_all rfl)); (focus (with_unfolding_all rfl))))
local macro_rules | `(tactic| k_upd) => `(tactic| (apply z2av; (focus (with_unfolding_all rfl))))
local macro_rules | `(tactic| k_upd) => `(tactic| (apply z2ca; (focus (with_unfolding_all rfl))))
local macro_rules | `(tactic| k_upd) => `(tactic| apply z2c)
local macro_rules | `(tactic| k_upd) => `(tactic| apply z1)
local macro_rules | `(tactic| k_upd) => `(tactic| (apply z1a; (focus (with_unfolding_all rfl))))
local macro_rules | `(tactic| k_upd) => `(tactic| (apply z2ac; (focus (with_unfolding_all rfl))))
local macro_rules | `(tactic| k_upd) => `(tactic| (apply z2ca1; (focus (with_unfolding_all rfl))))
local macro_rules | `(tactic| k_upd) => `(tactic| apply z2c1)
local macro_rules | `(tactic| k_upd) => `(tactic| (apply z2ac1; (focus (with_unfolding_all rfl))))
local macro_rules | `(tactic| k_upd) => `(tactic| (apply z2ca0; (focus (with_unfolding_all rfl))))
local macro_rules | `(tactic| k_upd) => `(tactic| apply z2c0)
local macro_rules | `(tactic| k_upd) => `(tactic| (apply z2ac0; (focus (with_unfolding_all rfl))))
local macro_rules | `(tactic| kba_ints) => `(tactic| apply zcv)
local macro_rules | `(tactic| kba_ints) => `(tactic| (apply zca; (focus (with_unfolding_all rfl))))
local macro_rules | `(tactic| kba_ints) => `(tactic| (apply zb; (focus (with_unfolding_all rfl))))
local macro_rules | `(tactic| kbt_split) => `(tactic| apply zcvv)
local macro_rules | `(tactic| kbt_split) => `(tactic| (apply zcva; (focus (with_unfolding_all rfl))))
local macro_rules | `(tactic| kbt_split) => `(tactic| (apply zcav; (focus (with_unfolding_all rfl))))
local macro_rules | `(tactic| kbt_split) => `(tactic| (apply zcaa; (focus (with_unfolding_all rfl)); (focus (with_unfolding_all rfl))))
local macro_rules | `(tactic| kbt_split) => `(tactic| (apply zbv; (focus (with_unfolding_all rfl))))
local macro_rules | `(tactic| kbt_split) => `(tactic| (apply zba; (focus (with_unfolding_all rfl)); (focus (with_unfolding_all rfl))))
local macro_rules | `(tactic| k_updF) => `(tactic| apply zcvvv)
local macro_rules | `(tactic| k_updF) => `(tactic| (apply zcvva; (focus (with_unfolding_all rfl))))
local macro_rules | `(tactic| k_updF) => `(tactic| (apply zcvav; (focus (with_unfolding_all rfl))))
local macro_rules | `(tactic| k_updF) => `(tactic| (apply zcvaa; (focus (with_unfolding_all rfl)); (focus (with_unfolding_all rfl))))
local macro_rules | `(tactic| k_updF) => `(tactic| (apply zcavv; (focus (with_unfolding_all rfl))))
local macro_rules | `(tactic| k_updF) => `(tactic| (apply zcava; (focus (with_unfolding_all rfl)); (focus (with_unfolding_all rfl))))
local macro_rules | `(tactic| k_updF) => `(tactic| (apply zcaav; (focus (with_unfolding_all rfl)); (focus (with_unfolding_all rfl))))
local macro_rules | `(tactic| k_updF) => `(tactic| (apply zcaaa; (focus (with_unfolding_all rfl)); (focus (with_unfolding_all rfl)); (focus (with_unfolding_all rfl))))
local macro_rules | `(tactic| k_updF) => `(tactic| (apply zbvv; (focus (with_unfolding_all rfl))))
local macro_rules | `(tactic| k_updF) => `(tactic| (apply zbva; (focus (with_unfolding_all rfl)); (focus (with_unfolding_all rfl))))
local macro_rules | `(tactic| k_updF) => `(tactic| (apply zbav; (focus (with_unfolding_all rfl)); (focus (with_unfolding_all rfl))))
local macro_rules | `(tactic| k_updF) => `(tactic| (apply zbaa; (focus (with_unfolding_all rfl)); (focus (with_unfolding_all rfl)); (focus (with_unfolding_all rfl))))
local macro_rules | `(tactic| kat_tups) => `(tactic| (apply gd_plen; with_unfolding_all exact q_lenf))
local macro_rules | `(tactic| kat_tups) => `(tactic| (apply q_isi'; with_unfolding_all rfl))
local macro_rules | `(tactic| kat_tups) => `(tactic| (apply q_isi'; exact isi_fr))
local macro_rules | `(tactic| kat_tups) => `(tactic| apply q_lenr)
local macro_rules | `(tactic| kat_tups) => `(tactic| apply q_lent)
local macro_rules | `(tactic| kat_tups) => `(tactic| apply q_lenl)
local macro_rules | `(tactic| kat_tups) => `(tactic| apply q_ixr)
local macro_rules | `(tactic| kat_tups) => `(tactic| (apply q_mod; omega))
local macro_rules | `(tactic| kat_tups) => `(tactic| (apply q_mod; assumption))
local macro_rules | `(tactic| kat_tups) => `(tactic| (apply q_fdiv; assumption; assumption))
local macro_rules | `(tactic| kat_tups) => `(tactic| apply q_eqbb)
local macro_rules | `(tactic| kat_tups) => `(tactic| exact q_eqo)
local macro_rules | `(tactic| kat_tups) => `(tactic| exact q_neo)
local macro_rules | `(tactic| kat_tups) => `(tactic| exact q_notn0)
local macro_rules | `(tactic| kat_tups) => `(tactic| exact q_isn0)
local macro_rules | `(tactic| kat_tups) => `(tactic| exact q_notnf)
local macro_rules | `(tactic| kat_tups) => `(tactic| exact q_isnf)
local macro_rules | `(tactic| kat_tups) => `(tactic| apply q_nebb)
local macro_rules | `(tactic| kat_tups) => `(tactic| apply q_ne)
local macro_rules | `(tactic| kat_tups) => `(tactic| apply q_eq)
local macro_rules | `(tactic| kat_tups) => `(tactic| apply q_nef)
local macro_rules | `(tactic| kat_tups) => `(tactic| apply q_eqf)
local macro_rules | `(tactic| kat_tups) => `(tactic| apply q_ge)
local macro_rules | `(tactic| kat_tups) => `(tactic| apply q_gt)
local macro_rules | `(tactic| kat_tups) => `(tactic| apply q_le)
local macro_rules | `(tactic| kat_tups) => `(tactic| apply q_lt)
local macro_rules | `(tactic| kat_tups) => `(tactic| apply q_abs)
local macro_rules | `(tactic| kat_tups) => `(tactic| apply q_int)
local macro_rules | `(tactic| kat_tups) => `(tactic| apply q_gcd)
local macro_rules | `(tactic| kat_tups) => `(tactic| apply q_neg)
local macro_rules | `(tactic| kat_tups) => `(tactic| apply q_sub)
local macro_rules | `(tactic| kat_tups) => `(tactic| apply q_add)
local macro_rules | `(tactic| kat_tups) => `(tactic| (apply q_mul; kas_types))
local macro_rules | `(tactic| kat_tups) => `(tactic| apply q_ixl)
local macro_rules | `(tactic| kat_tups) => `(tactic| apply q_ixt)
local macro_rules | `(tactic| kat_tups) => `(tactic| (apply gd_pix1; with_unfolding_all exact q_f1))
local macro_rules | `(tactic| kat_tups) => `(tactic| (apply gd_pix0; with_unfolding_all exact q_f0))
local macro_rules | `(tactic| kt_at_method) => `(tactic| apply w_retn)
local macro_rules | `(tactic| kt_at_method) => `(tactic| (apply w_retvo; with_unfolding_all rfl))
local macro_rules | `(tactic| kt_at_method) => `(tactic| (apply w_retvf; with_unfolding_all rfl))
local macro_rules | `(tactic| kt_at_method) => `(tactic| (apply w_mt; with_unfolding_all rfl))
local macro_rules | `(tactic| kt_at_method) => `(tactic| apply w_pass)
local macro_rules | `(tactic| kt_at_method) => `(tactic| (apply w_rev; (focus (with_unfolding_all rfl))))
local macro_rules | `(tactic| kt_at_method) => `(tactic| apply w_ext)
local macro_rules | `(tactic| kt_at_method) => `(tactic| apply w_app)
local macro_rules | `(tactic| kt_at_method) => `(tactic| apply w_setix)
local macro_rules | `(tactic| kt_at_method) => `(tactic| apply w_unp)
local macro_rules | `(tactic| kt_at_method) => `(tactic| apply w_par)
local macro_rules | `(tactic| kt_at_method) => `(tactic| apply w_ret)
local macro_rules | `(tactic| kt_at_method) => `(tactic| apply w_ite)
local macro_rules | `(tactic| kt_at_method) => `(tactic| apply w_set)
local macro_rules | `(tactic| tb_start) => `(tactic| assumption)
local macro_rules | `(tactic| tb_start) => `(tactic| apply x_setix)
local macro_rules | `(tactic| tb_start) => `(tactic| apply x_app)
local macro_rules | `(tactic| tb_start) => `(tactic| apply x_par)
local macro_rules | `(tactic| tb_start) => `(tactic| apply x_unp)
local macro_rules | `(tactic| tb_start) => `(tactic| apply x_set)
local macro_rules | `(tactic| tb_start) => `(tactic| apply x_ite)
local macro_rules | `(tactic| tb_start) => `(tactic| apply x_ss0)
local macro_rules | `(tactic| tb_start) => `(tactic| apply x_ss_setix)
local macro_rules | `(tactic| tb_start) => `(tactic| apply x_ss_app)
local macro_rules | `(tactic| tb_start) => `(tactic| apply x_ss_par)
local macro_rules | `(tactic| tb_start) => `(tactic| apply x_ss_unp)
local macro_rules | `(tactic| tb_start) => `(tactic| apply x_ss_set)
local macro_rules | `(tactic| tb_start) => `(tactic| (apply x_stop; apply x_retn))
local macro_rules | `(tactic| tb_start) => `(tactic| (apply x_stop; apply x_retvo; with_unfolding_all rfl))
local macro_rules | `(tactic| tb_start) => `(tactic| (apply x_stop; apply x_retvf; with_unfolding_all rfl))
local macro_rules | `(tactic| tb_start) => `(tactic| (apply x_stop; apply x_ret))
local macro_rules | `(tactic| tb_start) => `(tactic| apply x_overv)
local macro_rules | `(tactic| tb_start) => `(tactic| (apply x_overf; with_unfolding_all rfl))
local macro_rules | `(tactic| tb_start) => `(tactic| (apply x_overo; with_unfolding_all rfl))
local macro_rules | `(tactic| tb_start) => `(tactic| apply x_rng)
local macro_rules | `(tactic| tb_start) => `(tactic| apply x_And)
local macro_rules | `(tactic| tb_start) => `(tactic| apply x_Or)
local macro_rules | `(tactic| tb_start) => `(tactic| apply x_notT)
local macro_rules | `(tactic| tb_start) => `(tactic| apply x_T)
local macro_rules | `(tactic| tb_start) => `(tactic| (apply zTa; (focus (with_unfolding_all rfl))))
local macro_rules | `(tactic| tb_start) => `(tactic| apply zTv)
local macro_rules | `(tactic| tb_start) => `(tactic| apply x_es)
local macro_rules | `(tactic| tb_start) => `(tactic| apply x_es0)
local macro_rules | `(tactic| tb_start) => `(tactic| apply x_sett)
local macro_rules | `(tactic| tb_start) => `(tactic| apply x_setf)
local macro_rules | `(tactic| tb_start) => `(tactic| apply x_all0)
local macro_rules | `(tactic| tb_start) => `(tactic| apply x_all)
local macro_rules | `(tactic| tb_start) => `(tactic| apply y_do1)
local macro_rules | `(tactic| tb_start) => `(tactic| (apply y_do2; (focus (with_unfolding_all rfl)); (focus (with_unfolding_all rfl)); (focus decide); (focus (lcg_src; done))))
local macro_rules | `(tactic| tb_start) => `(tactic| (apply y_do0; (focus (lcg_src; done))))
local macro_rules | `(tactic| tb_start) => `(tactic| apply x_val)
local macro_rules | `(tactic| tb_start) => `(tactic| apply x_at)
local macro_rules | `(tactic| tb_start) => `(tactic| apply x_as)
local macro_rules | `(tactic| tb_start) => `(tactic| apply x_as0)
local macro_rules | `(tactic| tb_start) => `(tactic| (apply gd_evE; kxt_pos))
local macro_rules | `(tactic| none_booked) => `(tactic| assumption)
local macro_rules | `(tactic| none_booked) => `(tactic| apply ix_l1)
local macro_rules | `(tactic| none_booked) => `(tactic| apply ix_l0)
local macro_rules | `(tactic| none_booked) => `(tactic| apply at_ix3)
local macro_rules | `(tactic| none_booked) => `(tactic| apply at_ix2)
local macro_rules | `(tactic| none_booked) => `(tactic| apply at_ix1)
local macro_rules | `(tactic| none_booked) => `(tactic| apply at_ix0)
local macro_rules | `(tactic| none_booked) => `(tactic| apply x_tr)
local macro_rules | `(tactic| none_booked) => `(tactic| apply me_wild)
local macro_rules | `(tactic| none_booked) => `(tactic| apply me_cap)
local macro_rules | `(tactic| none_booked) => `(tactic| (apply me_litn; (focus decide)))
local macro_rules | `(tactic| none_booked) => `(tactic| apply me_lit)
local macro_rules | `(tactic| none_booked) => `(tactic| exact me_nil)
local macro_rules | `(tactic| none_booked) => `(tactic| (apply mp_seq rfl))
local macro_rules | `(tactic| none_booked) => `(tactic| (apply mp_len; (focus (simp only [List.length_cons, List.length_nil]; decide))))
local macro_rules | `(tactic| none_booked) => `(tactic| exact mp_wild)
local macro_rules | `(tactic| none_booked) => `(tactic| apply x_argv0)
local macro_rules | `(tactic| none_booked) => `(tactic| apply x_argva)
local macro_rules | `(tactic| none_booked) => `(tactic| apply x_argvv)
local macro_rules | `(tactic| none_booked) => `(tactic| (apply gd_prB; kat_tups))
local macro_rules | `(tactic| none_booked) => `(tactic| (apply x_lk; with_unfolding_all rfl))
local macro_rules | `(tactic| none_booked) => `(tactic| apply x_f1a)
local macro_rules | `(tactic| none_booked) => `(tactic| apply x_f1v)
local macro_rules | `(tactic| none_booked) => `(tactic| apply x_fill0)
local macro_rules | `(tactic| none_booked) => `(tactic| apply x_filla)
local macro_rules | `(tactic| none_booked) => `(tactic| apply x_fillv)
local macro_rules | `(tactic| kbo_bools) => `(tactic| kt_at_notin)
local macro_rules | `(tactic| kbo_bools) => `(tactic| assumption)
local macro_rules | `(tactic| kbo_bools) => `(tactic| (refine szp _ ?_; simp only [List.length_cons, List.length_nil]; omega))
local macro_rules | `(tactic| kbo_bools) => `(tactic| (change _ < sizeLine; assumption))
local macro_rules | `(tactic| kbo_bools) => `(tactic| (change Z.mkEnv _ _ = _; apply x_mk; simp only [mkEnv, nones, Nat.reduceSub]; exact rfl))
local macro_rules | `(tactic| kbo_bools) => `(tactic| (change cond _ _ _ = _; first | (apply x_cE_t; (kfm_turns)) | (apply x_cE_f; (kfm_turns))))
local macro_rules | `(tactic| kbo_bools) => `(tactic| (apply x_c_f; kfm_turns))
local macro_rules | `(tactic| kbo_bools) => `(tactic| (apply x_c_t; kfm_turns))
local macro_rules | `(tactic| kbo_bools) => `(tactic| apply x_ccons)
local macro_rules | `(tactic| kbo_bools) => `(tactic| apply x_cnil)
local macro_rules | `(tactic| kbo_bools) => `(tactic| (change Z.pinOf _ _ = _; apply x_pin; with_unfolding_all rfl))
local macro_rules | `(tactic| kbo_bools) => `(tactic| (change Z.isLck _ = _; first | apply k_n | apply k_f | apply k_o | assumption))
local macro_rules | `(tactic| kbo_bools) => `(tactic| (apply gd_bool; kfm_turns))
local macro_rules | `(tactic| kbo_bools) => `(tactic| apply orE_b)
local macro_rules | `(tactic| kbo_bools) => `(tactic| (apply orE_t; kfm_turns))
local macro_rules | `(tactic| kbo_bools) => `(tactic| (apply orE_f; kfm_turns))
local macro_rules | `(tactic| kbo_bools) => `(tactic| apply andE_b)
local macro_rules | `(tactic| kbo_bools) => `(tactic| (apply andE_f; kfm_turns))
local macro_rules | `(tactic| kbo_bools) => `(tactic| (apply andE_t; kfm_turns))
local macro_rules | `(tactic| kbo_bools) => `(tactic| apply orT_b)
local macro_rules | `(tactic| kbo_bools) => `(tactic| (apply orT_t; kfm_turns))
local macro_rules | `(tactic| kbo_bools) => `(tactic| (apply orT_f; kfm_turns))
local macro_rules | `(tactic| kbo_bools) => `(tactic| apply andT_b)
local macro_rules | `(tactic| kbo_bools) => `(tactic| (apply andT_f; kfm_turns))
local macro_rules | `(tactic| kbo_bools) => `(tactic| (apply andT_t; kfm_turns))
local macro_rules | `(tactic| kbo_bools) => `(tactic| apply mt_s)
local macro_rules | `(tactic| kbo_bools) => `(tactic| apply mt_n)
local macro_rules | `(tactic| kbo_bools) => `(tactic| (apply br_f; kfm_turns))
local macro_rules | `(tactic| kbo_bools) => `(tactic| (apply br_t; kfm_turns))
local macro_rules | `(tactic| kbo_bools) => `(tactic| (apply gd_wp; kt_at_method))
local macro_rules | `(tactic| kbo_bools) => `(tactic| apply x_own0)
local macro_rules | `(tactic| kbo_bools) => `(tactic| apply x_owna)
local macro_rules | `(tactic| kbo_bools) => `(tactic| apply x_ownv)
local macro_rules | `(tactic| kbo_bools) => `(tactic| (change List.set _ _ _ = _; apply x_st; simp only [List.set_cons_zero, List.set_cons_succ]; with_unfolding_all exact rfl))
local macro_rules | `(tactic| tb_rel) => `(tactic| kbo_bools)
local macro_rules | `(tactic| tb_rel) => `(tactic| (apply gd_opt; none_booked))
local macro_rules | `(tactic| tb_rel) => `(tactic| (apply gd_out; tb_start))
local macro_rules | `(tactic| l_intsW) => `(tactic| skip)
local macro_rules | `(tactic| l_intsW) => `(tactic| (tb_rel; l_intsW))
local macro_rules | `(tactic| walk_at "go") => `(tactic| with_reducible first | l_intsW | skip)
namespace Z
theorem c_gcd (k : Nat) (a b : Int) : Ret (callK tab.fns (k + 1)) i_common_divisor [(.int a, .frz), (.int b, .frz)] (.int (gz a b)) false := by
  apply z_fn fn_common_divisor rfl
  walk_at "go"
  rfl
end Z
local macro_rules | `(tactic| kt_at_notin) => `(tactic| exact c_gcd _ _ _)
namespace Z
theorem q_fdivb {i j : Int} (h : 0 < j) (h2 : bi j ≤ 8000) : prB .fdiv [.int i, .int j] = some (.int (i / j), false) := if_pos ⟨h, log2_of_bi h2⟩
end Z
namespace Z
theorem c_fraction (k : Nat) (n d : Int) (h : d ≠ 0) (h2 : bi d ≤ 8000) : Ret (callK tab.fns (k + 2)) i_fraction [(.int n, .frz), (.int d, .frz)] (fr (Rat.divInt n d)) false := by
  by_cases hd : d < 0
  · have h3 := gz_pos (a := -n) (b := -d) (by omega)
    have h4 : bi (gz (-n) (-d)) ≤ 8000 := Nat.le_trans (bi_gz (by omega)) (by rw [bi_neg]; exact h2)
    apply y_fn fn_fraction (bs := [(.int n, .frz), (.int d, .frz)]) rfl rfl (env := [some (.int n, .frz), some (.int d, .frz), none]) rfl
    walk_at "go"
    exact q_fdivb h3 h4
    walk_at "go"
    exact q_fdivb h3 h4
    walk_at "go"
    exact fr_divInt_neg n d hd
  · have h3 := gz_pos (a := n) (b := d) (by omega)
    have h4 : bi (gz n d) ≤ 8000 := Nat.le_trans (bi_gz (by omega)) h2
    apply y_fn fn_fraction (bs := [(.int n, .frz), (.int d, .frz)]) rfl rfl (env := [some (.int n, .frz), some (.int d, .frz), none]) rfl
    walk_at "go"
    exact q_fdivb h3 h4
    walk_at "go"
    exact q_fdivb h3 h4
    walk_at "go"
    exact fr_divInt n d (by omega)
end Z
namespace Z
theorem bi_dd {p q : Rat} {n : Nat} (h : sz p + sz q ≤ n) : bi ((p.den : Int) * q.den) ≤ n := by
  have h1 := bi_mul p.den q.den
  have h2 := sz_den p
  have h3 := sz_den q
  omega
end Z
namespace Z
theorem bi_dn {p q : Rat} {n : Nat} (h : sz p + sz q ≤ n) : bi ((p.den : Int) * q.num) ≤ n := by
  have h1 := bi_mul p.den q.num
  have h2 := sz_den p
  have h3 := sz_num q
  omega
end Z
namespace Z
theorem c_add (k : Nat) (p q : Rat) (h : sz p + sz q ≤ 8000) : Ret (callK tab.fns (k + 3)) i_add [(fr p, .frz), (fr q, .frz)] (fr (p + q)) false := by
  apply z_fn fn_add rfl
  walk_at "go"
  apply c_fraction
  exact mul_den_ne _ _
  exact bi_dd h
  rw [add_divInt]
end Z
namespace Z
theorem c_multiply (k : Nat) (p q : Rat) (h : sz p + sz q ≤ 8000) : Ret (callK tab.fns (k + 3)) i_multiply [(fr p, .frz), (fr q, .frz)] (fr (p * q)) false := by
  apply z_fn fn_multiply rfl
  walk_at "go"
  apply c_fraction
  exact mul_den_ne _ _
  exact bi_dd h
  rw [mul_divInt]
end Z
namespace Z
theorem c_divide (k : Nat) (p q : Rat) (h0 : q ≠ 0) (h : sz p + sz q ≤ 8000) : Ret (callK tab.fns (k + 3)) i_divide [(fr p, .frz), (fr q, .frz)] (fr (p / q)) false := by
  apply z_fn fn_divide rfl
  walk_at "go"
  apply c_fraction
  exact Int.mul_ne_zero (den_ne _) (num_ne h0)
  exact bi_dn h
  rw [div_divInt]
end Z
namespace Z
theorem c_negative (k : Nat) (p : Rat) : Ret (callK tab.fns (k + 1)) i_negative [(fr p, .frz)] (fr (-p)) false := by
  apply z_fn fn_negative rfl
  walk_at "go"
  rfl
end Z
namespace Z
theorem c_subtract (k : Nat) (p q : Rat) (h : sz p + sz q ≤ 8000) : Ret (callK tab.fns (k + 4)) i_subtract [(fr p, .frz), (fr q, .frz)] (fr (p - q)) false := by
  apply z_fn fn_subtract rfl
  walk_at "go"
  apply c_negative
  walk_at "go"
  apply c_add
  rw [sz_neg]; exact h
  rw [Rat.sub_eq_add_neg]
end Z
namespace Z
def cmp (p q : Rat) : Int := if p < q then -1 else if q < p then 1 else 0
end Z
namespace Z
theorem c_compare (k : Nat) (p q : Rat) (h : sz p + sz q ≤ 8000) : Ret (callK tab.fns (k + 1)) i_compare [(fr p, .frz), (fr q, .frz)] (.int (cmp p q)) false := by
  have e1 := Rat.lt_iff p q
  have e2 := Rat.lt_iff q p
  by_cases h1 : p < q
  · have h2 := e1.mp h1
    apply z_fn fn_compare rfl
    walk_at "go"
    unfold cmp
    rw [if_pos h1]
  · have h2 : ¬ p.num * q.den < q.num * p.den := fun z => h1 (e1.mpr z)
    by_cases h3 : q < p
    · have h4 := e2.mp h3
      apply z_fn fn_compare rfl
      walk_at "go"
      unfold cmp
      rw [if_neg h1, if_pos h3]
    · have h4 : ¬ q.num * p.den < p.num * q.den := fun z => h3 (e2.mpr z)
      apply z_fn fn_compare rfl
      walk_at "go"
      unfold cmp
      rw [if_neg h1, if_neg h3]
end Z
namespace Z
theorem c_sign (k : Nat) (p : Rat) (h : sz p ≤ 7000) : Ret (callK tab.fns (k + 2)) i_sign [(fr p, .frz)] (.int (cmp p 0)) false := by
  have e : sz (0 : Rat) = 1 := rfl
  apply z_fn fn_sign rfl
  walk_at "go"
  exact c_compare _ p 0 (by omega)
  rfl
end Z
namespace Z
theorem cmp_lt {p q : Rat} : decide (cmp p q < 0) = decide (p < q) := by
  unfold cmp
  by_cases h1 : p < q
  · rw [if_pos h1, decide_eq_true h1]; rfl
  · rw [if_neg h1, decide_eq_false h1]
    split <;> rfl
end Z
namespace Z
theorem cmp_le {p q : Rat} : decide (cmp p q ≤ 0) = decide (p ≤ q) := by
  unfold cmp
  by_cases h1 : p < q
  · rw [if_pos h1, decide_eq_true (Rat.le_of_lt h1)]; rfl
  · rw [if_neg h1]
    by_cases h2 : q < p
    · rw [if_pos h2, decide_eq_false (Rat.not_le.mpr h2)]; rfl
    · rw [if_neg h2, decide_eq_true (Rat.not_lt.mp h2)]; rfl
end Z
namespace Z
theorem c_is_less (k : Nat) (p q : Rat) (h : sz p + sz q ≤ 8000) : Ret (callK tab.fns (k + 2)) i_is_less [(fr p, .frz), (fr q, .frz)] (.bl (decide (p < q))) false := by
  apply z_fn fn_is_less rfl
  walk_at "go"
  exact c_compare _ p q h
  walk_at "go"
  rw [cmp_lt]
end Z
namespace Z
theorem c_is_at_most (k : Nat) (p q : Rat) (h : sz p + sz q ≤ 8000) : Ret (callK tab.fns (k + 2)) i_is_at_most [(fr p, .frz), (fr q, .frz)] (.bl (decide (p ≤ q))) false := by
  apply z_fn fn_is_at_most rfl
  walk_at "go"
  exact c_compare _ p q h
  walk_at "go"
  rw [cmp_le]
end Z
local macro_rules | `(tactic| kt_at_notin) => `(tactic| exact c_absolute _ _)
local macro_rules | `(tactic| kt_at_notin) => `(tactic| exact c_negative _ _)
local macro_rules | `(tactic| kt_at_notin) => `(tactic| (apply c_divide; assumption; kaf_pre))
local macro_rules | `(tactic| kt_at_notin) => `(tactic| (apply c_sign; ktr_units))
local macro_rules | `(tactic| kt_at_notin) => `(tactic| (apply c_is_at_most; kaf_pre))
local macro_rules | `(tactic| kt_at_notin) => `(tactic| (apply c_is_less; kaf_pre))
local macro_rules | `(tactic| kt_at_notin) => `(tactic| (apply c_compare; kaf_pre))
local macro_rules | `(tactic| kt_at_notin) => `(tactic| (apply c_subtract; kaf_pre))
local macro_rules | `(tactic| kt_at_notin) => `(tactic| (apply c_multiply; kaf_pre))
local macro_rules | `(tactic| kt_at_notin) => `(tactic| (apply c_add; kaf_pre))
namespace Z
def iz (ns : List Int) : List D := ns.map D.int
end Z
namespace Z
theorem iz_length (ns : List Int) : (iz ns).length = ns.length := List.length_map _
end Z
namespace Z
theorem iz_at {ns : List Int} {j : Int} (h0 : 0 ≤ j) (h1 : j < ns.length) : atI (iz ns) j = some (.int (ns.getD j.toNat 0)) := by
  obtain ⟨n, rfl⟩ : ∃ n : Nat, j = n := ⟨j.toNat, by omega⟩
  have hn : n < ns.length := by omega
  unfold atI ixN
  have e : (iz ns).length = ns.length := iz_length ns
  rw [if_pos (by omega), if_pos (by omega)]
  simp only [Option.bind_some, Int.toNat_natCast]
  unfold iz
  rw [List.getElem?_map, List.getD_eq_getElem?_getD, List.getElem?_eq_getElem hn]
  rfl
end Z
namespace Z
def dw (ds : List Int) (at_ : Nat) (many : Int) : Int := if at_ < ds.length then ds.getD at_ 0 % many else 0
end Z
namespace Z
theorem dw_range {ds : List Int} {at_ : Nat} {many : Int} (h : 0 < many) : 0 ≤ dw ds at_ many ∧ dw ds at_ many < many := by
  unfold dw
  split
  · exact ⟨Int.emod_nonneg _ (by omega), Int.emod_lt_of_pos _ h⟩
  · omega
end Z
namespace Z
abbrev bx (ds : List Int) (at_ : Nat) : D := .lst [.lst (iz ds), .int (at_ : Int)]
end Z
namespace Z
theorem c_cell (k : Nat) (ns : List Int) (j : Int) (h : 0 ≤ j) : ∃ i : Int, Ret (callK tab.fns (k + 1)) i__law_cell [(.rol (iz ns), .frz), (.int j, .frz)] (.int i) false := by
  by_cases hj : j < (ns.length : Int)
  · refine ⟨ns.getD j.toNat 0, ?_⟩
    have hj' : j < ((iz ns).length : Int) := by rw [iz_length]; exact hj
    apply z_fn fn__law_cell rfl
    walk_at "go"
    exact iz_at h hj
    rfl
  · refine ⟨0, ?_⟩
    have hj' : ¬ j < ((iz ns).length : Int) := by rw [iz_length]; exact hj
    apply z_fn fn__law_cell rfl
    walk_at "go"
    rfl
end Z
namespace Z
theorem c_draw (k : Nat) (ds : List Int) (at_ : Nat) (many : Int) (hm : 0 < many) : RetB (callK tab.fns (k + 1)) i__law_draw (bx ds at_) [(.int many, .frz)] (.int (dw ds at_ many)) false (bx ds (at_ + 1)) := by
  by_cases hj : (at_ : Int) < (ds.length : Int)
  · have hj' : (at_ : Int) < ((iz ds).length : Int) := by rw [iz_length]; exact hj
    apply z_fnB fn__law_draw rfl
    walk_at "go"
    exact iz_at (by omega) hj
    walk_at "go"
    unfold dw
    rw [if_pos (by omega)]
    rfl
  · have hj' : ¬ (at_ : Int) < ((iz ds).length : Int) := by rw [iz_length]; exact hj
    apply z_fnB fn__law_draw rfl
    walk_at "go"
    unfold dw
    rw [if_neg (by omega)]
end Z
local macro_rules | `(tactic| kt_at_notin) => `(tactic| exact c_draw _ _ _ _ (by decide))
namespace Z
end Z
namespace Z
theorem c_divisor (k : Nat) (a b : Int) (h : bi b ≤ 199) : Ret (callK tab.fns (k + 1)) i__law_divisor [(.int a, .frz), (.int b, .frz)] (.int (gz a b)) false := by
  apply v_fn fn__law_divisor rfl
  walk_at "go"
  apply w_range (fun j env => ∃ (x y : Nat) (s : Sl), env = [some (.int x, .frz), some (.int y, .frz), s] ∧ isLck s = false ∧ eu (400 - j) x y = eu 400 a.natAbs b.natAbs)
  walk_at "go"
  walk_at "go"
  decide
  · refine ⟨a.natAbs, b.natAbs, none, ?_, rfl, rfl⟩
    have e1 : ∀ z : Int, (if z < 0 then -z else z) = (z.natAbs : Int) := fun z => by split <;> omega
    rw [e1, e1]
  · rintro j env hj ⟨x, y, s, rfl, hs, he⟩
    have ej : 400 - j = (400 - (j + 1)) + 1 := by omega
    rw [ej, eu] at he
    refine ⟨_, x_setf rfl hs rfl rfl, ?_⟩
    simp only [List.set_cons_zero, List.set_cons_succ]
    by_cases hy : (y : Int) > 0
    · walk_at "go"
      apply w_nil
      rw [← Int.natCast_emod]
      refine ⟨y, x % y, _, rfl, k_f, ?_⟩
      · rw [if_pos (by omega)] at he
        exact he
    · walk_at "go"
      apply w_nil
      refine ⟨x, y, _, rfl, k_f, ?_⟩
      rw [if_neg (by omega)] at he
      exact he
  · rintro e ⟨x, y, s, rfl, hs, he⟩
    walk_at "go"
    refine ⟨?_, rfl⟩
    have h2 : b.natAbs < 2 ^ 199 := bl_le.mp h
    rw [eu_gcd 199 _ _ _ h2 (by omega)] at he
    have he' : (x, y) = (Nat.gcd a.natAbs b.natAbs, 0) := he
    have := congrArg Prod.fst he'
    simp only at this
    rw [this]
end Z
local macro_rules | `(tactic| kt_at_notin) => `(tactic| exact c_divisor _ _ _ (by assumption))
namespace Z
theorem c_lfr (k : Nat) (n d : Int) (h : d ≠ 0) (h2 : bi d ≤ 199) : Ret (callK tab.fns (k + 2)) i__law_fr [(.int n, .frz), (.int d, .frz)] (fr (Rat.divInt n d)) false := by
  by_cases hd : d < 0
  · have h3 := gz_pos (a := 0 - n) (b := 0 - d) (by omega)
    have h5 : bi (0 - d) ≤ 199 := by rw [Int.zero_sub, bi_neg]; exact h2
    have h4 : bi (gz (0 - n) (0 - d)) ≤ 8000 := Nat.le_trans (bi_gz (by omega)) (by omega)
    apply v_fn fn__law_fr rfl
    walk_at "go"
    exact q_fdivb h3 h4
    walk_at "go"
    exact q_fdivb h3 h4
    walk_at "go"
    refine ⟨?_, rfl⟩
    have := fr_divInt_neg n d hd
    rw [← Int.zero_sub n, ← Int.zero_sub d] at this
    exact this
  · have h3 := gz_pos (a := n) (b := d) (by omega)
    have h4 : bi (gz n d) ≤ 8000 := Nat.le_trans (bi_gz (by omega)) (by omega)
    apply v_fn fn__law_fr rfl
    walk_at "go"
    exact q_fdivb h3 h4
    walk_at "go"
    exact q_fdivb h3 h4
    walk_at "go"
    exact ⟨fr_divInt n d (by omega), rfl⟩
end Z
namespace Z
theorem c_less (k : Nat) (p q : Rat) (h : sz p + sz q ≤ 8000) : Ret (callK tab.fns (k + 1)) i__law_less [(fr p, .frz), (fr q, .frz)] (.bl (decide (p < q))) false := by
  apply v_fn fn__law_less rfl
  walk_at "go"
  refine ⟨?_, rfl⟩
  rw [decide_eq_decide.mpr (Rat.lt_iff p q)]
end Z
namespace Z
theorem c_digits (k : Nat) (ns : List Int) : ∃ ds : List Int, Ret (callK tab.fns (k + 2)) i__law_digits [(.rol (iz ns), .frz), (.int 0, .frz), (.int 63, .frz)] (.lst (iz ds)) true := by
  have := v_fnP (k := k + 1) (as := [(.rol (iz ns), .frz), (.int 0, .frz), (.int 63, .frz)]) (P := fun d => ∃ ds : List Int, d = .lst (iz ds)) (fr := true) fn__law_digits rfl (by simp only [mkEnv, nones, Nat.reduceSub]; exact rfl) (by
    have l1 : ∀ ds : List Int, (iz ds).length = ds.length := iz_length
    have l2 : ∀ (ds : List Int) (i : Int), iz ds ++ [D.int i] = iz (ds ++ [i]) := fun ds i => by unfold iz; rw [List.map_append]; rfl
    walk_at "go"
    apply w_range (fun j env => ∃ (ds : List Int) (s4 s5 s6 s7 : Sl), env = [some (.rol (iz ns), .frz), some (.int 0, .frz), some (.int 63, .frz), some (.lst (iz ds), .own), s4, s5, s6, s7] ∧ isLck s4 = false ∧ isLck s5 = false ∧ isLck s6 = false ∧ isLck s7 = false ∧ ds.length ≤ 60 * j)
    walk_at "go"
    walk_at "go"
    decide
    · exact ⟨[], _, _, _, _, rfl, rfl, rfl, rfl, rfl, by simp⟩
    · rintro j env hj ⟨ds, s4, s5, s6, s7, rfl, h4, h5, h6, h7, hl⟩
      refine ⟨_, x_setf rfl h4 rfl rfl, ?_⟩
      simp only [List.set_cons_zero, List.set_cons_succ]
      obtain ⟨cell, hc⟩ := c_cell k ns (0 + j) (by omega)
      walk_at "go"
      apply br_mid (fun env => ∃ (c : Int) (s4 : Sl), env = [some (.rol (iz ns), .frz), some (.int 0, .frz), some (.int 63, .frz), some (.lst (iz ds), .own), some (.int (0 + j), .frz), some (.int c, .frz), s6, s7])
      · apply br_dec <;> intro hn
        · walk_at "go"
          exact w_nil ⟨_, none, rfl⟩
        · walk_at "go"
          exact w_nil ⟨_, none, rfl⟩
      · rintro env ⟨c, _, rfl⟩
        walk_at "go"
        apply q_pow
        decide
        walk_at "go"
        apply br_dec <;> intro hn
        · walk_at "go"
          apply w_range (fun i env => ∃ (ds2 : List Int) (c s6 : Sl), env = [some (.rol (iz ns), .frz), some (.int 0, .frz), some (.int 63, .frz), some (.lst (iz ds2), .own), some (.int (0 + j), .frz), c, s6, s7] ∧ (∃ z : Int, c = some (.int z, .frz)) ∧ isLck s6 = false ∧ ds2.length ≤ 60 * j + i)
          walk_at "go"
          walk_at "go"
          decide
          · exact ⟨ds, _, _, rfl, ⟨_, rfl⟩, h6, by omega⟩
          · rintro i env hi ⟨ds2, cc, s6, rfl, ⟨z, rfl⟩, h6, hl2⟩
            refine ⟨_, x_setf rfl h6 rfl rfl, ?_⟩
            simp only [List.set_cons_zero, List.set_cons_succ]
            have hs : (iz ds2).length < sizeLine := by rw [l1]; exact szl _ (by omega)
            have h0 : (0 : Int) < 1000 := by decide
            have h1 : bi 1000 ≤ 8000 := by decide
            by_cases hz : z > 0
            · walk_at "go"
              exact q_fdivb h0 h1
              walk_at "go"
              rw [l2]
              exact w_nil ⟨_, _, _, rfl, ⟨_, rfl⟩, rfl, by rw [List.length_append, List.length_singleton]; omega⟩
            · walk_at "go"
              exact w_nil ⟨_, _, _, rfl, ⟨_, rfl⟩, rfl, by omega⟩
          · rintro env ⟨ds2, cc, s6, rfl, ⟨z, rfl⟩, h6, hl2⟩
            exact w_nil ⟨_, _, _, _, _, rfl, rfl, rfl, h6, h7, by have : ((60 : Int) - 0).toNat = 60 := rfl; omega⟩
        · walk_at "go"
          apply w_range (fun i env => ∃ (ds2 : List Int) (s6 : Sl) (z : Int), env = [some (.rol (iz ns), .frz), some (.int 0, .frz), some (.int 63, .frz), some (.lst (iz ds2), .own), some (.int (0 + j), .frz), some (.int c, .frz), s6, some (.int z, .frz)] ∧ isLck s6 = false ∧ ds2.length ≤ 60 * j + i)
          walk_at "go"
          walk_at "go"
          decide
          · exact ⟨ds, _, _, rfl, h6, by omega⟩
          · rintro i env hi ⟨ds2, s6, z, rfl, h6, hl2⟩
            refine ⟨_, x_setf rfl h6 rfl rfl, ?_⟩
            simp only [List.set_cons_zero, List.set_cons_succ]
            have hs : (iz ds2).length < sizeLine := by rw [l1]; exact szl _ (by omega)
            have h0 : (0 : Int) < 997 := by decide
            have h1 : bi 997 ≤ 8000 := by decide
            walk_at "go"
            exact q_fdivb h0 h1
            walk_at "go"
            rw [l2]
            exact w_nil ⟨_, _, _, rfl, rfl, by rw [List.length_append, List.length_singleton]; omega⟩
          · rintro env ⟨ds2, s6, z, rfl, h6, hl2⟩
            exact w_nil ⟨_, _, _, _, _, rfl, rfl, rfl, h6, rfl, by have : ((12 : Int) - 0).toNat = 12 := rfl; omega⟩
    · rintro env ⟨ds, s4, s5, s6, s7, rfl, h4, h5, h6, h7, hl⟩
      walk_at "go"
      exact ⟨⟨ds, rfl⟩, rfl⟩)
  obtain ⟨d, ⟨ds, rfl⟩, h⟩ := this
  exact ⟨ds, h⟩
end Z
local macro_rules | `(tactic| kt_at_notin) => `(tactic| (apply c_lfr; assumption; kt_at_in))
local macro_rules | `(tactic| kt_at_notin) => `(tactic| (apply c_less; kaf_pre))
namespace Z
theorem c_ladd (k : Nat) (p q : Rat) (h : sz p + sz q ≤ 199) : Ret (callK tab.fns (k + 3)) i__law_add [(fr p, .frz), (fr q, .frz)] (fr (p + q)) false := by
  have h0 := mul_den_ne p q
  have h1 := bi_dd h
  apply v_fn fn__law_add rfl
  walk_at "go"
  exact ⟨by rw [add_divInt], rfl⟩
end Z
namespace Z
theorem c_lmul (k : Nat) (p q : Rat) (h : sz p + sz q ≤ 199) : Ret (callK tab.fns (k + 3)) i__law_mul [(fr p, .frz), (fr q, .frz)] (fr (p * q)) false := by
  have h0 := mul_den_ne p q
  have h1 := bi_dd h
  apply v_fn fn__law_mul rfl
  walk_at "go"
  exact ⟨by rw [mul_divInt], rfl⟩
end Z
local macro_rules | `(tactic| kt_at_notin) => `(tactic| (apply c_lmul; kaf_pre))
local macro_rules | `(tactic| kt_at_notin) => `(tactic| (apply c_lsub; kaf_pre))
local macro_rules | `(tactic| kt_at_notin) => `(tactic| (apply c_ladd; kaf_pre))
section
local macro_rules | `(tactic| kt_at_notin) => `(tactic| exact c_gcd _ _ _)
local macro_rules | `(tactic| kt_at_notin) => `(tactic| exact c_absolute _ _)
local macro_rules | `(tactic| kt_at_notin) => `(tactic| exact c_negative _ _)
local macro_rules | `(tactic| kt_at_notin) => `(tactic| (apply c_divide; assumption; kaf_pre))
local macro_rules | `(tactic| kt_at_notin) => `(tactic| (apply c_sign; ktr_units))
local macro_rules | `(tactic| kt_at_notin) => `(tactic| (apply c_is_at_most; kaf_pre))
local macro_rules | `(tactic| kt_at_notin) => `(tactic| (apply c_is_less; kaf_pre))
local macro_rules | `(tactic| kt_at_notin) => `(tactic| (apply c_compare; kaf_pre))
local macro_rules | `(tactic| kt_at_notin) => `(tactic| (apply c_subtract; kaf_pre))
local macro_rules | `(tactic| kt_at_notin) => `(tactic| (apply c_multiply; kaf_pre))
local macro_rules | `(tactic| kt_at_notin) => `(tactic| (apply c_add; kaf_pre))
local macro_rules | `(tactic| kt_at_notin) => `(tactic| exact c_draw _ _ _ _ (by decide))
local macro_rules | `(tactic| kt_at_notin) => `(tactic| exact c_divisor _ _ _ (by assumption))
local macro_rules | `(tactic| kt_at_notin) => `(tactic| (apply c_lfr; assumption; kt_at_in))
local macro_rules | `(tactic| kt_at_notin) => `(tactic| (apply c_less; kaf_pre))
local macro_rules | `(tactic| kt_at_notin) => `(tactic| (apply c_lmul; kaf_pre))
local macro_rules | `(tactic| kt_at_notin) => `(tactic| (apply c_lsub; kaf_pre))
local macro_rules | `(tactic| kt_at_notin) => `(tactic| (apply c_ladd; kaf_pre))
namespace Z
inductive El where
  | gap (l : Rat) | lens (p c : Rat) | prism (d : Rat) | afocal (m : Rat) | stop (lo up : Option Rat)
def So (n : Nat) (v : Option Rat) : Prop := ∀ x, v = some x → sz x ≤ n
def El.ok : El → Prop
  | .gap l => sz l ≤ 3
  | .lens p c => sz p ≤ 3 ∧ sz c ≤ 3
  | .prism d => sz d ≤ 3
  | .afocal m => sz m ≤ 3 ∧ m ≠ 0
  | .stop lo up => So 9 lo ∧ So 9 up
abbrev Ry := Rat × Rat
def rd (r : Ry) : D := .tup [fr r.1, fr r.2]
def thru : El → Ry → Ry
  | .gap l, r => (r.1 + l * r.2, r.2)
  | .lens p c, r => (r.1, r.2 - p * (r.1 - c))
  | .prism d, r => (r.1, r.2 + d)
  | .afocal m, r => (m * r.1, r.2 / m)
  | .stop _ _, r => r
def blo (lo : Option Rat) (h : Rat) : Bool := match lo with | some l => decide (h < l) | none => false
def bup (up : Option Rat) (h : Rat) : Bool := match up with | some u => decide (u < h) | none => false
def blk : El → Ry → Bool
  | .stop lo up, r => blo lo r.1 || bup up r.1
  | _, _ => false
/-- height and slope over one denominator -/
def SR (t : Nat) (r : Ry) : Prop := ∃ a b d : Int, d ≠ 0 ∧ bi a ≤ t ∧ bi b ≤ t ∧ bi d ≤ t ∧ r.1 = Rat.divInt a d ∧ r.2 = Rat.divInt b d
theorem SR.mono {t u : Nat} {r : Ry} (h : SR t r) (hu : t ≤ u) : SR u r := by
  obtain ⟨a, b, d, hd, ha, hb, hdd, e1, e2⟩ := h
  exact ⟨a, b, d, hd, by omega, by omega, by omega, e1, e2⟩
theorem divInt_cast (a b : Int) : Rat.divInt a b = (a : Rat) / (b : Rat) := Rat.divInt_eq_div a b
theorem cast_ne {d : Int} (h : d ≠ 0) : (d : Rat) ≠ 0 := fun z => h (Rat.intCast_inj.mp z)
theorem num_div_den (q : Rat) : q = (q.num : Rat) / ((q.den : Int) : Rat) := by
  rw [← divInt_cast, Rat.num_divInt_den]
end Z
namespace Z
end Z
local macro_rules | `(tactic| kfm_turns) => `(tactic| (focus (decide +kernel)))
local macro_rules | `(tactic| kat_tups) => `(tactic| (apply q_nes <;> (focus (decide +kernel))))
local macro_rules | `(tactic| kat_tups) => `(tactic| (apply q_eqs <;> (focus (decide +kernel))))
namespace Z
theorem q_r0 {r : Ry} : prB .ix [rd r, .int 0] = some (fr r.1, false) := q_ixt at_ix0
theorem q_r1 {r : Ry} : prB .ix [rd r, .int 1] = some (fr r.2, false) := q_ixt at_ix1
end Z
namespace Z
def gd (e : El) (r : Ry) : D := if blk e r then .non else rd (thru e r)
end Z
namespace Z
theorem sg {pin : Nat → Bool} {i : Nat} {d : D} {env e1 : En} (h : setS pin i d false env = .ok () e1) : setG pin (.nm i) d env = .ok () e1 := h
end Z
namespace Z
def Pl (s : Sl) : Prop := s = none ∨ ∃ d, s = some (d, .frz)
theorem Pl.lck {s : Sl} (h : Pl s) : isLck s = false := by rcases h with rfl | ⟨d, rfl⟩ <;> rfl
end Z
end
section
local macro_rules | `(tactic| kt_at_notin) => `(tactic| exact c_gcd _ _ _)
local macro_rules | `(tactic| kt_at_notin) => `(tactic| exact c_absolute _ _)
local macro_rules | `(tactic| kt_at_notin) => `(tactic| exact c_negative _ _)
local macro_rules | `(tactic| kt_at_notin) => `(tactic| (apply c_divide; assumption; kaf_pre))
local macro_rules | `(tactic| kt_at_notin) => `(tactic| (apply c_sign; ktr_units))
local macro_rules | `(tactic| kt_at_notin) => `(tactic| (apply c_is_at_most; kaf_pre))
local macro_rules | `(tactic| kt_at_notin) => `(tactic| (apply c_is_less; kaf_pre))
local macro_rules | `(tactic| kt_at_notin) => `(tactic| (apply c_compare; kaf_pre))
local macro_rules | `(tactic| kt_at_notin) => `(tactic| (apply c_subtract; kaf_pre))
local macro_rules | `(tactic| kt_at_notin) => `(tactic| (apply c_multiply; kaf_pre))
local macro_rules | `(tactic| kt_at_notin) => `(tactic| (apply c_add; kaf_pre))
local macro_rules | `(tactic| kt_at_notin) => `(tactic| exact c_draw _ _ _ _ (by decide))
local macro_rules | `(tactic| kt_at_notin) => `(tactic| exact c_divisor _ _ _ (by assumption))
local macro_rules | `(tactic| kt_at_notin) => `(tactic| (apply c_lfr; assumption; kt_at_in))
local macro_rules | `(tactic| kt_at_notin) => `(tactic| (apply c_less; kaf_pre))
local macro_rules | `(tactic| kt_at_notin) => `(tactic| (apply c_lmul; kaf_pre))
local macro_rules | `(tactic| kt_at_notin) => `(tactic| (apply c_lsub; kaf_pre))
local macro_rules | `(tactic| kt_at_notin) => `(tactic| (apply c_ladd; kaf_pre))
local macro_rules | `(tactic| kfm_turns) => `(tactic| (focus (decide +kernel)))
local macro_rules | `(tactic| kat_tups) => `(tactic| (apply q_nes <;> (focus (decide +kernel))))
local macro_rules | `(tactic| kat_tups) => `(tactic| (apply q_eqs <;> (focus (decide +kernel))))
namespace Z
structure Mp where
  a : Rat
  b : Rat
  c : Rat
  d : Rat
  e : Rat
  f : Rat
def m1 : Mp := ⟨1, 0, 0, 1, 0, 0⟩
def co (m n : Mp) : Mp := ⟨n.a * m.a + n.b * m.c, n.a * m.b + n.b * m.d, n.c * m.a + n.d * m.c, n.c * m.b + n.d * m.d, n.a * m.e + n.b * m.f + n.e, n.c * m.e + n.d * m.f + n.f⟩
def Mp.z (m : Mp) (n : Nat) : Prop := sz m.a ≤ n ∧ sz m.b ≤ n ∧ sz m.c ≤ n ∧ sz m.d ≤ n ∧ sz m.e ≤ n ∧ sz m.f ≤ n
theorem Mp.z.mono {m : Mp} {n k : Nat} (h : m.z n) (hk : n ≤ k) : m.z k := by
  obtain ⟨h1, h2, h3, h4, h5, h6⟩ := h
  exact ⟨by omega, by omega, by omega, by omega, by omega, by omega⟩
def em : El → Mp
  | .gap l => ⟨1, l, 0, 1, 0, 0⟩
  | .lens p c => ⟨1, 0, -p, 1, 0, p * c⟩
  | .prism d => ⟨1, 0, 0, 1, 0, d⟩
  | .afocal m => ⟨m, 0, 0, 1 / m, 0, 0⟩
  | .stop _ _ => m1
def tr (es : List El) (j : Nat) : Mp := (es.take j).foldl (fun m e => co m (em e)) m1
def whole (es : List El) : Mp := tr es es.length
/-- the four numbers that turn differences, over one denominator -/
def SF (t : Nat) (m : Mp) : Prop := ∃ a b c d g : Int, g ≠ 0 ∧ bi a ≤ t ∧ bi b ≤ t ∧ bi c ≤ t ∧ bi d ≤ t ∧ bi g ≤ t ∧ m.a = Rat.divInt a g ∧ m.b = Rat.divInt b g ∧ m.c = Rat.divInt c g ∧ m.d = Rat.divInt d g
theorem SF.z {t : Nat} {m : Mp} (h : SF t m) : sz m.a ≤ t ∧ sz m.b ≤ t ∧ sz m.c ≤ t ∧ sz m.d ≤ t := by
  obtain ⟨a, b, c, d, g, hg, ha, hb, hc, hd, hgg, e1, e2, e3, e4⟩ := h
  rw [e1, e2, e3, e4]
  exact ⟨sz_divInt hg ha hgg, sz_divInt hg hb hgg, sz_divInt hg hc hgg, sz_divInt hg hd hgg⟩
end Z
namespace Z
theorem q_sl4 {a b c d e f : D} : prB (.sl false true) [.tup [a, b, c, d, e, f], .int 4] = some (.tup [a, b, c, d], false) := rfl
theorem q_cat2 {a b c d x y : D} : prB .add [.tup [a, b, c, d], .tup [x, y]] = some (.tup [a, b, c, d, x, y], false) := rfl
end Z
local macro_rules | `(tactic| kat_tups) => `(tactic| (apply gd_padd; with_unfolding_all exact q_cat2))
local macro_rules | `(tactic| kat_tups) => `(tactic| (apply gd_psl; with_unfolding_all exact q_sl4))
local macro_rules | `(tactic| kt_at_notin) => `(tactic| (apply c_apply; assumption; focus ktr_units; focus ktr_units))
local macro_rules | `(tactic| kt_at_notin) => `(tactic| exact c_without _ _)
namespace Z
end Z
namespace Z
theorem q_sl2 {a b c d e f : D} : prB (.sl false true) [.tup [a, b, c, d, e, f], .int 2] = some (.tup [a, b], false) := rfl
theorem q_sl24 {a b c d e f : D} : prB (.sl true true) [.tup [a, b, c, d, e, f], .int 2, .int 4] = some (.tup [c, d], false) := rfl
theorem q_eq0 {q : Rat} : prB .eq [fr q, .tup [.int 0, .int 1]] = some (.bl (decide (q = 0)), false) := q_eqf (q := 0)
/-- the magnification, the image distance -/
def mg (m : Mp) (x : Rat) : Option Rat := if m.c * x + m.d = 0 then none else some (1 / (m.c * x + m.d))
end Z
local macro_rules | `(tactic| kat_tups) => `(tactic| exact q_eq0)
local macro_rules | `(tactic| kat_tups) => `(tactic| (apply gd_psl; with_unfolding_all exact q_sl24))
local macro_rules | `(tactic| kat_tups) => `(tactic| (apply gd_psl; with_unfolding_all exact q_sl2))
end
section
local macro_rules | `(tactic| kt_at_notin) => `(tactic| exact c_gcd _ _ _)
local macro_rules | `(tactic| kt_at_notin) => `(tactic| exact c_absolute _ _)
local macro_rules | `(tactic| kt_at_notin) => `(tactic| exact c_negative _ _)
local macro_rules | `(tactic| kt_at_notin) => `(tactic| (apply c_divide; assumption; kaf_pre))
local macro_rules | `(tactic| kt_at_notin) => `(tactic| (apply c_sign; ktr_units))
local macro_rules | `(tactic| kt_at_notin) => `(tactic| (apply c_is_at_most; kaf_pre))
local macro_rules | `(tactic| kt_at_notin) => `(tactic| (apply c_is_less; kaf_pre))
local macro_rules | `(tactic| kt_at_notin) => `(tactic| (apply c_compare; kaf_pre))
local macro_rules | `(tactic| kt_at_notin) => `(tactic| (apply c_subtract; kaf_pre))
local macro_rules | `(tactic| kt_at_notin) => `(tactic| (apply c_multiply; kaf_pre))
local macro_rules | `(tactic| kt_at_notin) => `(tactic| (apply c_add; kaf_pre))
local macro_rules | `(tactic| kt_at_notin) => `(tactic| exact c_draw _ _ _ _ (by decide))
local macro_rules | `(tactic| kt_at_notin) => `(tactic| exact c_divisor _ _ _ (by assumption))
local macro_rules | `(tactic| kt_at_notin) => `(tactic| (apply c_lfr; assumption; kt_at_in))
local macro_rules | `(tactic| kt_at_notin) => `(tactic| (apply c_less; kaf_pre))
local macro_rules | `(tactic| kt_at_notin) => `(tactic| (apply c_lmul; kaf_pre))
local macro_rules | `(tactic| kt_at_notin) => `(tactic| (apply c_lsub; kaf_pre))
local macro_rules | `(tactic| kt_at_notin) => `(tactic| (apply c_ladd; kaf_pre))
local macro_rules | `(tactic| kfm_turns) => `(tactic| (focus (decide +kernel)))
local macro_rules | `(tactic| kat_tups) => `(tactic| (apply q_nes <;> (focus (decide +kernel))))
local macro_rules | `(tactic| kat_tups) => `(tactic| (apply q_eqs <;> (focus (decide +kernel))))
local macro_rules | `(tactic| kt_at_notin) => `(tactic| (apply c_is_fr; ktr_units))
namespace Z
structure Hf where
  p : Int
  q : Int
  r : Int
  deriving DecidableEq
def hd (h : Hf) : D := .tup [.int h.p, .int h.q, .int h.r]
/-- p * height + q * slope -/
def vl (h : Hf) (r : Ry) : Rat := (h.p : Rat) * r.1 + (h.q : Rat) * r.2
def inH (h : Hf) (r : Ry) : Bool := decide (vl h r ≤ (h.r : Rat))
def Hf.z (h : Hf) (n : Nat) : Prop := bi h.p ≤ n ∧ bi h.q ≤ n ∧ bi h.r ≤ n
def Hf.ok (h : Hf) : Prop := h.p ≠ 0 ∨ h.q ≠ 0
theorem Hf.z.mono {h : Hf} {n k : Nat} (z : h.z n) (hk : n ≤ k) : h.z k := ⟨Nat.le_trans z.1 hk, Nat.le_trans z.2.1 hk, Nat.le_trans z.2.2 hk⟩
theorem sz_cast (n : Int) : sz (n : Rat) ≤ max (bi n) 1 := by
  show max (bi (n : Rat).num) (bl (n : Rat).den) ≤ _
  rw [Rat.num_intCast, Rat.den_intCast]
  exact Nat.le_refl _
theorem sz_castb {n : Int} {k : Nat} (h : bi n ≤ k) : sz (n : Rat) ≤ k + 1 := by
  have := sz_cast n
  omega
theorem divInt_one' (n : Int) : Rat.divInt n 1 = (n : Rat) := by rw [divInt_cast]; grind
end Z
namespace Z
theorem c_fraction1 (k : Nat) (n : Int) : Ret (callK tab.fns (k + 2)) i_fraction [(.int n, .frz)] (fr (n : Rat)) false := by
  have h3 := gz_pos (a := n) (b := 1) (by omega)
  have h4 : bi (gz n 1) ≤ 8000 := Nat.le_trans (bi_gz (by omega)) (by decide)
  apply y_fn fn_fraction (bs := [(.int n, .frz), (.int 1, .frz)]) rfl rfl (env := [some (.int n, .frz), some (.int 1, .frz), none]) rfl
  walk_at "go"
  exact q_fdivb h3 h4
  walk_at "go"
  exact q_fdivb h3 h4
  walk_at "go"
  rw [← divInt_one']
  exact fr_divInt n 1 (by omega)
end Z
namespace Z
theorem vl_eq (h : Hf) (r : Ry) : Rat.divInt (h.p * r.1.num * r.2.den + h.q * r.2.num * r.1.den) (r.1.den * r.2.den) = vl h r := by
  have h1 := cast_ne (den_ne r.1)
  have h2 := cast_ne (den_ne r.2)
  unfold vl
  rw [divInt_cast, Rat.intCast_add, Rat.intCast_mul, Rat.intCast_mul, Rat.intCast_mul, Rat.intCast_mul, Rat.intCast_mul]
  conv => rhs; rw [num_div_den r.1, num_div_den r.2]
  grind
theorem c_value (k : Nat) (h : Hf) (r : Ry) (hz : h.z 8000) (hr : sz r.1 + sz r.2 ≤ 8000) : Ret (callK tab.fns (k + 3)) i_value_at [(hd h, .frz), (rd r, .frz)] (fr (vl h r)) false := by
  obtain ⟨z1, z2, z3⟩ := hz
  have e := vl_eq h r
  obtain ⟨a, b⟩ := r
  have ha : sz a ≤ 8000 := by simp only at hr; omega
  have hb : sz b ≤ 8000 := by simp only at hr; omega
  have k1 : Ret (callK tab.fns (k + 2)) i_fraction [(.int (h.p * a.num * b.den + h.q * b.num * a.den), .frz), (.int (a.den * b.den), .frz)] (fr (Rat.divInt (h.p * a.num * b.den + h.q * b.num * a.den) (a.den * b.den))) false := c_fraction k _ _ (mul_den_ne a b) (bi_dd hr)
  simp only at e
  rw [e] at k1
  simp only [hd, rd]
  apply v_fn fn_value_at rfl
  walk_at "go"
  exact ⟨rfl, rfl⟩
theorem sz_vl {h : Hf} {r : Ry} {n t u : Nat} (hz : h.z n) (h1 : sz r.1 ≤ t) (h2 : sz r.2 ≤ u) : sz (vl h r) ≤ 2 * n + t + u + 3 := by
  have a := ss_mul (sz_castb hz.1) h1
  have b := ss_mul (sz_castb hz.2.1) h2
  have c := ss_add a b
  unfold vl
  omega
end Z
local macro_rules | `(tactic| kt_at_notin) => `(tactic| (apply c_value; assumption; (focus omega)))
local macro_rules | `(tactic| kt_at_notin) => `(tactic| exact c_fraction1 _ _)
namespace Z
theorem c_containsW {k : Nat} {hs : List Hf} {r : Ry} {n s : Nat} (hz : ∀ h ∈ hs, h.z n) (h1 : sz r.1 ≤ s) (h2 : sz r.2 ≤ s) (hb : 3 * n + 2 * s + 4 ≤ 8000) {j : Nat} {h : Hf} (he : hs[j]? = some h) : Ret (callK tab.fns (k + 3)) i_value_at [(hd h, .frz), (rd r, .frz)] (fr (vl h r)) false ∧ Ret (callK tab.fns (k + 3)) i_is_at_most [(fr (vl h r), .frz), (fr (h.r : Rat), .frz)] (.bl (inH h r)) false := by
  have hz := hz h (List.mem_of_getElem? he)
  have a := sz_vl (r := r) hz h1 h2
  have b := sz_castb hz.2.2
  exact ⟨c_value k h r (hz.mono (by omega)) (by omega), c_is_at_most (k + 1) _ _ (by omega)⟩
theorem all_take {hs : List Hf} {r : Ry} {j : Nat} {h : Hf} (he : hs[j]? = some h) (ha : (hs.take j).all (inH · r) = true) (hb : inH h r = true) : (hs.take (j + 1)).all (inH · r) = true := by
  rw [List.take_succ, he, List.all_append, ha, Option.toList_some, List.all_cons, hb]
  rfl
theorem all_not {hs : List Hf} {r : Ry} {j : Nat} {h : Hf} (he : hs[j]? = some h) (hb : inH h r = false) : hs.all (inH · r) = false := by
  rw [List.all_eq_false]
  exact ⟨h, List.mem_of_getElem? he, by rw [hb]; decide⟩
theorem c_containsN (k : Nat) (hs : List Hf) (r : Ry) {n s : Nat} (hz : ∀ h ∈ hs, h.z n) (h1 : sz r.1 ≤ s) (h2 : sz r.2 ≤ s) (hb : 3 * n + 2 * s + 4 ≤ 8000) : Ret (callK tab.fns (k + 4)) i_contains_ray [(.lst (hs.map hd), .frz), (rd r, .frz)] (.bl (hs.all (inH · r))) false := by
  apply v_fn fn_contains_ray rfl
  walk_at "go"
  apply w_for (fun j env => (hs.take j).all (inH · r) = true ∧ ∃ s2, env = [some (.lst (hs.map hd), .frz), some (rd r, .frz), s2] ∧ isLck s2 = false) (x_overf rfl rfl)
  · exact ⟨rfl, none, rfl, rfl⟩
  · rintro j d env hd' ⟨ha, s2, rfl, h3⟩
    obtain ⟨h, he, rfl⟩ := map_get hd'
    obtain ⟨w1, w2⟩ := c_containsW (k := k) hz h1 h2 hb he
    have q2 : prB .ix [hd h, .int 2] = some (.int h.r, false) := q_ixt rfl
    apply w_turn (x_setf rfl h3 rfl rfl)
    simp only [List.set_cons_zero, List.set_cons_succ]
    cases hib : inH h r with
    | false =>
      rw [hib] at w2
      walk_at "go"
      exact ⟨by rw [all_not he hib], rfl⟩
    | true =>
      rw [hib] at w2
      walk_at "go"
      exact w_nil ⟨all_take he ha hib, _, rfl, k_f⟩
  · rintro env ⟨ha, s2, rfl, h3⟩
    rw [List.length_map, List.take_length] at ha
    rw [ha]
    walk_at "go"
    exact ⟨rfl, rfl⟩
end Z
namespace Z
end Z
namespace Z
def scl (p q r : Rat) : Int := p.den * q.den * r.den
def wh (p q r v : Rat) : Int := v.num * (scl p q r / v.den)
def mk (p q r : Rat) : Hf :=
  let g := gz (gz (wh p q r p) (wh p q r q)) (wh p q r r)
  ⟨wh p q r p / g, wh p q r q / g, wh p q r r / g⟩
theorem gz_dvd (a b : Int) : gz a b ∣ a ∧ gz a b ∣ b := by
  unfold gz
  exact ⟨Int.ofNat_dvd_left.mpr (Nat.gcd_dvd_left _ _), Int.ofNat_dvd_left.mpr (Nat.gcd_dvd_right _ _)⟩
theorem gz_nn (a b : Int) : 0 ≤ gz a b := Int.natCast_nonneg _
theorem bi_ediv {a b : Int} (_h : b > 0) : bi (a / b) ≤ bi a := bl_mono (Int.natAbs_ediv_le_natAbs a b)
end Z
namespace Z
def dm (a b : Hf) : Int := a.p * b.q - a.q * b.p
def pd (a b : Hf) : Int := a.p * b.p + a.q * b.q
def inR (hs : List Hf) (x : Ry) : Prop := ∀ h ∈ hs, vl h x ≤ (h.r : Rat)
theorem inR_all {hs : List Hf} {x : Ry} : hs.all (inH · x) = true ↔ inR hs x := by
  rw [List.all_eq_true]
  constructor
  · intro h k hk
    have := h k hk
    unfold inH at this
    simpa using this
  · intro h k hk
    unfold inH
    simpa using h k hk
theorem sq_nn (a : Int) : 0 ≤ a * a := by
  rcases Int.le_total 0 a with h | h
  · exact Int.mul_nonneg h h
  · exact Int.mul_nonneg_of_nonpos_of_nonpos h h
theorem nn_pos {h : Hf} (ho : h.ok) : 0 < pd h h := by
  unfold pd
  rcases ho with z | z
  · have := sq_nn h.q
    have h1 : 0 < h.p * h.p := by
      rcases Int.lt_or_gt_of_ne z with y | y
      · exact Int.mul_pos_of_neg_of_neg y y
      · exact Int.mul_pos y y
    omega
  · have := sq_nn h.p
    have h1 : 0 < h.q * h.q := by
      rcases Int.lt_or_gt_of_ne z with y | y
      · exact Int.mul_pos_of_neg_of_neg y y
      · exact Int.mul_pos y y
    omega
theorem nn_ne {h : Hf} (ho : h.ok) : ((pd h h : Int) : Rat) ≠ 0 := cast_ne (by have := nn_pos ho; omega)
theorem pd_cast (a b : Hf) : ((pd a b : Int) : Rat) = a.p * b.p + a.q * b.q := by unfold pd; rw [Rat.intCast_add, Rat.intCast_mul, Rat.intCast_mul]
theorem dm_cast (a b : Hf) : ((dm a b : Int) : Rat) = a.p * b.q - a.q * b.p := by unfold dm; rw [Rat.intCast_sub, Rat.intCast_mul, Rat.intCast_mul]
/-- the ray nearest to (0, 0) on a line; the rays on it -/
def foot (l : Hf) : Ry := (((l.p * l.r : Int) : Rat) / (pd l l : Int), ((l.q * l.r : Int) : Rat) / (pd l l : Int))
def alng (l : Hf) (t : Rat) : Ry := ((foot l).1 + t * (-(l.q : Rat)), (foot l).2 + t * (l.p : Rat))
theorem vl_foot {l : Hf} (ho : l.ok) : vl l (foot l) = (l.r : Rat) := by
  have h1 := nn_ne ho
  have h2 := pd_cast l l
  unfold vl foot
  rw [Rat.intCast_mul, Rat.intCast_mul]
  simp only
  generalize ((pd l l : Int) : Rat) = n at *
  generalize (l.p : Rat) = p at *
  generalize (l.q : Rat) = q at *
  generalize (l.r : Rat) = r at *
  have : p * (p * r / n) + q * (q * r / n) = r * (p * p + q * q) / n := by grind
  rw [this, ← h2]
  grind
theorem vl_alng (l k : Hf) (t : Rat) : vl k (alng l t) = vl k (foot l) + t * (dm l k : Int) := by
  rw [dm_cast]
  unfold vl alng
  simp only
  grind
theorem vl_alng_self {l : Hf} (ho : l.ok) (t : Rat) : vl l (alng l t) = (l.r : Rat) := by
  rw [vl_alng, vl_foot ho]
  have : dm l l = 0 := by unfold dm; rw [Int.mul_comm l.q]; omega
  rw [this]
  grind
def v1 (acc v : Option Rat) : Option Rat := match v, acc with
  | some x, some a => if x < a then some x else some a
  | some x, none => some x
  | none, a => a
def v2 (acc v : Option Rat) : Option Rat := match v, acc with
  | some x, some a => if a < x then some x else some a
  | some x, none => some x
  | none, a => a
def lstO (l : List Rat) : Option Rat := (l.map some).foldl v1 none
def gstO (l : List Rat) : Option Rat := (l.map some).foldl v2 none
def LsP (l : List Rat) (o : Option Rat) : Prop := match o with
  | none => l = []
  | some m => m ∈ l ∧ ∀ x ∈ l, m ≤ x
def GsP (l : List Rat) (o : Option Rat) : Prop := match o with
  | none => l = []
  | some m => m ∈ l ∧ ∀ x ∈ l, x ≤ m
theorem lst_ok (l : List Rat) : LsP l (lstO l) := by
  have key : ∀ (l p : List Rat) (o : Option Rat), LsP p o → LsP (p ++ l) ((l.map some).foldl v1 o) := by
    intro l
    induction l with
    | nil => intro p o h; simpa using h
    | cons a l ih =>
      intro p o h
      rw [List.map_cons, List.foldl_cons, show p ++ a :: l = (p ++ [a]) ++ l by simp]
      refine ih _ _ ?_
      cases o with
      | none =>
        have hp : p = [] := h
        subst hp
        exact ⟨by simp, fun x hx => by simp at hx; subst hx; exact Rat.le_refl⟩
      | some m =>
        obtain ⟨h1, h2⟩ := h
        show LsP (p ++ [a]) (if a < m then some a else some m)
        by_cases c : a < m
        · rw [if_pos c]
          refine ⟨by simp, fun x hx => ?_⟩
          rcases List.mem_append.mp hx with z | z
          · exact Rat.le_trans (Rat.le_of_lt c) (h2 x z)
          · simp at z; subst z; exact Rat.le_refl
        · rw [if_neg c]
          refine ⟨List.mem_append_left _ h1, fun x hx => ?_⟩
          rcases List.mem_append.mp hx with z | z
          · exact h2 x z
          · simp at z; subst z; exact Rat.not_lt.mp c
  exact key l [] none rfl
theorem gst_ok (l : List Rat) : GsP l (gstO l) := by
  have key : ∀ (l p : List Rat) (o : Option Rat), GsP p o → GsP (p ++ l) ((l.map some).foldl v2 o) := by
    intro l
    induction l with
    | nil => intro p o h; simpa using h
    | cons a l ih =>
      intro p o h
      rw [List.map_cons, List.foldl_cons, show p ++ a :: l = (p ++ [a]) ++ l by simp]
      refine ih _ _ ?_
      cases o with
      | none =>
        have hp : p = [] := h
        subst hp
        exact ⟨by simp, fun x hx => by simp at hx; subst hx; exact Rat.le_refl⟩
      | some m =>
        obtain ⟨h1, h2⟩ := h
        show GsP (p ++ [a]) (if m < a then some a else some m)
        by_cases c : m < a
        · rw [if_pos c]
          refine ⟨by simp, fun x hx => ?_⟩
          rcases List.mem_append.mp hx with z | z
          · exact Rat.le_trans (h2 x z) (Rat.le_of_lt c)
          · simp at z; subst z; exact Rat.le_refl
        · rw [if_neg c]
          refine ⟨List.mem_append_left _ h1, fun x hx => ?_⟩
          rcases List.mem_append.mp hx with z | z
          · exact h2 x z
          · simp at z; subst z; exact Rat.not_lt.mp c
  exact key l [] none rfl
def rm (l k : Hf) : Rat := (k.r : Rat) - vl k (foot l)
def lows (l : Hf) (hs : List Hf) : List Rat := hs.filterMap fun k => if dm l k < 0 then some (rm l k / (dm l k : Int)) else none
def upps (l : Hf) (hs : List Hf) : List Rat := hs.filterMap fun k => if 0 < dm l k then some (rm l k / (dm l k : Int)) else none
/-- a half-plane with the direction of the line, which is without -/
def offL (l : Hf) (hs : List Hf) : Bool := hs.any fun k => decide (dm l k = 0) && decide (rm l k < 0)
def spn (l : Hf) (hs : List Hf) : Option (Option Rat × Option Rat) :=
  if offL l hs then none else match gstO (lows l hs), lstO (upps l hs) with
    | some a, some b => if b < a then none else some (some a, some b)
    | a, b => some (a, b)
def lowOk (o : Option Rat) (t : Rat) : Prop := ∀ a, o = some a → a ≤ t
def uppOk (o : Option Rat) (t : Rat) : Prop := ∀ a, o = some a → t ≤ a
theorem div_le_iff {a b t : Rat} (hb : 0 < b) : t ≤ a / b ↔ t * b ≤ a := by
  have e : a / b * b = a := by grind
  constructor
  · intro h
    have := Rat.mul_le_mul_of_nonneg_right h (Rat.le_of_lt hb)
    rw [e] at this
    exact this
  · intro h
    refine Rat.le_of_mul_le_mul_right (c := b) ?_ hb
    rw [e]
    exact h
theorem div_le_iff_neg {a b t : Rat} (hb : b < 0) : a / b ≤ t ↔ t * b ≤ a := by
  have := div_le_iff (a := a) (b := -b) (t := -t) (by grind)
  have e : a / -b = -(a / b) := by grind
  rw [e] at this
  constructor
  · intro h
    have := this.mp (by grind)
    grind
  · intro h
    have := this.mpr (by grind)
    grind
/-- one half-plane on a line -/
theorem in_line (l k : Hf) (t : Rat) : vl k (alng l t) ≤ (k.r : Rat) ↔ (0 < dm l k → t ≤ rm l k / (dm l k : Int)) ∧ (dm l k < 0 → rm l k / (dm l k : Int) ≤ t) ∧ (dm l k = 0 → 0 ≤ rm l k) := by
  rw [vl_alng]
  have hr : vl k (foot l) + t * (dm l k : Int) ≤ (k.r : Rat) ↔ t * (dm l k : Int) ≤ rm l k := by unfold rm; grind
  rw [hr]
  rcases Int.lt_trichotomy (dm l k) 0 with h | h | h
  · have hb : ((dm l k : Int) : Rat) < 0 := by exact_mod_cast h
    rw [← div_le_iff_neg hb]
    exact ⟨fun z => ⟨fun y => absurd y (by omega), fun _ => z, fun y => absurd y (by omega)⟩, fun z => z.2.1 h⟩
  · rw [h]
    constructor
    · intro z
      exact ⟨fun y => absurd y (by omega), fun y => absurd y (by omega), fun _ => by simpa using z⟩
    · intro z
      have := z.2.2 rfl
      simpa using this
  · have hb : (0 : Rat) < ((dm l k : Int) : Rat) := by exact_mod_cast h
    rw [← div_le_iff hb]
    exact ⟨fun z => ⟨fun _ => z, fun y => absurd y (by omega), fun y => absurd y (by omega)⟩, fun z => z.1 h⟩
theorem mem_lows {l : Hf} {hs : List Hf} {t : Rat} : t ∈ lows l hs ↔ ∃ k ∈ hs, dm l k < 0 ∧ t = rm l k / (dm l k : Int) := by
  unfold lows
  rw [List.mem_filterMap]
  constructor
  · rintro ⟨k, hk, h⟩
    by_cases c : dm l k < 0
    · rw [if_pos c] at h; cases h; exact ⟨k, hk, c, rfl⟩
    · rw [if_neg c] at h; cases h
  · rintro ⟨k, hk, c, rfl⟩
    exact ⟨k, hk, if_pos c⟩
theorem mem_upps {l : Hf} {hs : List Hf} {t : Rat} : t ∈ upps l hs ↔ ∃ k ∈ hs, 0 < dm l k ∧ t = rm l k / (dm l k : Int) := by
  unfold upps
  rw [List.mem_filterMap]
  constructor
  · rintro ⟨k, hk, h⟩
    by_cases c : 0 < dm l k
    · rw [if_pos c] at h; cases h; exact ⟨k, hk, c, rfl⟩
    · rw [if_neg c] at h; cases h
  · rintro ⟨k, hk, c, rfl⟩
    exact ⟨k, hk, if_pos c⟩
theorem lowOk_iff {l : Hf} {hs : List Hf} {t : Rat} : lowOk (gstO (lows l hs)) t ↔ ∀ k ∈ hs, dm l k < 0 → rm l k / (dm l k : Int) ≤ t := by
  have hg := gst_ok (lows l hs)
  cases h : gstO (lows l hs) with
  | none =>
    rw [h] at hg
    have hg : lows l hs = [] := hg
    refine ⟨fun _ k hk c => ?_, fun _ a z => nomatch z⟩
    have : rm l k / (dm l k : Int) ∈ lows l hs := mem_lows.mpr ⟨k, hk, c, rfl⟩
    rw [hg] at this
    cases this
  | some m =>
    rw [h] at hg
    obtain ⟨h1, h2⟩ := hg
    refine ⟨fun z k hk c => Rat.le_trans (h2 _ (mem_lows.mpr ⟨k, hk, c, rfl⟩)) (z m rfl), fun z a e => ?_⟩
    cases e
    obtain ⟨k, hk, c, rfl⟩ := mem_lows.mp h1
    exact z k hk c
theorem uppOk_iff {l : Hf} {hs : List Hf} {t : Rat} : uppOk (lstO (upps l hs)) t ↔ ∀ k ∈ hs, 0 < dm l k → t ≤ rm l k / (dm l k : Int) := by
  have hg := lst_ok (upps l hs)
  cases h : lstO (upps l hs) with
  | none =>
    rw [h] at hg
    have hg : upps l hs = [] := hg
    refine ⟨fun _ k hk c => ?_, fun _ a z => nomatch z⟩
    have : rm l k / (dm l k : Int) ∈ upps l hs := mem_upps.mpr ⟨k, hk, c, rfl⟩
    rw [hg] at this
    cases this
  | some m =>
    rw [h] at hg
    obtain ⟨h1, h2⟩ := hg
    refine ⟨fun z k hk c => Rat.le_trans (z m rfl) (h2 _ (mem_upps.mpr ⟨k, hk, c, rfl⟩)), fun z a e => ?_⟩
    cases e
    obtain ⟨k, hk, c, rfl⟩ := mem_upps.mp h1
    exact z k hk c
theorem offL_false {l : Hf} {hs : List Hf} : offL l hs = false ↔ ∀ k ∈ hs, dm l k = 0 → 0 ≤ rm l k := by
  unfold offL
  rw [List.any_eq_false]
  constructor
  · intro h k hk c
    have := h k hk
    simp only [c, decide_true, Bool.true_and, decide_eq_true_eq] at this
    exact Rat.not_lt.mp this
  · intro h k hk z
    simp only [Bool.and_eq_true, decide_eq_true_eq] at z
    exact absurd z.2 (Rat.not_lt.mpr (h k hk z.1))
theorem line_in {l : Hf} {hs : List Hf} {t : Rat} : inR hs (alng l t) ↔ offL l hs = false ∧ lowOk (gstO (lows l hs)) t ∧ uppOk (lstO (upps l hs)) t := by
  rw [offL_false, lowOk_iff, uppOk_iff]
  unfold inR
  constructor
  · intro h
    exact ⟨fun k hk => ((in_line l k t).mp (h k hk)).2.2, fun k hk => ((in_line l k t).mp (h k hk)).2.1, fun k hk => ((in_line l k t).mp (h k hk)).1⟩
  · rintro ⟨h1, h2, h3⟩ k hk
    exact (in_line l k t).mpr ⟨h3 k hk, h2 k hk, h1 k hk⟩
theorem spn_some {l : Hf} {hs : List Hf} {a b : Option Rat} (h : spn l hs = some (a, b)) : a = gstO (lows l hs) ∧ b = lstO (upps l hs) ∧ offL l hs = false ∧ ∀ x y, a = some x → b = some y → x ≤ y := by
  unfold spn at h
  split at h
  · cases h
  rename_i h0
  refine (?_ : a = _ ∧ b = _ ∧ _) |> fun z => ⟨z.1, z.2.1, by simpa using h0, z.2.2⟩
  split at h
  · rename_i x y hx hy
    split at h
    · cases h
    · rename_i c
      cases h
      exact ⟨hx.symm, hy.symm, fun _ _ e1 e2 => by cases e1; cases e2; exact Rat.not_lt.mp c⟩
  · rename_i x y hn
    cases h
    exact ⟨rfl, rfl, fun p q e1 e2 => (hn p q e1 e2).elim⟩
theorem spn_none {l : Hf} {hs : List Hf} (h : spn l hs = none) : (∃ k ∈ hs, dm l k = 0 ∧ rm l k < 0) ∨ ∃ j ∈ hs, ∃ k ∈ hs, 0 < dm l j ∧ dm l k < 0 ∧ rm l j / (dm l j : Int) < rm l k / (dm l k : Int) := by
  unfold spn at h
  split at h
  · rename_i h0
    unfold offL at h0
    rw [List.any_eq_true] at h0
    obtain ⟨k, hk, z⟩ := h0
    simp only [Bool.and_eq_true, decide_eq_true_eq] at z
    exact .inl ⟨k, hk, z.1, z.2⟩
  · split at h
    · rename_i x y hx hy
      split at h
      · rename_i c
        have g := gst_ok (lows l hs)
        have u := lst_ok (upps l hs)
        rw [hx] at g
        rw [hy] at u
        obtain ⟨k, hk, c1, rfl⟩ := mem_lows.mp g.1
        obtain ⟨j, hj, c2, rfl⟩ := mem_upps.mp u.1
        exact .inr ⟨j, hj, k, hk, c2, c1, c⟩
      · cases h
    · cases h
end Z
namespace Z
def n1 (h : Hf) : Int := (h.p.natAbs : Int) + (h.q.natAbs : Int)
def PC (a b : Hf) : Prop := dm a b = 0 ∧ pd a b < 0 ∧ n1 b * a.r + n1 a * b.r < 0
def TC (a b c : Hf) : Prop := 0 < dm b c ∧ 0 < dm c a ∧ 0 < dm a b ∧ dm b c * a.r + dm c a * b.r + dm a b * c.r < 0
def Why (hs : List Hf) : Prop := (∃ a ∈ hs, ∃ b ∈ hs, PC a b) ∨ ∃ a ∈ hs, ∃ b ∈ hs, ∃ c ∈ hs, TC a b c
theorem Why.mono {hs ks : List Hf} (h : Why hs) (s : ∀ x ∈ hs, x ∈ ks) : Why ks := by
  rcases h with ⟨a, ha, b, hb, p⟩ | ⟨a, ha, b, hb, c, hc, p⟩
  · exact .inl ⟨a, s a ha, b, s b hb, p⟩
  · exact .inr ⟨a, s a ha, b, s b hb, c, s c hc, p⟩
theorem dm_neg (a b : Hf) : dm a b = -dm b a := by unfold dm; rw [Int.mul_comm a.p, Int.mul_comm a.q]; omega
theorem pd_comm (a b : Hf) : pd a b = pd b a := by unfold pd; rw [Int.mul_comm a.p, Int.mul_comm a.q]
/-- a direction on the same line through (0, 0) -/
theorem par_p {l k : Hf} (h : dm l k = 0) : k.p * pd l l = l.p * pd l k ∧ k.q * pd l l = l.q * pd l k := by
  unfold dm at h
  unfold pd
  constructor
  · have : k.p * (l.p * l.p + l.q * l.q) - l.p * (l.p * k.p + l.q * k.q) = -(l.q * (l.p * k.q - l.q * k.p)) := by grind
    rw [h] at this
    omega
  · have : k.q * (l.p * l.p + l.q * l.q) - l.q * (l.p * k.p + l.q * k.q) = l.p * (l.p * k.q - l.q * k.p) := by grind
    rw [h] at this
    omega
theorem par_vl {l k : Hf} (h : dm l k = 0) (x : Ry) : ((pd l l : Int) : Rat) * vl k x = (pd l k : Int) * vl l x := by
  obtain ⟨h1, h2⟩ := par_p h
  have g1 : (k.p : Rat) * ((pd l l : Int) : Rat) = l.p * ((pd l k : Int) : Rat) := by rw [← Rat.intCast_mul, ← Rat.intCast_mul, h1]
  have g2 : (k.q : Rat) * ((pd l l : Int) : Rat) = l.q * ((pd l k : Int) : Rat) := by rw [← Rat.intCast_mul, ← Rat.intCast_mul, h2]
  unfold vl
  grind
theorem par_n1 {l k : Hf} (h : dm l k = 0) (hp : pd l k < 0) (ho : l.ok) : n1 k * pd l l = -(pd l k) * n1 l := by
  obtain ⟨h1, h2⟩ := par_p h
  have hn := nn_pos ho
  have e1 : (k.p.natAbs : Int) * pd l l = (l.p.natAbs : Int) * -(pd l k) := by
    have := congrArg Int.natAbs h1
    rw [Int.natAbs_mul, Int.natAbs_mul] at this
    have a : ((pd l l).natAbs : Int) = pd l l := by omega
    have b : ((pd l k).natAbs : Int) = -(pd l k) := by omega
    rw [← a, ← b]
    exact_mod_cast this
  have e2 : (k.q.natAbs : Int) * pd l l = (l.q.natAbs : Int) * -(pd l k) := by
    have := congrArg Int.natAbs h2
    rw [Int.natAbs_mul, Int.natAbs_mul] at this
    have a : ((pd l l).natAbs : Int) = pd l l := by omega
    have b : ((pd l k).natAbs : Int) = -(pd l k) := by omega
    rw [← a, ← b]
    exact_mod_cast this
  unfold n1
  rw [Int.add_mul, e1, e2, ← Int.add_mul, Int.mul_comm]
theorem n1_pos {h : Hf} (ho : h.ok) : 0 < n1 h := by
  unfold n1
  rcases ho with z | z <;> omega
/-- two directions that lie on one line are not perpendicular -/
theorem par_ne {l k : Hf} (hl : l.ok) (hk : k.ok) (h : dm l k = 0) : pd l k ≠ 0 := by
  intro z
  obtain ⟨h1, h2⟩ := par_p h
  rw [z, Int.mul_zero] at h1 h2
  have hn := nn_pos hl
  rcases hk with y | y
  · exact Int.mul_ne_zero y (by omega) h1
  · exact Int.mul_ne_zero y (by omega) h2
theorem ir {a : Int} : ((a : Rat) < 0 ↔ a < 0) ∧ (0 < (a : Rat) ↔ 0 < a) ∧ ((a : Rat) = 0 ↔ a = 0) := ⟨by exact_mod_cast Iff.rfl, by exact_mod_cast Iff.rfl, by exact_mod_cast Iff.rfl⟩
theorem neg_of_mul {n a : Int} (hn : 0 < n) (h : n * a < 0) : a < 0 := by
  rcases Int.lt_or_le a 0 with y | y
  · exact y
  · exact absurd (Int.mul_nonneg (Int.le_of_lt hn) y) (by omega)
theorem mul_neg_of {n a : Int} (hn : 0 < n) (h : a < 0) : n * a < 0 := by
  have := Int.mul_lt_mul_of_pos_left h hn
  simpa using this
/-- opposite directions, by a combination of them that is nothing -/
theorem pair_of {j k : Hf} {a b : Int} (hj : j.ok) (ha : 0 < a) (hb : 0 < b) (c : dm j k = 0) (hab : -b * pd j j = a * pd j k) (hr : b * j.r + a * k.r < 0) : PC j k := by
  have hN := nn_pos hj
  have h1 : pd j k < 0 := by
    have : b * pd j j > 0 := Int.mul_pos hb hN
    have e : -b * pd j j = -(b * pd j j) := by grind
    exact neg_of_mul ha (by omega)
  refine ⟨c, h1, ?_⟩
  have e := par_n1 c h1 hj
  have n1j := n1_pos hj
  have s1 : a * (-(pd j k) * j.r + pd j j * k.r) = pd j j * (b * j.r + a * k.r) := by grind
  have s2 := neg_of_mul ha (by rw [s1]; exact mul_neg_of hN hr)
  refine neg_of_mul hN ?_
  have s3 : pd j j * (n1 k * j.r + n1 j * k.r) = n1 j * (-(pd j k) * j.r + pd j j * k.r) := by grind
  rw [s3]
  exact mul_neg_of n1j s2
theorem mul_lt {a b c : Rat} (h : a < b) (hc : 0 < c) : c * a < c * b := (Rat.mul_lt_mul_left hc).mpr h
/-- the line of a half-plane that a ray of the others is without: if the line is without them, too, the reason -/
theorem why_line {hs : List Hf} {l : Hf} {x : Ry} (hok : ∀ h ∈ hs, h.ok) (hl : l.ok) (hx : inR hs x) (hn : (l.r : Rat) < vl l x) (h : spn l hs = none) : Why (l :: hs) := by
  have hN := nn_pos hl
  have hNr : (0 : Rat) < ((pd l l : Int) : Rat) := ir.2.1.mpr hN
  have vf := vl_foot hl
  rcases spn_none h with ⟨k, hk, h0, hr⟩ | ⟨j, hj, k, hk, ha, hb, hlt⟩
  · have hv := par_vl h0 (foot l)
    rw [vf] at hv
    have hr2 : (k.r : Rat) < vl k (foot l) := by unfold rm at hr; grind
    have hr3 : ((pd l l : Int) : Rat) * k.r < (pd l k : Int) * l.r := by rw [← hv]; exact mul_lt hr2 hNr
    rcases Int.lt_trichotomy (pd l k) 0 with c | c | c
    · refine .inl ⟨l, by simp, k, by simp [hk], h0, c, ?_⟩
      have e := par_n1 h0 c hl
      have hr4 : pd l l * k.r < pd l k * l.r := by exact_mod_cast hr3
      have n1l := n1_pos hl
      have : pd l l * (n1 k * l.r + n1 l * k.r) < 0 := by
        have a1 : pd l l * (n1 k * l.r) = -(pd l k) * n1 l * l.r := by rw [← Int.mul_assoc, Int.mul_comm (pd l l), e]
        have a2 : n1 l * (pd l l * k.r) < n1 l * (pd l k * l.r) := Int.mul_lt_mul_of_pos_left hr4 n1l
        rw [Int.mul_add, a1]
        grind
      exact neg_of_mul hN this
    · exact absurd c (par_ne hl (hok k hk) h0)
    · exfalso
      have hxk := hx k hk
      have hvx := par_vl h0 x
      have cr : (0 : Rat) < ((pd l k : Int) : Rat) := ir.2.1.mpr c
      have b1 := mul_lt hn cr
      have b2 := Rat.mul_le_mul_of_nonneg_left hxk (Rat.le_of_lt hNr)
      grind
  · -- the combination of the two
    have har : (0 : Rat) < ((dm l j : Int) : Rat) := ir.2.1.mpr ha
    have hbr : ((dm l k : Int) : Rat) < 0 := ir.1.mpr hb
    have hcomb : -((dm l k : Int) : Rat) * rm l j + (dm l j : Int) * rm l k < 0 := by
      have e1 : rm l j = rm l j / (dm l j : Int) * (dm l j : Int) := by grind
      have e2 : rm l k = rm l k / (dm l k : Int) * (dm l k : Int) := by grind
      have p : 0 < ((dm l j : Int) : Rat) * -((dm l k : Int) : Rat) := Rat.mul_pos har (by grind)
      have := mul_lt hlt p
      generalize rm l j / (dm l j : Int) = u at *
      generalize rm l k / (dm l k : Int) = w at *
      rw [e1, e2]
      grind
    -- over one denominator
    have vj : ((pd l l : Int) : Rat) * vl j (foot l) = (pd l j : Int) * l.r := by
      have := vl_foot hl
      unfold foot vl
      rw [pd_cast l j, Rat.intCast_mul, Rat.intCast_mul]
      have hne := nn_ne hl
      simp only
      generalize ((pd l l : Int) : Rat) = n at *
      grind
    have vk : ((pd l l : Int) : Rat) * vl k (foot l) = (pd l k : Int) * l.r := by
      unfold foot vl
      rw [pd_cast l k, Rat.intCast_mul, Rat.intCast_mul]
      have hne := nn_ne hl
      simp only
      generalize ((pd l l : Int) : Rat) = n at *
      grind
    have key : ((pd l l : Int) : Rat) * (-((dm l k : Int) : Rat) * j.r + (dm l j : Int) * k.r) < (-((dm l k : Int) : Rat) * (pd l j : Int) + (dm l j : Int) * (pd l k : Int)) * l.r := by
      have := mul_lt hcomb hNr
      unfold rm at this
      have e : ∀ n b a jr kr u w : Rat, n * (-b * (jr - u) + a * (kr - w)) = n * (-b * jr + a * kr) - (-b * (n * u) + a * (n * w)) := by intro n b a jr kr u w; grind
      rw [e, vj, vk] at this
      grind
    have pl : pd l l * dm j k = -(-(dm l k) * pd l j + dm l j * pd l k) := by unfold pd dm; grind
    have plr : ((pd l l : Int) : Rat) * (dm j k : Int) = -(-((dm l k : Int) : Rat) * (pd l j : Int) + (dm l j : Int) * (pd l k : Int)) := by
      have := congrArg (fun z : Int => (z : Rat)) pl
      simpa only [Rat.intCast_mul, Rat.intCast_neg, Rat.intCast_add] using this
    rw [show (-((dm l k : Int) : Rat) * (pd l j : Int) + (dm l j : Int) * (pd l k : Int)) = -(((pd l l : Int) : Rat) * (dm j k : Int)) by grind] at key
    have key2 : -((dm l k : Int) : Rat) * j.r + (dm l j : Int) * k.r + (dm j k : Int) * l.r < 0 := by
      rcases Classical.em (-((dm l k : Int) : Rat) * j.r + (dm l j : Int) * k.r + (dm j k : Int) * l.r < 0) with y | y
      · exact y
      · have := Rat.mul_le_mul_of_nonneg_left (Rat.not_lt.mp y) (Rat.le_of_lt hNr)
        grind
    have key3 : -(dm l k) * j.r + dm l j * k.r + dm j k * l.r < 0 := by exact_mod_cast key2
    rcases Int.lt_trichotomy (dm j k) 0 with c | c | c
    · exfalso
      have cr : ((dm j k : Int) : Rat) < 0 := ir.1.mpr c
      have hxj := hx j hj
      have hxk := hx k hk
      have b1 := Rat.mul_le_mul_of_nonneg_left hxj (show 0 ≤ -((dm l k : Int) : Rat) by grind)
      have b2 := Rat.mul_le_mul_of_nonneg_left hxk (Rat.le_of_lt har)
      have b3 := mul_lt hn (show 0 < -((dm j k : Int) : Rat) by grind)
      have e : -((dm l k : Int) : Rat) * vl j x + (dm l j : Int) * vl k x = -((dm j k : Int) : Rat) * vl l x := by
        rw [dm_cast, dm_cast, dm_cast]
        unfold vl
        grind
      grind
    · refine .inl ⟨j, by simp [hj], k, by simp [hk], pair_of (a := dm l j) (b := -(dm l k)) (hok j hj) ha (by omega) c ?_ ?_⟩
      · obtain ⟨h1, h2⟩ := par_p c
        have : dm l k * pd j j = dm l j * pd j k := by
          have : dm l k * pd j j = l.p * (k.q * pd j j) - l.q * (k.p * pd j j) := by unfold dm; grind
          rw [this, h1, h2]
          unfold dm
          grind
        rw [Int.neg_neg]
        exact this
      · rw [c] at key3; omega
    · refine .inr ⟨j, by simp [hj], k, by simp [hk], l, by simp, ?_, ha, c, ?_⟩
      · rw [dm_neg]; omega
      · rw [dm_neg k l]; exact key3
def nzr (lo up : Option Rat) : Rat := match lo, up with
  | some a, up => if 0 < a then a else match up with
    | some b => if b < 0 then b else 0
    | none => 0
  | none, some b => if b < 0 then b else 0
  | none, none => 0
theorem nzr_ok {lo up : Option Rat} (h : ∀ x y, lo = some x → up = some y → x ≤ y) : lowOk lo (nzr lo up) ∧ uppOk up (nzr lo up) := by
  unfold nzr lowOk uppOk
  cases lo with
  | none =>
    cases up with
    | none => exact ⟨fun _ z => (nomatch z), fun _ z => (nomatch z)⟩
    | some b =>
      refine ⟨fun _ z => (nomatch z), fun c z => ?_⟩
      cases z
      simp only
      split <;> grind
  | some a =>
    cases up with
    | none =>
      refine ⟨fun c z => ?_, fun _ z => (nomatch z)⟩
      cases z
      simp only
      split <;> grind
    | some b =>
      have := h a b rfl rfl
      refine ⟨fun c z => ?_, fun c z => ?_⟩
      · cases z
        simp only
        split
        · grind
        · split <;> grind
      · cases z
        simp only
        split
        · grind
        · split <;> grind
def srGo : List Hf → Ry → List Hf → Option Ry
  | _, x, [] => some x
  | seen, x, h :: rest => if inH h x then srGo (seen ++ [h]) x rest else match spn h seen with
    | none => none
    | some (a, b) => srGo (seen ++ [h]) (alng h (nzr a b)) rest
def sray (hs : List Hf) : Option Ry := srGo [] (0, 0) hs
theorem inR_snoc {hs : List Hf} {h : Hf} {x : Ry} (h1 : inR hs x) (h2 : vl h x ≤ (h.r : Rat)) : inR (hs ++ [h]) x := by
  intro k hk
  rcases List.mem_append.mp hk with z | z
  · exact h1 k z
  · simp at z; subst z; exact h2
theorem srGo_ok : ∀ (rest seen : List Hf) (x : Ry), (∀ h ∈ seen ++ rest, h.ok) → inR seen x → match srGo seen x rest with
    | some y => inR (seen ++ rest) y
    | none => Why (seen ++ rest)
  | [], seen, x, ho, hx => by simpa [srGo] using hx
  | h :: rest, seen, x, ho, hx => by
    have ho' : ∀ k ∈ (seen ++ [h]) ++ rest, k.ok := fun k hk => ho k (by simpa using hk)
    have hho := ho h (by simp)
    unfold srGo
    rw [show seen ++ h :: rest = (seen ++ [h]) ++ rest by simp]
    cases c : inH h x with
    | true =>
      rw [if_pos rfl]
      refine srGo_ok rest (seen ++ [h]) x ho' (inR_snoc hx ?_)
      unfold inH at c
      simpa using c
    | false =>
      rw [if_neg Bool.false_ne_true]
      have hn : (h.r : Rat) < vl h x := by
        unfold inH at c
        simpa [Rat.not_le] using c
      cases s : spn h seen with
      | none =>
        refine (why_line (fun k hk => ho k (by simp [hk])) hho hx hn s).mono fun k hk => ?_
        rcases List.mem_cons.mp hk with z | z
        · simp [z]
        · simp [z]
      | some p =>
        obtain ⟨a, b⟩ := p
        obtain ⟨rfl, rfl, h0, h3⟩ := spn_some s
        have g := nzr_ok h3
        refine srGo_ok rest (seen ++ [h]) _ ho' (inR_snoc (line_in.mpr ⟨h0, g.1, g.2⟩) ?_)
        rw [vl_alng_self hho]
        exact Rat.le_refl
/-- a pair, or three of them, leave no ray -/
theorem PC.none {a b : Hf} (h : PC a b) (ha : a.ok) (hb : b.ok) {x : Ry} (h1 : vl a x ≤ (a.r : Rat)) (h2 : vl b x ≤ (b.r : Rat)) : False := by
  obtain ⟨c1, c2, c3⟩ := h
  have e1 := par_vl c1 x
  have e2 := par_n1 c1 c2 ha
  have hN := nn_pos ha
  have n1a := n1_pos ha
  have n1b := n1_pos hb
  have c3r : ((n1 b : Int) : Rat) * a.r + (n1 a : Int) * b.r < 0 := by exact_mod_cast c3
  have e2r : ((n1 b : Int) : Rat) * (pd a a : Int) = -((pd a b : Int) : Rat) * (n1 a : Int) := by exact_mod_cast e2
  have b1 := Rat.mul_le_mul_of_nonneg_left h1 (Rat.le_of_lt (ir.2.1.mpr n1b))
  have b2 := Rat.mul_le_mul_of_nonneg_left h2 (Rat.le_of_lt (ir.2.1.mpr n1a))
  have hNr : (0 : Rat) < ((pd a a : Int) : Rat) := ir.2.1.mpr hN
  have z : ((pd a a : Int) : Rat) * (((n1 b : Int) : Rat) * vl a x + (n1 a : Int) * vl b x) = 0 := by grind
  have z2 : ((n1 b : Int) : Rat) * vl a x + (n1 a : Int) * vl b x = 0 := by
    rcases Rat.mul_eq_zero.mp z with y | y
    · rw [y] at hNr; exact absurd hNr (by decide)
    · exact y
  grind
theorem TC.none {a b c : Hf} (h : TC a b c) {x : Ry} (h1 : vl a x ≤ (a.r : Rat)) (h2 : vl b x ≤ (b.r : Rat)) (h3 : vl c x ≤ (c.r : Rat)) : False := by
  obtain ⟨d1, d2, d3, d4⟩ := h
  have d4r : ((dm b c : Int) : Rat) * a.r + (dm c a : Int) * b.r + (dm a b : Int) * c.r < 0 := by exact_mod_cast d4
  have b1 := Rat.mul_le_mul_of_nonneg_left h1 (Rat.le_of_lt (ir.2.1.mpr d1))
  have b2 := Rat.mul_le_mul_of_nonneg_left h2 (Rat.le_of_lt (ir.2.1.mpr d2))
  have b3 := Rat.mul_le_mul_of_nonneg_left h3 (Rat.le_of_lt (ir.2.1.mpr d3))
  have e : ((dm b c : Int) : Rat) * vl a x + (dm c a : Int) * vl b x + (dm a b : Int) * vl c x = 0 := by
    rw [dm_cast, dm_cast, dm_cast]
    unfold vl
    grind
  grind
theorem Why.none {hs : List Hf} (ho : ∀ h ∈ hs, h.ok) (h : Why hs) {x : Ry} (hx : inR hs x) : False := by
  rcases h with ⟨a, ha, b, hb, p⟩ | ⟨a, ha, b, hb, c, hc, p⟩
  · exact p.none (ho a ha) (ho b hb) (hx a ha) (hx b hb)
  · exact p.none (hx a ha) (hx b hb) (hx c hc)
/-- a region has no rays just if there is a certificate; the program's search tells it -/
theorem sray_some {hs : List Hf} (ho : ∀ h ∈ hs, h.ok) {x : Ry} (h : sray hs = some x) : inR hs x := by
  have := srGo_ok hs [] (0, 0) (by simpa using ho) (fun k hk => by cases hk)
  unfold sray at h
  rw [h] at this
  simpa using this
theorem sray_none {hs : List Hf} (ho : ∀ h ∈ hs, h.ok) (h : sray hs = none) : Why hs := by
  have := srGo_ok hs [] (0, 0) (by simpa using ho) (fun k hk => by cases hk)
  unfold sray at h
  rw [h] at this
  simpa using this
theorem why_iff {hs : List Hf} (ho : ∀ h ∈ hs, h.ok) : Why hs ↔ sray hs = none := by
  constructor
  · intro w
    cases h : sray hs with
    | none => rfl
    | some x => exact (w.none ho (sray_some ho h)).elim
  · exact sray_none ho
end Z
namespace Z
def sh1 (g k : Hf) : Option Rat := if dm g k ≠ 0 ∨ pd g k < 0 then none else some (((pd g k : Int) : Rat) / (pd k k : Int))
/-- the half-plane of the rays with at least t -/
def up (g : Hf) (t : Rat) : Hf := mk (-(g.p : Rat)) (-(g.q : Rat)) (-t)
end Z
namespace Z
def meet (l k : Hf) : Option Ry := if dm l k = 0 then none else some (((l.r * k.q - k.r * l.q : Int) : Rat) / (dm l k : Int), ((l.p * k.r - k.p * l.r : Int) : Rat) / (dm l k : Int))
def cand (hs : List Hf) : List Ry := (0, 0) :: hs.flatMap fun l => foot l :: hs.filterMap (meet l)
theorem meet_alng {l k : Hf} (hl : l.ok) (h : dm l k ≠ 0) : meet l k = some (alng l (rm l k / (dm l k : Int))) := by
  have hne := cast_ne h
  have hN := nn_ne hl
  have e := dm_cast l k
  have e2 := pd_cast l l
  unfold meet
  rw [if_neg h]
  simp only [Option.some.injEq]
  unfold alng rm vl foot
  simp only [Rat.intCast_mul, Rat.intCast_sub]
  generalize ((dm l k : Int) : Rat) = d at *
  generalize ((pd l l : Int) : Rat) = n at *
  refine Prod.ext ?_ ?_
  · show _ = _
    have a : (l.p : Rat) * l.r / n + (k.r - (k.p * (l.p * l.r / n) + k.q * (l.q * l.r / n))) / d * -l.q = (l.p * l.r * d - (k.r * n - (k.p * l.p * l.r + k.q * l.q * l.r)) * l.q) / (n * d) := by grind
    rw [a]
    have b : (l.p : Rat) * l.r * d - (k.r * n - (k.p * l.p * l.r + k.q * l.q * l.r)) * l.q = n * (l.r * k.q - k.r * l.q) := by grind
    rw [b]
    grind
  · show _ = _
    have a : (l.q : Rat) * l.r / n + (k.r - (k.p * (l.p * l.r / n) + k.q * (l.q * l.r / n))) / d * l.p = (l.q * l.r * d + (k.r * n - (k.p * l.p * l.r + k.q * l.q * l.r)) * l.p) / (n * d) := by grind
    rw [a]
    have b : (l.q : Rat) * l.r * d + (k.r * n - (k.p * l.p * l.r + k.q * l.q * l.r)) * l.p = n * (l.p * k.r - k.p * l.r) := by grind
    rw [b]
    grind
theorem alng_zero (l : Hf) : alng l 0 = foot l := by
  unfold alng
  refine Prod.ext ?_ ?_ <;> (simp only; grind)
/-- the nearest of a span is the foot or a meeting -/
theorem near_cand {l : Hf} {hs : List Hf} (hl : l.ok) {a b : Option Rat} (h : spn l hs = some (a, b)) : alng l (nzr a b) = foot l ∨ ∃ k ∈ hs, meet l k = some (alng l (nzr a b)) := by
  obtain ⟨rfl, rfl, _, _⟩ := spn_some h
  have hA : ∀ x, gstO (lows l hs) = some x → ∃ k ∈ hs, meet l k = some (alng l x) := fun x hx => by
    have := gst_ok (lows l hs)
    rw [hx] at this
    obtain ⟨k, hk, c, rfl⟩ := mem_lows.mp this.1
    exact ⟨k, hk, meet_alng hl (by omega)⟩
  have hB : ∀ x, lstO (upps l hs) = some x → ∃ k ∈ hs, meet l k = some (alng l x) := fun x hx => by
    have := lst_ok (upps l hs)
    rw [hx] at this
    obtain ⟨k, hk, c, rfl⟩ := mem_upps.mp this.1
    exact ⟨k, hk, meet_alng hl (by omega)⟩
  have h0 := alng_zero l
  cases ha : gstO (lows l hs) with
  | none =>
    cases hb : lstO (upps l hs) with
    | none => exact .inl h0
    | some y =>
      show alng l (if y < 0 then y else 0) = _ ∨ _
      by_cases c : y < 0
      · have e : nzr none (some y) = y := if_pos c
        rw [e]
        exact .inr (hB y hb)
      · have e : nzr none (some y) = 0 := if_neg c
        rw [if_neg c]
        exact .inl h0
  | some x =>
    by_cases c : 0 < x
    · have e : nzr (some x) (lstO (upps l hs)) = x := if_pos c
      rw [e]
      exact .inr (hA x ha)
    · cases hb : lstO (upps l hs) with
      | none =>
        have e : nzr (some x) none = 0 := if_neg c
        rw [e]
        exact .inl h0
      | some y =>
        by_cases d : y < 0
        · have e : nzr (some x) (some y) = y := (if_neg c).trans (if_pos d)
          rw [e]
          exact .inr (hB y hb)
        · have e : nzr (some x) (some y) = 0 := (if_neg c).trans (if_neg d)
          rw [e]
          exact .inl h0
theorem cand_foot {l : Hf} {hs : List Hf} (h : l ∈ hs) : foot l ∈ cand hs := by
  unfold cand
  exact List.mem_cons_of_mem _ (List.mem_flatMap.mpr ⟨l, h, by simp⟩)
theorem cand_meet {l k : Hf} {hs : List Hf} {x : Ry} (h : l ∈ hs) (hk : k ∈ hs) (e : meet l k = some x) : x ∈ cand hs := by
  unfold cand
  exact List.mem_cons_of_mem _ (List.mem_flatMap.mpr ⟨l, h, List.mem_cons_of_mem _ (List.mem_filterMap.mpr ⟨k, hk, e⟩)⟩)
theorem near_mem {l : Hf} {hs ks : List Hf} (hl : l.ok) (hlk : l ∈ ks) (hsk : ∀ k ∈ hs, k ∈ ks) {a b : Option Rat} (h : spn l hs = some (a, b)) : alng l (nzr a b) ∈ cand ks := by
  rcases near_cand hl h with e | ⟨k, hk, e⟩
  · rw [e]; exact cand_foot hlk
  · exact cand_meet hlk (hsk k hk) e
theorem srGo_cand : ∀ (rest seen : List Hf) (x y : Ry) (ks : List Hf), (∀ h ∈ rest, h.ok) → (∀ k ∈ seen ++ rest, k ∈ ks) → x ∈ cand ks → srGo seen x rest = some y → y ∈ cand ks
  | [], seen, x, y, ks, _, _, hx, h => by simp only [srGo] at h; cases h; exact hx
  | k :: rest, seen, x, y, ks, ho, hk, hx, h => by
    unfold srGo at h
    have hk' : ∀ z ∈ (seen ++ [k]) ++ rest, z ∈ ks := fun z hz => hk z (by simpa using hz)
    split at h
    · exact srGo_cand rest _ x y ks (fun z hz => ho z (by simp [hz])) hk' hx h
    · split at h
      · cases h
      · rename_i a b hs
        exact srGo_cand rest _ _ y ks (fun z hz => ho z (by simp [hz])) hk' (near_mem (ho k (by simp)) (hk k (by simp)) (fun z hz => hk z (by simp [hz])) hs) h
theorem sray_cand {hs : List Hf} (ho : ∀ h ∈ hs, h.ok) {x : Ry} (h : sray hs = some x) : x ∈ cand hs :=
  srGo_cand hs [] (0, 0) x hs ho (fun k hk => by simpa using hk) (by unfold cand; simp) h
def pts (hs : List Hf) : List Ry := (cand hs).filter fun x => hs.all (inH · x)
theorem mem_pts {hs : List Hf} {x : Ry} : x ∈ pts hs ↔ x ∈ cand hs ∧ inR hs x := by
  unfold pts
  rw [List.mem_filter, inR_all]
theorem pts_nil {hs : List Hf} (ho : ∀ h ∈ hs, h.ok) : pts hs = [] ↔ sray hs = none := by
  constructor
  · intro h
    cases e : sray hs with
    | none => rfl
    | some x =>
      have : x ∈ pts hs := mem_pts.mpr ⟨sray_cand ho e, sray_some ho e⟩
      rw [h] at this
      cases this
  · intro h
    cases e : pts hs with
    | nil => rfl
    | cons x l =>
      have : x ∈ pts hs := by rw [e]; simp
      exact ((sray_none ho h).none ho (mem_pts.mp this).2).elim
def zr (k : Hf) : Hf := ⟨k.p, k.q, 0⟩
end Z
end
section
local macro_rules | `(tactic| kt_at_notin) => `(tactic| exact c_gcd _ _ _)
local macro_rules | `(tactic| kt_at_notin) => `(tactic| exact c_absolute _ _)
local macro_rules | `(tactic| kt_at_notin) => `(tactic| exact c_negative _ _)
local macro_rules | `(tactic| kt_at_notin) => `(tactic| (apply c_divide; assumption; kaf_pre))
local macro_rules | `(tactic| kt_at_notin) => `(tactic| (apply c_sign; ktr_units))
local macro_rules | `(tactic| kt_at_notin) => `(tactic| (apply c_is_at_most; kaf_pre))
local macro_rules | `(tactic| kt_at_notin) => `(tactic| (apply c_is_less; kaf_pre))
local macro_rules | `(tactic| kt_at_notin) => `(tactic| (apply c_compare; kaf_pre))
local macro_rules | `(tactic| kt_at_notin) => `(tactic| (apply c_subtract; kaf_pre))
local macro_rules | `(tactic| kt_at_notin) => `(tactic| (apply c_multiply; kaf_pre))
local macro_rules | `(tactic| kt_at_notin) => `(tactic| (apply c_add; kaf_pre))
local macro_rules | `(tactic| kt_at_notin) => `(tactic| exact c_draw _ _ _ _ (by decide))
local macro_rules | `(tactic| kt_at_notin) => `(tactic| exact c_divisor _ _ _ (by assumption))
local macro_rules | `(tactic| kt_at_notin) => `(tactic| (apply c_lfr; assumption; kt_at_in))
local macro_rules | `(tactic| kt_at_notin) => `(tactic| (apply c_less; kaf_pre))
local macro_rules | `(tactic| kt_at_notin) => `(tactic| (apply c_lmul; kaf_pre))
local macro_rules | `(tactic| kt_at_notin) => `(tactic| (apply c_lsub; kaf_pre))
local macro_rules | `(tactic| kt_at_notin) => `(tactic| (apply c_ladd; kaf_pre))
local macro_rules | `(tactic| kfm_turns) => `(tactic| (focus (decide +kernel)))
local macro_rules | `(tactic| kat_tups) => `(tactic| (apply q_nes <;> (focus (decide +kernel))))
local macro_rules | `(tactic| kat_tups) => `(tactic| (apply q_eqs <;> (focus (decide +kernel))))
local macro_rules | `(tactic| kt_at_notin) => `(tactic| (apply c_is_fr; ktr_units))
namespace Z
theorem c_leastF (k : Nat) (l : List Rat) (h : ∀ v ∈ l, sz v ≤ 4000) : RetB (callK tab.fns (k + 3)) i_least_of (.lst (l.map fr)) [] (od (lstO l)) false (.lst (l.map fr)) := by
  have key : ∀ j o, (((l.take j).map some).foldl v1 none) = o → j ≤ l.length → ∀ x, o = some x → sz x ≤ 4000 := by
    intro j o e hj x hx
    have := lst_ok (l.take j)
    unfold lstO at this
    rw [e, hx] at this
    exact h x (List.mem_of_mem_take this.1)
  apply v_fnB fn_least_of rfl
  walk_at "go"
  apply w_forL (lk := some 0) (fun j env => ∃ s2, env = [some (.lst (l.map fr), .lck), some (od (((l.take j).map some).foldl v1 none), .frz), s2] ∧ isLck s2 = false) (x_overo rfl)
  · exact ⟨none, rfl, rfl⟩
  · rintro j d env hd ⟨s2, rfl, h2⟩
    obtain ⟨x, hx, rfl⟩ := map_get hd
    have hjl : j < l.length := lt_of_get hx
    have zx := h x (List.mem_of_getElem? hx)
    have hs : ((l.take (j + 1)).map some).foldl v1 none = v1 (((l.take j).map some).foldl v1 none) (some x) := by
      rw [List.take_succ, hx, List.map_append, List.foldl_append]
      rfl
    rw [hs]
    have ka := key j _ rfl (Nat.le_of_lt hjl)
    generalize ((l.take j).map some).foldl v1 none = o at *
    apply w_turn (x_setf rfl h2 rfl rfl)
    simp only [List.set_cons_zero, List.set_cons_succ]
    cases o with
    | none =>
      simp only [od, v1]
      walk_at "go"
      exact w_nil ⟨_, rfl, k_f⟩
    | some a =>
      have za := ka a rfl
      by_cases c : x < a
      · simp only [od, v1, if_pos c]
        walk_at "go"
        exact w_nil ⟨_, rfl, k_f⟩
      · simp only [od, v1, if_neg c]
        walk_at "go"
        exact w_nil ⟨_, rfl, k_f⟩
  · rintro env ⟨s2, rfl, h2⟩
    rw [List.length_map, List.take_length]
    simp only [unlock, List.getElem?_cons_zero, List.set_cons_zero]
    unfold lstO
    walk_at "go"
    exact ⟨rfl, rfl, rfl⟩
end Z
namespace Z
end Z
namespace Z
theorem c_greatF (k : Nat) (l : List Rat) (h : ∀ v ∈ l, sz v ≤ 4000) : RetB (callK tab.fns (k + 3)) i_greatest_of (.lst (l.map fr)) [] (od (gstO l)) false (.lst (l.map fr)) := by
  have key : ∀ j o, (((l.take j).map some).foldl v2 none) = o → j ≤ l.length → ∀ x, o = some x → sz x ≤ 4000 := by
    intro j o e hj x hx
    have := gst_ok (l.take j)
    unfold gstO at this
    rw [e, hx] at this
    exact h x (List.mem_of_mem_take this.1)
  apply v_fnB fn_greatest_of rfl
  walk_at "go"
  apply w_forL (lk := some 0) (fun j env => ∃ s2, env = [some (.lst (l.map fr), .lck), some (od (((l.take j).map some).foldl v2 none), .frz), s2] ∧ isLck s2 = false) (x_overo rfl)
  · exact ⟨none, rfl, rfl⟩
  · rintro j d env hd ⟨s2, rfl, h2⟩
    obtain ⟨x, hx, rfl⟩ := map_get hd
    have hjl : j < l.length := lt_of_get hx
    have zx := h x (List.mem_of_getElem? hx)
    have hs : ((l.take (j + 1)).map some).foldl v2 none = v2 (((l.take j).map some).foldl v2 none) (some x) := by
      rw [List.take_succ, hx, List.map_append, List.foldl_append]
      rfl
    rw [hs]
    have ka := key j _ rfl (Nat.le_of_lt hjl)
    generalize ((l.take j).map some).foldl v2 none = o at *
    apply w_turn (x_setf rfl h2 rfl rfl)
    simp only [List.set_cons_zero, List.set_cons_succ]
    cases o with
    | none =>
      simp only [od, v2]
      walk_at "go"
      exact w_nil ⟨_, rfl, k_f⟩
    | some a =>
      have za := ka a rfl
      by_cases c : a < x
      · simp only [od, v2, if_pos c]
        walk_at "go"
        exact w_nil ⟨_, rfl, k_f⟩
      · simp only [od, v2, if_neg c]
        walk_at "go"
        exact w_nil ⟨_, rfl, k_f⟩
  · rintro env ⟨s2, rfl, h2⟩
    rw [List.length_map, List.take_length]
    simp only [unlock, List.getElem?_cons_zero, List.set_cons_zero]
    unfold gstO
    walk_at "go"
    exact ⟨rfl, rfl, rfl⟩
end Z
namespace Z
theorem cmp_gt' {p : Rat} : decide (0 < cmp p 0) = decide (0 < p) := by
  unfold cmp
  by_cases h1 : p < 0
  · rw [if_pos h1, decide_eq_false (show ¬ (0 : Rat) < p by grind)]; rfl
  · rw [if_neg h1]
    by_cases h2 : (0 : Rat) < p
    · rw [if_pos h2, decide_eq_true h2]; rfl
    · rw [if_neg h2, decide_eq_false h2]; rfl
theorem c_nearF (k : Nat) (lo up : Option Rat) (h1 : ∀ x, lo = some x → sz x ≤ 4000) (h2 : ∀ x, up = some x → sz x ≤ 4000) : Ret (callK tab.fns (k + 4)) i_nearest_to_zero [(od lo, .frz), (od up, .frz)] (fr (nzr lo up)) false := by
  have sg : ∀ x, sz x ≤ 4000 → Ret (callK tab.fns (k + 3)) i_sign [(fr x, .frz)] (.int (cmp x 0)) false := fun x hx => c_sign (k + 1) x (by omega)
  cases lo with
  | none =>
    cases up with
    | none =>
      simp only [od]
      apply v_fn fn_nearest_to_zero rfl
      walk_at "go"
      exact ⟨rfl, rfl⟩
    | some b =>
      have s2 := sg b (h2 b rfl)
      by_cases c : b < 0
      · have e : nzr none (some b) = b := if_pos c
        have t1 : cmp b 0 < 0 := by have := cmp_lt (p := b) (q := 0); rw [decide_eq_true c] at this; simpa using this
        rw [e]
        simp only [od]
        apply v_fn fn_nearest_to_zero rfl
        walk_at "go"
        exact ⟨rfl, rfl⟩
      · have e : nzr none (some b) = 0 := if_neg c
        have t1 : ¬ cmp b 0 < 0 := by have := cmp_lt (p := b) (q := 0); rw [decide_eq_false c] at this; simpa using this
        rw [e]
        simp only [od]
        apply v_fn fn_nearest_to_zero rfl
        walk_at "go"
        exact ⟨rfl, rfl⟩
  | some a =>
    have s1 := sg a (h1 a rfl)
    by_cases c : 0 < a
    · have e : nzr (some a) up = a := by cases up <;> exact if_pos c
      have t1 : 0 < cmp a 0 := by have := cmp_gt' (p := a); rw [decide_eq_true c] at this; simpa using this
      rw [e]
      simp only [od]
      apply v_fn fn_nearest_to_zero rfl
      walk_at "go"
      exact ⟨rfl, rfl⟩
    · have t1 : ¬ 0 < cmp a 0 := by have := cmp_gt' (p := a); rw [decide_eq_false c] at this; simpa using this
      cases up with
      | none =>
        have e : nzr (some a) none = 0 := if_neg c
        rw [e]
        simp only [od]
        apply v_fn fn_nearest_to_zero rfl
        walk_at "go"
        exact ⟨rfl, rfl⟩
      | some b =>
        have s2 := sg b (h2 b rfl)
        by_cases d : b < 0
        · have e : nzr (some a) (some b) = b := (if_neg c).trans (if_pos d)
          have t2 : cmp b 0 < 0 := by have := cmp_lt (p := b) (q := 0); rw [decide_eq_true d] at this; simpa using this
          rw [e]
          simp only [od]
          apply v_fn fn_nearest_to_zero rfl
          walk_at "go"
          exact ⟨rfl, rfl⟩
        · have e : nzr (some a) (some b) = 0 := (if_neg c).trans (if_neg d)
          have t2 : ¬ cmp b 0 < 0 := by have := cmp_lt (p := b) (q := 0); rw [decide_eq_false d] at this; simpa using this
          rw [e]
          simp only [od]
          apply v_fn fn_nearest_to_zero rfl
          walk_at "go"
          exact ⟨rfl, rfl⟩
end Z
namespace Z
theorem bi_dm {a b : Hf} {n : Nat} (h1 : a.z n) (h2 : b.z n) : bi (dm a b) ≤ 2 * n + 1 := by
  have x1 := bi_mul a.p b.q
  have x2 := bi_mul a.q b.p
  obtain ⟨y1, y2, _⟩ := h1
  obtain ⟨y3, y4, _⟩ := h2
  exact bi_sub (k := 2 * n) (by omega) (by omega)
theorem bi_pd {a b : Hf} {n : Nat} (h1 : a.z n) (h2 : b.z n) : bi (pd a b) ≤ 2 * n + 1 := by
  have x1 := bi_mul a.p b.p
  have x2 := bi_mul a.q b.q
  obtain ⟨y1, y2, _⟩ := h1
  obtain ⟨y3, y4, _⟩ := h2
  exact bi_add (k := 2 * n) (by omega) (by omega)
theorem c_det (k : Nat) (a b : Hf) (h1 : a.z 2000) (h2 : b.z 2000) : Ret (callK tab.fns (k + 1)) i_determinant [(hd a, .frz), (hd b, .frz)] (.int (dm a b)) false := by
  obtain ⟨y1, y2, _⟩ := h1
  obtain ⟨y3, y4, _⟩ := h2
  simp only [hd]
  apply v_fn fn_determinant rfl
  walk_at "go"
  exact ⟨rfl, rfl⟩
end Z
namespace Z
theorem c_prod (k : Nat) (a b : Hf) (h1 : a.z 2000) (h2 : b.z 2000) : Ret (callK tab.fns (k + 1)) i_product [(hd a, .frz), (hd b, .frz)] (.int (pd a b)) false := by
  obtain ⟨y1, y2, _⟩ := h1
  obtain ⟨y3, y4, _⟩ := h2
  simp only [hd]
  apply v_fn fn_product rfl
  walk_at "go"
  exact ⟨rfl, rfl⟩
end Z
end
section
local macro_rules | `(tactic| kt_at_notin) => `(tactic| exact c_gcd _ _ _)
local macro_rules | `(tactic| kt_at_notin) => `(tactic| exact c_absolute _ _)
local macro_rules | `(tactic| kt_at_notin) => `(tactic| exact c_negative _ _)
local macro_rules | `(tactic| kt_at_notin) => `(tactic| (apply c_divide; assumption; kaf_pre))
local macro_rules | `(tactic| kt_at_notin) => `(tactic| (apply c_sign; ktr_units))
local macro_rules | `(tactic| kt_at_notin) => `(tactic| (apply c_is_at_most; kaf_pre))
local macro_rules | `(tactic| kt_at_notin) => `(tactic| (apply c_is_less; kaf_pre))
local macro_rules | `(tactic| kt_at_notin) => `(tactic| (apply c_compare; kaf_pre))
local macro_rules | `(tactic| kt_at_notin) => `(tactic| (apply c_subtract; kaf_pre))
local macro_rules | `(tactic| kt_at_notin) => `(tactic| (apply c_multiply; kaf_pre))
local macro_rules | `(tactic| kt_at_notin) => `(tactic| (apply c_add; kaf_pre))
local macro_rules | `(tactic| kt_at_notin) => `(tactic| exact c_draw _ _ _ _ (by decide))
local macro_rules | `(tactic| kt_at_notin) => `(tactic| exact c_divisor _ _ _ (by assumption))
local macro_rules | `(tactic| kt_at_notin) => `(tactic| (apply c_lfr; assumption; kt_at_in))
local macro_rules | `(tactic| kt_at_notin) => `(tactic| (apply c_less; kaf_pre))
local macro_rules | `(tactic| kt_at_notin) => `(tactic| (apply c_lmul; kaf_pre))
local macro_rules | `(tactic| kt_at_notin) => `(tactic| (apply c_lsub; kaf_pre))
local macro_rules | `(tactic| kt_at_notin) => `(tactic| (apply c_ladd; kaf_pre))
local macro_rules | `(tactic| kfm_turns) => `(tactic| (focus (decide +kernel)))
local macro_rules | `(tactic| kat_tups) => `(tactic| (apply q_nes <;> (focus (decide +kernel))))
local macro_rules | `(tactic| kat_tups) => `(tactic| (apply q_eqs <;> (focus (decide +kernel))))
local macro_rules | `(tactic| kt_at_notin) => `(tactic| (apply c_is_fr; ktr_units))
local macro_rules | `(tactic| kt_at_notin) => `(tactic| (apply c_value; assumption; (focus omega)))
local macro_rules | `(tactic| kt_at_notin) => `(tactic| exact c_fraction1 _ _)
local macro_rules | `(tactic| kt_at_notin) => `(tactic| (apply c_prod <;> assumption))
local macro_rules | `(tactic| kt_at_notin) => `(tactic| (apply c_det <;> assumption))
local macro_rules | `(tactic| kt_at_notin) => `(tactic| (apply c_prod <;> assumption))
local macro_rules | `(tactic| kt_at_notin) => `(tactic| (apply c_det <;> assumption))
namespace Z
theorem foot_eq (l : Hf) : foot l = (Rat.divInt (l.p * l.r) (pd l l), Rat.divInt (l.q * l.r) (pd l l)) := by
  unfold foot
  rw [divInt_cast, divInt_cast]
theorem z_foot {l : Hf} {n : Nat} (ho : l.ok) (h : l.z n) : sz (foot l).1 ≤ 2 * n + 1 ∧ sz (foot l).2 ≤ 2 * n + 1 := by
  have hN := nn_pos ho
  have b := bi_pd h h
  have x1 := bi_mul l.p l.r
  have x2 := bi_mul l.q l.r
  obtain ⟨y1, y2, y3⟩ := h
  rw [foot_eq]
  exact ⟨sz_divInt (by omega) (by omega) b, sz_divInt (by omega) (by omega) b⟩
theorem c_nearest (k : Nat) (l : Hf) (ho : l.ok) (h : l.z 250) : Ret (callK tab.fns (k + 3)) i_nearest_ray [(hd l, .frz)] (rd (foot l)) false := by
  have hN := nn_pos ho
  have b := bi_pd h h
  have z2 := h.mono (show 250 ≤ 2000 by decide)
  have k1 : Ret (callK tab.fns (k + 2)) i_product [(hd l, .frz), (hd l, .frz)] (.int (pd l l)) false := c_prod (k + 1) l l z2 z2
  have k2 : Ret (callK tab.fns (k + 2)) i_fraction [(.int (l.p * l.r), .frz), (.int (pd l l), .frz)] (fr (Rat.divInt (l.p * l.r) (pd l l))) false := c_fraction k _ _ (by omega) (by omega)
  have k3 : Ret (callK tab.fns (k + 2)) i_fraction [(.int (l.q * l.r), .frz), (.int (pd l l), .frz)] (fr (Rat.divInt (l.q * l.r) (pd l l))) false := c_fraction k _ _ (by omega) (by omega)
  obtain ⟨y1, y2, y3⟩ := h
  rw [foot_eq]
  have e : hd l = .tup [.int l.p, .int l.q, .int l.r] := rfl
  rw [e] at k1 ⊢
  apply v_fn fn_nearest_ray rfl
  walk_at "go"
  exact ⟨rfl, rfl⟩
end Z
namespace Z
theorem z_alng {l : Hf} {n s : Nat} {t : Rat} (ho : l.ok) (h : l.z n) (ht : sz t ≤ s) : sz (alng l t).1 ≤ s + 3 * n + 3 ∧ sz (alng l t).2 ≤ s + 3 * n + 3 := by
  obtain ⟨f1, f2⟩ := z_foot ho h
  have q1 : sz (-(l.q : Rat)) ≤ n + 1 := by rw [sz_neg]; exact sz_castb h.2.1
  have q2 : sz (l.p : Rat) ≤ n + 1 := sz_castb h.1
  unfold alng
  exact ⟨Nat.le_trans (ss_add f1 (ss_mul ht q1)) (by omega), Nat.le_trans (ss_add f2 (ss_mul ht q2)) (by omega)⟩
theorem c_along (k : Nat) (l : Hf) (t : Rat) (ho : l.ok) (h : l.z 250) (ht : sz t ≤ 2500) : Ret (callK tab.fns (k + 4)) i_ray_along [(hd l, .frz), (fr t, .frz)] (rd (alng l t)) false := by
  have k1 : Ret (callK tab.fns (k + 3)) i_nearest_ray [(hd l, .frz)] (.tup [fr (foot l).1, fr (foot l).2]) false := c_nearest k l ho h
  obtain ⟨f1, f2⟩ := z_foot ho h
  have q1 : sz ((-l.q : Int) : Rat) ≤ 251 := by rw [Rat.intCast_neg, sz_neg]; exact sz_castb h.2.1
  have q2 : sz (l.p : Rat) ≤ 251 := sz_castb h.1
  have k2 := c_fraction1 (k + 1) (-l.q)
  have k3 := c_fraction1 (k + 1) l.p
  have e : hd l = .tup [.int l.p, .int l.q, .int l.r] := rfl
  rw [e] at k1 ⊢
  have ea : alng l t = ((foot l).1 + t * ((-l.q : Int) : Rat), (foot l).2 + t * (l.p : Rat)) := by unfold alng; rw [Rat.intCast_neg]
  rw [ea]
  apply v_fn fn_ray_along rfl
  walk_at "go"
  exact ⟨rfl, rfl⟩
end Z
namespace Z
def spD (o : Option (Option Rat × Option Rat)) : D := match o with
  | none => .non
  | some (a, b) => .tup [od a, od b]
def spb (a b : List Rat) : Option (Option Rat × Option Rat) := match gstO a, lstO b with
    | some x, some y => if y < x then none else some (some x, some y)
    | x, y => some (x, y)
theorem c_spanb (k : Nat) (a b : List Rat) (z1 : ∀ v ∈ a, sz v ≤ 4000) (z2 : ∀ v ∈ b, sz v ≤ 4000) : Ret (callK tab.fns (k + 4)) i_span_between [(.lst (a.map fr), .own), (.lst (b.map fr), .own)] (spD (spb a b)) false := by
  have k7 : RetB (callK tab.fns (k + 3)) i_greatest_of (.lst (a.map fr)) [] (od (gstO a)) false (.lst (a.map fr)) := c_greatF k _ z1
  have k8 : RetB (callK tab.fns (k + 3)) i_least_of (.lst (b.map fr)) [] (od (lstO b)) false (.lst (b.map fr)) := c_leastF k _ z2
  have g1 := gst_ok a
  have g2 := lst_ok b
  unfold spb
  cases ha : gstO a with
  | none =>
    rw [ha] at k7
    simp only [od] at k7
    apply v_fn fn_span_between rfl
    walk_at "go"
    exact ⟨rfl, rfl⟩
  | some x =>
    rw [ha] at k7 g1
    have zx := z1 x g1.1
    simp only [od] at k7
    cases hb : lstO b with
    | none =>
      rw [hb] at k8
      simp only [od] at k8
      apply v_fn fn_span_between rfl
      walk_at "go"
      exact ⟨rfl, rfl⟩
    | some y =>
      rw [hb] at k8 g2
      have zy := z2 y g2.1
      simp only [od] at k8
      have k9 : Ret (callK tab.fns (k + 3)) i_is_less [(fr y, .frz), (fr x, .frz)] (.bl (decide (y < x))) false := c_is_less (k + 1) _ _ (by omega)
      by_cases c : y < x
      · rw [decide_eq_true c] at k9
        simp only [if_pos c]
        apply v_fn fn_span_between rfl
        walk_at "go"
        exact ⟨rfl, rfl⟩
      · rw [decide_eq_false c] at k9
        simp only [if_neg c]
        apply v_fn fn_span_between rfl
        walk_at "go"
        exact ⟨rfl, rfl⟩
end Z
namespace Z
theorem z_rm {l k : Hf} {n : Nat} (ho : l.ok) (h1 : l.z n) (h2 : k.z n) : sz (rm l k) ≤ 7 * n + 7 := by
  obtain ⟨f1, f2⟩ := z_foot ho h1
  have a := sz_vl (r := foot l) h2 f1 f2
  have b := sz_castb h2.2.2
  exact Nat.le_trans (ss_sub b a) (by omega)
theorem z_div {l k : Hf} {n : Nat} (ho : l.ok) (h1 : l.z n) (h2 : k.z n) (h : dm l k ≠ 0) : sz (rm l k / (dm l k : Int)) ≤ 9 * n + 9 := by
  have a := z_rm ho h1 h2
  have b := sz_castb (bi_dm h1 h2)
  exact Nat.le_trans (ss_div (cast_ne h) a b) (by omega)
theorem z_lows {l : Hf} {hs : List Hf} {n : Nat} (ho : l.ok) (h1 : l.z n) (h2 : ∀ k ∈ hs, k.z n) : (∀ t ∈ lows l hs, sz t ≤ 9 * n + 9) ∧ ∀ t ∈ upps l hs, sz t ≤ 9 * n + 9 := by
  refine ⟨fun t ht => ?_, fun t ht => ?_⟩
  · obtain ⟨k, hk, c, rfl⟩ := mem_lows.mp ht
    exact z_div ho h1 (h2 k hk) (by omega)
  · obtain ⟨k, hk, c, rfl⟩ := mem_upps.mp ht
    exact z_div ho h1 (h2 k hk) (by omega)
theorem take_fm {f : Hf → Option Rat} {hs : List Hf} {j : Nat} {k : Hf} (h : hs[j]? = some k) : (hs.take (j + 1)).filterMap f = (hs.take j).filterMap f ++ (match f k with | some t => [t] | none => []) := by
  rw [List.take_succ, h, List.filterMap_append]
  congr 1
  simp only [Option.toList_some, List.filterMap_cons, List.filterMap_nil]
  cases f k <;> rfl
theorem off_take {l : Hf} {hs : List Hf} {j : Nat} {k : Hf} (h : hs[j]? = some k) : offL l (hs.take (j + 1)) = (offL l (hs.take j) || (decide (dm l k = 0) && decide (rm l k < 0))) := by
  unfold offL
  rw [List.take_succ, h, List.any_append]
  simp
theorem off_mono {l : Hf} {hs : List Hf} {j : Nat} (h : offL l (hs.take j) = true) : offL l hs = true := by
  unfold offL at *
  rw [List.any_eq_true] at *
  obtain ⟨k, hk, p⟩ := h
  exact ⟨k, List.mem_of_mem_take hk, p⟩
theorem cmp_neg {p : Rat} : (cmp p 0 < 0) ↔ p < 0 := by
  have := cmp_lt (p := p) (q := 0)
  rw [decide_eq_decide] at this
  exact this
theorem c_span (k : Nat) (l : Hf) (hs : List Hf) (hlen : hs.length ≤ 1000) (ho : l.ok) (hl : l.z 250) (hz : ∀ h ∈ hs, h.z 250) : Ret (callK tab.fns (k + 5)) i_span_on_line [(hd l, .frz), (.lst (hs.map hd), .frz)] (spD (spn l hs)) false := by
  have k1 : Ret (callK tab.fns (k + 4)) i_nearest_ray [(hd l, .frz)] (rd (foot l)) false := c_nearest (k + 1) l ho hl
  obtain ⟨f1, f2⟩ := z_foot ho hl
  apply v_fn fn_span_on_line rfl
  walk_at "go"
  apply w_for (fun j env => offL l (hs.take j) = false ∧ ∃ s5 s6 s7, env = [some (hd l, .frz), some (.lst (hs.map hd), .frz), some (rd (foot l), .frz), some (.lst ((lows l (hs.take j)).map fr), .own), some (.lst ((upps l (hs.take j)).map fr), .own), s5, s6, s7] ∧ isLck s5 = false ∧ isLck s6 = false ∧ isLck s7 = false) (x_overf rfl rfl)
  · exact ⟨rfl, none, none, none, rfl, rfl, rfl, rfl⟩
  · rintro j d env hd' ⟨h0, s5, s6, s7, rfl, h5, h6, h7⟩
    obtain ⟨h, hx, rfl⟩ := map_get hd'
    have hjl : j < hs.length := lt_of_get hx
    have hzh := hz h (List.mem_of_getElem? hx)
    have q2 : prB .ix [hd h, .int 2] = some (.int h.r, false) := q_ixt rfl
    have a := sz_vl (r := foot l) hzh f1 f2
    have b := sz_castb hzh.2.2
    have k2 : Ret (callK tab.fns (k + 4)) i_value_at [(hd h, .frz), (rd (foot l), .frz)] (fr (vl h (foot l))) false := c_value (k + 1) h (foot l) (hzh.mono (by decide)) (by omega)
    have k3 : Ret (callK tab.fns (k + 4)) i_subtract [(fr (h.r : Rat), .frz), (fr (vl h (foot l)), .frz)] (fr (rm l h)) false := c_subtract k _ _ (by omega)
    have k4 : Ret (callK tab.fns (k + 4)) i_determinant [(hd l, .frz), (hd h, .frz)] (.int (dm l h)) false := c_det (k + 3) l h (hl.mono (by decide)) (hzh.mono (by decide))
    have zr := z_rm ho hl hzh
    have zg := sz_castb (bi_dm hl hzh)
    have hl1 : ((lows l (hs.take j)).map fr).length < sizeLine := szl _ (by
      rw [List.length_map]
      have := List.length_filterMap_le (fun k => if dm l k < 0 then some (rm l k / (dm l k : Int)) else none) (hs.take j)
      unfold lows
      rw [List.length_take] at this
      omega)
    have hl2 : ((upps l (hs.take j)).map fr).length < sizeLine := szl _ (by
      rw [List.length_map]
      have := List.length_filterMap_le (fun k => if 0 < dm l k then some (rm l k / (dm l k : Int)) else none) (hs.take j)
      unfold upps
      rw [List.length_take] at this
      omega)
    have k6 : Ret (callK tab.fns (k + 4)) i_sign [(fr (rm l h), .frz)] (.int (cmp (rm l h) 0)) false := c_sign (k + 2) _ (by omega)
    have e1 : lows l (hs.take (j + 1)) = lows l (hs.take j) ++ _ := take_fm hx
    have e2 : upps l (hs.take (j + 1)) = upps l (hs.take j) ++ _ := take_fm hx
    have e3 := off_take (l := l) hx
    rw [h0, Bool.false_or] at e3
    apply w_turn (x_setf rfl h5 rfl rfl)
    simp only [List.set_cons_zero, List.set_cons_succ]
    rcases Int.lt_trichotomy (dm l h) 0 with c | c | c
    · have hg : ¬ 0 < dm l h := by omega
      have hne : ((dm l h : Int) : Rat) ≠ 0 := cast_ne (by omega)
      have hn0 : dm l h ≠ 0 := by omega
      have k5 : Ret (callK tab.fns (k + 4)) i_divide [(fr (rm l h), .frz), (fr ((dm l h : Int) : Rat), .frz)] (fr (rm l h / (dm l h : Int))) false := c_divide (k + 1) _ _ hne (by omega)
      rw [if_pos c] at e1
      rw [if_neg hg] at e2
      rw [decide_eq_false hn0, Bool.false_and] at e3
      simp only [List.append_nil] at e1 e2
      walk_at "go"
      have : (lows l (hs.take j)).map fr ++ [fr (rm l h / (dm l h : Int))] = (lows l (hs.take (j + 1))).map fr := by rw [e1, List.map_append]; rfl
      rw [this, ← e2]
      exact w_nil ⟨e3, _, _, _, rfl, k_f, k_f, k_f⟩
    · have hg : ¬ 0 < dm l h := by omega
      have hg2 : ¬ dm l h < 0 := by omega
      rw [if_neg hg2] at e1
      rw [if_neg hg] at e2
      rw [decide_eq_true c, Bool.true_and] at e3
      simp only [List.append_nil] at e1 e2
      by_cases d : rm l h < 0
      · have t1 : cmp (rm l h) 0 < 0 := cmp_neg.mpr d
        rw [decide_eq_true d] at e3
        walk_at "go"
        refine ⟨?_, rfl⟩
        unfold spn
        rw [if_pos (off_mono e3)]
        rfl
      · have t1 : ¬ cmp (rm l h) 0 < 0 := fun z => d (cmp_neg.mp z)
        rw [decide_eq_false d] at e3
        walk_at "go"
        rw [← e1, ← e2]
        exact w_nil ⟨e3, _, _, _, rfl, k_f, k_f, k_f⟩
    · have hg2 : ¬ dm l h < 0 := by omega
      have hne : ((dm l h : Int) : Rat) ≠ 0 := cast_ne (by omega)
      have hn0 : dm l h ≠ 0 := by omega
      have k5 : Ret (callK tab.fns (k + 4)) i_divide [(fr (rm l h), .frz), (fr ((dm l h : Int) : Rat), .frz)] (fr (rm l h / (dm l h : Int))) false := c_divide (k + 1) _ _ hne (by omega)
      rw [if_neg hg2] at e1
      rw [if_pos c] at e2
      rw [decide_eq_false hn0, Bool.false_and] at e3
      simp only [List.append_nil] at e1 e2
      walk_at "go"
      have : (upps l (hs.take j)).map fr ++ [fr (rm l h / (dm l h : Int))] = (upps l (hs.take (j + 1))).map fr := by rw [e2, List.map_append]; rfl
      rw [this, ← e1]
      exact w_nil ⟨e3, _, _, _, rfl, k_f, k_f, k_f⟩
  · rintro env ⟨h0, s5, s6, s7, rfl, h5, h6, h7⟩
    rw [List.length_map, List.take_length] at h0 ⊢
    obtain ⟨z1, z2⟩ := z_lows ho hl hz
    have k7 := c_spanb (k + 0) (lows l hs) (upps l hs) (fun t ht => Nat.le_trans (z1 t ht) (by decide)) (fun t ht => Nat.le_trans (z2 t ht) (by decide))
    have e1 : spD (spn l hs) = spD (spb (lows l hs) (upps l hs)) := by unfold spn spb; simp only [h0, if_neg Bool.false_ne_true]; try (cases gstO (lows l hs) <;> cases lstO (upps l hs) <;> rfl)
    rw [e1]
    exact w_retR (x_as (x_at rfl) (x_as (x_at rfl) x_as0)) (show ([3, 4] : List Nat).Nodup by decide) rfl k7 (fun e => ⟨rfl, rfl⟩)
end Z
end
section
local macro_rules | `(tactic| kt_at_notin) => `(tactic| exact c_gcd _ _ _)
local macro_rules | `(tactic| kt_at_notin) => `(tactic| exact c_absolute _ _)
local macro_rules | `(tactic| kt_at_notin) => `(tactic| exact c_negative _ _)
local macro_rules | `(tactic| kt_at_notin) => `(tactic| (apply c_divide; assumption; kaf_pre))
local macro_rules | `(tactic| kt_at_notin) => `(tactic| (apply c_sign; ktr_units))
local macro_rules | `(tactic| kt_at_notin) => `(tactic| (apply c_is_at_most; kaf_pre))
local macro_rules | `(tactic| kt_at_notin) => `(tactic| (apply c_is_less; kaf_pre))
local macro_rules | `(tactic| kt_at_notin) => `(tactic| (apply c_compare; kaf_pre))
local macro_rules | `(tactic| kt_at_notin) => `(tactic| (apply c_subtract; kaf_pre))
local macro_rules | `(tactic| kt_at_notin) => `(tactic| (apply c_multiply; kaf_pre))
local macro_rules | `(tactic| kt_at_notin) => `(tactic| (apply c_add; kaf_pre))
local macro_rules | `(tactic| kt_at_notin) => `(tactic| exact c_draw _ _ _ _ (by decide))
local macro_rules | `(tactic| kt_at_notin) => `(tactic| exact c_divisor _ _ _ (by assumption))
local macro_rules | `(tactic| kt_at_notin) => `(tactic| (apply c_lfr; assumption; kt_at_in))
local macro_rules | `(tactic| kt_at_notin) => `(tactic| (apply c_less; kaf_pre))
local macro_rules | `(tactic| kt_at_notin) => `(tactic| (apply c_lmul; kaf_pre))
local macro_rules | `(tactic| kt_at_notin) => `(tactic| (apply c_lsub; kaf_pre))
local macro_rules | `(tactic| kt_at_notin) => `(tactic| (apply c_ladd; kaf_pre))
local macro_rules | `(tactic| kfm_turns) => `(tactic| (focus (decide +kernel)))
local macro_rules | `(tactic| kat_tups) => `(tactic| (apply q_nes <;> (focus (decide +kernel))))
local macro_rules | `(tactic| kat_tups) => `(tactic| (apply q_eqs <;> (focus (decide +kernel))))
local macro_rules | `(tactic| kt_at_notin) => `(tactic| (apply c_is_fr; ktr_units))
local macro_rules | `(tactic| kt_at_notin) => `(tactic| (apply c_value; assumption; (focus omega)))
local macro_rules | `(tactic| kt_at_notin) => `(tactic| exact c_fraction1 _ _)
local macro_rules | `(tactic| kt_at_notin) => `(tactic| (apply c_prod <;> assumption))
local macro_rules | `(tactic| kt_at_notin) => `(tactic| (apply c_det <;> assumption))
namespace Z
theorem srGo_snoc {seen rest : List Hf} {x : Ry} {h : Hf} : srGo seen x (h :: rest) = if inH h x then srGo (seen ++ [h]) x rest else match spn h seen with
    | none => none
    | some (a, b) => srGo (seen ++ [h]) (alng h (nzr a b)) rest := by rw [srGo]; try rfl
def ryO (o : Option Ry) : D := match o with
  | none => .non
  | some x => rd x
theorem q_slt' {l : List D} {i : Nat} (h : i ≤ l.length) : prB (.sl false true) [.lst l, .int (i : Int)] = some (.lst (l.take i), true) := by
  show some (D.lst (cutD l none (some (i : Int))), true) = _
  unfold cutD
  have e1 : HT.sIx l.length 0 none = 0 := rfl
  have e2 : HT.sIx l.length l.length (some (i : Int)) = i := by
    have : ¬ (i : Int) < 0 := by omega
    simp [HT.sIx, this]
    omega
  rw [e1, e2]
  rfl
theorem drop_cons {α : Type} {l : List α} {j : Nat} {x : α} (h : l[j]? = some x) : l.drop j = x :: l.drop (j + 1) := by
  have hl := lt_of_get h
  rw [List.drop_eq_getElem_cons hl]
  rw [List.getElem?_eq_getElem hl] at h
  rw [Option.some.inj h]
theorem take_snoc {α : Type} {l : List α} {j : Nat} {x : α} (h : l[j]? = some x) : l.take (j + 1) = l.take j ++ [x] := by
  rw [List.take_succ, h]
  rfl
theorem c_some_ray (k : Nat) (hs : List Hf) (hlen : hs.length ≤ 1000) (ho : ∀ h ∈ hs, h.ok) (hz : ∀ h ∈ hs, h.z 250) : RetB (callK tab.fns (k + 6)) i_some_ray (.lst (hs.map hd)) [] (ryO (sray hs)) false (.lst (hs.map hd)) := by
  apply v_fnB fn_some_ray rfl
  walk_at "go"
  apply w_forL (lk := some 0) (fun j env => ∃ (x : Ry) (s2 s3 s4 s5 s6 : Sl), sray hs = srGo (hs.take j) x (hs.drop j) ∧ sz x.1 ≤ 3020 ∧ sz x.2 ≤ 3020 ∧ env = [some (.lst (hs.map hd), .lck), some (rd x, .frz), s2, s3, s4, s5, s6] ∧ isLck s2 = false ∧ isLck s3 = false ∧ isLck s4 = false ∧ isLck s5 = false ∧ isLck s6 = false) (x_enumo rfl)
  · exact ⟨(0, 0), none, none, none, none, none, rfl, by decide, by decide, rfl, rfl, rfl, rfl, rfl, rfl⟩
  · rintro j d env hd' ⟨x, s2, s3, s4, s5, s6, hsr, zx1, zx2, rfl, h2, h3, h4, h5, h6⟩
    obtain ⟨y, hy, rfl⟩ := enum_at hd'
    obtain ⟨h, hx, rfl⟩ := map_get hy
    have hjl : j < hs.length := lt_of_get hx
    have hzh := hz h (List.mem_of_getElem? hx)
    have hoh := ho h (List.mem_of_getElem? hx)
    rw [drop_cons hx, srGo_snoc, ← take_snoc hx] at hsr
    have k1 : Ret (callK tab.fns (k + 5)) i_contains_ray [(.lst [hd h], .frz), (rd x, .frz)] (.bl (inH h x)) false := by
      have q := c_containsN (k + 1) [h] x (n := 250) (s := 3020) (fun z hz' => by rw [List.mem_singleton] at hz'; rw [hz']; exact hzh) zx1 zx2 (by decide)
      simp only [List.map_cons, List.map_nil, List.all_cons, List.all_nil, Bool.and_true] at q
      exact q
    have k2 : Ret (callK tab.fns (k + 5)) i_span_on_line [(hd h, .frz), (.lst ((hs.take j).map hd), .frz)] (spD (spn h (hs.take j))) false := c_span k h (hs.take j) (by rw [List.length_take]; omega) hoh hzh (fun z hz' => hz z (List.mem_of_mem_take hz'))
    have qs : prB (.sl false true) [.lst (hs.map hd), .int (j : Int)] = some (.lst ((hs.take j).map hd), true) := by
      rw [List.map_take]
      exact q_slt' (by rw [List.length_map]; omega)
    apply w_turnT
    apply x_all (x_setf rfl h2 rfl rfl)
    apply x_all (x_setf rfl h3 rfl rfl)
    apply x_all0
    simp only [List.set_cons_zero, List.set_cons_succ]
    cases c : inH h x with
    | true =>
      rw [c] at k1
      rw [c, if_pos rfl] at hsr
      walk_at "go"
      exact w_nil ⟨x, _, _, _, _, _, hsr, zx1, zx2, rfl, k_f, k_f, h4, h5, h6⟩
    | false =>
      rw [c] at k1
      rw [c, if_neg Bool.false_ne_true] at hsr
      cases hsp : spn h (hs.take j) with
      | none =>
        rw [hsp] at k2 hsr
        simp only [spD] at k2
        walk_at "go"
        refine ⟨?_, rfl, rfl⟩
        rw [hsr]
        rfl
      | some p =>
        obtain ⟨a, b⟩ := p
        rw [hsp] at k2 hsr
        simp only [spD] at k2
        simp only at hsr
        obtain ⟨ea, eb, _, h3'⟩ := spn_some hsp
        obtain ⟨zl, zu⟩ := z_lows hoh hzh (hs := hs.take j) (fun z hz' => hz z (List.mem_of_mem_take hz'))
        have g1 := gst_ok (lows h (hs.take j))
        have g2 := lst_ok (upps h (hs.take j))
        have za : ∀ t, a = some t → sz t ≤ 2259 := fun t e => by
          rw [← ea, e] at g1
          exact zl t g1.1
        have zb : ∀ t, b = some t → sz t ≤ 2259 := fun t e => by
          rw [← eb, e] at g2
          exact zu t g2.1
        have zn : sz (nzr a b) ≤ 2259 := by
          unfold nzr
          have z0 : sz (0 : Rat) ≤ 2259 := by decide
          cases a with
          | none =>
            cases b with
            | none => exact z0
            | some t => simp only; split; exact zb t rfl; exact z0
          | some s =>
            cases b with
            | none => simp only; split; exact za s rfl; exact z0
            | some t => simp only; split; exact za s rfl; split; exact zb t rfl; exact z0
        have k3 : Ret (callK tab.fns (k + 5)) i_nearest_to_zero [(od a, .frz), (od b, .frz)] (fr (nzr a b)) false := c_nearF (k + 1) a b (fun t e => Nat.le_trans (za t e) (by decide)) (fun t e => Nat.le_trans (zb t e) (by decide))
        have k4 : Ret (callK tab.fns (k + 5)) i_ray_along [(hd h, .frz), (fr (nzr a b), .frz)] (rd (alng h (nzr a b))) false := c_along (k + 1) h _ hoh hzh (by omega)
        obtain ⟨w1, w2⟩ := z_alng hoh hzh zn
        have qn : prB .isn [.tup [od a, od b]] = some (.bl false, false) := rfl
        walk_at "go"
        exact w_nil ⟨_, _, _, _, _, _, hsr, by omega, by omega, rfl, k_f, k_f, k_f, k_f, k_f⟩
  · rintro env ⟨x, s2, s3, s4, s5, s6, hsr, zx1, zx2, rfl, h2, h3, h4, h5, h6⟩
    rw [enum_size, List.length_map, List.take_length, List.drop_length] at hsr
    simp only [unlock, List.getElem?_cons_zero, List.set_cons_zero]
    have e : sray hs = some x := by rw [hsr]; rfl
    rw [e]
    walk_at "go"
    exact ⟨rfl, rfl, rfl⟩
end Z
namespace Z
theorem q_ryO {o : Option Ry} : prB .isn [ryO o] = some (.bl (!o.isSome), false) := by cases o <;> rfl
theorem c_is_empty (k : Nat) (hs : List Hf) (hlen : hs.length ≤ 1000) (ho : ∀ h ∈ hs, h.ok) (hz : ∀ h ∈ hs, h.z 250) : RetB (callK tab.fns (k + 7)) i_is_empty (.lst (hs.map hd)) [] (.bl (!(sray hs).isSome)) false (.lst (hs.map hd)) := by
  have k1 : RetB (callK tab.fns (k + 6)) i_some_ray (.lst (hs.map hd)) [] (ryO (sray hs)) false (.lst (hs.map hd)) := c_some_ray k hs hlen ho hz
  have q := q_ryO (o := sray hs)
  apply v_fnB fn_is_empty rfl
  walk_at "go"
  exact ⟨rfl, rfl, rfl⟩
end Z
namespace Z
theorem c_share (k : Nat) (g h : Hf) (ho : h.ok) (h1 : g.z 1000) (h2 : h.z 1000) : Ret (callK tab.fns (k + 3)) i_share_of [(hd g, .frz), (hd h, .frz)] (od (sh1 g h)) false := by
  have k1 : Ret (callK tab.fns (k + 2)) i_determinant [(hd g, .frz), (hd h, .frz)] (.int (dm g h)) false := c_det (k + 1) g h (h1.mono (by decide)) (h2.mono (by decide))
  have k2 : Ret (callK tab.fns (k + 2)) i_product [(hd g, .frz), (hd h, .frz)] (.int (pd g h)) false := c_prod (k + 1) g h (h1.mono (by decide)) (h2.mono (by decide))
  have k3 : Ret (callK tab.fns (k + 2)) i_product [(hd h, .frz), (hd h, .frz)] (.int (pd h h)) false := c_prod (k + 1) h h (h2.mono (by decide)) (h2.mono (by decide))
  have hN := nn_pos ho
  have b := bi_pd h2 h2
  have k4 : Ret (callK tab.fns (k + 2)) i_fraction [(.int (pd g h), .frz), (.int (pd h h), .frz)] (fr (Rat.divInt (pd g h) (pd h h))) false := c_fraction k _ _ (by omega) (by omega)
  unfold sh1
  by_cases c : dm g h = 0
  · by_cases d : pd g h < 0
    · rw [if_pos (.inr d)]
      simp only [od]
      apply v_fn fn_share_of rfl
      walk_at "go"
      exact ⟨rfl, rfl⟩
    · rw [if_neg (fun z => z.elim (fun y => y c) d), ← divInt_cast]
      simp only [od]
      apply v_fn fn_share_of rfl
      walk_at "go"
      exact ⟨rfl, rfl⟩
  · rw [if_pos (.inl c)]
    simp only [od]
    apply v_fn fn_share_of rfl
    walk_at "go"
    exact ⟨rfl, rfl⟩
end Z
end
section
local macro_rules | `(tactic| kt_at_notin) => `(tactic| exact c_gcd _ _ _)
local macro_rules | `(tactic| kt_at_notin) => `(tactic| exact c_absolute _ _)
local macro_rules | `(tactic| kt_at_notin) => `(tactic| exact c_negative _ _)
local macro_rules | `(tactic| kt_at_notin) => `(tactic| (apply c_divide; assumption; kaf_pre))
local macro_rules | `(tactic| kt_at_notin) => `(tactic| (apply c_sign; ktr_units))
local macro_rules | `(tactic| kt_at_notin) => `(tactic| (apply c_is_at_most; kaf_pre))
local macro_rules | `(tactic| kt_at_notin) => `(tactic| (apply c_is_less; kaf_pre))
local macro_rules | `(tactic| kt_at_notin) => `(tactic| (apply c_compare; kaf_pre))
local macro_rules | `(tactic| kt_at_notin) => `(tactic| (apply c_subtract; kaf_pre))
local macro_rules | `(tactic| kt_at_notin) => `(tactic| (apply c_multiply; kaf_pre))
local macro_rules | `(tactic| kt_at_notin) => `(tactic| (apply c_add; kaf_pre))
local macro_rules | `(tactic| kt_at_notin) => `(tactic| exact c_draw _ _ _ _ (by decide))
local macro_rules | `(tactic| kt_at_notin) => `(tactic| exact c_divisor _ _ _ (by assumption))
local macro_rules | `(tactic| kt_at_notin) => `(tactic| (apply c_lfr; assumption; kt_at_in))
local macro_rules | `(tactic| kt_at_notin) => `(tactic| (apply c_less; kaf_pre))
local macro_rules | `(tactic| kt_at_notin) => `(tactic| (apply c_lmul; kaf_pre))
local macro_rules | `(tactic| kt_at_notin) => `(tactic| (apply c_lsub; kaf_pre))
local macro_rules | `(tactic| kt_at_notin) => `(tactic| (apply c_ladd; kaf_pre))
local macro_rules | `(tactic| kfm_turns) => `(tactic| (focus (decide +kernel)))
local macro_rules | `(tactic| kat_tups) => `(tactic| (apply q_nes <;> (focus (decide +kernel))))
local macro_rules | `(tactic| kat_tups) => `(tactic| (apply q_eqs <;> (focus (decide +kernel))))
local macro_rules | `(tactic| kt_at_notin) => `(tactic| (apply c_is_fr; ktr_units))
local macro_rules | `(tactic| kt_at_notin) => `(tactic| (apply c_value; assumption; (focus omega)))
local macro_rules | `(tactic| kt_at_notin) => `(tactic| exact c_fraction1 _ _)
local macro_rules | `(tactic| kt_at_notin) => `(tactic| (apply c_prod <;> assumption))
local macro_rules | `(tactic| kt_at_notin) => `(tactic| (apply c_det <;> assumption))
end
section
local macro_rules | `(tactic| kt_at_notin) => `(tactic| exact c_gcd _ _ _)
local macro_rules | `(tactic| kt_at_notin) => `(tactic| exact c_absolute _ _)
local macro_rules | `(tactic| kt_at_notin) => `(tactic| exact c_negative _ _)
local macro_rules | `(tactic| kt_at_notin) => `(tactic| (apply c_divide; assumption; kaf_pre))
local macro_rules | `(tactic| kt_at_notin) => `(tactic| (apply c_sign; ktr_units))
local macro_rules | `(tactic| kt_at_notin) => `(tactic| (apply c_is_at_most; kaf_pre))
local macro_rules | `(tactic| kt_at_notin) => `(tactic| (apply c_is_less; kaf_pre))
local macro_rules | `(tactic| kt_at_notin) => `(tactic| (apply c_compare; kaf_pre))
local macro_rules | `(tactic| kt_at_notin) => `(tactic| (apply c_subtract; kaf_pre))
local macro_rules | `(tactic| kt_at_notin) => `(tactic| (apply c_multiply; kaf_pre))
local macro_rules | `(tactic| kt_at_notin) => `(tactic| (apply c_add; kaf_pre))
local macro_rules | `(tactic| kt_at_notin) => `(tactic| exact c_draw _ _ _ _ (by decide))
local macro_rules | `(tactic| kt_at_notin) => `(tactic| exact c_divisor _ _ _ (by assumption))
local macro_rules | `(tactic| kt_at_notin) => `(tactic| (apply c_lfr; assumption; kt_at_in))
local macro_rules | `(tactic| kt_at_notin) => `(tactic| (apply c_less; kaf_pre))
local macro_rules | `(tactic| kt_at_notin) => `(tactic| (apply c_lmul; kaf_pre))
local macro_rules | `(tactic| kt_at_notin) => `(tactic| (apply c_lsub; kaf_pre))
local macro_rules | `(tactic| kt_at_notin) => `(tactic| (apply c_ladd; kaf_pre))
local macro_rules | `(tactic| kfm_turns) => `(tactic| (focus (decide +kernel)))
local macro_rules | `(tactic| kat_tups) => `(tactic| (apply q_nes <;> (focus (decide +kernel))))
local macro_rules | `(tactic| kat_tups) => `(tactic| (apply q_eqs <;> (focus (decide +kernel))))
local macro_rules | `(tactic| kt_at_notin) => `(tactic| (apply c_is_fr; ktr_units))
local macro_rules | `(tactic| kt_at_notin) => `(tactic| (apply c_value; assumption; (focus omega)))
local macro_rules | `(tactic| kt_at_notin) => `(tactic| exact c_fraction1 _ _)
local macro_rules | `(tactic| kt_at_notin) => `(tactic| (apply c_prod <;> assumption))
local macro_rules | `(tactic| kt_at_notin) => `(tactic| (apply c_det <;> assumption))
end
section
local macro_rules | `(tactic| kt_at_notin) => `(tactic| exact c_gcd _ _ _)
local macro_rules | `(tactic| kt_at_notin) => `(tactic| exact c_absolute _ _)
local macro_rules | `(tactic| kt_at_notin) => `(tactic| exact c_negative _ _)
local macro_rules | `(tactic| kt_at_notin) => `(tactic| (apply c_divide; assumption; kaf_pre))
local macro_rules | `(tactic| kt_at_notin) => `(tactic| (apply c_sign; ktr_units))
local macro_rules | `(tactic| kt_at_notin) => `(tactic| (apply c_is_at_most; kaf_pre))
local macro_rules | `(tactic| kt_at_notin) => `(tactic| (apply c_is_less; kaf_pre))
local macro_rules | `(tactic| kt_at_notin) => `(tactic| (apply c_compare; kaf_pre))
local macro_rules | `(tactic| kt_at_notin) => `(tactic| (apply c_subtract; kaf_pre))
local macro_rules | `(tactic| kt_at_notin) => `(tactic| (apply c_multiply; kaf_pre))
local macro_rules | `(tactic| kt_at_notin) => `(tactic| (apply c_add; kaf_pre))
local macro_rules | `(tactic| kt_at_notin) => `(tactic| exact c_draw _ _ _ _ (by decide))
local macro_rules | `(tactic| kt_at_notin) => `(tactic| exact c_divisor _ _ _ (by assumption))
local macro_rules | `(tactic| kt_at_notin) => `(tactic| (apply c_lfr; assumption; kt_at_in))
local macro_rules | `(tactic| kt_at_notin) => `(tactic| (apply c_less; kaf_pre))
local macro_rules | `(tactic| kt_at_notin) => `(tactic| (apply c_lmul; kaf_pre))
local macro_rules | `(tactic| kt_at_notin) => `(tactic| (apply c_lsub; kaf_pre))
local macro_rules | `(tactic| kt_at_notin) => `(tactic| (apply c_ladd; kaf_pre))
local macro_rules | `(tactic| kt_at_notin) => `(tactic| exact c_gcd _ _ _)
local macro_rules | `(tactic| kt_at_notin) => `(tactic| exact c_absolute _ _)
local macro_rules | `(tactic| kt_at_notin) => `(tactic| exact c_negative _ _)
local macro_rules | `(tactic| kt_at_notin) => `(tactic| (apply c_divide; assumption; kaf_pre))
local macro_rules | `(tactic| kt_at_notin) => `(tactic| (apply c_sign; ktr_units))
local macro_rules | `(tactic| kt_at_notin) => `(tactic| (apply c_is_at_most; kaf_pre))
local macro_rules | `(tactic| kt_at_notin) => `(tactic| (apply c_is_less; kaf_pre))
local macro_rules | `(tactic| kt_at_notin) => `(tactic| (apply c_compare; kaf_pre))
local macro_rules | `(tactic| kt_at_notin) => `(tactic| (apply c_subtract; kaf_pre))
local macro_rules | `(tactic| kt_at_notin) => `(tactic| (apply c_multiply; kaf_pre))
local macro_rules | `(tactic| kt_at_notin) => `(tactic| (apply c_add; kaf_pre))
local macro_rules | `(tactic| kt_at_notin) => `(tactic| exact c_draw _ _ _ _ (by decide))
local macro_rules | `(tactic| kt_at_notin) => `(tactic| exact c_divisor _ _ _ (by assumption))
local macro_rules | `(tactic| kt_at_notin) => `(tactic| (apply c_lfr; assumption; kt_at_in))
local macro_rules | `(tactic| kt_at_notin) => `(tactic| (apply c_less; kaf_pre))
local macro_rules | `(tactic| kt_at_notin) => `(tactic| (apply c_lmul; kaf_pre))
local macro_rules | `(tactic| kt_at_notin) => `(tactic| (apply c_lsub; kaf_pre))
local macro_rules | `(tactic| kt_at_notin) => `(tactic| (apply c_ladd; kaf_pre))
local macro_rules | `(tactic| kfm_turns) => `(tactic| (focus (decide +kernel)))
local macro_rules | `(tactic| kat_tups) => `(tactic| (apply q_nes <;> (focus (decide +kernel))))
local macro_rules | `(tactic| kat_tups) => `(tactic| (apply q_eqs <;> (focus (decide +kernel))))
local macro_rules | `(tactic| kt_at_notin) => `(tactic| (apply c_is_fr; ktr_units))
local macro_rules | `(tactic| kt_at_notin) => `(tactic| (apply c_value; assumption; (focus omega)))
local macro_rules | `(tactic| kt_at_notin) => `(tactic| exact c_fraction1 _ _)
local macro_rules | `(tactic| kt_at_notin) => `(tactic| (apply c_prod <;> assumption))
local macro_rules | `(tactic| kt_at_notin) => `(tactic| (apply c_det <;> assumption))
namespace Z
theorem fr_int (p : Int) : fr (p : Rat) = .tup [.int p, .int 1] := by
  unfold fr
  rw [Rat.num_intCast, Rat.den_intCast]
  rfl
theorem gz_ne {p q r : Int} (h : p ≠ 0 ∨ q ≠ 0) : 0 < gz (gz p q) r := by
  have hn := gz_nn (gz p q) r
  rcases Int.lt_or_eq_of_le hn with h1 | h1
  · exact h1
  exfalso
  obtain ⟨d1, d2⟩ := gz_dvd (gz p q) r
  obtain ⟨d3, d4⟩ := gz_dvd p q
  have z0 : gz p q = 0 := by rw [← h1] at d1; exact Int.zero_dvd.mp d1
  rw [z0] at d3 d4
  rcases h with h | h
  · exact h (Int.zero_dvd.mp d3)
  · exact h (Int.zero_dvd.mp d4)
def gpl (p q r : Int) : Hf := ⟨p / gz (gz p q) r, q / gz (gz p q) r, r / gz (gz p q) r⟩
theorem gpl_ok {p q r : Int} (h : p ≠ 0 ∨ q ≠ 0) : (gpl p q r).ok := by
  have hg := gz_ne (r := r) h
  obtain ⟨d1, d2⟩ := gz_dvd (gz p q) r
  obtain ⟨d3, d4⟩ := gz_dvd p q
  have d5 := Int.dvd_trans d1 d3
  have d6 := Int.dvd_trans d1 d4
  have ne : ∀ {a : Int}, gz (gz p q) r ∣ a → a ≠ 0 → a / gz (gz p q) r ≠ 0 := by
    intro a hd ha hz
    have := Int.ediv_mul_cancel hd
    rw [hz, Int.zero_mul] at this
    exact ha this.symm
  rcases h with h | h
  · exact .inl (ne d5 h)
  · exact .inr (ne d6 h)
theorem gpl_z {p q r : Int} {n : Nat} (h : p ≠ 0 ∨ q ≠ 0) (h1 : bi p ≤ n) (h2 : bi q ≤ n) (h3 : bi r ≤ n) : (gpl p q r).z n := by
  have hg := gz_ne (r := r) h
  exact ⟨Nat.le_trans (bi_ediv hg) h1, Nat.le_trans (bi_ediv hg) h2, Nat.le_trans (bi_ediv hg) h3⟩
end Z
namespace Z
theorem c_lplane (k : Nat) (ds : List Int) (a : Nat) : ∃ h : Hf, h.ok ∧ h.z 3 ∧ RetB (callK tab.fns (k + 3)) i__law_plane (bx ds a) [] (hd h) false (bx ds (a + 1 + 1 + 1)) := by
  have d1 := dw_range (ds := ds) (at_ := a) (many := 5) (by decide)
  have d2 := dw_range (ds := ds) (at_ := a + 1) (many := 5) (by decide)
  have d3 := dw_range (ds := ds) (at_ := a + 1 + 1) (many := 11) (by decide)
  have b1 : bi (dw ds a 5 - 2) ≤ 3 := bi_le (by omega) (by omega)
  have b2 : bi (dw ds (a + 1) 5 - 2) ≤ 3 := bi_le (by omega) (by omega)
  have b3 : bi (dw ds (a + 1 + 1) 11 - 4) ≤ 3 := bi_le (by omega) (by omega)
  have run : ∀ p q r : Int, p ≠ 0 ∨ q ≠ 0 → bi p ≤ 3 → bi q ≤ 3 → bi r ≤ 3 → (∀ x, prB .fdiv [.int x, .int (gz (gz p q) r)] = some (.int (x / gz (gz p q) r), false)) ∧ Ret (callK tab.fns (k + 2)) i__law_divisor [(.int p, .frz), (.int q, .frz)] (.int (gz p q)) false ∧ Ret (callK tab.fns (k + 2)) i__law_divisor [(.int (gz p q), .frz), (.int r, .frz)] (.int (gz (gz p q) r)) false := by
    intro p q r h h1 h2 h3
    have hg := gz_ne (r := r) h
    have hb : bi (gz (gz p q) r) ≤ 8000 := by
      obtain ⟨d1, d2⟩ := gz_dvd (gz p q) r
      obtain ⟨d3, d4⟩ := gz_dvd p q
      have lee : ∀ {a b : Int}, a ∣ b → b ≠ 0 → bi a ≤ bi b := fun {a b} hd hb => bl_mono (Nat.le_of_dvd (Int.natAbs_pos.mpr hb) (Int.natAbs_dvd_natAbs.mpr hd))
      rcases h with h | h
      · exact Nat.le_trans (lee (Int.dvd_trans d1 d3) h) (by omega)
      · exact Nat.le_trans (lee (Int.dvd_trans d1 d4) h) (by omega)
    exact ⟨fun x => q_fdivb hg hb, c_divisor (k + 1) p q (by omega), c_divisor (k + 1) _ r (by omega)⟩
  by_cases h0 : dw ds a 5 - 2 = 0 ∧ dw ds (a + 1) 5 - 2 = 0
  · obtain ⟨r1, r2, r3⟩ := run 1 (dw ds (a + 1) 5 - 2) (dw ds (a + 1 + 1) 11 - 4) (.inl (by decide)) (by decide) b2 b3
    refine ⟨gpl 1 (dw ds (a + 1) 5 - 2) (dw ds (a + 1 + 1) 11 - 4), gpl_ok (.inl (by decide)), gpl_z (.inl (by decide)) (by decide) b2 b3, ?_⟩
    obtain ⟨z1, z2⟩ := h0
    have f1 := r1 1
    have f2 := r1 (dw ds (a + 1) 5 - 2)
    have f3 := r1 (dw ds (a + 1 + 1) 11 - 4)
    apply v_fnB fn__law_plane rfl
    walk_at "go"
    exact ⟨rfl, rfl, rfl⟩
  · have hne : dw ds a 5 - 2 ≠ 0 ∨ dw ds (a + 1) 5 - 2 ≠ 0 := by omega
    obtain ⟨r1, r2, r3⟩ := run (dw ds a 5 - 2) (dw ds (a + 1) 5 - 2) (dw ds (a + 1 + 1) 11 - 4) hne b1 b2 b3
    refine ⟨gpl (dw ds a 5 - 2) (dw ds (a + 1) 5 - 2) (dw ds (a + 1 + 1) 11 - 4), gpl_ok hne, gpl_z hne b1 b2 b3, ?_⟩
    have f1 := r1 (dw ds a 5 - 2)
    have f2 := r1 (dw ds (a + 1) 5 - 2)
    have f3 := r1 (dw ds (a + 1 + 1) 11 - 4)
    by_cases z1 : dw ds a 5 - 2 = 0
    · have z2 : ¬ dw ds (a + 1) 5 - 2 = 0 := fun z => h0 ⟨z1, z⟩
      apply v_fnB fn__law_plane rfl
      walk_at "go"
      exact ⟨rfl, rfl, rfl⟩
    · apply v_fnB fn__law_plane rfl
      walk_at "go"
      exact ⟨rfl, rfl, rfl⟩
end Z
namespace Z
def ngh (h : Hf) : Hf := ⟨0 - h.p, 0 - h.q, 0 - h.r⟩
theorem ngh_ok {h : Hf} (ho : h.ok) : (ngh h).ok := by
  rcases ho with z | z
  · exact .inl (show 0 - h.p ≠ 0 by omega)
  · exact .inr (show 0 - h.q ≠ 0 by omega)
theorem ngh_z {h : Hf} {n : Nat} (hz : h.z n) : (ngh h).z n := by
  obtain ⟨a, b, c⟩ := hz
  exact ⟨by show bi (0 - h.p) ≤ n; rw [Int.zero_sub, bi_neg]; exact a, by show bi (0 - h.q) ≤ n; rw [Int.zero_sub, bi_neg]; exact b, by show bi (0 - h.r) ≤ n; rw [Int.zero_sub, bi_neg]; exact c⟩
theorem c_lplanes (k : Nat) (ds : List Int) (a : Nat) (m : Nat) (hm : m ≤ 20) : ∃ (hs : List Hf) (a' : Nat), hs.length ≤ m + 1 ∧ (∀ h ∈ hs, h.ok) ∧ (∀ h ∈ hs, h.z 3) ∧ RetB (callK tab.fns (k + 4)) i__law_planes (bx ds a) [(.int (m : Int), .frz)] (.lst (hs.map hd)) true (bx ds a') := by
  have d9 := dw_range (ds := ds) (at_ := a) (many := (m : Int) + 1) (by omega)
  obtain ⟨acc, e', hc, hs, a', rfl, hl, ho, hz, hI⟩ := comp_all (C := callK tab.fns (k + 3)) (own := [4, 5]) (tg := .nm 5) (src := .range (.cst (.int 0)) (.call i__law_draw [.at 0, .val (.op .add [.at 1, .val (.cst (.int 1))])])) (elt := .call i__law_plane [.at 0])
    (env := [some (bx ds a, .own), some (.int (m : Int), .frz), none, none, none, none]) (e1 := [some (bx ds (a + 1), .own), some (.int (m : Int), .frz), none, none, none, none]) (ds := rangeD 0 (dw ds a ((m : Int) + 1) - 0).toNat)
    (fun j acc env => ∃ (hs : List Hf) (a' : Nat), acc = hs.map hd ∧ hs.length = j ∧ (∀ h ∈ hs, h.ok) ∧ (∀ h ∈ hs, h.z 3) ∧ env = [some (bx ds a', .own), some (.int (m : Int), .frz), none, none, none, none])
    (x_rng x_cst (x_call (x_as (x_at rfl) (x_as (x_val (x_op (x_as (x_at rfl) (x_as (x_val x_cst) x_as0)) (x_filla rfl (x_fillv x_fill0)) q_add)) x_as0)) (y_do1 rfl (x_ownv x_own0) (x_argvv x_argv0) (c_draw (k + 2) ds a ((m : Int) + 1) (by omega)) rfl)) ⟨by decide, by decide, by omega, by omega⟩)
    rfl ⟨[], a + 1, rfl, rfl, fun _ z => (nomatch z), fun _ z => (nomatch z), rfl⟩ (by
      rintro j d acc env hd' ⟨hs, a', rfl, hl, ho, hz, rfl⟩
      obtain ⟨hj, rfl⟩ := rangeD_get hd'
      obtain ⟨h, h1, h2, hr⟩ := c_lplane k ds a'
      refine ⟨hd h, false, _, _, sg (x_setf rfl k_n rfl rfl), x_call (x_as (x_at rfl) x_as0) (y_do1 rfl x_own0 x_argv0 hr rfl), ?_, hs ++ [h], a' + 1 + 1 + 1, ?_, ?_, ?_, ?_, rfl⟩
      · rw [List.length_map]; exact szl _ (by omega)
      · rw [List.map_append]; rfl
      · rw [List.length_append, List.length_singleton, hl]
      · intro u hu
        rcases List.mem_append.mp hu with z | z
        · exact ho u z
        · rw [List.mem_singleton] at z; subst z; exact h1
      · intro u hu
        rcases List.mem_append.mp hu with z | z
        · exact hz u z
        · rw [List.mem_singleton] at z; subst z; exact h2)
  rw [rangeD_length] at hl
  subst hI
  have hr : restore [some (bx ds (a + 1), .own), some (.int (m : Int), .frz), none, none, none, none] [some (bx ds a', .own), some (.int (m : Int), .frz), none, none, none, none] [4, 5] = [some (bx ds a', .own), some (.int (m : Int), .frz), none, none, none, none] := rfl
  rw [hr] at hc
  have hlm : (hs.map hd).length = hs.length := List.length_map _
  by_cases h0 : hs.length = 0
  · refine ⟨hs, a', by omega, ho, hz, ?_⟩
    have hg : ¬ ((hs.map hd).length : Int) > 0 := by omega
    apply v_fnB fn__law_planes rfl
    walk_at "go"
    exact ⟨rfl, rfl, rfl⟩
  · have hg : ((hs.map hd).length : Int) > 0 := by omega
    by_cases h4 : dw ds a' 4 = 0
    · have d2 := dw_range (ds := ds) (at_ := a' + 1) (many := ((hs.map hd).length : Int)) (by omega)
      have cd := c_draw (k + 2) ds (a' + 1) ((hs.map hd).length : Int) (by omega)
      obtain ⟨i, hi⟩ : ∃ i : Nat, dw ds (a' + 1) ((hs.map hd).length : Int) = (i : Int) := ⟨(dw ds (a' + 1) ((hs.map hd).length : Int)).toNat, by omega⟩
      have hil : i < hs.length := by omega
      have he : hs[i]? = some hs[i] := List.getElem?_eq_getElem hil
      have hmem := List.getElem_mem hil
      have hat : atI (hs.map hd) (dw ds (a' + 1) ((hs.map hd).length : Int)) = some (hd hs[i]) := by
        rw [hi]
        exact at_nat (by rw [List.getElem?_map, he]; rfl)
      have o1 := ho _ hmem
      have o2 := hz _ hmem
      generalize hs[i] = h at *
      refine ⟨hs ++ [ngh h], a' + 1 + 1, by rw [List.length_append, List.length_singleton]; omega, ?_, ?_, ?_⟩
      · intro u hu
        rcases List.mem_append.mp hu with z | z
        · exact ho u z
        · rw [List.mem_singleton] at z; subst z; exact ngh_ok o1
      · intro u hu
        rcases List.mem_append.mp hu with z | z
        · exact hz u z
        · rw [List.mem_singleton] at z; subst z; exact ngh_z o2
      · have q0 : prB .ix [hd h, .int 0] = some (.int h.p, false) := q_ixt at_ix0
        have q1 : prB .ix [hd h, .int 1] = some (.int h.q, false) := q_ixt at_ix1
        have q2 : prB .ix [hd h, .int 2] = some (.int h.r, false) := q_ixt at_ix2
        have hzl : (hs.map hd).length < sizeLine := szl _ (by omega)
        apply v_fnB fn__law_planes rfl
        walk_at "go"
        refine ⟨?_, rfl, rfl⟩
        rw [List.map_append]
        rfl
    · refine ⟨hs, a' + 1, by omega, ho, hz, ?_⟩
      apply v_fnB fn__law_planes rfl
      walk_at "go"
      exact ⟨rfl, rfl, rfl⟩
end Z
namespace Z
theorem c_lvalue (k : Nat) (h : Hf) (x : Ry) (hz : h.z 5) (h1 : sz x.1 ≤ 60) (h2 : sz x.2 ≤ 60) : Ret (callK tab.fns (k + 4)) i__law_value [(hd h, .frz), (rd x, .frz)] (fr (vl h x)) false := by
  have a1 := sz_castb hz.1
  have a2 := sz_castb hz.2.1
  have k1 : Ret (callK tab.fns (k + 3)) i__law_mul [(.tup [.int h.p, .int 1], .frz), (fr x.1, .frz)] (fr ((h.p : Rat) * x.1)) false := by rw [← fr_int]; exact c_lmul k _ _ (by omega)
  have k2 : Ret (callK tab.fns (k + 3)) i__law_mul [(.tup [.int h.q, .int 1], .frz), (fr x.2, .frz)] (fr ((h.q : Rat) * x.2)) false := by rw [← fr_int]; exact c_lmul k _ _ (by omega)
  have b1 := ss_mul a1 h1
  have b2 := ss_mul a2 h2
  have k3 : Ret (callK tab.fns (k + 3)) i__law_add [(fr ((h.p : Rat) * x.1), .frz), (fr ((h.q : Rat) * x.2), .frz)] (fr (vl h x)) false := c_ladd k _ _ (by omega)
  have q0 : prB .ix [hd h, .int 0] = some (.int h.p, false) := q_ixt at_ix0
  have q1 : prB .ix [hd h, .int 1] = some (.int h.q, false) := q_ixt at_ix1
  have r0 : prB .ix [rd x, .int 0] = some (fr x.1, false) := q_r0
  have r1 : prB .ix [rd x, .int 1] = some (fr x.2, false) := q_r1
  have hsz : ([D.int 0, D.int 0] : List D).length ≤ sizeLine := Nat.le_of_lt (szl _ (by decide))
  apply v_fn fn__law_value rfl
  walk_at "go"
  exact ⟨rfl, rfl⟩
end Z
namespace Z
theorem c_lholds (k : Nat) (hs : List Hf) (x : Ry) (hz : ∀ h ∈ hs, h.z 5) (h1 : sz x.1 ≤ 60) (h2 : sz x.2 ≤ 60) : RetB (callK tab.fns (k + 5)) i__law_holds (.lst (hs.map hd)) [(rd x, .frz)] (.bl (hs.all (inH · x))) false (.lst (hs.map hd)) := by
  apply v_fnB fn__law_holds rfl
  walk_at "go"
  apply w_forL (lk := some 0) (fun j env => (hs.take j).all (inH · x) = true ∧ ∃ s2, env = [some (.lst (hs.map hd), .lck), some (rd x, .frz), s2] ∧ isLck s2 = false) (x_overo rfl)
  · exact ⟨rfl, none, rfl, rfl⟩
  · rintro j d env hd' ⟨ha, s2, rfl, h3⟩
    obtain ⟨h, he, rfl⟩ := map_get hd'
    have hzh := hz h (List.mem_of_getElem? he)
    have k1 : Ret (callK tab.fns (k + 4)) i__law_value [(hd h, .frz), (rd x, .frz)] (fr (vl h x)) false := c_lvalue k h x hzh h1 h2
    have a1 := sz_castb hzh.2.2
    have a2 := sz_vl hzh h1 h2
    have k2 : Ret (callK tab.fns (k + 4)) i__law_less [(.tup [.int h.r, .int 1], .frz), (fr (vl h x), .frz)] (.bl (!inH h x)) false := by
      rw [← fr_int]
      have e : (!inH h x) = decide ((h.r : Rat) < vl h x) := by
        unfold inH
        by_cases c : (h.r : Rat) < vl h x
        · rw [decide_eq_true c, decide_eq_false (Rat.not_le.mpr c)]; rfl
        · rw [decide_eq_false c, decide_eq_true (Rat.not_lt.mp c)]; rfl
      rw [e]
      exact c_less (k + 3) _ _ (by omega)
    have q2 : prB .ix [hd h, .int 2] = some (.int h.r, false) := q_ixt at_ix2
    apply w_turn (x_setf rfl h3 rfl rfl)
    simp only [List.set_cons_zero, List.set_cons_succ]
    cases hib : inH h x with
    | false =>
      rw [hib] at k2
      walk_at "go"
      exact ⟨by rw [all_not he hib], rfl, rfl⟩
    | true =>
      rw [hib] at k2
      walk_at "go"
      exact w_nil ⟨all_take he ha hib, _, rfl, k_f⟩
  · rintro env ⟨ha, s2, rfl, h3⟩
    rw [List.length_map, List.take_length] at ha
    rw [ha]
    simp only [unlock, List.getElem?_cons_zero, List.set_cons_zero]
    walk_at "go"
    exact ⟨rfl, rfl, rfl⟩
end Z
namespace Z
theorem c_lmeet (k : Nat) (a b : Hf) (ha : a.z 5) (hb : b.z 5) : Ret (callK tab.fns (k + 3)) i__law_meet [(hd a, .frz), (hd b, .frz)] (ryO (meet a b)) false := by
  have bd := bi_dm ha hb
  obtain ⟨a1, a2, a3⟩ := ha
  obtain ⟨b1, b2, b3⟩ := hb
  unfold meet
  by_cases c : dm a b = 0
  · rw [if_pos c]
    have c' : a.p * b.q - a.q * b.p = 0 := c
    simp only [ryO, hd]
    apply v_fn fn__law_meet rfl
    walk_at "go"
    exact ⟨rfl, rfl⟩
  · rw [if_neg c, ← divInt_cast, ← divInt_cast]
    have c' : ¬ a.p * b.q - a.q * b.p = 0 := c
    have bd' : bi (a.p * b.q - a.q * b.p) ≤ 11 := bd
    simp only [ryO, hd]
    apply v_fn fn__law_meet rfl
    walk_at "go"
    exact ⟨rfl, rfl⟩
theorem z_meet {a b : Hf} {x : Ry} {n : Nat} (ha : a.z n) (hb : b.z n) (h : meet a b = some x) : sz x.1 ≤ 2 * n + 1 ∧ sz x.2 ≤ 2 * n + 1 := by
  have bd := bi_dm ha hb
  have m1 := bi_mul a.r b.q
  have m2 := bi_mul b.r a.q
  have m3 := bi_mul a.p b.r
  have m4 := bi_mul b.p a.r
  obtain ⟨a1, a2, a3⟩ := ha
  obtain ⟨b1, b2, b3⟩ := hb
  unfold meet at h
  split at h
  · cases h
  · rename_i c
    cases h
    rw [← divInt_cast, ← divInt_cast]
    exact ⟨sz_divInt c (bi_sub (k := 2 * n) (by omega) (by omega)) bd, sz_divInt c (bi_sub (k := 2 * n) (by omega) (by omega)) bd⟩
end Z
end
section
local macro_rules | `(tactic| kt_at_notin) => `(tactic| exact c_gcd _ _ _)
local macro_rules | `(tactic| kt_at_notin) => `(tactic| exact c_absolute _ _)
local macro_rules | `(tactic| kt_at_notin) => `(tactic| exact c_negative _ _)
local macro_rules | `(tactic| kt_at_notin) => `(tactic| (apply c_divide; assumption; kaf_pre))
local macro_rules | `(tactic| kt_at_notin) => `(tactic| (apply c_sign; ktr_units))
local macro_rules | `(tactic| kt_at_notin) => `(tactic| (apply c_is_at_most; kaf_pre))
local macro_rules | `(tactic| kt_at_notin) => `(tactic| (apply c_is_less; kaf_pre))
local macro_rules | `(tactic| kt_at_notin) => `(tactic| (apply c_compare; kaf_pre))
local macro_rules | `(tactic| kt_at_notin) => `(tactic| (apply c_subtract; kaf_pre))
local macro_rules | `(tactic| kt_at_notin) => `(tactic| (apply c_multiply; kaf_pre))
local macro_rules | `(tactic| kt_at_notin) => `(tactic| (apply c_add; kaf_pre))
local macro_rules | `(tactic| kt_at_notin) => `(tactic| exact c_draw _ _ _ _ (by decide))
local macro_rules | `(tactic| kt_at_notin) => `(tactic| exact c_divisor _ _ _ (by assumption))
local macro_rules | `(tactic| kt_at_notin) => `(tactic| (apply c_lfr; assumption; kt_at_in))
local macro_rules | `(tactic| kt_at_notin) => `(tactic| (apply c_less; kaf_pre))
local macro_rules | `(tactic| kt_at_notin) => `(tactic| (apply c_lmul; kaf_pre))
local macro_rules | `(tactic| kt_at_notin) => `(tactic| (apply c_lsub; kaf_pre))
local macro_rules | `(tactic| kt_at_notin) => `(tactic| (apply c_ladd; kaf_pre))
local macro_rules | `(tactic| kt_at_notin) => `(tactic| exact c_gcd _ _ _)
local macro_rules | `(tactic| kt_at_notin) => `(tactic| exact c_absolute _ _)
local macro_rules | `(tactic| kt_at_notin) => `(tactic| exact c_negative _ _)
local macro_rules | `(tactic| kt_at_notin) => `(tactic| (apply c_divide; assumption; kaf_pre))
local macro_rules | `(tactic| kt_at_notin) => `(tactic| (apply c_sign; ktr_units))
local macro_rules | `(tactic| kt_at_notin) => `(tactic| (apply c_is_at_most; kaf_pre))
local macro_rules | `(tactic| kt_at_notin) => `(tactic| (apply c_is_less; kaf_pre))
local macro_rules | `(tactic| kt_at_notin) => `(tactic| (apply c_compare; kaf_pre))
local macro_rules | `(tactic| kt_at_notin) => `(tactic| (apply c_subtract; kaf_pre))
local macro_rules | `(tactic| kt_at_notin) => `(tactic| (apply c_multiply; kaf_pre))
local macro_rules | `(tactic| kt_at_notin) => `(tactic| (apply c_add; kaf_pre))
local macro_rules | `(tactic| kt_at_notin) => `(tactic| exact c_draw _ _ _ _ (by decide))
local macro_rules | `(tactic| kt_at_notin) => `(tactic| exact c_divisor _ _ _ (by assumption))
local macro_rules | `(tactic| kt_at_notin) => `(tactic| (apply c_lfr; assumption; kt_at_in))
local macro_rules | `(tactic| kt_at_notin) => `(tactic| (apply c_less; kaf_pre))
local macro_rules | `(tactic| kt_at_notin) => `(tactic| (apply c_lmul; kaf_pre))
local macro_rules | `(tactic| kt_at_notin) => `(tactic| (apply c_lsub; kaf_pre))
local macro_rules | `(tactic| kt_at_notin) => `(tactic| (apply c_ladd; kaf_pre))
local macro_rules | `(tactic| kfm_turns) => `(tactic| (focus (decide +kernel)))
local macro_rules | `(tactic| kat_tups) => `(tactic| (apply q_nes <;> (focus (decide +kernel))))
local macro_rules | `(tactic| kat_tups) => `(tactic| (apply q_eqs <;> (focus (decide +kernel))))
local macro_rules | `(tactic| kt_at_notin) => `(tactic| (apply c_is_fr; ktr_units))
local macro_rules | `(tactic| kt_at_notin) => `(tactic| (apply c_value; assumption; (focus omega)))
local macro_rules | `(tactic| kt_at_notin) => `(tactic| exact c_fraction1 _ _)
local macro_rules | `(tactic| kt_at_notin) => `(tactic| (apply c_prod <;> assumption))
local macro_rules | `(tactic| kt_at_notin) => `(tactic| (apply c_det <;> assumption))
namespace Z
theorem x_overk {C : Cl} {env : En} {i : Nat} {ds : List D} (h : env[i]? = some (some (.lst ds, .lck))) : evI C (.over (.at i)) env = .ok (ds, none) env := by
  have h1 : evA C (.at i) env = .ok (.at i) env := x_at h
  simp only [evI, h1, Out.bind_ok, fill1, h, seqOf, lockOf]
theorem take_fmA {α β : Type} {f : α → Option β} {hs : List α} {j : Nat} {k : α} (h : hs[j]? = some k) : (hs.take (j + 1)).filterMap f = (hs.take j).filterMap f ++ (match f k with | some t => [t] | none => []) := by
  rw [List.take_succ, h, List.filterMap_append]
  congr 1
  simp only [Option.toList_some, List.filterMap_cons, List.filterMap_nil]
  cases f k <;> rfl
def cn (hs ks : List Hf) : List Ry := (0, 0) :: ks.flatMap fun l => foot l :: hs.filterMap (meet l)
theorem cn_len {hs ks : List Hf} : (cn hs ks).length ≤ 1 + ks.length * (1 + hs.length) := by
  unfold cn
  rw [List.length_cons]
  induction ks with
  | nil => simp
  | cons k l ih =>
    rw [List.flatMap_cons, List.length_append, List.length_cons, List.length_cons, Nat.succ_mul]
    have := List.length_filterMap_le (meet k) hs
    omega
theorem filt_map {α : Type} {P : α → Bool} {u : α → D} {l : List α} : (l.filter P).map u = l.filterMap (fun x => if P x = true then some (u x) else none) := by
  induction l with
  | nil => rfl
  | cons x l ih =>
    cases h : P x
    · rw [List.filter_cons_of_neg (by simp [h]), List.filterMap_cons, h, ih]
      rfl
    · rw [List.filter_cons_of_pos h, List.filterMap_cons, h, List.map_cons, ih]
      rfl
theorem cn_snoc {hs ks : List Hf} {l : Hf} : cn hs (ks ++ [l]) = cn hs ks ++ (foot l :: hs.filterMap (meet l)) := by
  unfold cn
  rw [List.flatMap_append]
  simp
theorem z_cand {hs : List Hf} {n : Nat} (ho : ∀ h ∈ hs, h.ok) (hz : ∀ h ∈ hs, h.z n) {x : Ry} (h : x ∈ cand hs) : sz x.1 ≤ 2 * n + 1 ∧ sz x.2 ≤ 2 * n + 1 := by
  unfold cand at h
  rcases List.mem_cons.mp h with rfl | h
  · have : sz (0 : Rat) = 1 := rfl
    exact ⟨by show sz (0 : Rat) ≤ _; omega, by show sz (0 : Rat) ≤ _; omega⟩
  · obtain ⟨l, hl, hx⟩ := List.mem_flatMap.mp h
    rcases List.mem_cons.mp hx with rfl | hx
    · exact z_foot (ho l hl) (hz l hl)
    · obtain ⟨k, hk, e⟩ := List.mem_filterMap.mp hx
      exact z_meet (hz l hl) (hz k hk) e
theorem c_lpoints (k : Nat) (hs : List Hf) (hlen : hs.length ≤ 20) (ho : ∀ h ∈ hs, h.ok) (hz : ∀ h ∈ hs, h.z 3) : RetB (callK tab.fns (k + 6)) i__law_points (.lst (hs.map hd)) [] (.lst ((pts hs).map rd)) true (.lst (hs.map hd)) := by
  have hz5 : ∀ h ∈ hs, h.z 5 := fun h hh => (hz h hh).mono (by decide)
  have e0 : D.lst [.tup [fr 0, fr 0]] = .lst ((cn hs (hs.take 0)).map rd) := rfl
  have hcomp : ∀ {s2 s3 s4 s5 : Sl}, Pl s5 → evE (callK tab.fns (k + 5)) (.comp [6, 5] (.nm 5) (.over (.at 1)) [(.val (.val (.call i__law_holds [(.at 0), (.at 5)])))] (.var 5)) [some (.lst (hs.map hd), .own), some (.lst ((cand hs).map rd), .own), s2, s3, s4, s5, none] = .ok (.lst ((pts hs).map rd), true) [some (.lst (hs.map hd), .own), some (.lst ((cand hs).map rd), .own), s2, s3, s4, s5, none] := by
    intro s2 s3 s4 s5 h5
    have hpl : plainAt [some (.lst (hs.map hd), .own), some (.lst ((cand hs).map rd), .lck), s2, s3, s4, s5, none] [6, 5] = true := by
      rcases h5 with rfl | ⟨d, rfl⟩ <;> rfl
    have e : (pts hs).map rd = (cand hs).filterMap (fun x => if hs.all (inH · x) then some (rd x) else none) := by
      unfold pts
      exact filt_map
    rw [e]
    have hl : (cand hs).length ≤ 1 + hs.length * (1 + hs.length) := cn_len (hs := hs) (ks := hs)
    have hb : hs.length * (1 + hs.length) ≤ 20 * 21 := Nat.mul_le_mul hlen (by omega)
    refine comp_pure (cand hs) rd _ (x_overo rfl) hpl rfl (Nat.le_of_lt (szl _ (by omega))) rfl rfl ?_
    intro x hx
    obtain ⟨z1, z2⟩ := z_cand ho hz hx
    have k1 : RetB (callK tab.fns (k + 5)) i__law_holds (.lst (hs.map hd)) [(rd x, .frz)] (.bl (hs.all (inH · x))) false (.lst (hs.map hd)) := c_lholds k hs x hz5 (by omega) (by omega)
    refine ⟨[some (.lst (hs.map hd), .own), some (.lst ((cand hs).map rd), .lck), s2, s3, s4, some (rd x, .frz), none], sg (x_setf rfl k_n rfl rfl), ?_⟩
    cases h : hs.all (inH · x) with
    | true =>
      rw [h] at k1
      exact .inl ⟨_, _, _, _, ts_one (x_T (x_val (x_call (x_as (x_at rfl) (x_as (x_at rfl) x_as0)) (y_do1 rfl (x_owna rfl x_own0) (x_argva rfl x_argv0) k1 rfl))) x_f1v x_tr), x_varf rfl, rfl, rfl⟩
    | false =>
      rw [h] at k1
      exact .inr ⟨_, ts_one (x_T (x_val (x_call (x_as (x_at rfl) (x_as (x_at rfl) x_as0)) (y_do1 rfl (x_owna rfl x_own0) (x_argva rfl x_argv0) k1 rfl))) x_f1v x_tr), rfl, rfl⟩
  apply v_fnB fn__law_points rfl
  walk_at "go"
  apply w_forL (lk := some 0) (fun j env => ∃ (s2 s3 s4 s5 : Sl), env = [some (.lst (hs.map hd), .lck), some (.lst ((cn hs (hs.take j)).map rd), .own), s2, s3, s4, s5, none] ∧ isLck s2 = false ∧ isLck s3 = false ∧ isLck s4 = false ∧ Pl s5) (x_overo rfl)
  · exact ⟨none, none, none, none, rfl, rfl, rfl, rfl, .inl rfl⟩
  · rintro j d env hd' ⟨s2, s3, s4, s5, rfl, h2, h3, h4, h5⟩
    have hl5 := h5.lck
    obtain ⟨l, hx, rfl⟩ := map_get hd'
    have hjl : j < hs.length := lt_of_get hx
    have hzl := hz l (List.mem_of_getElem? hx)
    have hol := ho l (List.mem_of_getElem? hx)
    have hN := nn_pos hol
    have hN0 : l.p * l.p + l.q * l.q ≠ 0 := by
      have : pd l l ≠ 0 := by omega
      exact this
    have bN : bi (l.p * l.p + l.q * l.q) ≤ 199 := Nat.le_trans (bi_pd hzl hzl) (by decide)
    have k1 : Ret (callK tab.fns (k + 5)) i__law_fr [(.int (l.r * l.p), .frz), (.int (l.p * l.p + l.q * l.q), .frz)] (fr (foot l).1) false := by
      rw [foot_eq, Int.mul_comm l.p l.r]
      exact c_lfr (k + 3) _ _ hN0 bN
    have k2 : Ret (callK tab.fns (k + 5)) i__law_fr [(.int (l.r * l.q), .frz), (.int (l.p * l.p + l.q * l.q), .frz)] (fr (foot l).2) false := by
      rw [foot_eq, Int.mul_comm l.q l.r]
      exact c_lfr (k + 3) _ _ hN0 bN
    obtain ⟨b1, b2, b3⟩ := hzl
    have q0 : prB .ix [hd l, .int 0] = some (.int l.p, false) := q_ixt at_ix0
    have q1 : prB .ix [hd l, .int 1] = some (.int l.q, false) := q_ixt at_ix1
    have q2 : prB .ix [hd l, .int 2] = some (.int l.r, false) := q_ixt at_ix2
    have hcl : (cn hs (hs.take j)).length ≤ 421 := by
      have h1 := cn_len (hs := hs) (ks := hs.take j)
      have h2 : (hs.take j).length * (1 + hs.length) ≤ 20 * 21 := Nat.mul_le_mul (by rw [List.length_take]; omega) (by omega)
      omega
    have hsz : ((cn hs (hs.take j)).map rd).length < sizeLine := szl _ (by rw [List.length_map]; omega)
    apply w_turn (x_setf rfl h2 rfl rfl)
    simp only [List.set_cons_zero, List.set_cons_succ]
    walk_at "go"
    apply w_for (fun i env => ∃ (s4 s5 : Sl), env = [some (.lst (hs.map hd), .lck), some (.lst ((cn hs (hs.take j) ++ (foot l :: (hs.take i).filterMap (meet l))).map rd), .own), some (hd l, .frz), some (.int (l.p * l.p + l.q * l.q), .frz), s4, s5, none] ∧ isLck s4 = false ∧ Pl s5) (x_overk rfl)
    · refine ⟨s4, s5, ?_, h4, h5⟩
      have : (cn hs (hs.take j)).map rd ++ [.tup [fr (foot l).1, fr (foot l).2]] = (cn hs (hs.take j) ++ (foot l :: (hs.take 0).filterMap (meet l))).map rd := by
        rw [List.map_append]
        rfl
      rw [this]
    · rintro i d env hd2 ⟨s4, s5, rfl, h4, h5⟩
      have hl5 := h5.lck
      obtain ⟨o, hy, rfl⟩ := map_get hd2
      have hil : i < hs.length := lt_of_get hy
      have hzo := hz5 o (List.mem_of_getElem? hy)
      have k3 : Ret (callK tab.fns (k + 5)) i__law_meet [(hd l, .frz), (hd o, .frz)] (ryO (meet l o)) false := c_lmeet (k + 2) l o (hz5 l (List.mem_of_getElem? hx)) hzo
      have e := take_fmA (f := meet l) hy
      have hsz2 : ((cn hs (hs.take j) ++ (foot l :: (hs.take i).filterMap (meet l))).map rd).length < sizeLine := szl _ (by
        rw [List.length_map, List.length_append, List.length_cons]
        have := List.length_filterMap_le (meet l) (hs.take i)
        rw [List.length_take] at this
        omega)
      apply w_turn (x_setf rfl h4 rfl rfl)
      simp only [List.set_cons_zero, List.set_cons_succ]
      cases c : meet l o with
      | none =>
        rw [c] at k3 e
        simp only [ryO] at k3
        simp only [List.append_nil] at e
        walk_at "go"
        rw [← e]
        exact w_nil ⟨_, _, rfl, k_f, .inr ⟨_, rfl⟩⟩
      | some x =>
        rw [c] at k3 e
        simp only [ryO] at k3
        simp only at e
        have qn : prB .notn [rd x] = some (.bl true, false) := rfl
        walk_at "go"
        have e2 : (cn hs (hs.take j) ++ (foot l :: (hs.take i).filterMap (meet l))).map rd ++ [rd x] = (cn hs (hs.take j) ++ (foot l :: (hs.take (i + 1)).filterMap (meet l))).map rd := by
          rw [e]
          simp
        rw [e2]
        exact w_nil ⟨_, _, rfl, k_f, .inr ⟨_, rfl⟩⟩
    · rintro env ⟨s4, s5, rfl, h4, h5⟩
      rw [List.length_map, List.take_length, ← cn_snoc, ← take_snoc hx]
      exact w_nil ⟨_, _, _, _, rfl, k_f, k_f, h4, h5⟩
  · rintro env ⟨s2, s3, s4, s5, rfl, h2, h3, h4, h5⟩
    rw [List.length_map, List.take_length]
    simp only [unlock, List.getElem?_cons_zero, List.set_cons_zero]
    walk_at "go"
    exact hcomp h5
    walk_at "go"
    exact ⟨rfl, rfl, rfl⟩
end Z
end
section
local macro_rules | `(tactic| kt_at_notin) => `(tactic| exact c_gcd _ _ _)
local macro_rules | `(tactic| kt_at_notin) => `(tactic| exact c_absolute _ _)
local macro_rules | `(tactic| kt_at_notin) => `(tactic| exact c_negative _ _)
local macro_rules | `(tactic| kt_at_notin) => `(tactic| (apply c_divide; assumption; kaf_pre))
local macro_rules | `(tactic| kt_at_notin) => `(tactic| (apply c_sign; ktr_units))
local macro_rules | `(tactic| kt_at_notin) => `(tactic| (apply c_is_at_most; kaf_pre))
local macro_rules | `(tactic| kt_at_notin) => `(tactic| (apply c_is_less; kaf_pre))
local macro_rules | `(tactic| kt_at_notin) => `(tactic| (apply c_compare; kaf_pre))
local macro_rules | `(tactic| kt_at_notin) => `(tactic| (apply c_subtract; kaf_pre))
local macro_rules | `(tactic| kt_at_notin) => `(tactic| (apply c_multiply; kaf_pre))
local macro_rules | `(tactic| kt_at_notin) => `(tactic| (apply c_add; kaf_pre))
local macro_rules | `(tactic| kt_at_notin) => `(tactic| exact c_draw _ _ _ _ (by decide))
local macro_rules | `(tactic| kt_at_notin) => `(tactic| exact c_divisor _ _ _ (by assumption))
local macro_rules | `(tactic| kt_at_notin) => `(tactic| (apply c_lfr; assumption; kt_at_in))
local macro_rules | `(tactic| kt_at_notin) => `(tactic| (apply c_less; kaf_pre))
local macro_rules | `(tactic| kt_at_notin) => `(tactic| (apply c_lmul; kaf_pre))
local macro_rules | `(tactic| kt_at_notin) => `(tactic| (apply c_lsub; kaf_pre))
local macro_rules | `(tactic| kt_at_notin) => `(tactic| (apply c_ladd; kaf_pre))
local macro_rules | `(tactic| kt_at_notin) => `(tactic| exact c_gcd _ _ _)
local macro_rules | `(tactic| kt_at_notin) => `(tactic| exact c_absolute _ _)
local macro_rules | `(tactic| kt_at_notin) => `(tactic| exact c_negative _ _)
local macro_rules | `(tactic| kt_at_notin) => `(tactic| (apply c_divide; assumption; kaf_pre))
local macro_rules | `(tactic| kt_at_notin) => `(tactic| (apply c_sign; ktr_units))
local macro_rules | `(tactic| kt_at_notin) => `(tactic| (apply c_is_at_most; kaf_pre))
local macro_rules | `(tactic| kt_at_notin) => `(tactic| (apply c_is_less; kaf_pre))
local macro_rules | `(tactic| kt_at_notin) => `(tactic| (apply c_compare; kaf_pre))
local macro_rules | `(tactic| kt_at_notin) => `(tactic| (apply c_subtract; kaf_pre))
local macro_rules | `(tactic| kt_at_notin) => `(tactic| (apply c_multiply; kaf_pre))
local macro_rules | `(tactic| kt_at_notin) => `(tactic| (apply c_add; kaf_pre))
local macro_rules | `(tactic| kt_at_notin) => `(tactic| exact c_draw _ _ _ _ (by decide))
local macro_rules | `(tactic| kt_at_notin) => `(tactic| exact c_divisor _ _ _ (by assumption))
local macro_rules | `(tactic| kt_at_notin) => `(tactic| (apply c_lfr; assumption; kt_at_in))
local macro_rules | `(tactic| kt_at_notin) => `(tactic| (apply c_less; kaf_pre))
local macro_rules | `(tactic| kt_at_notin) => `(tactic| (apply c_lmul; kaf_pre))
local macro_rules | `(tactic| kt_at_notin) => `(tactic| (apply c_lsub; kaf_pre))
local macro_rules | `(tactic| kt_at_notin) => `(tactic| (apply c_ladd; kaf_pre))
local macro_rules | `(tactic| kfm_turns) => `(tactic| (focus (decide +kernel)))
local macro_rules | `(tactic| kat_tups) => `(tactic| (apply q_nes <;> (focus (decide +kernel))))
local macro_rules | `(tactic| kat_tups) => `(tactic| (apply q_eqs <;> (focus (decide +kernel))))
local macro_rules | `(tactic| kt_at_notin) => `(tactic| (apply c_is_fr; ktr_units))
local macro_rules | `(tactic| kt_at_notin) => `(tactic| (apply c_value; assumption; (focus omega)))
local macro_rules | `(tactic| kt_at_notin) => `(tactic| exact c_fraction1 _ _)
local macro_rules | `(tactic| kt_at_notin) => `(tactic| (apply c_prod <;> assumption))
local macro_rules | `(tactic| kt_at_notin) => `(tactic| (apply c_det <;> assumption))
end
section
local macro_rules | `(tactic| kt_at_notin) => `(tactic| exact c_gcd _ _ _)
local macro_rules | `(tactic| kt_at_notin) => `(tactic| exact c_absolute _ _)
local macro_rules | `(tactic| kt_at_notin) => `(tactic| exact c_negative _ _)
local macro_rules | `(tactic| kt_at_notin) => `(tactic| (apply c_divide; assumption; kaf_pre))
local macro_rules | `(tactic| kt_at_notin) => `(tactic| (apply c_sign; ktr_units))
local macro_rules | `(tactic| kt_at_notin) => `(tactic| (apply c_is_at_most; kaf_pre))
local macro_rules | `(tactic| kt_at_notin) => `(tactic| (apply c_is_less; kaf_pre))
local macro_rules | `(tactic| kt_at_notin) => `(tactic| (apply c_compare; kaf_pre))
local macro_rules | `(tactic| kt_at_notin) => `(tactic| (apply c_subtract; kaf_pre))
local macro_rules | `(tactic| kt_at_notin) => `(tactic| (apply c_multiply; kaf_pre))
local macro_rules | `(tactic| kt_at_notin) => `(tactic| (apply c_add; kaf_pre))
local macro_rules | `(tactic| kt_at_notin) => `(tactic| exact c_draw _ _ _ _ (by decide))
local macro_rules | `(tactic| kt_at_notin) => `(tactic| exact c_divisor _ _ _ (by assumption))
local macro_rules | `(tactic| kt_at_notin) => `(tactic| (apply c_lfr; assumption; kt_at_in))
local macro_rules | `(tactic| kt_at_notin) => `(tactic| (apply c_less; kaf_pre))
local macro_rules | `(tactic| kt_at_notin) => `(tactic| (apply c_lmul; kaf_pre))
local macro_rules | `(tactic| kt_at_notin) => `(tactic| (apply c_lsub; kaf_pre))
local macro_rules | `(tactic| kt_at_notin) => `(tactic| (apply c_ladd; kaf_pre))
local macro_rules | `(tactic| kt_at_notin) => `(tactic| exact c_gcd _ _ _)
local macro_rules | `(tactic| kt_at_notin) => `(tactic| exact c_absolute _ _)
local macro_rules | `(tactic| kt_at_notin) => `(tactic| exact c_negative _ _)
local macro_rules | `(tactic| kt_at_notin) => `(tactic| (apply c_divide; assumption; kaf_pre))
local macro_rules | `(tactic| kt_at_notin) => `(tactic| (apply c_sign; ktr_units))
local macro_rules | `(tactic| kt_at_notin) => `(tactic| (apply c_is_at_most; kaf_pre))
local macro_rules | `(tactic| kt_at_notin) => `(tactic| (apply c_is_less; kaf_pre))
local macro_rules | `(tactic| kt_at_notin) => `(tactic| (apply c_compare; kaf_pre))
local macro_rules | `(tactic| kt_at_notin) => `(tactic| (apply c_subtract; kaf_pre))
local macro_rules | `(tactic| kt_at_notin) => `(tactic| (apply c_multiply; kaf_pre))
local macro_rules | `(tactic| kt_at_notin) => `(tactic| (apply c_add; kaf_pre))
local macro_rules | `(tactic| kt_at_notin) => `(tactic| exact c_draw _ _ _ _ (by decide))
local macro_rules | `(tactic| kt_at_notin) => `(tactic| exact c_divisor _ _ _ (by assumption))
local macro_rules | `(tactic| kt_at_notin) => `(tactic| (apply c_lfr; assumption; kt_at_in))
local macro_rules | `(tactic| kt_at_notin) => `(tactic| (apply c_less; kaf_pre))
local macro_rules | `(tactic| kt_at_notin) => `(tactic| (apply c_lmul; kaf_pre))
local macro_rules | `(tactic| kt_at_notin) => `(tactic| (apply c_lsub; kaf_pre))
local macro_rules | `(tactic| kt_at_notin) => `(tactic| (apply c_ladd; kaf_pre))
local macro_rules | `(tactic| kfm_turns) => `(tactic| (focus (decide +kernel)))
local macro_rules | `(tactic| kat_tups) => `(tactic| (apply q_nes <;> (focus (decide +kernel))))
local macro_rules | `(tactic| kat_tups) => `(tactic| (apply q_eqs <;> (focus (decide +kernel))))
local macro_rules | `(tactic| kt_at_notin) => `(tactic| (apply c_is_fr; ktr_units))
local macro_rules | `(tactic| kt_at_notin) => `(tactic| (apply c_value; assumption; (focus omega)))
local macro_rules | `(tactic| kt_at_notin) => `(tactic| exact c_fraction1 _ _)
local macro_rules | `(tactic| kt_at_notin) => `(tactic| (apply c_prod <;> assumption))
local macro_rules | `(tactic| kt_at_notin) => `(tactic| (apply c_det <;> assumption))
namespace Z
abbrev Ct := List (Int × Rat)
def pkH (c : Int × Rat) : D := .tup [.int c.1, fr c.2]
def inC (hs : List Hf) (ct : Ct) : Prop := ∀ c ∈ ct, 0 ≤ c.1 ∧ c.1 < (hs.length : Int)
abbrev T3 := Rat × Rat × Rat
def zTt (t : T3) (n : Nat) : Prop := sz t.1 ≤ n ∧ sz t.2.1 ≤ n ∧ sz t.2.2 ≤ n
def t3 (t : T3) : D := .tup [fr t.1, fr t.2.1, fr t.2.2]
def atH (hs : List Hf) (i : Int) : Hf := hs.getD i.toNat ⟨0, 0, 0⟩
def tadd (hs : List Hf) (t : T3) (c : Int × Rat) : T3 := (t.1 + c.2 * ((atH hs c.1).p : Rat), t.2.1 + c.2 * ((atH hs c.1).q : Rat), t.2.2 + c.2 * ((atH hs c.1).r : Rat))
def totC (hs : List Hf) (ct : Ct) : T3 := ct.foldl (tadd hs) (0, 0, 0)
theorem pk_at {hs : List Hf} {i : Int} (h0 : 0 ≤ i) (h1 : i < (hs.length : Int)) : atI (hs.map hd) i = some (hd (atH hs i)) ∧ atH hs i ∈ hs := by
  obtain ⟨n, rfl⟩ : ∃ n : Nat, i = n := ⟨i.toNat, by omega⟩
  have hn : n < hs.length := by omega
  unfold atI ixN atH
  rw [List.length_map, if_pos (by omega), if_pos (by omega)]
  simp only [Option.bind_some, Int.toNat_natCast]
  rw [List.getElem?_map, List.getD_eq_getElem?_getD, List.getElem?_eq_getElem hn]
  exact ⟨rfl, List.getElem_mem hn⟩
theorem z_tadd {hs : List Hf} {t : T3} {c : Int × Rat} {n s m : Nat} (h : zTt t n) (hc : sz c.2 ≤ s) (hz : (atH hs c.1).z m) : zTt (tadd hs t c) (n + (s + m + 2)) := by
  obtain ⟨h1, h2, h3⟩ := h
  obtain ⟨z1, z2, z3⟩ := hz
  unfold tadd
  exact ⟨Nat.le_trans (ss_add h1 (ss_mul hc (sz_castb z1))) (by omega), Nat.le_trans (ss_add h2 (ss_mul hc (sz_castb z2))) (by omega), Nat.le_trans (ss_add h3 (ss_mul hc (sz_castb z3))) (by omega)⟩
theorem z_totl {hs : List Hf} {s m : Nat} (hz : ∀ h ∈ hs, h.z m) : ∀ (ct : Ct) (t : T3) (n : Nat), inC hs ct → (∀ c ∈ ct, sz c.2 ≤ s) → zTt t n → zTt (ct.foldl (tadd hs) t) (n + ct.length * (s + m + 2))
  | [], t, n, _, _, h => by
    rw [List.length_nil, Nat.zero_mul, Nat.add_zero]
    exact h
  | c :: ct, t, n, hi, hs', h => by
    have hc := hi c List.mem_cons_self
    have := z_totl hz ct (tadd hs t c) (n + (s + m + 2)) (fun c hc => hi c (List.mem_cons_of_mem _ hc)) (fun c hc => hs' c (List.mem_cons_of_mem _ hc)) (z_tadd h (hs' c List.mem_cons_self) (hz _ (pk_at hc.1 hc.2).2))
    rw [List.foldl_cons, List.length_cons, Nat.add_mul, Nat.one_mul]
    have e : n + (ct.length * (s + m + 2) + (s + m + 2)) = n + (s + m + 2) + ct.length * (s + m + 2) := by omega
    rw [e]
    exact this
theorem z_tot {hs : List Hf} {s m : Nat} (hz : ∀ h ∈ hs, h.z m) {ct : Ct} (hi : inC hs ct) (hs' : ∀ c ∈ ct, sz c.2 ≤ s) : zTt (totC hs ct) (1 + ct.length * (s + m + 2)) :=
  z_totl hz ct _ 1 hi hs' ⟨by decide, by decide, by decide⟩
theorem tot_take {hs : List Hf} {ct : Ct} {j : Nat} {c : Int × Rat} (h : ct[j]? = some c) : totC hs (ct.take (j + 1)) = tadd hs (totC hs (ct.take j)) c := by
  unfold totC
  rw [List.take_succ, h, List.foldl_append]
  rfl
theorem c_sum (k : Nat) (hs : List Hf) (ct : Ct) (hl : ct.length ≤ 8) (hi : inC hs ct) (hz : ∀ h ∈ hs, h.z 250) (hc : ∀ c ∈ ct, sz c.2 ≤ 100) : RetC (callK tab.fns (k + 4)) i_sum_of (.lst (hs.map hd)) (.lst (ct.map pkH)) [] (t3 (totC hs ct)) false (.lst (hs.map hd)) (.lst (ct.map pkH)) := by
  apply v_fnC fn_sum_of rfl
  walk_at "go"
  apply w_forL (lk := some 1) (fun j env => ∃ s3 s4 s5 : Sl, env = [some (.lst (hs.map hd), .own), some (.lst (ct.map pkH), .lck), some (t3 (totC hs (ct.take j)), .frz), s3, s4, s5, none, none] ∧ isLck s3 = false ∧ isLck s4 = false ∧ isLck s5 = false) (x_overo rfl)
  · exact ⟨none, none, none, rfl, rfl, rfl, rfl⟩
  · rintro j d env hd' ⟨s3, s4, s5, rfl, h3, h4, h5⟩
    obtain ⟨c, hx, rfl⟩ := map_get hd'
    have hcm := List.mem_of_getElem? hx
    have hjl : j < ct.length := lt_of_get hx
    obtain ⟨i0, i1⟩ := hi c hcm
    obtain ⟨at0, hm⟩ := pk_at i0 i1
    have hzc := hz _ hm
    have hcs := hc c hcm
    have zt := z_tot hz (ct := ct.take j) (fun c h => hi c (List.mem_of_mem_take h)) (fun c h => hc c (List.mem_of_mem_take h))
    obtain ⟨z1, z2, z3⟩ := zt
    have hlt : (ct.take j).length ≤ 7 := by rw [List.length_take]; omega
    have hmul : (ct.take j).length * (100 + 250 + 2) ≤ 7 * 352 := Nat.mul_le_mul_right _ hlt
    rw [tot_take hx]
    unfold tadd
    generalize totC hs (ct.take j) = t at *
    generalize atH hs c.1 = h at *
    obtain ⟨hp, hq, hr⟩ := hzc
    have cp := sz_castb hp
    have cq := sz_castb hq
    have cr := sz_castb hr
    have m1 := ss_mul hcs cp
    have m2 := ss_mul hcs cq
    have m3 := ss_mul hcs cr
    obtain ⟨ci, cm⟩ := c
    simp only at *
    have w1 : Ret (callK tab.fns (k + 3)) i_multiply [(fr cm, .frz), (fr (h.p : Rat), .frz)] (fr (cm * (h.p : Rat))) false := c_multiply k _ _ (by omega)
    have w2 : Ret (callK tab.fns (k + 3)) i_multiply [(fr cm, .frz), (fr (h.q : Rat), .frz)] (fr (cm * (h.q : Rat))) false := c_multiply k _ _ (by omega)
    have w3 : Ret (callK tab.fns (k + 3)) i_multiply [(fr cm, .frz), (fr (h.r : Rat), .frz)] (fr (cm * (h.r : Rat))) false := c_multiply k _ _ (by omega)
    have wm : ∀ n ∈ [h.p, h.q, h.r], Ret (callK tab.fns (k + 3)) i_multiply [(fr cm, .frz), (fr (n : Rat), .frz)] (fr (cm * (n : Rat))) false := by
      intro n hn
      simp only [List.mem_cons, List.not_mem_nil, or_false] at hn
      rcases hn with rfl | rfl | rfl
      · exact w1
      · exact w2
      · exact w3
    have a1 : Ret (callK tab.fns (k + 3)) i_add [(fr t.1, .frz), (fr (cm * (h.p : Rat)), .frz)] (fr (t.1 + cm * (h.p : Rat))) false := c_add k _ _ (by omega)
    have a2 : Ret (callK tab.fns (k + 3)) i_add [(fr t.2.1, .frz), (fr (cm * (h.q : Rat)), .frz)] (fr (t.2.1 + cm * (h.q : Rat))) false := c_add k _ _ (by omega)
    have a3 : Ret (callK tab.fns (k + 3)) i_add [(fr t.2.2, .frz), (fr (cm * (h.r : Rat)), .frz)] (fr (t.2.2 + cm * (h.r : Rat))) false := c_add k _ _ (by omega)
    clear w1 w2 w3
    simp only [pkH, t3]
    apply w_turnT (is := [3, 4]) (x_all (x_setf rfl h3 rfl rfl) (x_all (x_setf rfl h4 rfl rfl) x_all0))
    simp only [List.set_cons_zero, List.set_cons_succ]
    have hix : prB .ix [.lst (hs.map hd), .int ci] = some (hd h, false) := q_ixl at0
    have comp1 : evE (callK tab.fns (k + 3)) (.comp [6, 7] (.nm 7) (.over (.val (.op .ix [(.at 0), (.at 3)]))) [] (.call 4 [(.at 4), (.val (.call 1 [(.at 7)]))])) [some (.lst (hs.map hd), .own), some (.lst (ct.map pkH), .lck), some (.tup [fr t.1, fr t.2.1, fr t.2.2], .frz), some (.int ci, .frz), some (fr cm, .frz), s5, none, none]
        = .ok (.lst [fr (cm * (h.p : Rat)), fr (cm * (h.q : Rat)), fr (cm * (h.r : Rat))], true) [some (.lst (hs.map hd), .own), some (.lst (ct.map pkH), .lck), some (.tup [fr t.1, fr t.2.1, fr t.2.2], .frz), some (.int ci, .frz), some (fr cm, .frz), s5, none, none] := by
      refine comp_pure [h.p, h.q, h.r] D.int (fun (n : Int) => some (fr (cm * (n : Rat)))) (x_overv (x_op (x_as (x_at rfl) (x_as (x_at rfl) x_as0)) (x_filla rfl (x_filla rfl x_fill0)) hix) rfl) rfl rfl (szp _ (by show 3 ≤ 1000000; decide)) rfl rfl ?_
      intro n hn
      have f1 : Ret (callK tab.fns (k + 3)) i_fraction [(.int n, .frz)] (fr (n : Rat)) false := c_fraction1 (k + 1) n
      have m1 := wm n hn
      exact ⟨_, sg (x_setf rfl k_n rfl rfl), .inl ⟨_, _, _, _, ts_nil, x_call (x_as (x_at rfl) (x_as (x_val (x_call (x_as (x_at rfl) x_as0) (y_do0 rfl rfl f1))) x_as0)) (y_do0 rfl rfl m1), rfl, rfl⟩⟩
    walk_at "go"
    exact w_nil ⟨_, _, _, rfl, k_f, k_f, k_o⟩
  · rintro env ⟨s3, s4, s5, rfl, h3, h4, h5⟩
    rw [List.length_map, List.take_length]
    simp only [unlock, List.getElem?_cons_zero, List.set_cons_zero, List.getElem?_cons_succ, List.set_cons_succ]
    walk_at "go"
    exact ⟨rfl, rfl, rfl, rfl⟩
end Z
end
section
local macro_rules | `(tactic| kt_at_notin) => `(tactic| exact c_gcd _ _ _)
local macro_rules | `(tactic| kt_at_notin) => `(tactic| exact c_absolute _ _)
local macro_rules | `(tactic| kt_at_notin) => `(tactic| exact c_negative _ _)
local macro_rules | `(tactic| kt_at_notin) => `(tactic| (apply c_divide; assumption; kaf_pre))
local macro_rules | `(tactic| kt_at_notin) => `(tactic| (apply c_sign; ktr_units))
local macro_rules | `(tactic| kt_at_notin) => `(tactic| (apply c_is_at_most; kaf_pre))
local macro_rules | `(tactic| kt_at_notin) => `(tactic| (apply c_is_less; kaf_pre))
local macro_rules | `(tactic| kt_at_notin) => `(tactic| (apply c_compare; kaf_pre))
local macro_rules | `(tactic| kt_at_notin) => `(tactic| (apply c_subtract; kaf_pre))
local macro_rules | `(tactic| kt_at_notin) => `(tactic| (apply c_multiply; kaf_pre))
local macro_rules | `(tactic| kt_at_notin) => `(tactic| (apply c_add; kaf_pre))
local macro_rules | `(tactic| kt_at_notin) => `(tactic| exact c_draw _ _ _ _ (by decide))
local macro_rules | `(tactic| kt_at_notin) => `(tactic| exact c_divisor _ _ _ (by assumption))
local macro_rules | `(tactic| kt_at_notin) => `(tactic| (apply c_lfr; assumption; kt_at_in))
local macro_rules | `(tactic| kt_at_notin) => `(tactic| (apply c_less; kaf_pre))
local macro_rules | `(tactic| kt_at_notin) => `(tactic| (apply c_lmul; kaf_pre))
local macro_rules | `(tactic| kt_at_notin) => `(tactic| (apply c_lsub; kaf_pre))
local macro_rules | `(tactic| kt_at_notin) => `(tactic| (apply c_ladd; kaf_pre))
local macro_rules | `(tactic| kt_at_notin) => `(tactic| exact c_gcd _ _ _)
local macro_rules | `(tactic| kt_at_notin) => `(tactic| exact c_absolute _ _)
local macro_rules | `(tactic| kt_at_notin) => `(tactic| exact c_negative _ _)
local macro_rules | `(tactic| kt_at_notin) => `(tactic| (apply c_divide; assumption; kaf_pre))
local macro_rules | `(tactic| kt_at_notin) => `(tactic| (apply c_sign; ktr_units))
local macro_rules | `(tactic| kt_at_notin) => `(tactic| (apply c_is_at_most; kaf_pre))
local macro_rules | `(tactic| kt_at_notin) => `(tactic| (apply c_is_less; kaf_pre))
local macro_rules | `(tactic| kt_at_notin) => `(tactic| (apply c_compare; kaf_pre))
local macro_rules | `(tactic| kt_at_notin) => `(tactic| (apply c_subtract; kaf_pre))
local macro_rules | `(tactic| kt_at_notin) => `(tactic| (apply c_multiply; kaf_pre))
local macro_rules | `(tactic| kt_at_notin) => `(tactic| (apply c_add; kaf_pre))
local macro_rules | `(tactic| kt_at_notin) => `(tactic| exact c_draw _ _ _ _ (by decide))
local macro_rules | `(tactic| kt_at_notin) => `(tactic| exact c_divisor _ _ _ (by assumption))
local macro_rules | `(tactic| kt_at_notin) => `(tactic| (apply c_lfr; assumption; kt_at_in))
local macro_rules | `(tactic| kt_at_notin) => `(tactic| (apply c_less; kaf_pre))
local macro_rules | `(tactic| kt_at_notin) => `(tactic| (apply c_lmul; kaf_pre))
local macro_rules | `(tactic| kt_at_notin) => `(tactic| (apply c_lsub; kaf_pre))
local macro_rules | `(tactic| kt_at_notin) => `(tactic| (apply c_ladd; kaf_pre))
local macro_rules | `(tactic| kfm_turns) => `(tactic| (focus (decide +kernel)))
local macro_rules | `(tactic| kat_tups) => `(tactic| (apply q_nes <;> (focus (decide +kernel))))
local macro_rules | `(tactic| kat_tups) => `(tactic| (apply q_eqs <;> (focus (decide +kernel))))
local macro_rules | `(tactic| kt_at_notin) => `(tactic| (apply c_is_fr; ktr_units))
local macro_rules | `(tactic| kt_at_notin) => `(tactic| (apply c_value; assumption; (focus omega)))
local macro_rules | `(tactic| kt_at_notin) => `(tactic| exact c_fraction1 _ _)
local macro_rules | `(tactic| kt_at_notin) => `(tactic| (apply c_prod <;> assumption))
local macro_rules | `(tactic| kt_at_notin) => `(tactic| (apply c_det <;> assumption))
namespace Z
theorem w_unpl {C : Cl} {pin : Nat → Bool} {p : Po} {env e1 e2 : En} {ds : List D} {fr : Bool} {ss : List IS} {e : IE} {is : List Nat} (h1 : evE C e env = .ok (.lst ds, fr) e1) (h2 : setAll pin is ds e1 = .ok () e2) (h3 : Wp p (evSs C pin ss e2)) : Wp p (evSs C pin (.unpl is e :: ss) env) := by
  refine w_step ?_ h3
  simp only [evS, h1, h2, Out.bind_ok]
def wfB (hs : List Hf) : Int → Ct → Bool
  | _, [] => true
  | l, c :: ct => decide (l < c.1) && decide (c.1 < (hs.length : Int)) && decide (0 < c.2) && wfB hs c.1 ct
theorem wf_in {hs : List Hf} : ∀ {ct : Ct} {l : Int}, -1 ≤ l → wfB hs l ct = true → inC hs ct
  | [], _, _, _ => fun _ h => (nomatch h)
  | c :: ct, l, hl, h => by
    simp only [wfB, Bool.and_eq_true, decide_eq_true_eq] at h
    obtain ⟨⟨⟨h1, h2⟩, _⟩, h4⟩ := h
    intro d hd
    rcases List.mem_cons.mp hd with rfl | hd
    · exact ⟨by omega, h2⟩
    · exact wf_in (by omega) h4 d hd
theorem wf_drop {hs : List Hf} {ct : Ct} {j : Nat} {c : Int × Rat} (h : ct[j]? = some c) (l : Int) : wfB hs l (ct.drop j) = (decide (l < c.1) && decide (c.1 < (hs.length : Int)) && decide (0 < c.2) && wfB hs c.1 (ct.drop (j + 1))) := by
  have hj := lt_of_get h
  rw [List.getElem?_eq_getElem hj, Option.some.injEq] at h
  rw [List.drop_eq_getElem_cons hj, h]
  rfl
theorem cmpPo {p : Rat} : (cmp p 0 ≤ 0) ↔ ¬ 0 < p := by
  have := cmp_gt' (p := p)
  rw [decide_eq_decide] at this
  constructor
  · intro h1 h2
    have := this.mpr h2
    omega
  · intro h1
    by_cases h : 0 < cmp p 0
    · exact absurd (this.mp h) h1
    · omega
theorem c_wf (k : Nat) (hs : List Hf) (ct : Ct) (hl : hs.length ≤ 1000) (hc : ∀ c ∈ ct, sz c.2 ≤ 7000) : RetC (callK tab.fns (k + 3)) i_is_well_formed (.lst (hs.map hd)) (.lst (ct.map pkH)) [] (.bl (wfB hs (-1) ct)) false (.lst (hs.map hd)) (.lst (ct.map pkH)) := by
  apply v_fnC fn_is_well_formed rfl
  walk_at "go"
  apply w_forL (lk := some 1) (fun j env => ∃ (l : Int) (s3 s4 : Sl), env = [some (.lst (hs.map hd), .own), some (.lst (ct.map pkH), .lck), some (.int l, .frz), s3, s4] ∧ isLck s3 = false ∧ isLck s4 = false ∧ wfB hs (-1) ct = wfB hs l (ct.drop j)) (x_overo rfl)
  · exact ⟨-1, none, none, rfl, rfl, rfl, rfl⟩
  · rintro j d env hd' ⟨l, s3, s4, rfl, h3, h4, hw⟩
    obtain ⟨c, hx, rfl⟩ := map_get hd'
    have hcs := hc c (List.mem_of_getElem? hx)
    rw [wf_drop hx] at hw
    have hml : (hs.map hd).length = hs.length := List.length_map _
    obtain ⟨ci, cm⟩ := c
    simp only at *
    have k1 : Ret (callK tab.fns (k + 2)) i_sign [(fr cm, .frz)] (.int (cmp cm 0)) false := c_sign k cm hcs
    simp only [pkH]
    apply w_turnT (is := [3, 4]) (x_all (x_setf rfl h3 rfl rfl) (x_all (x_setf rfl h4 rfl rfl) x_all0))
    simp only [List.set_cons_zero, List.set_cons_succ]
    by_cases c1 : ci ≤ l
    · have e1 : decide (l < ci) = false := decide_eq_false (by omega)
      rw [e1, Bool.false_and, Bool.false_and, Bool.false_and] at hw
      walk_at "go"
      exact ⟨by rw [hw], rfl, rfl, rfl⟩
    · have e1 : decide (l < ci) = true := decide_eq_true (by omega)
      rw [e1, Bool.true_and] at hw
      by_cases c2 : ci ≥ (((hs.map hd).length : Nat) : Int)
      · have e2 : decide (ci < (hs.length : Int)) = false := decide_eq_false (by omega)
        rw [e2, Bool.false_and, Bool.false_and] at hw
        walk_at "go"
        exact ⟨by rw [hw], rfl, rfl, rfl⟩
      · have e2 : decide (ci < (hs.length : Int)) = true := decide_eq_true (by omega)
        rw [e2, Bool.true_and] at hw
        by_cases c3 : cmp cm 0 ≤ 0
        · rw [decide_eq_false (cmpPo.mp c3), Bool.false_and] at hw
          walk_at "go"
          exact ⟨by rw [hw], rfl, rfl, rfl⟩
        · have c4 : 0 < cm := by
            by_cases h : 0 < cm
            · exact h
            · exact absurd (cmpPo.mpr h) c3
          rw [decide_eq_true c4, Bool.true_and] at hw
          walk_at "go"
          exact w_nil ⟨ci, _, _, rfl, k_f, k_f, hw⟩
  · rintro env ⟨l, s3, s4, rfl, h3, h4, hw⟩
    rw [List.length_map] at hw
    rw [List.drop_length] at hw
    rw [hw]
    simp only [unlock, List.getElem?_cons_zero, List.set_cons_zero, List.getElem?_cons_succ, List.set_cons_succ]
    walk_at "go"
    exact ⟨rfl, rfl, rfl, rfl⟩
end Z
end
section
local macro_rules | `(tactic| kt_at_notin) => `(tactic| exact c_gcd _ _ _)
local macro_rules | `(tactic| kt_at_notin) => `(tactic| exact c_absolute _ _)
local macro_rules | `(tactic| kt_at_notin) => `(tactic| exact c_negative _ _)
local macro_rules | `(tactic| kt_at_notin) => `(tactic| (apply c_divide; assumption; kaf_pre))
local macro_rules | `(tactic| kt_at_notin) => `(tactic| (apply c_sign; ktr_units))
local macro_rules | `(tactic| kt_at_notin) => `(tactic| (apply c_is_at_most; kaf_pre))
local macro_rules | `(tactic| kt_at_notin) => `(tactic| (apply c_is_less; kaf_pre))
local macro_rules | `(tactic| kt_at_notin) => `(tactic| (apply c_compare; kaf_pre))
local macro_rules | `(tactic| kt_at_notin) => `(tactic| (apply c_subtract; kaf_pre))
local macro_rules | `(tactic| kt_at_notin) => `(tactic| (apply c_multiply; kaf_pre))
local macro_rules | `(tactic| kt_at_notin) => `(tactic| (apply c_add; kaf_pre))
local macro_rules | `(tactic| kt_at_notin) => `(tactic| exact c_draw _ _ _ _ (by decide))
local macro_rules | `(tactic| kt_at_notin) => `(tactic| exact c_divisor _ _ _ (by assumption))
local macro_rules | `(tactic| kt_at_notin) => `(tactic| (apply c_lfr; assumption; kt_at_in))
local macro_rules | `(tactic| kt_at_notin) => `(tactic| (apply c_less; kaf_pre))
local macro_rules | `(tactic| kt_at_notin) => `(tactic| (apply c_lmul; kaf_pre))
local macro_rules | `(tactic| kt_at_notin) => `(tactic| (apply c_lsub; kaf_pre))
local macro_rules | `(tactic| kt_at_notin) => `(tactic| (apply c_ladd; kaf_pre))
local macro_rules | `(tactic| kt_at_notin) => `(tactic| exact c_gcd _ _ _)
local macro_rules | `(tactic| kt_at_notin) => `(tactic| exact c_absolute _ _)
local macro_rules | `(tactic| kt_at_notin) => `(tactic| exact c_negative _ _)
local macro_rules | `(tactic| kt_at_notin) => `(tactic| (apply c_divide; assumption; kaf_pre))
local macro_rules | `(tactic| kt_at_notin) => `(tactic| (apply c_sign; ktr_units))
local macro_rules | `(tactic| kt_at_notin) => `(tactic| (apply c_is_at_most; kaf_pre))
local macro_rules | `(tactic| kt_at_notin) => `(tactic| (apply c_is_less; kaf_pre))
local macro_rules | `(tactic| kt_at_notin) => `(tactic| (apply c_compare; kaf_pre))
local macro_rules | `(tactic| kt_at_notin) => `(tactic| (apply c_subtract; kaf_pre))
local macro_rules | `(tactic| kt_at_notin) => `(tactic| (apply c_multiply; kaf_pre))
local macro_rules | `(tactic| kt_at_notin) => `(tactic| (apply c_add; kaf_pre))
local macro_rules | `(tactic| kt_at_notin) => `(tactic| exact c_draw _ _ _ _ (by decide))
local macro_rules | `(tactic| kt_at_notin) => `(tactic| exact c_divisor _ _ _ (by assumption))
local macro_rules | `(tactic| kt_at_notin) => `(tactic| (apply c_lfr; assumption; kt_at_in))
local macro_rules | `(tactic| kt_at_notin) => `(tactic| (apply c_less; kaf_pre))
local macro_rules | `(tactic| kt_at_notin) => `(tactic| (apply c_lmul; kaf_pre))
local macro_rules | `(tactic| kt_at_notin) => `(tactic| (apply c_lsub; kaf_pre))
local macro_rules | `(tactic| kt_at_notin) => `(tactic| (apply c_ladd; kaf_pre))
local macro_rules | `(tactic| kfm_turns) => `(tactic| (focus (decide +kernel)))
local macro_rules | `(tactic| kat_tups) => `(tactic| (apply q_nes <;> (focus (decide +kernel))))
local macro_rules | `(tactic| kat_tups) => `(tactic| (apply q_eqs <;> (focus (decide +kernel))))
local macro_rules | `(tactic| kt_at_notin) => `(tactic| (apply c_is_fr; ktr_units))
local macro_rules | `(tactic| kt_at_notin) => `(tactic| (apply c_value; assumption; (focus omega)))
local macro_rules | `(tactic| kt_at_notin) => `(tactic| exact c_fraction1 _ _)
local macro_rules | `(tactic| kt_at_notin) => `(tactic| (apply c_prod <;> assumption))
local macro_rules | `(tactic| kt_at_notin) => `(tactic| (apply c_det <;> assumption))
namespace Z
def verE (hs : List Hf) (ct : Ct) : Bool := wfB hs (-1) ct && (decide ((totC hs ct).1 = 0) && (decide ((totC hs ct).2.1 = 0) && decide ((totC hs ct).2.2 < 0)))
theorem z_tot' {hs : List Hf} {ct : Ct} (hl : ct.length ≤ 8) (hi : inC hs ct) (hz : ∀ h ∈ hs, h.z 250) (hc : ∀ c ∈ ct, sz c.2 ≤ 100) : zTt (totC hs ct) 2817 := by
  obtain ⟨a, b, c⟩ := z_tot hz hi hc
  have : ct.length * (100 + 250 + 2) ≤ 8 * 352 := Nat.mul_le_mul_right _ hl
  exact ⟨by omega, by omega, by omega⟩
theorem c_verE (k : Nat) (hs : List Hf) (ct : Ct) (hl : hs.length ≤ 1000) (hl2 : ct.length ≤ 8) (hz : ∀ h ∈ hs, h.z 250) (hc : ∀ c ∈ ct, sz c.2 ≤ 100) : RetC (callK tab.fns (k + 5)) i_verify_emptiness (.lst (hs.map hd)) (.lst (ct.map pkH)) [] (.bl (verE hs ct)) false (.lst (hs.map hd)) (.lst (ct.map pkH)) := by
  have k1 : RetC (callK tab.fns (k + 4)) i_is_well_formed (.lst (hs.map hd)) (.lst (ct.map pkH)) [] (.bl (wfB hs (-1) ct)) false (.lst (hs.map hd)) (.lst (ct.map pkH)) := c_wf (k + 1) hs ct hl (fun c h => Nat.le_trans (hc c h) (by decide))
  unfold verE
  cases hw : wfB hs (-1) ct with
  | false =>
    rw [hw] at k1
    apply v_fnC fn_verify_emptiness rfl
    walk_at "go"
    exact ⟨rfl, rfl, rfl, rfl⟩
  | true =>
    rw [hw] at k1
    have hi := wf_in (Int.le_refl _) hw
    have k2 := c_sum k hs ct hl2 hi hz hc
    obtain ⟨_, _, z3⟩ := z_tot' hl2 hi hz hc
    generalize totC hs ct = t at *
    have k3 : Ret (callK tab.fns (k + 4)) i_sign [(fr t.2.2, .frz)] (.int (cmp t.2.2 0)) false := c_sign (k + 2) _ (by omega)
    have q1 : ∀ q : Rat, prB .eq [fr q, .tup [.int 0, .int 1]] = some (.bl (decide (q = 0)), false) := fun q => q_eq0
    have q3 : decide (cmp t.2.2 0 < 0) = decide (t.2.2 < 0) := decide_eq_decide.mpr cmp_neg
    simp only [t3] at k2
    rw [Bool.true_and]
    cases c1 : decide (t.1 = 0) with
    | false =>
      have q1 := q1 t.1
      rw [c1] at q1
      apply v_fnC fn_verify_emptiness rfl
      walk_at "go"
      exact ⟨rfl, rfl, rfl, rfl⟩
    | true =>
      have q2 := q1 t.2.1
      have q1 := q1 t.1
      rw [c1] at q1
      cases c2 : decide (t.2.1 = 0) with
      | false =>
        rw [c2] at q2
        apply v_fnC fn_verify_emptiness rfl
        walk_at "go"
        exact ⟨rfl, rfl, rfl, rfl⟩
      | true =>
        rw [c2] at q2
        apply v_fnC fn_verify_emptiness rfl
        walk_at "go"
        exact ⟨by rw [q3]; rfl, rfl, rfl, rfl⟩
end Z
end
section
local macro_rules | `(tactic| kt_at_notin) => `(tactic| exact c_gcd _ _ _)
local macro_rules | `(tactic| kt_at_notin) => `(tactic| exact c_absolute _ _)
local macro_rules | `(tactic| kt_at_notin) => `(tactic| exact c_negative _ _)
local macro_rules | `(tactic| kt_at_notin) => `(tactic| (apply c_divide; assumption; kaf_pre))
local macro_rules | `(tactic| kt_at_notin) => `(tactic| (apply c_sign; ktr_units))
local macro_rules | `(tactic| kt_at_notin) => `(tactic| (apply c_is_at_most; kaf_pre))
local macro_rules | `(tactic| kt_at_notin) => `(tactic| (apply c_is_less; kaf_pre))
local macro_rules | `(tactic| kt_at_notin) => `(tactic| (apply c_compare; kaf_pre))
local macro_rules | `(tactic| kt_at_notin) => `(tactic| (apply c_subtract; kaf_pre))
local macro_rules | `(tactic| kt_at_notin) => `(tactic| (apply c_multiply; kaf_pre))
local macro_rules | `(tactic| kt_at_notin) => `(tactic| (apply c_add; kaf_pre))
local macro_rules | `(tactic| kt_at_notin) => `(tactic| exact c_draw _ _ _ _ (by decide))
local macro_rules | `(tactic| kt_at_notin) => `(tactic| exact c_divisor _ _ _ (by assumption))
local macro_rules | `(tactic| kt_at_notin) => `(tactic| (apply c_lfr; assumption; kt_at_in))
local macro_rules | `(tactic| kt_at_notin) => `(tactic| (apply c_less; kaf_pre))
local macro_rules | `(tactic| kt_at_notin) => `(tactic| (apply c_lmul; kaf_pre))
local macro_rules | `(tactic| kt_at_notin) => `(tactic| (apply c_lsub; kaf_pre))
local macro_rules | `(tactic| kt_at_notin) => `(tactic| (apply c_ladd; kaf_pre))
local macro_rules | `(tactic| kt_at_notin) => `(tactic| exact c_gcd _ _ _)
local macro_rules | `(tactic| kt_at_notin) => `(tactic| exact c_absolute _ _)
local macro_rules | `(tactic| kt_at_notin) => `(tactic| exact c_negative _ _)
local macro_rules | `(tactic| kt_at_notin) => `(tactic| (apply c_divide; assumption; kaf_pre))
local macro_rules | `(tactic| kt_at_notin) => `(tactic| (apply c_sign; ktr_units))
local macro_rules | `(tactic| kt_at_notin) => `(tactic| (apply c_is_at_most; kaf_pre))
local macro_rules | `(tactic| kt_at_notin) => `(tactic| (apply c_is_less; kaf_pre))
local macro_rules | `(tactic| kt_at_notin) => `(tactic| (apply c_compare; kaf_pre))
local macro_rules | `(tactic| kt_at_notin) => `(tactic| (apply c_subtract; kaf_pre))
local macro_rules | `(tactic| kt_at_notin) => `(tactic| (apply c_multiply; kaf_pre))
local macro_rules | `(tactic| kt_at_notin) => `(tactic| (apply c_add; kaf_pre))
local macro_rules | `(tactic| kt_at_notin) => `(tactic| exact c_draw _ _ _ _ (by decide))
local macro_rules | `(tactic| kt_at_notin) => `(tactic| exact c_divisor _ _ _ (by assumption))
local macro_rules | `(tactic| kt_at_notin) => `(tactic| (apply c_lfr; assumption; kt_at_in))
local macro_rules | `(tactic| kt_at_notin) => `(tactic| (apply c_less; kaf_pre))
local macro_rules | `(tactic| kt_at_notin) => `(tactic| (apply c_lmul; kaf_pre))
local macro_rules | `(tactic| kt_at_notin) => `(tactic| (apply c_lsub; kaf_pre))
local macro_rules | `(tactic| kt_at_notin) => `(tactic| (apply c_ladd; kaf_pre))
local macro_rules | `(tactic| kfm_turns) => `(tactic| (focus (decide +kernel)))
local macro_rules | `(tactic| kat_tups) => `(tactic| (apply q_nes <;> (focus (decide +kernel))))
local macro_rules | `(tactic| kat_tups) => `(tactic| (apply q_eqs <;> (focus (decide +kernel))))
local macro_rules | `(tactic| kt_at_notin) => `(tactic| (apply c_is_fr; ktr_units))
local macro_rules | `(tactic| kt_at_notin) => `(tactic| (apply c_value; assumption; (focus omega)))
local macro_rules | `(tactic| kt_at_notin) => `(tactic| exact c_fraction1 _ _)
local macro_rules | `(tactic| kt_at_notin) => `(tactic| (apply c_prod <;> assumption))
local macro_rules | `(tactic| kt_at_notin) => `(tactic| (apply c_det <;> assumption))
namespace Z
def gz3 (x y z : Int) : Int := gz (gz x y) z
def bal0 (x y z : Int) : Option (List Int) := if x ≤ 0 ∨ y ≤ 0 ∨ z ≤ 0 then none else some [x / gz3 x y z, y / gz3 x y z, z / gz3 x y z]
def balW (a b c : Hf) : Option (List Int) := if dm b c < 0 ∨ dm c a < 0 ∨ dm a b < 0 then bal0 (-(dm b c)) (-(dm c a)) (-(dm a b)) else bal0 (dm b c) (dm c a) (dm a b)
def wD (o : Option (List Int)) : D := match o with
  | none => .non
  | some l => .lst (l.map D.int)
theorem min3_lt {x y z : Int} : minOf x [y, z] < 0 ↔ x < 0 ∨ y < 0 ∨ z < 0 := by
  unfold minOf
  simp only [List.foldl_cons, List.foldl_nil]
  by_cases h1 : y < x
  · simp only [if_pos h1]
    by_cases h2 : z < y
    · simp only [if_pos h2]; omega
    · simp only [if_neg h2]; omega
  · simp only [if_neg h1]
    by_cases h2 : z < x
    · simp only [if_pos h2]; omega
    · simp only [if_neg h2]; omega
theorem min3_le {x y z : Int} : minOf x [y, z] ≤ 0 ↔ x ≤ 0 ∨ y ≤ 0 ∨ z ≤ 0 := by
  unfold minOf
  simp only [List.foldl_cons, List.foldl_nil]
  by_cases h1 : y < x
  · simp only [if_pos h1]
    by_cases h2 : z < y
    · simp only [if_pos h2]; omega
    · simp only [if_neg h2]; omega
  · simp only [if_neg h1]
    by_cases h2 : z < x
    · simp only [if_pos h2]; omega
    · simp only [if_neg h2]; omega
theorem gz3_pos {x y z : Int} (h : 0 < x) : 0 < gz3 x y z ∧ gz3 x y z ∣ x ∧ gz3 x y z ∣ y ∧ gz3 x y z ∣ z := by
  unfold gz3
  obtain ⟨d1, d2⟩ := gz_dvd (gz x y) z
  obtain ⟨d3, d4⟩ := gz_dvd x y
  have h0 := gz_nn (gz x y) z
  have hx := Int.dvd_trans d1 d3
  refine ⟨?_, hx, Int.dvd_trans d1 d4, d2⟩
  rcases Int.lt_or_eq_of_le h0 with h1 | h1
  · exact h1
  · rw [← h1] at hx
    have := Int.zero_dvd.mp hx
    omega
theorem q_min3 {x y z : Int} : prB .min [.lst [.int x, .int y, .int z]] = some (.int (minOf x [y, z]), false) := rfl
theorem bal_comp (k : Nat) {v a b c : D} {x y z g : Int} (p1 : 0 < g) (hb : bi g ≤ 8000) : evE (callK tab.fns (k + 1)) (.comp [6, 7] (.nm 7) (.over (.at 4)) [] (.op .fdiv [(.at 7), (.at 5)])) [some (v, .frz), some (a, .frz), some (b, .frz), some (c, .frz), some (.lst [.int x, .int y, .int z], .own), some (.int g, .frz), none, none]
    = .ok (.lst [.int (x / g), .int (y / g), .int (z / g)], true) [some (v, .frz), some (a, .frz), some (b, .frz), some (c, .frz), some (.lst [.int x, .int y, .int z], .own), some (.int g, .frz), none, none] := by
  refine comp_pure [x, y, z] D.int (fun (n : Int) => some (D.int (n / g))) (x_overo rfl) rfl rfl (szp _ (by show 3 ≤ 1000000; decide)) rfl rfl ?_
  intro n hn
  exact ⟨_, sg (x_setf rfl k_n rfl rfl), .inl ⟨_, _, _, _, ts_nil, x_op (x_as (x_at rfl) (x_as (x_at rfl) x_as0)) (x_filla rfl (x_filla rfl x_fill0)) (q_fdivb p1 hb), rfl, rfl⟩⟩
theorem bal_neg (k : Nat) {v a b c : D} {x y z : Int} : evE (callK tab.fns (k + 1)) (.comp [6, 7] (.nm 7) (.over (.at 4)) [] (.op .neg [(.at 7)])) [some (v, .frz), some (a, .frz), some (b, .frz), some (c, .frz), some (.lst [.int x, .int y, .int z], .own), none, none, none]
    = .ok (.lst [.int (-x), .int (-y), .int (-z)], true) [some (v, .frz), some (a, .frz), some (b, .frz), some (c, .frz), some (.lst [.int x, .int y, .int z], .own), none, none, none] := by
  refine comp_pure [x, y, z] D.int (fun (n : Int) => some (D.int (-n))) (x_overo rfl) rfl rfl (szp _ (by show 3 ≤ 1000000; decide)) rfl rfl ?_
  intro n hn
  exact ⟨_, sg (x_setf rfl k_n rfl rfl), .inl ⟨_, _, _, _, ts_nil, x_op (x_as (x_at rfl) x_as0) (x_filla rfl x_fill0) q_neg, rfl, rfl⟩⟩
theorem gz3_z {x y z : Int} (h : 0 < x) (hx : bi x ≤ 8000) : 0 < gz3 x y z ∧ bi (gz3 x y z) ≤ 8000 := by
  obtain ⟨p1, p2, _, _⟩ := gz3_pos (y := y) (z := z) h
  refine ⟨p1, Nat.le_trans (bl_mono ?_) hx⟩
  exact Nat.le_of_dvd (by omega) (Int.natAbs_dvd_natAbs.mpr p2)
theorem c_bal (k : Nat) (a b c : Hf) (ha : a.z 1000) (hb : b.z 1000) (hc : c.z 1000) : Ret (callK tab.fns (k + 2)) i_balancing_weights [(.lst [hd a, hd b, hd c], .frz)] (wD (balW a b c)) (balW a b c).isSome := by
  have m := fun {h : Hf} (z : h.z 1000) => z.mono (show 1000 ≤ 2000 by decide)
  have d1 : Ret (callK tab.fns (k + 1)) i_determinant [(hd b, .frz), (hd c, .frz)] (.int (dm b c)) false := c_det k b c (m hb) (m hc)
  have d2 : Ret (callK tab.fns (k + 1)) i_determinant [(hd c, .frz), (hd a, .frz)] (.int (dm c a)) false := c_det k c a (m hc) (m ha)
  have d3 : Ret (callK tab.fns (k + 1)) i_determinant [(hd a, .frz), (hd b, .frz)] (.int (dm a b)) false := c_det k a b (m ha) (m hb)
  have b1 := bi_dm hb hc
  have b2 := bi_dm hc ha
  have b3 := bi_dm ha hb
  have q1 := q_min3 (x := dm b c) (y := dm c a) (z := dm a b)
  unfold balW
  by_cases c1 : dm b c < 0 ∨ dm c a < 0 ∨ dm a b < 0
  · have t1 : minOf (dm b c) [dm c a, dm a b] < 0 := min3_lt.mpr c1
    rw [if_pos c1]
    clear c1
    generalize minOf (dm b c) [dm c a, dm a b] = mm at *
    generalize dm b c = x at *
    generalize dm c a = y at *
    generalize dm a b = z at *
    have cn := bal_neg k (v := .lst [hd a, hd b, hd c]) (a := hd a) (b := hd b) (c := hd c) (x := x) (y := y) (z := z)
    have q2 := q_min3 (x := -x) (y := -y) (z := -z)
    have g1 : Ret (callK tab.fns (k + 1)) i_common_divisor [(.int (-x), .frz), (.int (-y), .frz)] (.int (gz (-x) (-y))) false := c_gcd k _ _
    have g2 : Ret (callK tab.fns (k + 1)) i_common_divisor [(.int (gz (-x) (-y)), .frz), (.int (-z), .frz)] (.int (gz3 (-x) (-y) (-z))) false := c_gcd k _ _
    have bx : bi (-x) ≤ 8000 := by rw [bi_neg]; omega
    clear b1 b2 b3
    unfold bal0
    by_cases c2 : -x ≤ 0 ∨ -y ≤ 0 ∨ -z ≤ 0
    · have t2 : minOf (-x) [-y, -z] ≤ 0 := min3_le.mpr c2
      rw [if_pos c2]
      clear c2
      generalize minOf (-x) [-y, -z] = m2 at *
      apply v_fn fn_balancing_weights rfl
      walk_at "go"
      apply w_unpl (x_varf rfl) (x_all (x_setf rfl k_n rfl rfl) (x_all (x_setf rfl k_n rfl rfl) (x_all (x_setf rfl k_n rfl rfl) x_all0)))
      simp only [List.set_cons_zero, List.set_cons_succ]
      walk_at "go"
      exact ⟨rfl, rfl⟩
    · have t2 : ¬ minOf (-x) [-y, -z] ≤ 0 := fun h => c2 (min3_le.mp h)
      rw [if_neg c2]
      obtain ⟨p1, hb'⟩ := gz3_z (y := -y) (z := -z) (show 0 < -x by omega) bx
      clear c2
      generalize minOf (-x) [-y, -z] = m2 at *
      generalize gz3 (-x) (-y) (-z) = g at *
      generalize gz (-x) (-y) = g0 at *
      generalize -x = x' at *
      generalize -y = y' at *
      generalize -z = z' at *
      have cq := bal_comp k (v := .lst [hd a, hd b, hd c]) (a := hd a) (b := hd b) (c := hd c) (x := x') (y := y') (z := z') p1 hb'
      apply v_fn fn_balancing_weights rfl
      walk_at "go"
      apply w_unpl (x_varf rfl) (x_all (x_setf rfl k_n rfl rfl) (x_all (x_setf rfl k_n rfl rfl) (x_all (x_setf rfl k_n rfl rfl) x_all0)))
      simp only [List.set_cons_zero, List.set_cons_succ]
      walk_at "go"
      exact ⟨rfl, rfl⟩
  · have t1 : ¬ minOf (dm b c) [dm c a, dm a b] < 0 := fun h => c1 (min3_lt.mp h)
    rw [if_neg c1]
    clear c1
    generalize dm b c = x at *
    generalize dm c a = y at *
    generalize dm a b = z at *
    have g1 : Ret (callK tab.fns (k + 1)) i_common_divisor [(.int x, .frz), (.int y, .frz)] (.int (gz x y)) false := c_gcd k _ _
    have g2 : Ret (callK tab.fns (k + 1)) i_common_divisor [(.int (gz x y), .frz), (.int z, .frz)] (.int (gz3 x y z)) false := c_gcd k _ _
    have bx : bi x ≤ 8000 := by omega
    clear b1 b2 b3
    unfold bal0
    by_cases c2 : x ≤ 0 ∨ y ≤ 0 ∨ z ≤ 0
    · have t2 : minOf x [y, z] ≤ 0 := min3_le.mpr c2
      rw [if_pos c2]
      clear c2
      generalize minOf x [y, z] = m2 at *
      apply v_fn fn_balancing_weights rfl
      walk_at "go"
      apply w_unpl (x_varf rfl) (x_all (x_setf rfl k_n rfl rfl) (x_all (x_setf rfl k_n rfl rfl) (x_all (x_setf rfl k_n rfl rfl) x_all0)))
      simp only [List.set_cons_zero, List.set_cons_succ]
      walk_at "go"
      exact ⟨rfl, rfl⟩
    · have t2 : ¬ minOf x [y, z] ≤ 0 := fun h => c2 (min3_le.mp h)
      rw [if_neg c2]
      obtain ⟨p1, hb'⟩ := gz3_z (y := y) (z := z) (show 0 < x by omega) bx
      clear c2
      generalize minOf x [y, z] = m2 at *
      generalize gz3 x y z = g at *
      generalize gz x y = g0 at *
      have cq := bal_comp k (v := .lst [hd a, hd b, hd c]) (a := hd a) (b := hd b) (c := hd c) (x := x) (y := y) (z := z) p1 hb'
      apply v_fn fn_balancing_weights rfl
      walk_at "go"
      apply w_unpl (x_varf rfl) (x_all (x_setf rfl k_n rfl rfl) (x_all (x_setf rfl k_n rfl rfl) (x_all (x_setf rfl k_n rfl rfl) x_all0)))
      simp only [List.set_cons_zero, List.set_cons_succ]
      walk_at "go"
      exact ⟨rfl, rfl⟩
end Z
end
section
local macro_rules | `(tactic| kt_at_notin) => `(tactic| exact c_gcd _ _ _)
local macro_rules | `(tactic| kt_at_notin) => `(tactic| exact c_absolute _ _)
local macro_rules | `(tactic| kt_at_notin) => `(tactic| exact c_negative _ _)
local macro_rules | `(tactic| kt_at_notin) => `(tactic| (apply c_divide; assumption; kaf_pre))
local macro_rules | `(tactic| kt_at_notin) => `(tactic| (apply c_sign; ktr_units))
local macro_rules | `(tactic| kt_at_notin) => `(tactic| (apply c_is_at_most; kaf_pre))
local macro_rules | `(tactic| kt_at_notin) => `(tactic| (apply c_is_less; kaf_pre))
local macro_rules | `(tactic| kt_at_notin) => `(tactic| (apply c_compare; kaf_pre))
local macro_rules | `(tactic| kt_at_notin) => `(tactic| (apply c_subtract; kaf_pre))
local macro_rules | `(tactic| kt_at_notin) => `(tactic| (apply c_multiply; kaf_pre))
local macro_rules | `(tactic| kt_at_notin) => `(tactic| (apply c_add; kaf_pre))
local macro_rules | `(tactic| kt_at_notin) => `(tactic| exact c_draw _ _ _ _ (by decide))
local macro_rules | `(tactic| kt_at_notin) => `(tactic| exact c_divisor _ _ _ (by assumption))
local macro_rules | `(tactic| kt_at_notin) => `(tactic| (apply c_lfr; assumption; kt_at_in))
local macro_rules | `(tactic| kt_at_notin) => `(tactic| (apply c_less; kaf_pre))
local macro_rules | `(tactic| kt_at_notin) => `(tactic| (apply c_lmul; kaf_pre))
local macro_rules | `(tactic| kt_at_notin) => `(tactic| (apply c_lsub; kaf_pre))
local macro_rules | `(tactic| kt_at_notin) => `(tactic| (apply c_ladd; kaf_pre))
local macro_rules | `(tactic| kt_at_notin) => `(tactic| exact c_gcd _ _ _)
local macro_rules | `(tactic| kt_at_notin) => `(tactic| exact c_absolute _ _)
local macro_rules | `(tactic| kt_at_notin) => `(tactic| exact c_negative _ _)
local macro_rules | `(tactic| kt_at_notin) => `(tactic| (apply c_divide; assumption; kaf_pre))
local macro_rules | `(tactic| kt_at_notin) => `(tactic| (apply c_sign; ktr_units))
local macro_rules | `(tactic| kt_at_notin) => `(tactic| (apply c_is_at_most; kaf_pre))
local macro_rules | `(tactic| kt_at_notin) => `(tactic| (apply c_is_less; kaf_pre))
local macro_rules | `(tactic| kt_at_notin) => `(tactic| (apply c_compare; kaf_pre))
local macro_rules | `(tactic| kt_at_notin) => `(tactic| (apply c_subtract; kaf_pre))
local macro_rules | `(tactic| kt_at_notin) => `(tactic| (apply c_multiply; kaf_pre))
local macro_rules | `(tactic| kt_at_notin) => `(tactic| (apply c_add; kaf_pre))
local macro_rules | `(tactic| kt_at_notin) => `(tactic| exact c_draw _ _ _ _ (by decide))
local macro_rules | `(tactic| kt_at_notin) => `(tactic| exact c_divisor _ _ _ (by assumption))
local macro_rules | `(tactic| kt_at_notin) => `(tactic| (apply c_lfr; assumption; kt_at_in))
local macro_rules | `(tactic| kt_at_notin) => `(tactic| (apply c_less; kaf_pre))
local macro_rules | `(tactic| kt_at_notin) => `(tactic| (apply c_lmul; kaf_pre))
local macro_rules | `(tactic| kt_at_notin) => `(tactic| (apply c_lsub; kaf_pre))
local macro_rules | `(tactic| kt_at_notin) => `(tactic| (apply c_ladd; kaf_pre))
local macro_rules | `(tactic| kfm_turns) => `(tactic| (focus (decide +kernel)))
local macro_rules | `(tactic| kat_tups) => `(tactic| (apply q_nes <;> (focus (decide +kernel))))
local macro_rules | `(tactic| kat_tups) => `(tactic| (apply q_eqs <;> (focus (decide +kernel))))
local macro_rules | `(tactic| kt_at_notin) => `(tactic| (apply c_is_fr; ktr_units))
local macro_rules | `(tactic| kt_at_notin) => `(tactic| (apply c_value; assumption; (focus omega)))
local macro_rules | `(tactic| kt_at_notin) => `(tactic| exact c_fraction1 _ _)
local macro_rules | `(tactic| kt_at_notin) => `(tactic| (apply c_prod <;> assumption))
local macro_rules | `(tactic| kt_at_notin) => `(tactic| (apply c_det <;> assumption))
namespace Z
def cmb2 (n : Nat) : List (List Nat) := (List.range n).flatMap fun i => ((List.range n).filter (fun j => decide (i < j))).map fun j => [i, j]
def cmb3 (n : Nat) : List (List Nat) := (List.range n).flatMap fun i => ((List.range n).filter (fun j => decide (i < j))).flatMap fun j => ((List.range n).filter (fun k => decide (j < k))).map fun k => [i, j, k]
theorem combs2 : ∀ n, n < 9 → combs n 2 = some (cmb2 n) := by decide +kernel
theorem combs3 : ∀ n, n < 9 → combs n 3 = some (cmb3 n) := by decide +kernel
theorem cmb2_mem {n : Nat} {l : List Nat} (h : l ∈ cmb2 n) : ∃ i j, l = [i, j] ∧ i < j ∧ j < n := by
  unfold cmb2 at h
  obtain ⟨i, _, h⟩ := List.mem_flatMap.mp h
  obtain ⟨j, hj, rfl⟩ := List.mem_map.mp h
  obtain ⟨h1, h2⟩ := List.mem_filter.mp hj
  exact ⟨i, j, rfl, by simpa using h2, by simpa using h1⟩
theorem cmb3_mem {n : Nat} {l : List Nat} (h : l ∈ cmb3 n) : ∃ i j k, l = [i, j, k] ∧ i < j ∧ j < k ∧ k < n := by
  unfold cmb3 at h
  obtain ⟨i, _, h⟩ := List.mem_flatMap.mp h
  obtain ⟨j, hj, h⟩ := List.mem_flatMap.mp h
  obtain ⟨k, hk, rfl⟩ := List.mem_map.mp h
  obtain ⟨h1, h2⟩ := List.mem_filter.mp hj
  obtain ⟨h3, h4⟩ := List.mem_filter.mp hk
  exact ⟨i, j, k, rfl, by simpa using h2, by simpa using h4, by simpa using h3⟩
def tupI (l : List Nat) : D := .tup (l.map fun (j : Nat) => D.int (j : Int))
theorem x_cmbR {C : Cl} {env : En} {e : IE} {n r : Nat} {fr : Bool} {L : List (List Nat)} (h1 : evE C e env = .ok (.int (n : Int), fr) env) (hn : n ≤ 1000) (hL : combs n r = some L) (hm : ∀ l ∈ L, ∀ j ∈ l, j < n) : evI C (.cmbR e r) env = .ok (L.map tupI, none) env := by
  simp only [evI, h1, Out.bind_ok]
  rw [if_pos (by omega), Int.toNat_natCast, hL]
  simp only
  congr 2
  apply List.map_congr_left
  intro l hl
  unfold tupI
  congr 1
  apply List.map_congr_left
  intro j hj
  have := hm l hl j hj
  rw [List.getD_eq_getElem?_getD, List.getElem?_map, List.getElem?_range this]
  rfl
theorem fs_at {α β : Type} {f : α → Option β} : ∀ {L : List α} {j : Nat} {l : α} {b : β}, L[j]? = some l → (∀ x ∈ L.take j, f x = none) → f l = some b → L.findSome? f = some b
  | [], _, _, _, h, _, _ => by simp at h
  | x :: L, 0, l, b, h, _, hb => by
    simp only [List.getElem?_cons_zero, Option.some.injEq] at h
    subst h
    rw [List.findSome?_cons, hb]
  | x :: L, j + 1, l, b, h, hn, hb => by
    rw [List.findSome?_cons, hn x (by rw [List.take_succ_cons]; exact List.mem_cons_self)]
    exact fs_at (by simpa using h) (fun y hy => hn y (by rw [List.take_succ_cons]; exact List.mem_cons_of_mem _ hy)) hb
theorem fs_take {α β : Type} {f : α → Option β} {L : List α} {j : Nat} {l : α} (h : L[j]? = some l) (hn : ∀ x ∈ L.take j, f x = none) (hl : f l = none) : ∀ x ∈ L.take (j + 1), f x = none := by
  rw [List.take_succ, h]
  intro x hx
  rcases List.mem_append.mp hx with z | z
  · exact hn x z
  · simp only [Option.toList_some, List.mem_singleton] at z
    rw [z]
    exact hl
theorem fs_none {α β : Type} {f : α → Option β} {L : List α} (hn : ∀ x ∈ L, f x = none) : L.findSome? f = none := List.findSome?_eq_none_iff.mpr hn
def ctD (o : Option Ct) : D := match o with
  | none => .non
  | some ct => .lst (ct.map pkH)
def negH (h : Hf) : Hf := ⟨-h.p, -h.q, 0⟩
def ckE (hs : List Hf) (ct : Ct) : Option Ct := if verE hs ct = true then some ct else none
def pairC (hs : List Hf) (i j : Nat) : Option Ct := (sh1 (negH (atH hs j)) (atH hs i)).bind fun s => ckE hs [((i : Int), (s.num : Rat)), ((j : Int), ((s.den : Int) : Rat))]
def pairL (hs : List Hf) (l : List Nat) : Option Ct := match l with
  | [i, j] => pairC hs i j
  | _ => none
def fpair (hs : List Hf) : Option Ct := (cmb2 hs.length).findSome? (pairL hs)
theorem pk_nat {hs : List Hf} {i : Nat} (h : i < hs.length) : atI (hs.map hd) (i : Int) = some (hd (atH hs i)) ∧ atH hs i ∈ hs := pk_at (by omega) (by omega)
theorem sh1_z {g k : Hf} {s : Rat} {n : Nat} (h : sh1 g k = some s) (hk : k.ok) (zg : g.z n) (zk : k.z n) : sz s ≤ 2 * n + 1 := by
  unfold sh1 at h
  split at h
  · cases h
  · cases h
    rw [← divInt_cast]
    have hN := nn_pos hk
    exact sz_divInt (by omega) (bi_pd zg zk) (bi_pd zk zk)
theorem neg_z {h : Hf} {n : Nat} (z : h.z n) (hn : 1 ≤ n) : (negH h).z n := by
  obtain ⟨a, b, _⟩ := z
  exact ⟨by show bi (-h.p) ≤ n; rw [bi_neg]; exact a, by show bi (-h.q) ≤ n; rw [bi_neg]; exact b, Nat.le_trans (by show bi 0 ≤ 1; decide) hn⟩
theorem c_fpair (k : Nat) (hs : List Hf) (hl : hs.length ≤ 8) (ho : ∀ h ∈ hs, h.ok) (hz : ∀ h ∈ hs, h.z 3) : RetB (callK tab.fns (k + 6)) i_first_contrary_pair (.lst (hs.map hd)) [] (ctD (fpair hs)) (fpair hs).isSome (.lst (hs.map hd)) := by
  have hlen : evE (callK tab.fns (k + 5)) (.op .len [(.at 0)]) [some (.lst (hs.map hd), .own), none, none, none, none, none, none, none, none, none] = .ok (.int (hs.length : Int), false) [some (.lst (hs.map hd), .own), none, none, none, none, none, none, none, none, none] := by
    have q : prB .len [.lst (hs.map hd)] = some (.int (hs.length : Int), false) := by rw [← List.length_map (f := hd)]; rfl
    exact x_op (x_as (x_at rfl) x_as0) (x_filla rfl x_fill0) q
  apply v_fnB fn_first_contrary_pair rfl
  walk_at "go"
  apply w_for (fun t env => (∀ l ∈ (cmb2 hs.length).take t, pairL hs l = none) ∧ ∃ s1 s2 s3 s4 s5 s6 s7 s8 s9 : Sl, env = [some (.lst (hs.map hd), .own), s1, s2, s3, s4, s5, s6, s7, s8, s9] ∧ isLck s1 = false ∧ isLck s2 = false ∧ isLck s3 = false ∧ isLck s4 = false ∧ isLck s5 = false ∧ isLck s6 = false ∧ isLck s7 = false ∧ isLck s8 = false ∧ isLck s9 = false) (x_cmbR hlen (by omega) (combs2 _ (by omega)) (fun l hm t ht => by
    obtain ⟨i, j, rfl, h1, h2⟩ := cmb2_mem hm
    simp only [List.mem_cons, List.not_mem_nil, or_false] at ht
    omega))
  · exact ⟨fun l h => (by rw [List.take_zero] at h; cases h), none, none, none, none, none, none, none, none, none, rfl, rfl, rfl, rfl, rfl, rfl, rfl, rfl, rfl, rfl⟩
  · rintro t d env hd' ⟨hn, s1, s2, s3, s4, s5, s6, s7, s8, s9, rfl, h1, h2, h3, h4, h5, h6, h7, h8, h9⟩
    obtain ⟨l, hx, rfl⟩ := map_get hd'
    obtain ⟨i, j, rfl, hij, hj⟩ := cmb2_mem (List.mem_of_getElem? hx)
    obtain ⟨ia, ma⟩ := pk_nat (hs := hs) (i := i) (by omega)
    obtain ⟨ib, mb⟩ := pk_nat (hs := hs) (i := j) hj
    have ea : pairL hs [i, j] = (sh1 (negH (atH hs j)) (atH hs i)).bind fun s => ckE hs [((i : Int), (s.num : Rat)), ((j : Int), ((s.den : Int) : Rat))] := rfl
    have zsh := fun s h => sh1_z (s := s) (n := 3) h (ho _ ma) (neg_z (hz _ mb) (by decide)) (hz _ ma)
    have ks : Ret (callK tab.fns (k + 5)) i_share_of [(hd (negH (atH hs j)), .frz), (hd (atH hs i), .frz)] (od (sh1 (negH (atH hs j)) (atH hs i))) false := c_share (k + 2) _ _ (ho _ ma) ((neg_z (hz _ mb) (by decide)).mono (by decide)) ((hz _ ma).mono (by decide))
    generalize sh1 (negH (atH hs j)) (atH hs i) = o at *
    generalize atH hs i = a at *
    generalize atH hs j = b at *
    have ia : atI (hs.map hd) (i : Int) = some (.tup [.int a.p, .int a.q, .int a.r]) := ia
    have ib : atI (hs.map hd) (j : Int) = some (.tup [.int b.p, .int b.q, .int b.r]) := ib
    simp only [hd, negH] at ks
    unfold tupI
    simp only [List.map_cons, List.map_nil]
    apply w_turnT (is := [1, 2]) (x_all (x_setf rfl h1 rfl rfl) (x_all (x_setf rfl h2 rfl rfl) x_all0))
    simp only [List.set_cons_zero, List.set_cons_succ]
    cases o with
    | none =>
      simp only [od] at ks
      walk_at "go"
      exact w_nil ⟨fs_take hx hn (by rw [ea]; rfl), _, _, _, _, _, _, _, _, _, rfl, k_f, k_f, k_f, k_f, k_f, k_f, h7, h8, h9⟩
    | some s =>
      simp only [od, fr] at ks
      have zs := zsh s rfl
      have sn := sz_num s
      have sd := sz_den s
      have f1 : Ret (callK tab.fns (k + 5)) i_fraction [(.int s.num, .frz)] (fr (s.num : Rat)) false := c_fraction1 (k + 3) _
      have f2 : Ret (callK tab.fns (k + 5)) i_fraction [(.int (s.den : Int), .frz)] (fr ((s.den : Int) : Rat)) false := c_fraction1 (k + 3) _
      have kv := c_verE k hs [((i : Int), (s.num : Rat)), ((j : Int), ((s.den : Int) : Rat))] (by omega) (by show 2 ≤ 8; decide) (fun h hh => (hz h hh).mono (by decide)) (fun c hc => by
        simp only [List.mem_cons, List.not_mem_nil, or_false] at hc
        rcases hc with rfl | rfl
        · exact Nat.le_trans (sz_castb (show bi s.num ≤ 7 by omega)) (by decide)
        · exact Nat.le_trans (sz_castb (show bi (s.den : Int) ≤ 7 by omega)) (by decide))
      have ea : pairL hs [i, j] = ckE hs [((i : Int), (s.num : Rat)), ((j : Int), ((s.den : Int) : Rat))] := ea
      unfold ckE at ea
      generalize hct : ([((i : Int), (s.num : Rat)), ((j : Int), ((s.den : Int) : Rat))] : Ct) = ct at *
      have ect : D.lst [.tup [.int (i : Int), fr (s.num : Rat)], .tup [.int (j : Int), fr ((s.den : Int) : Rat)]] = .lst (ct.map pkH) := by rw [← hct]; rfl
      rw [← ect] at kv
      have qn : prB .notn [D.tup [.int s.num, .int (s.den : Int)]] = some (.bl true, false) := rfl
      have hsz : [D.tup [.int (i : Int), fr (s.num : Rat)], .tup [.int (j : Int), fr ((s.den : Int) : Rat)]].length ≤ sizeLine := szp _ (by show 2 ≤ 1000000; decide)
      cases hv : verE hs ct with
      | false =>
        rw [hv] at kv ea
        clear hct
        walk_at "go"
        exact w_nil ⟨fs_take hx hn (by rw [ea]; rfl), _, _, _, _, _, _, _, _, _, rfl, k_f, k_f, k_f, k_f, k_f, k_f, k_f, k_f, k_o⟩
      | true =>
        rw [hv] at kv ea
        clear hct
        walk_at "go"
        have e := fs_at hx hn ea
        unfold fpair
        rw [e]
        exact ⟨ect, rfl, rfl⟩
  · rintro env ⟨hn, s1, s2, s3, s4, s5, s6, s7, s8, s9, rfl, h1, h2, h3, h4, h5, h6, h7, h8, h9⟩
    rw [List.length_map, List.take_length] at hn
    have e : fpair hs = none := fs_none hn
    rw [e]
    walk_at "go"
    exact ⟨rfl, rfl, rfl⟩
end Z
end
section
local macro_rules | `(tactic| kt_at_notin) => `(tactic| exact c_gcd _ _ _)
local macro_rules | `(tactic| kt_at_notin) => `(tactic| exact c_absolute _ _)
local macro_rules | `(tactic| kt_at_notin) => `(tactic| exact c_negative _ _)
local macro_rules | `(tactic| kt_at_notin) => `(tactic| (apply c_divide; assumption; kaf_pre))
local macro_rules | `(tactic| kt_at_notin) => `(tactic| (apply c_sign; ktr_units))
local macro_rules | `(tactic| kt_at_notin) => `(tactic| (apply c_is_at_most; kaf_pre))
local macro_rules | `(tactic| kt_at_notin) => `(tactic| (apply c_is_less; kaf_pre))
local macro_rules | `(tactic| kt_at_notin) => `(tactic| (apply c_compare; kaf_pre))
local macro_rules | `(tactic| kt_at_notin) => `(tactic| (apply c_subtract; kaf_pre))
local macro_rules | `(tactic| kt_at_notin) => `(tactic| (apply c_multiply; kaf_pre))
local macro_rules | `(tactic| kt_at_notin) => `(tactic| (apply c_add; kaf_pre))
local macro_rules | `(tactic| kt_at_notin) => `(tactic| exact c_draw _ _ _ _ (by decide))
local macro_rules | `(tactic| kt_at_notin) => `(tactic| exact c_divisor _ _ _ (by assumption))
local macro_rules | `(tactic| kt_at_notin) => `(tactic| (apply c_lfr; assumption; kt_at_in))
local macro_rules | `(tactic| kt_at_notin) => `(tactic| (apply c_less; kaf_pre))
local macro_rules | `(tactic| kt_at_notin) => `(tactic| (apply c_lmul; kaf_pre))
local macro_rules | `(tactic| kt_at_notin) => `(tactic| (apply c_lsub; kaf_pre))
local macro_rules | `(tactic| kt_at_notin) => `(tactic| (apply c_ladd; kaf_pre))
local macro_rules | `(tactic| kt_at_notin) => `(tactic| exact c_gcd _ _ _)
local macro_rules | `(tactic| kt_at_notin) => `(tactic| exact c_absolute _ _)
local macro_rules | `(tactic| kt_at_notin) => `(tactic| exact c_negative _ _)
local macro_rules | `(tactic| kt_at_notin) => `(tactic| (apply c_divide; assumption; kaf_pre))
local macro_rules | `(tactic| kt_at_notin) => `(tactic| (apply c_sign; ktr_units))
local macro_rules | `(tactic| kt_at_notin) => `(tactic| (apply c_is_at_most; kaf_pre))
local macro_rules | `(tactic| kt_at_notin) => `(tactic| (apply c_is_less; kaf_pre))
local macro_rules | `(tactic| kt_at_notin) => `(tactic| (apply c_compare; kaf_pre))
local macro_rules | `(tactic| kt_at_notin) => `(tactic| (apply c_subtract; kaf_pre))
local macro_rules | `(tactic| kt_at_notin) => `(tactic| (apply c_multiply; kaf_pre))
local macro_rules | `(tactic| kt_at_notin) => `(tactic| (apply c_add; kaf_pre))
local macro_rules | `(tactic| kt_at_notin) => `(tactic| exact c_draw _ _ _ _ (by decide))
local macro_rules | `(tactic| kt_at_notin) => `(tactic| exact c_divisor _ _ _ (by assumption))
local macro_rules | `(tactic| kt_at_notin) => `(tactic| (apply c_lfr; assumption; kt_at_in))
local macro_rules | `(tactic| kt_at_notin) => `(tactic| (apply c_less; kaf_pre))
local macro_rules | `(tactic| kt_at_notin) => `(tactic| (apply c_lmul; kaf_pre))
local macro_rules | `(tactic| kt_at_notin) => `(tactic| (apply c_lsub; kaf_pre))
local macro_rules | `(tactic| kt_at_notin) => `(tactic| (apply c_ladd; kaf_pre))
local macro_rules | `(tactic| kfm_turns) => `(tactic| (focus (decide +kernel)))
local macro_rules | `(tactic| kat_tups) => `(tactic| (apply q_nes <;> (focus (decide +kernel))))
local macro_rules | `(tactic| kat_tups) => `(tactic| (apply q_eqs <;> (focus (decide +kernel))))
local macro_rules | `(tactic| kt_at_notin) => `(tactic| (apply c_is_fr; ktr_units))
local macro_rules | `(tactic| kt_at_notin) => `(tactic| (apply c_value; assumption; (focus omega)))
local macro_rules | `(tactic| kt_at_notin) => `(tactic| exact c_fraction1 _ _)
local macro_rules | `(tactic| kt_at_notin) => `(tactic| (apply c_prod <;> assumption))
local macro_rules | `(tactic| kt_at_notin) => `(tactic| (apply c_det <;> assumption))
namespace Z
def triC (hs : List Hf) (i j k : Nat) : Option Ct := match balW (atH hs i) (atH hs j) (atH hs k) with
  | some [x, y, z] => ckE hs [((i : Int), (x : Rat)), ((j : Int), (y : Rat)), ((k : Int), (z : Rat))]
  | _ => none
def triL (hs : List Hf) (l : List Nat) : Option Ct := match l with
  | [i, j, k] => triC hs i j k
  | _ => none
def fthree (hs : List Hf) : Option Ct := (cmb3 hs.length).findSome? (triL hs)
theorem bal0_some {x y z : Int} {w : List Int} {n : Nat} (h : bal0 x y z = some w) (hx : bi x ≤ n) (hy : bi y ≤ n) (hz : bi z ≤ n) : ∃ a b c, w = [a, b, c] ∧ bi a ≤ n ∧ bi b ≤ n ∧ bi c ≤ n := by
  unfold bal0 at h
  split at h
  · cases h
  · rename_i c1
    cases h
    obtain ⟨p1, _, _, _⟩ := gz3_pos (y := y) (z := z) (show 0 < x by omega)
    exact ⟨_, _, _, rfl, Nat.le_trans (bi_ediv p1) hx, Nat.le_trans (bi_ediv p1) hy, Nat.le_trans (bi_ediv p1) hz⟩
theorem bal_some {a b c : Hf} {w : List Int} {n : Nat} (h : balW a b c = some w) (ha : a.z n) (hb : b.z n) (hc : c.z n) : ∃ x y z, w = [x, y, z] ∧ bi x ≤ 2 * n + 1 ∧ bi y ≤ 2 * n + 1 ∧ bi z ≤ 2 * n + 1 := by
  have b1 := bi_dm hb hc
  have b2 := bi_dm hc ha
  have b3 := bi_dm ha hb
  unfold balW at h
  split at h
  · exact bal0_some h (by rw [bi_neg]; exact b1) (by rw [bi_neg]; exact b2) (by rw [bi_neg]; exact b3)
  · exact bal0_some h b1 b2 b3
theorem sgt {pin : Nat → Bool} {is : List Nat} {ds : List D} {env e1 : En} (h : setAll pin is ds env = .ok () e1) : setG pin (.tp is) (.tup ds) env = .ok () e1 := h
theorem c_fthree (k : Nat) (hs : List Hf) (hl : hs.length ≤ 8) (ho : ∀ h ∈ hs, h.ok) (hz : ∀ h ∈ hs, h.z 3) : RetB (callK tab.fns (k + 6)) i_first_contrary_three (.lst (hs.map hd)) [] (ctD (fthree hs)) (fthree hs).isSome (.lst (hs.map hd)) := by
  have hlen : evE (callK tab.fns (k + 5)) (.op .len [(.at 0)]) [some (.lst (hs.map hd), .own), none, none, none, none, none, none] = .ok (.int (hs.length : Int), false) [some (.lst (hs.map hd), .own), none, none, none, none, none, none] := by
    have q : prB .len [.lst (hs.map hd)] = some (.int (hs.length : Int), false) := by rw [← List.length_map (f := hd)]; rfl
    exact x_op (x_as (x_at rfl) x_as0) (x_filla rfl x_fill0) q
  apply v_fnB fn_first_contrary_three rfl
  walk_at "go"
  apply w_for (fun t env => (∀ l ∈ (cmb3 hs.length).take t, triL hs l = none) ∧ ∃ s1 s2 s3 : Sl, env = [some (.lst (hs.map hd), .own), s1, s2, s3, none, none, none] ∧ isLck s1 = false ∧ isLck s2 = false ∧ isLck s3 = false) (x_cmbR hlen (by omega) (combs3 _ (by omega)) (fun l hm t ht => by
    obtain ⟨i, j, k, rfl, h1, h2, h3⟩ := cmb3_mem hm
    simp only [List.mem_cons, List.not_mem_nil, or_false] at ht
    omega))
  · exact ⟨fun l h => (by rw [List.take_zero] at h; cases h), none, none, none, rfl, rfl, rfl, rfl⟩
  · rintro t d env hd' ⟨hn, s1, s2, s3, rfl, h1, h2, h3⟩
    obtain ⟨l, hx, rfl⟩ := map_get hd'
    obtain ⟨i, j, m, rfl, hij, hjm, hm⟩ := cmb3_mem (List.mem_of_getElem? hx)
    obtain ⟨ia, ma⟩ := pk_nat (hs := hs) (i := i) (by omega)
    obtain ⟨ib, mb⟩ := pk_nat (hs := hs) (i := j) (by omega)
    obtain ⟨ic, mc⟩ := pk_nat (hs := hs) (i := m) hm
    have ea : triL hs [i, j, m] = match balW (atH hs i) (atH hs j) (atH hs m) with
      | some [x, y, z] => ckE hs [((i : Int), (x : Rat)), ((j : Int), (y : Rat)), ((m : Int), (z : Rat))]
      | _ => none := rfl
    have bs := fun w h => bal_some (w := w) (n := 3) h (hz _ ma) (hz _ mb) (hz _ mc)
    have ks : Ret (callK tab.fns (k + 5)) i_balancing_weights [(.lst [hd (atH hs i), hd (atH hs j), hd (atH hs m)], .frz)] (wD (balW (atH hs i) (atH hs j) (atH hs m))) (balW (atH hs i) (atH hs j) (atH hs m)).isSome := c_bal (k + 3) _ _ _ ((hz _ ma).mono (by decide)) ((hz _ mb).mono (by decide)) ((hz _ mc).mono (by decide))
    generalize balW (atH hs i) (atH hs j) (atH hs m) = o at *
    generalize atH hs i = a at *
    generalize atH hs j = b at *
    generalize atH hs m = c at *
    have comp1 : evE (callK tab.fns (k + 5)) (.comp [4, 5] (.nm 5) (.over (.at 1)) [] (.op .ix [(.at 0), (.at 5)])) [some (.lst (hs.map hd), .own), some (.tup [.int (i : Int), .int (j : Int), .int (m : Int)], .frz), s2, s3, none, none, none]
        = .ok (.lst [hd a, hd b, hd c], true) [some (.lst (hs.map hd), .own), some (.tup [.int (i : Int), .int (j : Int), .int (m : Int)], .frz), s2, s3, none, none, none] := by
      refine comp_pure [((i : Int), a), ((j : Int), b), ((m : Int), c)] (fun (p : Int × Hf) => D.int p.1) (fun (p : Int × Hf) => some (hd p.2)) (x_overf rfl rfl) rfl rfl (szp _ (by show 3 ≤ 1000000; decide)) rfl rfl ?_
      intro p hp
      have e : atI (hs.map hd) p.1 = some (hd p.2) := by
        simp only [List.mem_cons, List.not_mem_nil, or_false] at hp
        rcases hp with rfl | rfl | rfl
        · exact ia
        · exact ib
        · exact ic
      exact ⟨_, sg (x_setf rfl k_n rfl rfl), .inl ⟨_, _, _, _, ts_nil, x_op (x_as (x_at rfl) (x_as (x_at rfl) x_as0)) (x_filla rfl (x_filla rfl x_fill0)) (q_ixl e), rfl, rfl⟩⟩
    clear ia ib ic
    unfold tupI
    simp only [List.map_cons, List.map_nil]
    apply w_turn (x_setf rfl h1 rfl rfl)
    simp only [List.set_cons_zero, List.set_cons_succ]
    cases o with
    | none =>
      simp only [wD, Option.isSome_none] at ks
      walk_at "go"
      exact w_nil ⟨fs_take hx hn (by rw [ea]), _, _, _, rfl, k_f, k_f, h3⟩
    | some w =>
      obtain ⟨x, y, z, rfl, bx, by', bz⟩ := bs w rfl
      simp only [wD, List.map_cons, List.map_nil, Option.isSome_some] at ks
      have qn : prB .notn [D.lst [.int x, .int y, .int z]] = some (.bl true, false) := rfl
      have kv := c_verE k hs [((i : Int), (x : Rat)), ((j : Int), (y : Rat)), ((m : Int), (z : Rat))] (by omega) (by show 3 ≤ 8; decide) (fun h hh => (hz h hh).mono (by decide)) (fun c hc => by
        simp only [List.mem_cons, List.not_mem_nil, or_false] at hc
        rcases hc with rfl | rfl | rfl
        · exact Nat.le_trans (sz_castb bx) (by decide)
        · exact Nat.le_trans (sz_castb by') (by decide)
        · exact Nat.le_trans (sz_castb bz) (by decide))
      have ea : triL hs [i, j, m] = ckE hs [((i : Int), (x : Rat)), ((j : Int), (y : Rat)), ((m : Int), (z : Rat))] := ea
      unfold ckE at ea
      have comp2 : ∀ {s3 : Sl}, evE (callK tab.fns (k + 5)) (.comp [4, 5, 6] (.tp [5, 6]) (.zipt (.at 1) (.at 2)) [] (.tup [(.var 5), (.call 1 [(.at 6)])])) [some (.lst (hs.map hd), .own), some (.tup [.int (i : Int), .int (j : Int), .int (m : Int)], .frz), some (.lst [.int x, .int y, .int z], .own), s3, none, none, none]
          = .ok (.lst ([((i : Int), (x : Rat)), ((j : Int), (y : Rat)), ((m : Int), (z : Rat))].map pkH), true) [some (.lst (hs.map hd), .own), some (.tup [.int (i : Int), .int (j : Int), .int (m : Int)], .frz), some (.lst [.int x, .int y, .int z], .own), s3, none, none, none] := by
        intro s3
        refine comp_pure [((i : Int), x), ((j : Int), y), ((m : Int), z)] (fun (p : Int × Int) => D.tup [.int p.1, .int p.2]) (fun (p : Int × Int) => some (pkH (p.1, (p.2 : Rat)))) (lk := some 2) (e1 := [some (.lst (hs.map hd), .own), some (.tup [.int (i : Int), .int (j : Int), .int (m : Int)], .frz), some (.lst [.int x, .int y, .int z], .own), s3, none, none, none]) (ds := [D.tup [.int (i : Int), .int x], .tup [.int (j : Int), .int y], .tup [.int (m : Int), .int z]]) rfl rfl rfl (szp _ (by show 3 ≤ 1000000; decide)) rfl rfl ?_
        intro p hp
        have f1 : Ret (callK tab.fns (k + 5)) i_fraction [(.int p.2, .frz)] (fr (p.2 : Rat)) false := c_fraction1 (k + 3) _
        exact ⟨_, sgt (x_all (x_setf rfl k_n rfl rfl) (x_all (x_setf rfl k_n rfl rfl) x_all0)), .inl ⟨_, _, _, _, ts_nil, x_tup (x_es (x_varf rfl) (x_es (x_call (x_as (x_at rfl) x_as0) (y_do0 rfl rfl f1)) x_es0)) (szp _ (by show 2 ≤ 1000000; decide)), rfl, rfl⟩⟩
      generalize hct : ([((i : Int), (x : Rat)), ((j : Int), (y : Rat)), ((m : Int), (z : Rat))] : Ct) = ct at *
      cases hv : verE hs ct with
      | false =>
        rw [hv] at kv ea
        clear hct
        walk_at "go"
        exact comp2
        walk_at "go"
        exact w_nil ⟨fs_take hx hn (by rw [ea]; rfl), _, _, _, rfl, k_f, k_o, k_o⟩
      | true =>
        rw [hv] at kv ea
        clear hct
        walk_at "go"
        exact comp2
        walk_at "go"
        have e := fs_at hx hn ea
        unfold fthree
        rw [e]
        exact ⟨rfl, rfl, rfl⟩
  · rintro env ⟨hn, s1, s2, s3, rfl, h1, h2, h3⟩
    rw [List.length_map, List.take_length] at hn
    have e : fthree hs = none := fs_none hn
    rw [e]
    walk_at "go"
    exact ⟨rfl, rfl, rfl⟩
end Z
namespace Z
def ecert (hs : List Hf) : Option Ct := if (sray hs).isSome = true then none else match fpair hs with
  | none => fthree hs
  | some ct => some ct
theorem c_ecert (k : Nat) (hs : List Hf) (hl : hs.length ≤ 8) (ho : ∀ h ∈ hs, h.ok) (hz : ∀ h ∈ hs, h.z 3) : ∃ fr, RetB (callK tab.fns (k + 8)) i_emptiness_certificate (.lst (hs.map hd)) [] (ctD (ecert hs)) fr (.lst (hs.map hd)) := by
  have k1 : RetB (callK tab.fns (k + 7)) i_is_empty (.lst (hs.map hd)) [] (.bl (!(sray hs).isSome)) false (.lst (hs.map hd)) := c_is_empty k hs (by omega) ho (fun h hh => (hz h hh).mono (by decide))
  have k2 : RetB (callK tab.fns (k + 7)) i_first_contrary_pair (.lst (hs.map hd)) [] (ctD (fpair hs)) (fpair hs).isSome (.lst (hs.map hd)) := c_fpair (k + 1) hs hl ho hz
  have k3 : RetB (callK tab.fns (k + 7)) i_first_contrary_three (.lst (hs.map hd)) [] (ctD (fthree hs)) (fthree hs).isSome (.lst (hs.map hd)) := c_fthree (k + 1) hs hl ho hz
  unfold ecert
  cases hr : (sray hs).isSome with
  | true =>
    rw [hr] at k1
    refine ⟨false, ?_⟩
    apply v_fnB fn_emptiness_certificate rfl
    walk_at "go"
    exact ⟨rfl, rfl, rfl⟩
  | false =>
    rw [hr] at k1
    cases hf : fpair hs with
    | none =>
      rw [hf] at k2
      simp only [ctD, Option.isSome_none] at k2
      refine ⟨(fthree hs).isSome, ?_⟩
      apply v_fnB fn_emptiness_certificate rfl
      walk_at "go"
      exact ⟨rfl, rfl, rfl⟩
    | some ct =>
      rw [hf] at k2
      simp only [ctD, Option.isSome_some] at k2
      have qn : prB .isn [D.lst (ct.map pkH)] = some (.bl false, false) := rfl
      refine ⟨false, ?_⟩
      apply v_fnB fn_emptiness_certificate rfl
      walk_at "go"
      exact ⟨rfl, rfl, rfl⟩
end Z
end
section
local macro_rules | `(tactic| kt_at_notin) => `(tactic| exact c_gcd _ _ _)
local macro_rules | `(tactic| kt_at_notin) => `(tactic| exact c_absolute _ _)
local macro_rules | `(tactic| kt_at_notin) => `(tactic| exact c_negative _ _)
local macro_rules | `(tactic| kt_at_notin) => `(tactic| (apply c_divide; assumption; kaf_pre))
local macro_rules | `(tactic| kt_at_notin) => `(tactic| (apply c_sign; ktr_units))
local macro_rules | `(tactic| kt_at_notin) => `(tactic| (apply c_is_at_most; kaf_pre))
local macro_rules | `(tactic| kt_at_notin) => `(tactic| (apply c_is_less; kaf_pre))
local macro_rules | `(tactic| kt_at_notin) => `(tactic| (apply c_compare; kaf_pre))
local macro_rules | `(tactic| kt_at_notin) => `(tactic| (apply c_subtract; kaf_pre))
local macro_rules | `(tactic| kt_at_notin) => `(tactic| (apply c_multiply; kaf_pre))
local macro_rules | `(tactic| kt_at_notin) => `(tactic| (apply c_add; kaf_pre))
local macro_rules | `(tactic| kt_at_notin) => `(tactic| exact c_draw _ _ _ _ (by decide))
local macro_rules | `(tactic| kt_at_notin) => `(tactic| exact c_divisor _ _ _ (by assumption))
local macro_rules | `(tactic| kt_at_notin) => `(tactic| (apply c_lfr; assumption; kt_at_in))
local macro_rules | `(tactic| kt_at_notin) => `(tactic| (apply c_less; kaf_pre))
local macro_rules | `(tactic| kt_at_notin) => `(tactic| (apply c_lmul; kaf_pre))
local macro_rules | `(tactic| kt_at_notin) => `(tactic| (apply c_lsub; kaf_pre))
local macro_rules | `(tactic| kt_at_notin) => `(tactic| (apply c_ladd; kaf_pre))
local macro_rules | `(tactic| kt_at_notin) => `(tactic| exact c_gcd _ _ _)
local macro_rules | `(tactic| kt_at_notin) => `(tactic| exact c_absolute _ _)
local macro_rules | `(tactic| kt_at_notin) => `(tactic| exact c_negative _ _)
local macro_rules | `(tactic| kt_at_notin) => `(tactic| (apply c_divide; assumption; kaf_pre))
local macro_rules | `(tactic| kt_at_notin) => `(tactic| (apply c_sign; ktr_units))
local macro_rules | `(tactic| kt_at_notin) => `(tactic| (apply c_is_at_most; kaf_pre))
local macro_rules | `(tactic| kt_at_notin) => `(tactic| (apply c_is_less; kaf_pre))
local macro_rules | `(tactic| kt_at_notin) => `(tactic| (apply c_compare; kaf_pre))
local macro_rules | `(tactic| kt_at_notin) => `(tactic| (apply c_subtract; kaf_pre))
local macro_rules | `(tactic| kt_at_notin) => `(tactic| (apply c_multiply; kaf_pre))
local macro_rules | `(tactic| kt_at_notin) => `(tactic| (apply c_add; kaf_pre))
local macro_rules | `(tactic| kt_at_notin) => `(tactic| exact c_draw _ _ _ _ (by decide))
local macro_rules | `(tactic| kt_at_notin) => `(tactic| exact c_divisor _ _ _ (by assumption))
local macro_rules | `(tactic| kt_at_notin) => `(tactic| (apply c_lfr; assumption; kt_at_in))
local macro_rules | `(tactic| kt_at_notin) => `(tactic| (apply c_less; kaf_pre))
local macro_rules | `(tactic| kt_at_notin) => `(tactic| (apply c_lmul; kaf_pre))
local macro_rules | `(tactic| kt_at_notin) => `(tactic| (apply c_lsub; kaf_pre))
local macro_rules | `(tactic| kt_at_notin) => `(tactic| (apply c_ladd; kaf_pre))
local macro_rules | `(tactic| kfm_turns) => `(tactic| (focus (decide +kernel)))
local macro_rules | `(tactic| kat_tups) => `(tactic| (apply q_nes <;> (focus (decide +kernel))))
local macro_rules | `(tactic| kat_tups) => `(tactic| (apply q_eqs <;> (focus (decide +kernel))))
local macro_rules | `(tactic| kt_at_notin) => `(tactic| (apply c_is_fr; ktr_units))
local macro_rules | `(tactic| kt_at_notin) => `(tactic| (apply c_value; assumption; (focus omega)))
local macro_rules | `(tactic| kt_at_notin) => `(tactic| exact c_fraction1 _ _)
local macro_rules | `(tactic| kt_at_notin) => `(tactic| (apply c_prod <;> assumption))
local macro_rules | `(tactic| kt_at_notin) => `(tactic| (apply c_det <;> assumption))
namespace Z
def lpair (a b : Hf) : Option (Int × Int) := if dm a b ≠ 0 ∨ 0 ≤ pd a b then none else if 0 ≤ n1 b / gz (n1 b) (n1 a) * a.r + n1 a / gz (n1 b) (n1 a) * b.r then none else some (n1 b / gz (n1 b) (n1 a), n1 a / gz (n1 b) (n1 a))
theorem tot2 {hs : List Hf} {i j : Int} {x y : Int} : totC hs [(i, (x : Rat)), (j, (y : Rat))] = (((x * (atH hs i).p + y * (atH hs j).p : Int) : Rat), ((x * (atH hs i).q + y * (atH hs j).q : Int) : Rat), ((x * (atH hs i).r + y * (atH hs j).r : Int) : Rat)) := by
  unfold totC
  simp only [List.foldl_cons, List.foldl_nil, tadd, Rat.intCast_add, Rat.intCast_mul]
  refine Prod.ext ?_ (Prod.ext ?_ ?_) <;> (simp only; grind)
theorem tot3 {hs : List Hf} {i j k : Int} {x y z : Int} : totC hs [(i, (x : Rat)), (j, (y : Rat)), (k, (z : Rat))] = (((x * (atH hs i).p + y * (atH hs j).p + z * (atH hs k).p : Int) : Rat), ((x * (atH hs i).q + y * (atH hs j).q + z * (atH hs k).q : Int) : Rat), ((x * (atH hs i).r + y * (atH hs j).r + z * (atH hs k).r : Int) : Rat)) := by
  unfold totC
  simp only [List.foldl_cons, List.foldl_nil, tadd, Rat.intCast_add, Rat.intCast_mul]
  refine Prod.ext ?_ (Prod.ext ?_ ?_) <;> (simp only; grind)
theorem cast_pos' {x : Int} : decide (0 < (x : Rat)) = decide (0 < x) := by rw [decide_eq_decide]; exact ir.2.1
theorem cast_neg' {x : Int} : decide ((x : Rat) < 0) = decide (x < 0) := by rw [decide_eq_decide]; exact ir.1
theorem verE2 {hs : List Hf} {i j : Nat} {x y : Int} (hij : i < j) (hj : j < hs.length) (hx : 0 < x) (hy : 0 < y) (h1 : x * (atH hs i).p + y * (atH hs j).p = 0) (h2 : x * (atH hs i).q + y * (atH hs j).q = 0) : verE hs [((i : Int), (x : Rat)), ((j : Int), (y : Rat))] = decide (x * (atH hs i).r + y * (atH hs j).r < 0) := by
  unfold verE
  rw [tot2, h1, h2]
  have w : wfB hs (-1) [((i : Int), (x : Rat)), ((j : Int), (y : Rat))] = true := by
    simp only [wfB, cast_pos', Bool.and_true, Bool.and_eq_true, decide_eq_true_eq]
    omega
  rw [w]
  simp only [cast_neg', Bool.true_and]
  rfl
theorem verE3 {hs : List Hf} {i j k : Nat} {x y z : Int} (hij : i < j) (hjk : j < k) (hk : k < hs.length) (hx : 0 < x) (hy : 0 < y) (hz : 0 < z) (h1 : x * (atH hs i).p + y * (atH hs j).p + z * (atH hs k).p = 0) (h2 : x * (atH hs i).q + y * (atH hs j).q + z * (atH hs k).q = 0) : verE hs [((i : Int), (x : Rat)), ((j : Int), (y : Rat)), ((k : Int), (z : Rat))] = decide (x * (atH hs i).r + y * (atH hs j).r + z * (atH hs k).r < 0) := by
  unfold verE
  rw [tot3, h1, h2]
  have w : wfB hs (-1) [((i : Int), (x : Rat)), ((j : Int), (y : Rat)), ((k : Int), (z : Rat))] = true := by
    simp only [wfB, cast_pos', Bool.and_true, Bool.and_eq_true, decide_eq_true_eq]
    omega
  rw [w]
  simp only [cast_neg', Bool.true_and]
  rfl
theorem mul0 {g a : Int} (hg : 0 < g) (h : g * a = 0) : a = 0 := by
  rcases Int.mul_eq_zero.mp h with h | h
  · omega
  · exact h
theorem anti {a b : Hf} (ha : a.ok) (hd : dm a b = 0) (hp : pd a b < 0) : n1 b * a.p + n1 a * b.p = 0 ∧ n1 b * a.q + n1 a * b.q = 0 := by
  have e1 := par_n1 hd hp ha
  obtain ⟨e2, e3⟩ := par_p hd
  have hN := nn_pos ha
  constructor
  · refine mul0 hN ?_
    have : pd a a * (n1 b * a.p + n1 a * b.p) = (n1 b * pd a a) * a.p + n1 a * (b.p * pd a a) := by grind
    rw [this, e1, e2]
    grind
  · refine mul0 hN ?_
    have : pd a a * (n1 b * a.q + n1 a * b.q) = (n1 b * pd a a) * a.q + n1 a * (b.q * pd a a) := by grind
    rw [this, e1, e3]
    grind
theorem gz_pos2 {x y : Int} (h : 0 < x) : 0 < gz x y ∧ gz x y ∣ x ∧ gz x y ∣ y := by
  obtain ⟨d1, d2⟩ := gz_dvd x y
  refine ⟨?_, d1, d2⟩
  rcases Int.lt_or_eq_of_le (gz_nn x y) with h1 | h1
  · exact h1
  · rw [← h1] at d1
    have := Int.zero_dvd.mp d1
    omega
theorem dvd_pos {x g : Int} (hx : 0 < x) (hg : 0 < g) (h : g ∣ x) : 0 < x / g ∧ g * (x / g) = x := by
  have e : g * (x / g) = x := Int.mul_ediv_cancel' h
  refine ⟨?_, e⟩
  rcases Int.lt_trichotomy (x / g) 0 with c | c | c
  · have := Int.mul_neg_of_pos_of_neg hg c
    omega
  · rw [c, Int.mul_zero] at e
    omega
  · exact c
theorem pair_eq {hs : List Hf} {i j : Nat} (hij : i < j) (hj : j < hs.length) (ha : (atH hs i).ok) (hb : (atH hs j).ok) : pairC hs i j = (lpair (atH hs i) (atH hs j)).map fun xy => [((i : Int), (xy.1 : Rat)), ((j : Int), (xy.2 : Rat))] := by
  unfold pairC lpair sh1
  have e1 : dm (negH (atH hs j)) (atH hs i) = dm (atH hs i) (atH hs j) := by unfold dm negH; simp only; grind
  have e2 : pd (negH (atH hs j)) (atH hs i) = -(pd (atH hs i) (atH hs j)) := by unfold pd negH; simp only; grind
  rw [e1, e2]
  by_cases c1 : dm (atH hs i) (atH hs j) = 0
  · have hne := par_ne ha hb c1
    by_cases c2 : pd (atH hs i) (atH hs j) < 0
    · rw [if_neg (by omega), if_neg (by omega)]
      obtain ⟨f1, f2⟩ := anti ha c1 c2
      have e3 := par_n1 c1 c2 ha
      have hN := nn_pos ha
      have na := n1_pos ha
      have nb := n1_pos hb
      have es : ((-(pd (atH hs i) (atH hs j)) : Int) : Rat) / ((pd (atH hs i) (atH hs i) : Int) : Rat) = Rat.divInt (n1 (atH hs j)) (n1 (atH hs i)) := by
        rw [divInt_cast]
        have z1 : ((pd (atH hs i) (atH hs i) : Int) : Rat) ≠ 0 := cast_ne (by omega)
        have z2 : ((n1 (atH hs i) : Int) : Rat) ≠ 0 := cast_ne (by omega)
        have e3' : ((n1 (atH hs j) : Int) : Rat) * ((pd (atH hs i) (atH hs i) : Int) : Rat) = ((-(pd (atH hs i) (atH hs j)) : Int) : Rat) * ((n1 (atH hs i) : Int) : Rat) := by exact_mod_cast e3
        generalize ((-(pd (atH hs i) (atH hs j)) : Int) : Rat) = A at *
        generalize ((pd (atH hs i) (atH hs i) : Int) : Rat) = B at *
        generalize ((n1 (atH hs i) : Int) : Rat) = C at *
        generalize ((n1 (atH hs j) : Int) : Rat) = E at *
        grind
      rw [es, Option.bind_some]
      have hf := fr_divInt (n1 (atH hs j)) (n1 (atH hs i)) na
      unfold fr at hf
      simp only [D.tup.injEq, List.cons.injEq, D.int.injEq, and_true] at hf
      obtain ⟨hn, hd⟩ := hf
      rw [← hn, ← hd]
      obtain ⟨g0, g1, g2⟩ := gz_pos2 (y := n1 (atH hs i)) nb
      obtain ⟨x0, x1⟩ := dvd_pos nb g0 g1
      obtain ⟨y0, y1⟩ := dvd_pos na g0 g2
      generalize gz (n1 (atH hs j)) (n1 (atH hs i)) = g at *
      generalize hX : n1 (atH hs j) / g = X at *
      generalize hY : n1 (atH hs i) / g = Y at *
      have k1 : X * (atH hs i).p + Y * (atH hs j).p = 0 := mul0 g0 (by rw [← f1, ← x1, ← y1]; grind)
      have k2 : X * (atH hs i).q + Y * (atH hs j).q = 0 := mul0 g0 (by rw [← f2, ← x1, ← y1]; grind)
      unfold ckE
      rw [verE2 hij hj x0 y0 k1 k2]
      by_cases c3 : X * (atH hs i).r + Y * (atH hs j).r < 0
      · rw [if_pos (decide_eq_true c3), if_neg (by omega)]
        rfl
      · rw [if_neg (by simpa using c3), if_pos (by omega)]
        rfl
    · rw [if_pos (.inr (by omega)), if_pos (.inr (by omega))]
      rfl
  · rw [if_pos (.inl c1), if_pos (.inl c1)]
    rfl
end Z
end
section
local macro_rules | `(tactic| kt_at_notin) => `(tactic| exact c_gcd _ _ _)
local macro_rules | `(tactic| kt_at_notin) => `(tactic| exact c_absolute _ _)
local macro_rules | `(tactic| kt_at_notin) => `(tactic| exact c_negative _ _)
local macro_rules | `(tactic| kt_at_notin) => `(tactic| (apply c_divide; assumption; kaf_pre))
local macro_rules | `(tactic| kt_at_notin) => `(tactic| (apply c_sign; ktr_units))
local macro_rules | `(tactic| kt_at_notin) => `(tactic| (apply c_is_at_most; kaf_pre))
local macro_rules | `(tactic| kt_at_notin) => `(tactic| (apply c_is_less; kaf_pre))
local macro_rules | `(tactic| kt_at_notin) => `(tactic| (apply c_compare; kaf_pre))
local macro_rules | `(tactic| kt_at_notin) => `(tactic| (apply c_subtract; kaf_pre))
local macro_rules | `(tactic| kt_at_notin) => `(tactic| (apply c_multiply; kaf_pre))
local macro_rules | `(tactic| kt_at_notin) => `(tactic| (apply c_add; kaf_pre))
local macro_rules | `(tactic| kt_at_notin) => `(tactic| exact c_draw _ _ _ _ (by decide))
local macro_rules | `(tactic| kt_at_notin) => `(tactic| exact c_divisor _ _ _ (by assumption))
local macro_rules | `(tactic| kt_at_notin) => `(tactic| (apply c_lfr; assumption; kt_at_in))
local macro_rules | `(tactic| kt_at_notin) => `(tactic| (apply c_less; kaf_pre))
local macro_rules | `(tactic| kt_at_notin) => `(tactic| (apply c_lmul; kaf_pre))
local macro_rules | `(tactic| kt_at_notin) => `(tactic| (apply c_lsub; kaf_pre))
local macro_rules | `(tactic| kt_at_notin) => `(tactic| (apply c_ladd; kaf_pre))
local macro_rules | `(tactic| kt_at_notin) => `(tactic| exact c_gcd _ _ _)
local macro_rules | `(tactic| kt_at_notin) => `(tactic| exact c_absolute _ _)
local macro_rules | `(tactic| kt_at_notin) => `(tactic| exact c_negative _ _)
local macro_rules | `(tactic| kt_at_notin) => `(tactic| (apply c_divide; assumption; kaf_pre))
local macro_rules | `(tactic| kt_at_notin) => `(tactic| (apply c_sign; ktr_units))
local macro_rules | `(tactic| kt_at_notin) => `(tactic| (apply c_is_at_most; kaf_pre))
local macro_rules | `(tactic| kt_at_notin) => `(tactic| (apply c_is_less; kaf_pre))
local macro_rules | `(tactic| kt_at_notin) => `(tactic| (apply c_compare; kaf_pre))
local macro_rules | `(tactic| kt_at_notin) => `(tactic| (apply c_subtract; kaf_pre))
local macro_rules | `(tactic| kt_at_notin) => `(tactic| (apply c_multiply; kaf_pre))
local macro_rules | `(tactic| kt_at_notin) => `(tactic| (apply c_add; kaf_pre))
local macro_rules | `(tactic| kt_at_notin) => `(tactic| exact c_draw _ _ _ _ (by decide))
local macro_rules | `(tactic| kt_at_notin) => `(tactic| exact c_divisor _ _ _ (by assumption))
local macro_rules | `(tactic| kt_at_notin) => `(tactic| (apply c_lfr; assumption; kt_at_in))
local macro_rules | `(tactic| kt_at_notin) => `(tactic| (apply c_less; kaf_pre))
local macro_rules | `(tactic| kt_at_notin) => `(tactic| (apply c_lmul; kaf_pre))
local macro_rules | `(tactic| kt_at_notin) => `(tactic| (apply c_lsub; kaf_pre))
local macro_rules | `(tactic| kt_at_notin) => `(tactic| (apply c_ladd; kaf_pre))
local macro_rules | `(tactic| kfm_turns) => `(tactic| (focus (decide +kernel)))
local macro_rules | `(tactic| kat_tups) => `(tactic| (apply q_nes <;> (focus (decide +kernel))))
local macro_rules | `(tactic| kat_tups) => `(tactic| (apply q_eqs <;> (focus (decide +kernel))))
local macro_rules | `(tactic| kt_at_notin) => `(tactic| (apply c_is_fr; ktr_units))
local macro_rules | `(tactic| kt_at_notin) => `(tactic| (apply c_value; assumption; (focus omega)))
local macro_rules | `(tactic| kt_at_notin) => `(tactic| exact c_fraction1 _ _)
local macro_rules | `(tactic| kt_at_notin) => `(tactic| (apply c_prod <;> assumption))
local macro_rules | `(tactic| kt_at_notin) => `(tactic| (apply c_det <;> assumption))
namespace Z
def l30 (a b c : Hf) (x y z : Int) : Option (Int × Int × Int) := if x ≤ 0 ∨ y ≤ 0 ∨ z ≤ 0 ∨ 0 ≤ x * a.r + y * b.r + z * c.r then none else some (x / gz3 x y z, y / gz3 x y z, z / gz3 x y z)
def lthree (a b c : Hf) : Option (Int × Int × Int) := if dm b c < 0 then l30 a b c (0 - dm b c) (0 - dm c a) (0 - dm a b) else l30 a b c (dm b c) (dm c a) (dm a b)
theorem id_p (a b c : Hf) : dm b c * a.p + dm c a * b.p + dm a b * c.p = 0 := by unfold dm; grind
theorem id_q (a b c : Hf) : dm b c * a.q + dm c a * b.q + dm a b * c.q = 0 := by unfold dm; grind
def tcm (i j k : Nat) (w : Int × Int × Int) : Ct := [((i : Int), (w.1 : Rat)), ((j : Int), (w.2.1 : Rat)), ((k : Int), (w.2.2 : Rat))]
theorem tri0 {hs : List Hf} {i j k : Nat} {x y z : Int} (hij : i < j) (hjk : j < k) (hk : k < hs.length) (h1 : x * (atH hs i).p + y * (atH hs j).p + z * (atH hs k).p = 0) (h2 : x * (atH hs i).q + y * (atH hs j).q + z * (atH hs k).q = 0) :
    (match bal0 x y z with | some [x, y, z] => ckE hs [((i : Int), (x : Rat)), ((j : Int), (y : Rat)), ((k : Int), (z : Rat))] | _ => none) = (l30 (atH hs i) (atH hs j) (atH hs k) x y z).map (tcm i j k) := by
  unfold bal0 l30
  by_cases c : x ≤ 0 ∨ y ≤ 0 ∨ z ≤ 0
  · rw [if_pos c, if_pos (by omega)]
    rfl
  · have x0 : 0 < x := by omega
    have y0 : 0 < y := by omega
    have z0 : 0 < z := by omega
    rw [if_neg c]
    obtain ⟨g0, g1, g2, g3⟩ := gz3_pos (y := y) (z := z) x0
    obtain ⟨p1, q1⟩ := dvd_pos x0 g0 g1
    obtain ⟨p2, q2⟩ := dvd_pos y0 g0 g2
    obtain ⟨p3, q3⟩ := dvd_pos z0 g0 g3
    generalize gz3 x y z = g at *
    generalize hX : x / g = X at *
    generalize hY : y / g = Y at *
    generalize hZ : z / g = Z at *
    have k1 : X * (atH hs i).p + Y * (atH hs j).p + Z * (atH hs k).p = 0 := mul0 g0 (by rw [← h1, ← q1, ← q2, ← q3]; grind)
    have k2 : X * (atH hs i).q + Y * (atH hs j).q + Z * (atH hs k).q = 0 := mul0 g0 (by rw [← h2, ← q1, ← q2, ← q3]; grind)
    simp only
    unfold ckE
    rw [verE3 hij hjk hk p1 p2 p3 k1 k2]
    have e : x * (atH hs i).r + y * (atH hs j).r + z * (atH hs k).r = g * (X * (atH hs i).r + Y * (atH hs j).r + Z * (atH hs k).r) := by rw [← q1, ← q2, ← q3]; grind
    rw [e]
    generalize X * (atH hs i).r + Y * (atH hs j).r + Z * (atH hs k).r = S at *
    by_cases c3 : S < 0
    · have : g * S < 0 := Int.mul_neg_of_pos_of_neg g0 c3
      rw [if_pos (decide_eq_true c3), if_neg (by omega)]
      rfl
    · have : 0 ≤ g * S := Int.mul_nonneg (by omega) (by omega)
      rw [if_neg (by simpa using c3), if_pos (by omega)]
      rfl
theorem bal0_neg {x y z : Int} (h : x < 0 ∨ y < 0 ∨ z < 0) : bal0 x y z = none := by
  unfold bal0
  rw [if_pos (by omega)]
theorem tri_eq {hs : List Hf} {i j k : Nat} (hij : i < j) (hjk : j < k) (hk : k < hs.length) : triC hs i j k = (lthree (atH hs i) (atH hs j) (atH hs k)).map (tcm i j k) := by
  have e1 := id_p (atH hs i) (atH hs j) (atH hs k)
  have e2 := id_q (atH hs i) (atH hs j) (atH hs k)
  have f1 : (0 - dm (atH hs j) (atH hs k)) * (atH hs i).p + (0 - dm (atH hs k) (atH hs i)) * (atH hs j).p + (0 - dm (atH hs i) (atH hs j)) * (atH hs k).p = 0 := by grind
  have f2 : (0 - dm (atH hs j) (atH hs k)) * (atH hs i).q + (0 - dm (atH hs k) (atH hs i)) * (atH hs j).q + (0 - dm (atH hs i) (atH hs j)) * (atH hs k).q = 0 := by grind
  unfold triC balW lthree
  by_cases c : dm (atH hs j) (atH hs k) < 0
  · (rw [if_pos (.inl c), if_pos c, ← tri0 hij hjk hk f1 f2, Int.zero_sub, Int.zero_sub, Int.zero_sub]) <;> rfl
  · rw [if_neg c, ← tri0 hij hjk hk e1 e2]
    by_cases d : dm (atH hs j) (atH hs k) < 0 ∨ dm (atH hs k) (atH hs i) < 0 ∨ dm (atH hs i) (atH hs j) < 0
    · rw [if_pos d, bal0_neg d]
      have : bal0 (-dm (atH hs j) (atH hs k)) (-dm (atH hs k) (atH hs i)) (-dm (atH hs i) (atH hs j)) = none := by
        unfold bal0
        rw [if_pos (.inl (by omega))]
      rw [this]
    · (rw [if_neg d]) <;> rfl
theorem TC.rot {a b c : Hf} (h : TC a b c) : TC b c a := by
  obtain ⟨h1, h2, h3, h4⟩ := h
  exact ⟨h2, h3, h1, by omega⟩
theorem l30_some {a b c : Hf} {x y z : Int} : (l30 a b c x y z).isSome = true ↔ 0 < x ∧ 0 < y ∧ 0 < z ∧ x * a.r + y * b.r + z * c.r < 0 := by
  unfold l30
  by_cases h : x ≤ 0 ∨ y ≤ 0 ∨ z ≤ 0 ∨ 0 ≤ x * a.r + y * b.r + z * c.r
  · rw [if_pos h]
    simp only [Option.isSome_none, Bool.false_eq_true, false_iff]
    omega
  · rw [if_neg h]
    simp only [Option.isSome_some, true_iff]
    omega
theorem three_some {a b c : Hf} : (lthree a b c).isSome = true ↔ TC a b c ∨ TC a c b := by
  have s1 := dm_neg b c
  have s2 := dm_neg c a
  have s3 := dm_neg a b
  unfold lthree TC
  by_cases h : dm b c < 0
  · rw [if_pos h, l30_some]
    have e : (0 - dm b c) * a.r + (0 - dm c a) * b.r + (0 - dm a b) * c.r = dm c b * a.r + dm b a * c.r + dm a c * b.r := by rw [s1, s2, s3]; grind
    rw [e]
    constructor
    · rintro ⟨h1, h2, h3, h4⟩
      exact .inr ⟨by omega, by omega, by omega, h4⟩
    · rintro (⟨h1, _⟩ | ⟨h1, h2, h3, h4⟩)
      · omega
      · exact ⟨by omega, by omega, by omega, h4⟩
  · rw [if_neg h, l30_some]
    constructor
    · rintro ⟨h1, h2, h3, h4⟩
      exact .inl ⟨h1, h2, h3, h4⟩
    · rintro (⟨h1, h2, h3, h4⟩ | ⟨h1, _⟩)
      · exact ⟨h1, h2, h3, h4⟩
      · omega
theorem pair_some {a b : Hf} (ha : a.ok) (hb : b.ok) : (lpair a b).isSome = true ↔ PC a b := by
  unfold lpair PC
  by_cases c : dm a b ≠ 0 ∨ 0 ≤ pd a b
  · rw [if_pos c]
    simp only [Option.isSome_none, Bool.false_eq_true, false_iff]
    omega
  · rw [if_neg c]
    have na := n1_pos ha
    have nb := n1_pos hb
    obtain ⟨g0, g1, g2⟩ := gz_pos2 (y := n1 a) nb
    obtain ⟨x0, x1⟩ := dvd_pos nb g0 g1
    obtain ⟨y0, y1⟩ := dvd_pos na g0 g2
    generalize gz (n1 b) (n1 a) = g at *
    generalize n1 b / g = X at *
    generalize n1 a / g = Y at *
    have e : n1 b * a.r + n1 a * b.r = g * (X * a.r + Y * b.r) := by rw [← x1, ← y1]; grind
    rw [e]
    generalize X * a.r + Y * b.r = S at *
    by_cases c3 : S < 0
    · have : g * S < 0 := Int.mul_neg_of_pos_of_neg g0 c3
      rw [if_neg (by omega)]
      simp only [Option.isSome_some, true_iff]
      omega
    · have : 0 ≤ g * S := Int.mul_nonneg (by omega) (by omega)
      rw [if_pos (by omega)]
      simp only [Option.isSome_none, Bool.false_eq_true, false_iff]
      omega
theorem PC.sym {a b : Hf} (h : PC a b) : PC b a := by
  obtain ⟨h1, h2, h3⟩ := h
  refine ⟨by rw [dm_neg, h1]; rfl, by rw [pd_comm]; exact h2, by omega⟩
theorem PC.irr {a : Hf} (h : PC a a) : False := by
  have := sq_nn a.p
  have := sq_nn a.q
  have h2 := h.2.1
  unfold pd at h2
  omega
theorem dm_self (a : Hf) : dm a a = 0 := by unfold dm; grind
def lf (hs : List Hf) : Option Ct := match fpair hs with
  | none => fthree hs
  | some ct => some ct
theorem cmb2_in {n i j : Nat} (h1 : i < j) (h2 : j < n) : [i, j] ∈ cmb2 n := by
  unfold cmb2
  refine List.mem_flatMap.mpr ⟨i, List.mem_range.mpr (by omega), List.mem_map.mpr ⟨j, List.mem_filter.mpr ⟨List.mem_range.mpr h2, by simpa using h1⟩, rfl⟩⟩
theorem cmb3_in {n i j k : Nat} (h1 : i < j) (h2 : j < k) (h3 : k < n) : [i, j, k] ∈ cmb3 n := by
  unfold cmb3
  refine List.mem_flatMap.mpr ⟨i, List.mem_range.mpr (by omega), List.mem_flatMap.mpr ⟨j, List.mem_filter.mpr ⟨List.mem_range.mpr (by omega), by simpa using h1⟩, List.mem_map.mpr ⟨k, List.mem_filter.mpr ⟨List.mem_range.mpr h3, by simpa using h2⟩, rfl⟩⟩⟩
theorem atH_at {hs : List Hf} {a : Hf} (h : a ∈ hs) : ∃ i, i < hs.length ∧ atH hs (i : Int) = a := by
  obtain ⟨i, hi, e⟩ := List.mem_iff_getElem.mp h
  refine ⟨i, hi, ?_⟩
  unfold atH
  rw [Int.toNat_natCast, List.getD_eq_getElem?_getD, List.getElem?_eq_getElem hi, Option.getD_some, e]
theorem fs_some {α β : Type} {f : α → Option β} {L : List α} : (L.findSome? f).isSome = true ↔ ∃ x ∈ L, (f x).isSome = true := by
  constructor
  · intro h
    obtain ⟨b, hb⟩ := Option.isSome_iff_exists.mp h
    obtain ⟨x, hx, e⟩ := List.exists_of_findSome?_eq_some hb
    exact ⟨x, hx, by rw [e]; rfl⟩
  · rintro ⟨x, hx, e⟩
    cases h : L.findSome? f with
    | some b => rfl
    | none =>
      have := List.findSome?_eq_none_iff.mp h x hx
      rw [this] at e
      cases e
theorem at_ok {hs : List Hf} (ho : ∀ h ∈ hs, h.ok) {i : Nat} (h : i < hs.length) : (atH hs (i : Int)).ok := ho _ (pk_nat h).2
theorem fpair_iff {hs : List Hf} (ho : ∀ h ∈ hs, h.ok) : (fpair hs).isSome = true ↔ ∃ a ∈ hs, ∃ b ∈ hs, PC a b := by
  unfold fpair
  rw [fs_some]
  have key : ∀ i j, i < j → j < hs.length → ((pairL hs [i, j]).isSome = true ↔ PC (atH hs (i : Int)) (atH hs (j : Int))) := fun i j h1 h2 => by
    have e : pairL hs [i, j] = pairC hs i j := rfl
    rw [e, pair_eq h1 h2 (at_ok ho (by omega)) (at_ok ho h2), Option.isSome_map, pair_some (at_ok ho (by omega)) (at_ok ho h2)]
  constructor
  · rintro ⟨l, hl, h⟩
    obtain ⟨i, j, rfl, h1, h2⟩ := cmb2_mem hl
    exact ⟨_, (pk_nat (hs := hs) (i := i) (by omega)).2, _, (pk_nat h2).2, (key i j h1 h2).mp h⟩
  · rintro ⟨a, ha, b, hb, h⟩
    obtain ⟨i, hi, rfl⟩ := atH_at ha
    obtain ⟨j, hj, rfl⟩ := atH_at hb
    rcases Nat.lt_trichotomy i j with c | c | c
    · exact ⟨_, cmb2_in c hj, (key i j c hj).mpr h⟩
    · subst c
      exact h.irr.elim
    · exact ⟨_, cmb2_in c hi, (key j i c hi).mpr h.sym⟩
theorem fthree_iff {hs : List Hf} : (fthree hs).isSome = true ↔ ∃ a ∈ hs, ∃ b ∈ hs, ∃ c ∈ hs, TC a b c := by
  unfold fthree
  rw [fs_some]
  have key : ∀ i j k, i < j → j < k → k < hs.length → ((triL hs [i, j, k]).isSome = true ↔ TC (atH hs (i : Int)) (atH hs (j : Int)) (atH hs (k : Int)) ∨ TC (atH hs (i : Int)) (atH hs (k : Int)) (atH hs (j : Int))) := fun i j k h1 h2 h3 => by
    have e : triL hs [i, j, k] = triC hs i j k := rfl
    rw [e, tri_eq h1 h2 h3, Option.isSome_map, three_some]
  constructor
  · rintro ⟨l, hl, h⟩
    obtain ⟨i, j, k, rfl, h1, h2, h3⟩ := cmb3_mem hl
    have mi := (pk_nat (hs := hs) (i := i) (by omega)).2
    have mj := (pk_nat (hs := hs) (i := j) (by omega)).2
    have mk' := (pk_nat (hs := hs) (i := k) h3).2
    rcases (key i j k h1 h2 h3).mp h with h | h
    · exact ⟨_, mi, _, mj, _, mk', h⟩
    · exact ⟨_, mi, _, mk', _, mj, h⟩
  · rintro ⟨a, ha, b, hb, c, hc, h⟩
    obtain ⟨i, hi, rfl⟩ := atH_at ha
    obtain ⟨j, hj, rfl⟩ := atH_at hb
    obtain ⟨k, hk, rfl⟩ := atH_at hc
    have n1' : i ≠ j := fun e => by subst e; have := h.2.2.1; rw [dm_self] at this; omega
    have n2' : j ≠ k := fun e => by subst e; have := h.1; rw [dm_self] at this; omega
    have n3' : k ≠ i := fun e => by subst e; have := h.2.1; rw [dm_self] at this; omega
    rcases Nat.lt_or_gt_of_ne n1' with c1 | c1 <;> rcases Nat.lt_or_gt_of_ne n2' with c2 | c2 <;> rcases Nat.lt_or_gt_of_ne n3' with c3 | c3
    · omega
    · exact ⟨_, cmb3_in c1 c2 hk, (key i j k c1 c2 hk).mpr (.inl h)⟩
    · exact ⟨_, cmb3_in c3 c1 hj, (key k i j c3 c1 hj).mpr (.inl h.rot.rot)⟩
    · exact ⟨_, cmb3_in c3 c2 hj, (key i k j c3 c2 hj).mpr (.inr h)⟩
    · exact ⟨_, cmb3_in c2 c3 hi, (key j k i c2 c3 hi).mpr (.inl h.rot)⟩
    · exact ⟨_, cmb3_in c1 c3 hk, (key j i k c1 c3 hk).mpr (.inr h.rot)⟩
    · exact ⟨_, cmb3_in c2 c1 hi, (key k j i c2 c1 hi).mpr (.inr h.rot.rot)⟩
    · omega
theorem lf_iff {hs : List Hf} (ho : ∀ h ∈ hs, h.ok) : (lf hs).isSome = true ↔ sray hs = none := by
  rw [← why_iff ho]
  unfold lf Why
  rw [← fpair_iff ho, ← fthree_iff]
  cases fpair hs with
  | none => simp
  | some ct => simp
theorem ecert_lf {hs : List Hf} (ho : ∀ h ∈ hs, h.ok) : ecert hs = lf hs := by
  have h := lf_iff ho
  unfold ecert
  cases hr : sray hs with
  | none =>
    rw [if_neg (by simp)]
    rfl
  | some x =>
    rw [if_pos (by simp)]
    rw [hr] at h
    cases hl : lf hs with
    | none => rfl
    | some ct =>
      rw [hl] at h
      have := h.mp rfl
      cases this
theorem lf_ver {hs : List Hf} {ct : Ct} (h : lf hs = some ct) : verE hs ct = true := by
  have ck : ∀ ct, ckE hs ct ≠ none → verE hs ct = true := fun ct h => by
    unfold ckE at h
    split at h
    · assumption
    · exact absurd rfl h
  have ck2 : ∀ c ct, ckE hs c = some ct → verE hs ct = true := fun c ct h => by
    unfold ckE at h
    split at h
    · cases h
      assumption
    · cases h
  have k1 : ∀ ct, fpair hs = some ct → verE hs ct = true := fun ct e => by
    obtain ⟨l, hl, e⟩ := List.exists_of_findSome?_eq_some e
    obtain ⟨i, j, rfl, _, _⟩ := cmb2_mem hl
    obtain ⟨s, _, e⟩ := Option.bind_eq_some_iff.mp (show (sh1 (negH (atH hs j)) (atH hs i)).bind _ = some ct from e)
    exact ck2 _ _ e
  have k2 : ∀ ct, fthree hs = some ct → verE hs ct = true := fun ct e => by
    obtain ⟨l, hl, e⟩ := List.exists_of_findSome?_eq_some e
    obtain ⟨i, j, k, rfl, _, _, _⟩ := cmb3_mem hl
    have e : triC hs i j k = some ct := e
    unfold triC at e
    split at e
    · exact ck2 _ _ e
    · cases e
  unfold lf at h
  split at h
  · exact k2 ct h
  · rename_i c hc
    cases h
    exact k1 ct hc
end Z
end
section
local macro_rules | `(tactic| kt_at_notin) => `(tactic| exact c_gcd _ _ _)
local macro_rules | `(tactic| kt_at_notin) => `(tactic| exact c_absolute _ _)
local macro_rules | `(tactic| kt_at_notin) => `(tactic| exact c_negative _ _)
local macro_rules | `(tactic| kt_at_notin) => `(tactic| (apply c_divide; assumption; kaf_pre))
local macro_rules | `(tactic| kt_at_notin) => `(tactic| (apply c_sign; ktr_units))
local macro_rules | `(tactic| kt_at_notin) => `(tactic| (apply c_is_at_most; kaf_pre))
local macro_rules | `(tactic| kt_at_notin) => `(tactic| (apply c_is_less; kaf_pre))
local macro_rules | `(tactic| kt_at_notin) => `(tactic| (apply c_compare; kaf_pre))
local macro_rules | `(tactic| kt_at_notin) => `(tactic| (apply c_subtract; kaf_pre))
local macro_rules | `(tactic| kt_at_notin) => `(tactic| (apply c_multiply; kaf_pre))
local macro_rules | `(tactic| kt_at_notin) => `(tactic| (apply c_add; kaf_pre))
local macro_rules | `(tactic| kt_at_notin) => `(tactic| exact c_draw _ _ _ _ (by decide))
local macro_rules | `(tactic| kt_at_notin) => `(tactic| exact c_divisor _ _ _ (by assumption))
local macro_rules | `(tactic| kt_at_notin) => `(tactic| (apply c_lfr; assumption; kt_at_in))
local macro_rules | `(tactic| kt_at_notin) => `(tactic| (apply c_less; kaf_pre))
local macro_rules | `(tactic| kt_at_notin) => `(tactic| (apply c_lmul; kaf_pre))
local macro_rules | `(tactic| kt_at_notin) => `(tactic| (apply c_lsub; kaf_pre))
local macro_rules | `(tactic| kt_at_notin) => `(tactic| (apply c_ladd; kaf_pre))
local macro_rules | `(tactic| kt_at_notin) => `(tactic| exact c_gcd _ _ _)
local macro_rules | `(tactic| kt_at_notin) => `(tactic| exact c_absolute _ _)
local macro_rules | `(tactic| kt_at_notin) => `(tactic| exact c_negative _ _)
local macro_rules | `(tactic| kt_at_notin) => `(tactic| (apply c_divide; assumption; kaf_pre))
local macro_rules | `(tactic| kt_at_notin) => `(tactic| (apply c_sign; ktr_units))
local macro_rules | `(tactic| kt_at_notin) => `(tactic| (apply c_is_at_most; kaf_pre))
local macro_rules | `(tactic| kt_at_notin) => `(tactic| (apply c_is_less; kaf_pre))
local macro_rules | `(tactic| kt_at_notin) => `(tactic| (apply c_compare; kaf_pre))
local macro_rules | `(tactic| kt_at_notin) => `(tactic| (apply c_subtract; kaf_pre))
local macro_rules | `(tactic| kt_at_notin) => `(tactic| (apply c_multiply; kaf_pre))
local macro_rules | `(tactic| kt_at_notin) => `(tactic| (apply c_add; kaf_pre))
local macro_rules | `(tactic| kt_at_notin) => `(tactic| exact c_draw _ _ _ _ (by decide))
local macro_rules | `(tactic| kt_at_notin) => `(tactic| exact c_divisor _ _ _ (by assumption))
local macro_rules | `(tactic| kt_at_notin) => `(tactic| (apply c_lfr; assumption; kt_at_in))
local macro_rules | `(tactic| kt_at_notin) => `(tactic| (apply c_less; kaf_pre))
local macro_rules | `(tactic| kt_at_notin) => `(tactic| (apply c_lmul; kaf_pre))
local macro_rules | `(tactic| kt_at_notin) => `(tactic| (apply c_lsub; kaf_pre))
local macro_rules | `(tactic| kt_at_notin) => `(tactic| (apply c_ladd; kaf_pre))
local macro_rules | `(tactic| kfm_turns) => `(tactic| (focus (decide +kernel)))
local macro_rules | `(tactic| kat_tups) => `(tactic| (apply q_nes <;> (focus (decide +kernel))))
local macro_rules | `(tactic| kat_tups) => `(tactic| (apply q_eqs <;> (focus (decide +kernel))))
local macro_rules | `(tactic| kt_at_notin) => `(tactic| (apply c_is_fr; ktr_units))
local macro_rules | `(tactic| kt_at_notin) => `(tactic| (apply c_value; assumption; (focus omega)))
local macro_rules | `(tactic| kt_at_notin) => `(tactic| exact c_fraction1 _ _)
local macro_rules | `(tactic| kt_at_notin) => `(tactic| (apply c_prod <;> assumption))
local macro_rules | `(tactic| kt_at_notin) => `(tactic| (apply c_det <;> assumption))
namespace Z
theorem n1_if (h : Hf) : n1 h = (if h.p < 0 then -h.p else h.p) + (if h.q < 0 then -h.q else h.q) := by
  unfold n1
  split <;> split <;> omega
theorem bi_if {i : Int} {n : Nat} (h : bi i ≤ n) : bi (if i < 0 then -i else i) ≤ n := by
  split
  · rw [bi_neg]; exact h
  · exact h
def lpD (o : Option (Int × Int)) : D := match o with
  | none => .non
  | some w => .lst [.int w.1, .int w.2]
theorem c_lpair (k : Nat) (a b : Hf) (ha : a.ok) (hb : b.ok) (za : a.z 3) (zb : b.z 3) : Ret (callK tab.fns (k + 2)) i__law_pair [(hd a, .frz), (hd b, .frz)] (lpD (lpair a b)) (lpair a b).isSome := by
  have nb := n1_pos hb
  obtain ⟨g0, _, _⟩ := gz_pos2 (y := n1 a) nb
  have bn : ∀ h : Hf, h.z 3 → bi (n1 h) ≤ 4 := fun h z => by
    rw [n1_if]
    exact bi_add (bi_if z.1) (bi_if z.2.1)
  have ba := bn a za
  have bb := bn b zb
  have gb : bi (gz (n1 b) (n1 a)) ≤ 8000 := Nat.le_trans (bi_gz (by have := n1_pos ha; omega)) (by omega)
  have kd : Ret (callK tab.fns (k + 1)) i__law_divisor [(.int (n1 b), .frz), (.int (n1 a), .frz)] (.int (gz (n1 b) (n1 a))) false := c_divisor k _ _ (by omega)
  have f1 := q_fdivb (i := n1 b) g0 gb
  have f2 := q_fdivb (i := n1 a) g0 gb
  have bx : bi (n1 b / gz (n1 b) (n1 a)) ≤ 4 := Nat.le_trans (bi_ediv g0) bb
  have by' : bi (n1 a / gz (n1 b) (n1 a)) ≤ 4 := Nat.le_trans (bi_ediv g0) ba
  clear bn ha hb nb g0 gb ba bb
  unfold lpair dm pd
  generalize hG : gz (n1 b) (n1 a) = g at *
  generalize hX : n1 b / g = X at *
  generalize hY : n1 a / g = Y at *
  clear hG hX hY
  rw [n1_if a, n1_if b] at kd
  rw [n1_if b] at f1
  rw [n1_if a] at f2
  obtain ⟨z1, z2, z3⟩ := za
  obtain ⟨z4, z5, z6⟩ := zb
  simp only [hd]
  by_cases c1 : a.p * b.q = a.q * b.p
  · by_cases c2 : a.p * b.p + a.q * b.q ≥ 0
    · rw [if_pos (.inr c2)]
      clear kd f1 f2
      apply v_fn fn__law_pair rfl
      walk_at "go"
      exact ⟨rfl, rfl⟩
    · rw [if_neg (by omega)]
      by_cases c3 : X * a.r + Y * b.r ≥ 0
      · rw [if_pos c3]
        apply v_fn fn__law_pair rfl
        walk_at "go"
        exact ⟨rfl, rfl⟩
      · rw [if_neg c3]
        apply v_fn fn__law_pair rfl
        walk_at "go"
        exact ⟨rfl, rfl⟩
  · rw [if_pos (.inl (by omega))]
    clear kd f1 f2
    apply v_fn fn__law_pair rfl
    walk_at "go"
    exact ⟨rfl, rfl⟩
end Z
namespace Z
def ltD (o : Option (Int × Int × Int)) : D := match o with
  | none => .non
  | some w => .lst [.int w.1, .int w.2.1, .int w.2.2]
theorem c_lthree (k : Nat) (a b c : Hf) (za : a.z 3) (zb : b.z 3) (zc : c.z 3) : Ret (callK tab.fns (k + 2)) i__law_three [(hd a, .frz), (hd b, .frz), (hd c, .frz)] (ltD (lthree a b c)) (lthree a b c).isSome := by
  have b1 := bi_dm zb zc
  have b2 := bi_dm zc za
  have b3 := bi_dm za zb
  have m : ∀ x y z : Int, bi x ≤ 7 → bi y ≤ 7 → bi z ≤ 7 → ¬ (x ≤ 0 ∨ y ≤ 0 ∨ z ≤ 0 ∨ 0 ≤ x * a.r + y * b.r + z * c.r) → ∃ g g1, gz3 x y z = g ∧ Ret (callK tab.fns (k + 1)) i__law_divisor [(.int x, .frz), (.int y, .frz)] (.int g1) false ∧ Ret (callK tab.fns (k + 1)) i__law_divisor [(.int g1, .frz), (.int z, .frz)] (.int g) false ∧ 0 < g ∧ bi g ≤ 8000 := fun x y z hx hy hz hc => by
    obtain ⟨g0, gb⟩ := gz3_z (y := y) (z := z) (show 0 < x by omega) (by omega)
    exact ⟨_, _, rfl, c_divisor k x y (by omega), c_divisor k (gz x y) z (by omega), g0, gb⟩
  have e1 : dm b c = b.p * c.q - b.q * c.p := rfl
  have e2 : dm c a = c.p * a.q - c.q * a.p := rfl
  have e3 : dm a b = a.p * b.q - a.q * b.p := rfl
  unfold lthree
  rw [e1, e2, e3] at *
  obtain ⟨z1, z2, z3⟩ := za
  obtain ⟨z4, z5, z6⟩ := zb
  obtain ⟨z7, z8, z9⟩ := zc
  clear e1 e2 e3
  simp only [hd]
  by_cases c1 : b.p * c.q - b.q * c.p < 0
  · rw [if_pos c1]
    have m := m (0 - (b.p * c.q - b.q * c.p)) (0 - (c.p * a.q - c.q * a.p)) (0 - (a.p * b.q - a.q * b.p)) (by rw [Int.zero_sub, bi_neg]; exact b1) (by rw [Int.zero_sub, bi_neg]; exact b2) (by rw [Int.zero_sub, bi_neg]; exact b3)
    have h1 : bi (0 - (b.p * c.q - b.q * c.p)) ≤ 7 := by rw [Int.zero_sub, bi_neg]; exact b1
    have h2 : bi (0 - (c.p * a.q - c.q * a.p)) ≤ 7 := by rw [Int.zero_sub, bi_neg]; exact b2
    have h3 : bi (0 - (a.p * b.q - a.q * b.p)) ≤ 7 := by rw [Int.zero_sub, bi_neg]; exact b3
    unfold l30
    by_cases d1 : 0 - (b.p * c.q - b.q * c.p) ≤ 0
    · rw [if_pos (.inl d1)]
      clear m
      apply v_fn fn__law_three rfl
      walk_at "go"
      exact ⟨rfl, rfl⟩
    · by_cases d2 : 0 - (c.p * a.q - c.q * a.p) ≤ 0
      · rw [if_pos (.inr (.inl d2))]
        clear m
        apply v_fn fn__law_three rfl
        walk_at "go"
        exact ⟨rfl, rfl⟩
      · by_cases d3 : 0 - (a.p * b.q - a.q * b.p) ≤ 0
        · rw [if_pos (.inr (.inr (.inl d3)))]
          clear m
          apply v_fn fn__law_three rfl
          walk_at "go"
          exact ⟨rfl, rfl⟩
        · by_cases d4 : (0 - (b.p * c.q - b.q * c.p)) * a.r + (0 - (c.p * a.q - c.q * a.p)) * b.r + (0 - (a.p * b.q - a.q * b.p)) * c.r ≥ 0
          · rw [if_pos (.inr (.inr (.inr d4)))]
            clear m
            apply v_fn fn__law_three rfl
            walk_at "go"
            exact ⟨rfl, rfl⟩
          · have hc : ¬ (0 - (b.p * c.q - b.q * c.p) ≤ 0 ∨ 0 - (c.p * a.q - c.q * a.p) ≤ 0 ∨ 0 - (a.p * b.q - a.q * b.p) ≤ 0 ∨ 0 ≤ (0 - (b.p * c.q - b.q * c.p)) * a.r + (0 - (c.p * a.q - c.q * a.p)) * b.r + (0 - (a.p * b.q - a.q * b.p)) * c.r) := by
              rintro (h | h | h | h)
              · exact d1 h
              · exact d2 h
              · exact d3 h
              · exact d4 h
            rw [if_neg hc]
            obtain ⟨g, g1, eg, k1, k2, g0, gb⟩ := m hc
            rw [eg]
            have f1 := q_fdivb (i := 0 - (b.p * c.q - b.q * c.p)) g0 gb
            have f2 := q_fdivb (i := 0 - (c.p * a.q - c.q * a.p)) g0 gb
            have f3 := q_fdivb (i := 0 - (a.p * b.q - a.q * b.p)) g0 gb
            clear m hc eg
            apply v_fn fn__law_three rfl
            walk_at "go"
            exact ⟨rfl, rfl⟩
  · rw [if_neg c1]
    have m := m (b.p * c.q - b.q * c.p) (c.p * a.q - c.q * a.p) (a.p * b.q - a.q * b.p) b1 b2 b3
    unfold l30
    by_cases d1 : b.p * c.q - b.q * c.p ≤ 0
    · rw [if_pos (.inl d1)]
      clear m
      apply v_fn fn__law_three rfl
      walk_at "go"
      exact ⟨rfl, rfl⟩
    · by_cases d2 : c.p * a.q - c.q * a.p ≤ 0
      · rw [if_pos (.inr (.inl d2))]
        clear m
        apply v_fn fn__law_three rfl
        walk_at "go"
        exact ⟨rfl, rfl⟩
      · by_cases d3 : a.p * b.q - a.q * b.p ≤ 0
        · rw [if_pos (.inr (.inr (.inl d3)))]
          clear m
          apply v_fn fn__law_three rfl
          walk_at "go"
          exact ⟨rfl, rfl⟩
        · by_cases d4 : (b.p * c.q - b.q * c.p) * a.r + (c.p * a.q - c.q * a.p) * b.r + (a.p * b.q - a.q * b.p) * c.r ≥ 0
          · rw [if_pos (.inr (.inr (.inr d4)))]
            clear m
            apply v_fn fn__law_three rfl
            walk_at "go"
            exact ⟨rfl, rfl⟩
          · have hc : ¬ (b.p * c.q - b.q * c.p ≤ 0 ∨ c.p * a.q - c.q * a.p ≤ 0 ∨ a.p * b.q - a.q * b.p ≤ 0 ∨ 0 ≤ (b.p * c.q - b.q * c.p) * a.r + (c.p * a.q - c.q * a.p) * b.r + (a.p * b.q - a.q * b.p) * c.r) := by
              rintro (h | h | h | h)
              · exact d1 h
              · exact d2 h
              · exact d3 h
              · exact d4 h
            rw [if_neg hc]
            obtain ⟨g, g1, eg, k1, k2, g0, gb⟩ := m hc
            rw [eg]
            have f1 := q_fdivb (i := b.p * c.q - b.q * c.p) g0 gb
            have f2 := q_fdivb (i := c.p * a.q - c.q * a.p) g0 gb
            have f3 := q_fdivb (i := a.p * b.q - a.q * b.p) g0 gb
            clear m hc eg
            apply v_fn fn__law_three rfl
            walk_at "go"
            exact ⟨rfl, rfl⟩
end Z
end
section
local macro_rules | `(tactic| kt_at_notin) => `(tactic| exact c_gcd _ _ _)
local macro_rules | `(tactic| kt_at_notin) => `(tactic| exact c_absolute _ _)
local macro_rules | `(tactic| kt_at_notin) => `(tactic| exact c_negative _ _)
local macro_rules | `(tactic| kt_at_notin) => `(tactic| (apply c_divide; assumption; kaf_pre))
local macro_rules | `(tactic| kt_at_notin) => `(tactic| (apply c_sign; ktr_units))
local macro_rules | `(tactic| kt_at_notin) => `(tactic| (apply c_is_at_most; kaf_pre))
local macro_rules | `(tactic| kt_at_notin) => `(tactic| (apply c_is_less; kaf_pre))
local macro_rules | `(tactic| kt_at_notin) => `(tactic| (apply c_compare; kaf_pre))
local macro_rules | `(tactic| kt_at_notin) => `(tactic| (apply c_subtract; kaf_pre))
local macro_rules | `(tactic| kt_at_notin) => `(tactic| (apply c_multiply; kaf_pre))
local macro_rules | `(tactic| kt_at_notin) => `(tactic| (apply c_add; kaf_pre))
local macro_rules | `(tactic| kt_at_notin) => `(tactic| exact c_draw _ _ _ _ (by decide))
local macro_rules | `(tactic| kt_at_notin) => `(tactic| exact c_divisor _ _ _ (by assumption))
local macro_rules | `(tactic| kt_at_notin) => `(tactic| (apply c_lfr; assumption; kt_at_in))
local macro_rules | `(tactic| kt_at_notin) => `(tactic| (apply c_less; kaf_pre))
local macro_rules | `(tactic| kt_at_notin) => `(tactic| (apply c_lmul; kaf_pre))
local macro_rules | `(tactic| kt_at_notin) => `(tactic| (apply c_lsub; kaf_pre))
local macro_rules | `(tactic| kt_at_notin) => `(tactic| (apply c_ladd; kaf_pre))
local macro_rules | `(tactic| kt_at_notin) => `(tactic| exact c_gcd _ _ _)
local macro_rules | `(tactic| kt_at_notin) => `(tactic| exact c_absolute _ _)
local macro_rules | `(tactic| kt_at_notin) => `(tactic| exact c_negative _ _)
local macro_rules | `(tactic| kt_at_notin) => `(tactic| (apply c_divide; assumption; kaf_pre))
local macro_rules | `(tactic| kt_at_notin) => `(tactic| (apply c_sign; ktr_units))
local macro_rules | `(tactic| kt_at_notin) => `(tactic| (apply c_is_at_most; kaf_pre))
local macro_rules | `(tactic| kt_at_notin) => `(tactic| (apply c_is_less; kaf_pre))
local macro_rules | `(tactic| kt_at_notin) => `(tactic| (apply c_compare; kaf_pre))
local macro_rules | `(tactic| kt_at_notin) => `(tactic| (apply c_subtract; kaf_pre))
local macro_rules | `(tactic| kt_at_notin) => `(tactic| (apply c_multiply; kaf_pre))
local macro_rules | `(tactic| kt_at_notin) => `(tactic| (apply c_add; kaf_pre))
local macro_rules | `(tactic| kt_at_notin) => `(tactic| exact c_draw _ _ _ _ (by decide))
local macro_rules | `(tactic| kt_at_notin) => `(tactic| exact c_divisor _ _ _ (by assumption))
local macro_rules | `(tactic| kt_at_notin) => `(tactic| (apply c_lfr; assumption; kt_at_in))
local macro_rules | `(tactic| kt_at_notin) => `(tactic| (apply c_less; kaf_pre))
local macro_rules | `(tactic| kt_at_notin) => `(tactic| (apply c_lmul; kaf_pre))
local macro_rules | `(tactic| kt_at_notin) => `(tactic| (apply c_lsub; kaf_pre))
local macro_rules | `(tactic| kt_at_notin) => `(tactic| (apply c_ladd; kaf_pre))
local macro_rules | `(tactic| kfm_turns) => `(tactic| (focus (decide +kernel)))
local macro_rules | `(tactic| kat_tups) => `(tactic| (apply q_nes <;> (focus (decide +kernel))))
local macro_rules | `(tactic| kat_tups) => `(tactic| (apply q_eqs <;> (focus (decide +kernel))))
local macro_rules | `(tactic| kt_at_notin) => `(tactic| (apply c_is_fr; ktr_units))
local macro_rules | `(tactic| kt_at_notin) => `(tactic| (apply c_value; assumption; (focus omega)))
local macro_rules | `(tactic| kt_at_notin) => `(tactic| exact c_fraction1 _ _)
local macro_rules | `(tactic| kt_at_notin) => `(tactic| (apply c_prod <;> assumption))
local macro_rules | `(tactic| kt_at_notin) => `(tactic| (apply c_det <;> assumption))
namespace Z
theorem fs_fm {α β γ : Type} {q : α → Bool} {g : α → β} {p : β → Option γ} : ∀ L : List α, ((L.filter q).map g).findSome? p = L.findSome? fun j => if q j = true then p (g j) else none
  | [] => rfl
  | a :: L => by
    rw [List.findSome?_cons, List.filter_cons]
    by_cases h : q a = true
    · rw [if_pos h, if_pos h, List.map_cons, List.findSome?_cons, fs_fm L]
    · rw [if_neg h, if_neg h, fs_fm L]
theorem fs_flat {α β γ : Type} {g : α → List β} {p : β → Option γ} : ∀ L : List α, (L.flatMap g).findSome? p = L.findSome? fun j => (g j).findSome? p
  | [] => rfl
  | a :: L => by
    rw [List.flatMap_cons, List.findSome?_append, List.findSome?_cons, fs_flat L]
    cases (g a).findSome? p <;> rfl
theorem fs_ff {α β γ : Type} {q : α → Bool} {g : α → List β} {p : β → Option γ} : ∀ L : List α, ((L.filter q).flatMap g).findSome? p = L.findSome? fun j => if q j = true then (g j).findSome? p else none
  | [] => rfl
  | a :: L => by
    rw [List.findSome?_cons, List.filter_cons]
    by_cases h : q a = true
    · rw [if_pos h, if_pos h, List.flatMap_cons, List.findSome?_append, fs_ff L]
      cases (g a).findSome? p <;> rfl
    · rw [if_neg h, if_neg h, fs_ff L]
theorem fs_rg {β : Type} {f : Nat → Option β} {n i : Nat} {b : β} (hi : i < n) (h : ∀ i', i' < i → f i' = none) (hb : f i = some b) : (List.range n).findSome? f = some b := by
  refine fs_at (j := i) (l := i) (by rw [List.getElem?_range hi]) (fun x hx => ?_) hb
  rw [List.take_range] at hx
  exact h x (by have := List.mem_range.mp hx; omega)
theorem fs_rn {β : Type} {f : Nat → Option β} {n : Nat} (h : ∀ i', i' < n → f i' = none) : (List.range n).findSome? f = none :=
  List.findSome?_eq_none_iff.mpr fun x hx => h x (List.mem_range.mp hx)
def N2 (hs : List Hf) (i0 : Nat) : Prop := ∀ i j, i < i0 → i < j → j < hs.length → pairC hs i j = none
def N2b (hs : List Hf) (i j0 : Nat) : Prop := ∀ j, i < j → j < j0 → pairC hs i j = none
theorem fpair_n (hs : List Hf) : fpair hs = (List.range hs.length).findSome? fun i => (List.range hs.length).findSome? fun j => if i < j then pairC hs i j else none := by
  unfold fpair cmb2
  rw [fs_flat]
  congr 1
  funext i
  rw [fs_fm]
  congr 1
  funext j
  simp only [decide_eq_true_eq]
  rfl
theorem fpair_first {hs : List Hf} {i j : Nat} {ct : Ct} (hij : i < j) (hj : j < hs.length) (h1 : N2 hs i) (h2 : N2b hs i j) (h3 : pairC hs i j = some ct) : fpair hs = some ct := by
  rw [fpair_n]
  refine fs_rg (i := i) (by omega) (fun i' hi' => fs_rn fun j' hj' => ?_) (fs_rg (i := j) hj (fun j' hj' => ?_) ?_)
  · split
    · exact h1 i' j' hi' (by assumption) hj'
    · rfl
  · split
    · exact h2 j' (by assumption) hj'
    · rfl
  · rw [if_pos hij]
    exact h3
theorem fpair_no {hs : List Hf} (h : N2 hs hs.length) : fpair hs = none := by
  rw [fpair_n]
  refine fs_rn fun i hi => fs_rn fun j hj => ?_
  split
  · exact h i j hi (by assumption) hj
  · rfl
theorem N2.succ {hs : List Hf} {i : Nat} (h : N2 hs i) (h2 : N2b hs i hs.length) : N2 hs (i + 1) := fun a b h3 h4 h5 => by
  by_cases c : a < i
  · exact h a b c h4 h5
  · have : a = i := by omega
    subst this
    exact h2 b h4 h5
theorem N2b.succ {hs : List Hf} {i j : Nat} (h : N2b hs i j) (h2 : pairC hs i j = none) : N2b hs i (j + 1) := fun b h3 h4 => by
  by_cases c : b < j
  · exact h b h3 c
  · have : b = j := by omega
    subst this
    exact h2
def N3 (hs : List Hf) (i0 : Nat) : Prop := ∀ i j k, i < i0 → i < j → j < k → k < hs.length → triC hs i j k = none
def N3b (hs : List Hf) (i j0 : Nat) : Prop := ∀ j k, i < j → j < j0 → j < k → k < hs.length → triC hs i j k = none
def N3c (hs : List Hf) (i j k0 : Nat) : Prop := ∀ k, j < k → k < k0 → triC hs i j k = none
theorem fthree_n (hs : List Hf) : fthree hs = (List.range hs.length).findSome? fun i => (List.range hs.length).findSome? fun j => if i < j then (List.range hs.length).findSome? (fun k => if j < k then triC hs i j k else none) else none := by
  unfold fthree cmb3
  rw [fs_flat]
  congr 1
  funext i
  rw [fs_ff]
  congr 1
  funext j
  simp only [decide_eq_true_eq]
  split
  · rw [fs_fm]
    congr 1
    funext k
    simp only [decide_eq_true_eq]
    rfl
  · rfl
theorem fthree_first {hs : List Hf} {i j k : Nat} {ct : Ct} (hij : i < j) (hjk : j < k) (hk : k < hs.length) (h1 : N3 hs i) (h2 : N3b hs i j) (h3 : N3c hs i j k) (h4 : triC hs i j k = some ct) : fthree hs = some ct := by
  rw [fthree_n]
  refine fs_rg (i := i) (by omega) (fun i' hi' => fs_rn fun j' hj' => ?_) (fs_rg (i := j) (by omega) (fun j' hj' => ?_) ?_)
  · split
    · refine fs_rn fun k' hk' => ?_
      split
      · exact h1 i' j' k' hi' (by assumption) (by assumption) hk'
      · rfl
    · rfl
  · split
    · refine fs_rn fun k' hk' => ?_
      split
      · exact h2 j' k' (by assumption) hj' (by assumption) hk'
      · rfl
    · rfl
  · rw [if_pos hij]
    refine fs_rg (i := k) hk (fun k' hk' => ?_) (by rw [if_pos hjk]; exact h4)
    split
    · exact h3 k' (by assumption) hk'
    · rfl
theorem fthree_no {hs : List Hf} (h : N3 hs hs.length) : fthree hs = none := by
  rw [fthree_n]
  refine fs_rn fun i hi => fs_rn fun j hj => ?_
  split
  · refine fs_rn fun k hk => ?_
    split
    · exact h i j k hi (by assumption) (by assumption) hk
    · rfl
  · rfl
theorem N3.succ {hs : List Hf} {i : Nat} (h : N3 hs i) (h2 : N3b hs i hs.length) : N3 hs (i + 1) := fun a b c h3 h4 h5 h6 => by
  by_cases d : a < i
  · exact h a b c d h4 h5 h6
  · have : a = i := by omega
    subst this
    exact h2 b c h4 (by omega) h5 h6
theorem N3b.succ {hs : List Hf} {i j : Nat} (h : N3b hs i j) (h2 : N3c hs i j hs.length) : N3b hs i (j + 1) := fun b c h3 h4 h5 h6 => by
  by_cases d : b < j
  · exact h b c h3 d h5 h6
  · have : b = j := by omega
    subst this
    exact h2 c h5 h6
theorem N3c.succ {hs : List Hf} {i j k : Nat} (h : N3c hs i j k) (h2 : triC hs i j k = none) : N3c hs i j (k + 1) := fun c h3 h4 => by
  by_cases d : c < k
  · exact h c h3 d
  · have : c = k := by omega
    subst this
    exact h2
theorem N2b.mono {hs : List Hf} {i j k : Nat} (h : N2b hs i j) (hk : k ≤ j) : N2b hs i k := fun b h1 h2 => h b h1 (by omega)
theorem N3b.mono {hs : List Hf} {i j k : Nat} (h : N3b hs i j) (hk : k ≤ j) : N3b hs i k := fun b c h1 h2 h3 h4 => h b c h1 (by omega) h3 h4
theorem N3c.mono {hs : List Hf} {i j k l : Nat} (h : N3c hs i j k) (hk : l ≤ k) : N3c hs i j l := fun c h1 h2 => h c h1 (by omega)
end Z
end
section
local macro_rules | `(tactic| kt_at_notin) => `(tactic| exact c_gcd _ _ _)
local macro_rules | `(tactic| kt_at_notin) => `(tactic| exact c_absolute _ _)
local macro_rules | `(tactic| kt_at_notin) => `(tactic| exact c_negative _ _)
local macro_rules | `(tactic| kt_at_notin) => `(tactic| (apply c_divide; assumption; kaf_pre))
local macro_rules | `(tactic| kt_at_notin) => `(tactic| (apply c_sign; ktr_units))
local macro_rules | `(tactic| kt_at_notin) => `(tactic| (apply c_is_at_most; kaf_pre))
local macro_rules | `(tactic| kt_at_notin) => `(tactic| (apply c_is_less; kaf_pre))
local macro_rules | `(tactic| kt_at_notin) => `(tactic| (apply c_compare; kaf_pre))
local macro_rules | `(tactic| kt_at_notin) => `(tactic| (apply c_subtract; kaf_pre))
local macro_rules | `(tactic| kt_at_notin) => `(tactic| (apply c_multiply; kaf_pre))
local macro_rules | `(tactic| kt_at_notin) => `(tactic| (apply c_add; kaf_pre))
local macro_rules | `(tactic| kt_at_notin) => `(tactic| exact c_draw _ _ _ _ (by decide))
local macro_rules | `(tactic| kt_at_notin) => `(tactic| exact c_divisor _ _ _ (by assumption))
local macro_rules | `(tactic| kt_at_notin) => `(tactic| (apply c_lfr; assumption; kt_at_in))
local macro_rules | `(tactic| kt_at_notin) => `(tactic| (apply c_less; kaf_pre))
local macro_rules | `(tactic| kt_at_notin) => `(tactic| (apply c_lmul; kaf_pre))
local macro_rules | `(tactic| kt_at_notin) => `(tactic| (apply c_lsub; kaf_pre))
local macro_rules | `(tactic| kt_at_notin) => `(tactic| (apply c_ladd; kaf_pre))
local macro_rules | `(tactic| kt_at_notin) => `(tactic| exact c_gcd _ _ _)
local macro_rules | `(tactic| kt_at_notin) => `(tactic| exact c_absolute _ _)
local macro_rules | `(tactic| kt_at_notin) => `(tactic| exact c_negative _ _)
local macro_rules | `(tactic| kt_at_notin) => `(tactic| (apply c_divide; assumption; kaf_pre))
local macro_rules | `(tactic| kt_at_notin) => `(tactic| (apply c_sign; ktr_units))
local macro_rules | `(tactic| kt_at_notin) => `(tactic| (apply c_is_at_most; kaf_pre))
local macro_rules | `(tactic| kt_at_notin) => `(tactic| (apply c_is_less; kaf_pre))
local macro_rules | `(tactic| kt_at_notin) => `(tactic| (apply c_compare; kaf_pre))
local macro_rules | `(tactic| kt_at_notin) => `(tactic| (apply c_subtract; kaf_pre))
local macro_rules | `(tactic| kt_at_notin) => `(tactic| (apply c_multiply; kaf_pre))
local macro_rules | `(tactic| kt_at_notin) => `(tactic| (apply c_add; kaf_pre))
local macro_rules | `(tactic| kt_at_notin) => `(tactic| exact c_draw _ _ _ _ (by decide))
local macro_rules | `(tactic| kt_at_notin) => `(tactic| exact c_divisor _ _ _ (by assumption))
local macro_rules | `(tactic| kt_at_notin) => `(tactic| (apply c_lfr; assumption; kt_at_in))
local macro_rules | `(tactic| kt_at_notin) => `(tactic| (apply c_less; kaf_pre))
local macro_rules | `(tactic| kt_at_notin) => `(tactic| (apply c_lmul; kaf_pre))
local macro_rules | `(tactic| kt_at_notin) => `(tactic| (apply c_lsub; kaf_pre))
local macro_rules | `(tactic| kt_at_notin) => `(tactic| (apply c_ladd; kaf_pre))
local macro_rules | `(tactic| kfm_turns) => `(tactic| (focus (decide +kernel)))
local macro_rules | `(tactic| kat_tups) => `(tactic| (apply q_nes <;> (focus (decide +kernel))))
local macro_rules | `(tactic| kat_tups) => `(tactic| (apply q_eqs <;> (focus (decide +kernel))))
local macro_rules | `(tactic| kt_at_notin) => `(tactic| (apply c_is_fr; ktr_units))
local macro_rules | `(tactic| kt_at_notin) => `(tactic| (apply c_value; assumption; (focus omega)))
local macro_rules | `(tactic| kt_at_notin) => `(tactic| exact c_fraction1 _ _)
local macro_rules | `(tactic| kt_at_notin) => `(tactic| (apply c_prod <;> assumption))
local macro_rules | `(tactic| kt_at_notin) => `(tactic| (apply c_det <;> assumption))
namespace Z
theorem pk_at' {hs : List Hf} {i : Nat} (h : i < hs.length) : atI (hs.map hd) (i : Int) = some (hd (atH hs (i : Int))) := (pk_nat h).1
theorem c_lfirst (k : Nat) (hs : List Hf) (hl : hs.length ≤ 8) (ho : ∀ h ∈ hs, h.ok) (hz : ∀ h ∈ hs, h.z 3) : RetB (callK tab.fns (k + 3)) i__law_first (.lst (hs.map hd)) [] (ctD (lf hs)) (lf hs).isSome (.lst (hs.map hd)) := by
  have hml : (hs.map hd).length = hs.length := List.length_map _
  have kp : ∀ i j : Nat, i < j → j < hs.length → Ret (callK tab.fns (k + 2)) i__law_pair [(hd (atH hs (i : Int)), .frz), (hd (atH hs (j : Int)), .frz)] (lpD (lpair (atH hs (i : Int)) (atH hs (j : Int)))) (lpair (atH hs (i : Int)) (atH hs (j : Int))).isSome := fun i j h1 h2 => c_lpair k _ _ (at_ok ho (by omega)) (at_ok ho h2) (hz _ (pk_nat (by omega)).2) (hz _ (pk_nat h2).2)
  have kt : ∀ i j l : Nat, i < j → j < l → l < hs.length → Ret (callK tab.fns (k + 2)) i__law_three [(hd (atH hs (i : Int)), .frz), (hd (atH hs (j : Int)), .frz), (hd (atH hs (l : Int)), .frz)] (ltD (lthree (atH hs (i : Int)) (atH hs (j : Int)) (atH hs (l : Int)))) (lthree (atH hs (i : Int)) (atH hs (j : Int)) (atH hs (l : Int))).isSome := fun i j l h1 h2 h3 => c_lthree k _ _ _ (hz _ (pk_nat (by omega)).2) (hz _ (pk_nat (by omega)).2) (hz _ (pk_nat h3).2)
  have ix := fun {i : Nat} (h : i < hs.length) => pk_at' h
  have q3 : ∀ x y : Int, prB .notn [D.lst [.int x, .int y]] = some (.bl true, false) := fun _ _ => rfl
  have q4 : ∀ x y z : Int, prB .notn [D.lst [.int x, .int y, .int z]] = some (.bl true, false) := fun _ _ _ => rfl
  have qn : prB .notn [D.non] = some (.bl false, false) := rfl
  apply v_fnB fn__law_first rfl
  walk_at "go"
  apply w_range (fun i env => N2 hs i ∧ ∃ s2 s3 s4 : Sl, env = [some (.lst (hs.map hd), .own), some (.int ((hs.map hd).length : Int), .frz), s2, s3, s4, none] ∧ isLck s2 = false ∧ isLck s3 = false ∧ isLck s4 = false)
  walk_at "go"
  walk_at "go"
  · omega
  · exact ⟨fun a b h => absurd h (by omega), none, none, none, rfl, rfl, rfl, rfl⟩
  · rintro i env hi ⟨hn, s2, s3, s4, rfl, h2, h3, h4⟩
    refine ⟨_, x_setf rfl h2 rfl rfl, ?_⟩
    simp only [List.set_cons_zero, List.set_cons_succ, Int.zero_add]
    have hil : i < hs.length := by omega
    have ii := ix hil
    apply w_range (fun t env => N2b hs i (i + 1 + t) ∧ ∃ s3 s4 : Sl, env = [some (.lst (hs.map hd), .own), some (.int ((hs.map hd).length : Int), .frz), some (.int (i : Int), .frz), s3, s4, none] ∧ isLck s3 = false ∧ isLck s4 = false)
    walk_at "go"
    walk_at "go"
    · omega
    · exact ⟨fun b h1 h2 => absurd h1 (by omega), s3, s4, rfl, h3, h4⟩
    · rintro t env ht ⟨hb, s3, s4, rfl, h3, h4⟩
      refine ⟨_, x_setf rfl h3 rfl rfl, ?_⟩
      obtain ⟨j, ej⟩ : ∃ j, j = i + 1 + t := ⟨_, rfl⟩
      have ej2 : (i : Int) + 1 + (t : Int) = (j : Int) := by omega
      rw [← ej] at hb
      simp only [List.set_cons_zero, List.set_cons_succ, ej2]
      have hj : j < hs.length := by omega
      have hij : i < j := by omega
      have ij := ix hj
      have kq := kp i j hij hj
      have pe := pair_eq hij hj (at_ok ho hil) (at_ok ho hj)
      have ej3 : i + 1 + (t + 1) = j + 1 := by omega
      rw [ej3]
      cases hp : lpair (atH hs (i : Int)) (atH hs (j : Int)) with
      | none =>
        rw [hp] at kq pe
        simp only [lpD, Option.isSome_none] at kq
        walk_at "go"
        exact w_nil ⟨hb.succ pe, _, _, rfl, k_f, k_f⟩
      | some w =>
        obtain ⟨x, y⟩ := w
        rw [hp] at kq pe
        simp only [lpD, Option.isSome_some] at kq
        have pe : pairC hs i j = some [((i : Int), (x : Rat)), ((j : Int), (y : Rat))] := pe
        have e := fpair_first hij hj hn hb pe
        have el : lf hs = some [((i : Int), (x : Rat)), ((j : Int), (y : Rat))] := by unfold lf; rw [e]
        have q3 := q3 x y
        walk_at "go"
        rw [el]
        refine ⟨?_, rfl, rfl⟩
        simp only [ctD, List.map_cons, List.map_nil, pkH, fr_int]
    · rintro env ⟨hb, s3, s4, rfl, h3, h4⟩
      have hb : N2b hs i hs.length := hb.mono (by omega)
      exact w_nil ⟨hn.succ hb, _, _, _, rfl, k_f, h3, h4⟩
  · rintro env ⟨hn, s2, s3, s4, rfl, h2, h3, h4⟩
    have e0 : (((hs.map hd).length : Int) - 0).toNat = hs.length := by omega
    rw [e0] at hn
    have hfp := fpair_no hn
    have elf : lf hs = fthree hs := by unfold lf; rw [hfp]
    rw [elf]
    clear hn e0
    apply w_range (fun i env => N3 hs i ∧ ∃ s2 s3 s4 s5 : Sl, env = [some (.lst (hs.map hd), .own), some (.int ((hs.map hd).length : Int), .frz), s2, s3, s4, s5] ∧ isLck s2 = false ∧ isLck s3 = false ∧ isLck s4 = false ∧ isLck s5 = false)
    walk_at "go"
    walk_at "go"
    · omega
    · exact ⟨fun a b c h => absurd h (by omega), s2, s3, s4, none, rfl, h2, h3, h4, rfl⟩
    · rintro i env hi ⟨hn, s2, s3, s4, s5, rfl, h2, h3, h4, h5⟩
      refine ⟨_, x_setf rfl h2 rfl rfl, ?_⟩
      simp only [List.set_cons_zero, List.set_cons_succ, Int.zero_add]
      have hil : i < hs.length := by omega
      have ii := ix hil
      apply w_range (fun t env => N3b hs i (i + 1 + t) ∧ ∃ s3 s4 s5 : Sl, env = [some (.lst (hs.map hd), .own), some (.int ((hs.map hd).length : Int), .frz), some (.int (i : Int), .frz), s3, s4, s5] ∧ isLck s3 = false ∧ isLck s4 = false ∧ isLck s5 = false)
      walk_at "go"
      walk_at "go"
      · omega
      · exact ⟨fun b c h1 h2 => absurd h1 (by omega), s3, s4, s5, rfl, h3, h4, h5⟩
      · rintro t env ht ⟨hb, s3, s4, s5, rfl, h3, h4, h5⟩
        refine ⟨_, x_setf rfl h3 rfl rfl, ?_⟩
        obtain ⟨j, ej⟩ : ∃ j, j = i + 1 + t := ⟨_, rfl⟩
        have ej2 : (i : Int) + 1 + (t : Int) = (j : Int) := by omega
        rw [← ej] at hb
        simp only [List.set_cons_zero, List.set_cons_succ, ej2]
        have hj : j < hs.length := by omega
        have hij : i < j := by omega
        have ij := ix hj
        have ej3 : i + 1 + (t + 1) = j + 1 := by omega
        rw [ej3]
        apply w_range (fun u env => N3c hs i j (j + 1 + u) ∧ ∃ s4 s5 : Sl, env = [some (.lst (hs.map hd), .own), some (.int ((hs.map hd).length : Int), .frz), some (.int (i : Int), .frz), some (.int (j : Int), .frz), s4, s5] ∧ isLck s4 = false ∧ isLck s5 = false)
        walk_at "go"
        walk_at "go"
        · omega
        · exact ⟨fun c h1 h2 => absurd h1 (by omega), s4, s5, rfl, h4, h5⟩
        · rintro u env hu ⟨hc, s4, s5, rfl, h4, h5⟩
          refine ⟨_, x_setf rfl h5 rfl rfl, ?_⟩
          obtain ⟨l, el⟩ : ∃ l, l = j + 1 + u := ⟨_, rfl⟩
          have el2 : (j : Int) + 1 + (u : Int) = (l : Int) := by omega
          rw [← el] at hc
          simp only [List.set_cons_zero, List.set_cons_succ, el2]
          have hl' : l < hs.length := by omega
          have hjl : j < l := by omega
          have il := ix hl'
          have kq := kt i j l hij hjl hl'
          have pe := tri_eq (hs := hs) hij hjl hl'
          have el3 : j + 1 + (u + 1) = l + 1 := by omega
          rw [el3]
          cases hp : lthree (atH hs (i : Int)) (atH hs (j : Int)) (atH hs (l : Int)) with
          | none =>
            rw [hp] at kq pe
            simp only [ltD, Option.isSome_none] at kq
            walk_at "go"
            exact w_nil ⟨hc.succ pe, _, _, rfl, k_f, k_f⟩
          | some w =>
            obtain ⟨x, y, z⟩ := w
            rw [hp] at kq pe
            simp only [ltD, Option.isSome_some] at kq
            have pe : triC hs i j l = some [((i : Int), (x : Rat)), ((j : Int), (y : Rat)), ((l : Int), (z : Rat))] := pe
            have e := fthree_first hij hjl hl' hn hb hc pe
            have q4 := q4 x y z
            walk_at "go"
            rw [e]
            refine ⟨?_, rfl, rfl⟩
            simp only [ctD, List.map_cons, List.map_nil, pkH, fr_int]
        · rintro env ⟨hc, s4, s5, rfl, h4, h5⟩
          have hc : N3c hs i j hs.length := hc.mono (by omega)
          exact w_nil ⟨hb.succ hc, _, _, _, rfl, k_f, h4, h5⟩
      · rintro env ⟨hb, s3, s4, s5, rfl, h3, h4, h5⟩
        have hb : N3b hs i hs.length := hb.mono (by omega)
        exact w_nil ⟨hn.succ hb, _, _, _, _, rfl, k_f, h3, h4, h5⟩
    · rintro env ⟨hn, s2, s3, s4, s5, rfl, h2, h3, h4, h5⟩
      have e0 : (((hs.map hd).length : Int) - 0).toNat = hs.length := by omega
      rw [e0] at hn
      rw [fthree_no hn]
      walk_at "go"
      exact ⟨rfl, rfl, rfl⟩
end Z
end
section
local macro_rules | `(tactic| kt_at_notin) => `(tactic| exact c_gcd _ _ _)
local macro_rules | `(tactic| kt_at_notin) => `(tactic| exact c_absolute _ _)
local macro_rules | `(tactic| kt_at_notin) => `(tactic| exact c_negative _ _)
local macro_rules | `(tactic| kt_at_notin) => `(tactic| (apply c_divide; assumption; kaf_pre))
local macro_rules | `(tactic| kt_at_notin) => `(tactic| (apply c_sign; ktr_units))
local macro_rules | `(tactic| kt_at_notin) => `(tactic| (apply c_is_at_most; kaf_pre))
local macro_rules | `(tactic| kt_at_notin) => `(tactic| (apply c_is_less; kaf_pre))
local macro_rules | `(tactic| kt_at_notin) => `(tactic| (apply c_compare; kaf_pre))
local macro_rules | `(tactic| kt_at_notin) => `(tactic| (apply c_subtract; kaf_pre))
local macro_rules | `(tactic| kt_at_notin) => `(tactic| (apply c_multiply; kaf_pre))
local macro_rules | `(tactic| kt_at_notin) => `(tactic| (apply c_add; kaf_pre))
local macro_rules | `(tactic| kt_at_notin) => `(tactic| exact c_draw _ _ _ _ (by decide))
local macro_rules | `(tactic| kt_at_notin) => `(tactic| exact c_divisor _ _ _ (by assumption))
local macro_rules | `(tactic| kt_at_notin) => `(tactic| (apply c_lfr; assumption; kt_at_in))
local macro_rules | `(tactic| kt_at_notin) => `(tactic| (apply c_less; kaf_pre))
local macro_rules | `(tactic| kt_at_notin) => `(tactic| (apply c_lmul; kaf_pre))
local macro_rules | `(tactic| kt_at_notin) => `(tactic| (apply c_lsub; kaf_pre))
local macro_rules | `(tactic| kt_at_notin) => `(tactic| (apply c_ladd; kaf_pre))
local macro_rules | `(tactic| kt_at_notin) => `(tactic| exact c_gcd _ _ _)
local macro_rules | `(tactic| kt_at_notin) => `(tactic| exact c_absolute _ _)
local macro_rules | `(tactic| kt_at_notin) => `(tactic| exact c_negative _ _)
local macro_rules | `(tactic| kt_at_notin) => `(tactic| (apply c_divide; assumption; kaf_pre))
local macro_rules | `(tactic| kt_at_notin) => `(tactic| (apply c_sign; ktr_units))
local macro_rules | `(tactic| kt_at_notin) => `(tactic| (apply c_is_at_most; kaf_pre))
local macro_rules | `(tactic| kt_at_notin) => `(tactic| (apply c_is_less; kaf_pre))
local macro_rules | `(tactic| kt_at_notin) => `(tactic| (apply c_compare; kaf_pre))
local macro_rules | `(tactic| kt_at_notin) => `(tactic| (apply c_subtract; kaf_pre))
local macro_rules | `(tactic| kt_at_notin) => `(tactic| (apply c_multiply; kaf_pre))
local macro_rules | `(tactic| kt_at_notin) => `(tactic| (apply c_add; kaf_pre))
local macro_rules | `(tactic| kt_at_notin) => `(tactic| exact c_draw _ _ _ _ (by decide))
local macro_rules | `(tactic| kt_at_notin) => `(tactic| exact c_divisor _ _ _ (by assumption))
local macro_rules | `(tactic| kt_at_notin) => `(tactic| (apply c_lfr; assumption; kt_at_in))
local macro_rules | `(tactic| kt_at_notin) => `(tactic| (apply c_less; kaf_pre))
local macro_rules | `(tactic| kt_at_notin) => `(tactic| (apply c_lmul; kaf_pre))
local macro_rules | `(tactic| kt_at_notin) => `(tactic| (apply c_lsub; kaf_pre))
local macro_rules | `(tactic| kt_at_notin) => `(tactic| (apply c_ladd; kaf_pre))
local macro_rules | `(tactic| kfm_turns) => `(tactic| (focus (decide +kernel)))
local macro_rules | `(tactic| kat_tups) => `(tactic| (apply q_nes <;> (focus (decide +kernel))))
local macro_rules | `(tactic| kat_tups) => `(tactic| (apply q_eqs <;> (focus (decide +kernel))))
local macro_rules | `(tactic| kt_at_notin) => `(tactic| (apply c_is_fr; ktr_units))
local macro_rules | `(tactic| kt_at_notin) => `(tactic| (apply c_value; assumption; (focus omega)))
local macro_rules | `(tactic| kt_at_notin) => `(tactic| exact c_fraction1 _ _)
local macro_rules | `(tactic| kt_at_notin) => `(tactic| (apply c_prod <;> assumption))
local macro_rules | `(tactic| kt_at_notin) => `(tactic| (apply c_det <;> assumption))
namespace Z
theorem ecert_P {hs : List Hf} {ct : Ct} (ho : ∀ h ∈ hs, h.ok) (hz : ∀ h ∈ hs, h.z 3) (h : ecert hs = some ct) : ct.length ≤ 3 ∧ 0 < ct.length ∧ ∀ c ∈ ct, sz c.2 ≤ 8 := by
  have key1 : ∀ ct, fpair hs = some ct → ct.length ≤ 3 ∧ 0 < ct.length ∧ ∀ c ∈ ct, sz c.2 ≤ 8 := fun ct e => by
    obtain ⟨l, hl, e⟩ := List.exists_of_findSome?_eq_some e
    obtain ⟨i, j, rfl, h1, h2⟩ := cmb2_mem hl
    obtain ⟨_, ma⟩ := pk_nat (hs := hs) (i := i) (by omega)
    obtain ⟨_, mb⟩ := pk_nat (hs := hs) (i := j) h2
    obtain ⟨s, hs1, e⟩ := Option.bind_eq_some_iff.mp (show (sh1 (negH (atH hs j)) (atH hs i)).bind _ = some ct from e)
    have zs := sh1_z (n := 3) hs1 (ho _ ma) (neg_z (hz _ mb) (by decide)) (hz _ ma)
    have sn := sz_num s
    have sd := sz_den s
    unfold ckE at e
    split at e
    · cases e
      refine ⟨by show 2 ≤ 3; decide, by show 0 < 2; decide, fun c hc => ?_⟩
      simp only [List.mem_cons, List.not_mem_nil, or_false] at hc
      rcases hc with rfl | rfl
      · exact Nat.le_trans (sz_castb (show bi s.num ≤ 7 by omega)) (by decide)
      · exact Nat.le_trans (sz_castb (show bi (s.den : Int) ≤ 7 by omega)) (by decide)
    · cases e
  have key2 : ∀ ct, fthree hs = some ct → ct.length ≤ 3 ∧ 0 < ct.length ∧ ∀ c ∈ ct, sz c.2 ≤ 8 := fun ct e => by
    obtain ⟨l, hl, e⟩ := List.exists_of_findSome?_eq_some e
    obtain ⟨i, j, k, rfl, h1, h2, h3⟩ := cmb3_mem hl
    obtain ⟨_, ma⟩ := pk_nat (hs := hs) (i := i) (by omega)
    obtain ⟨_, mb⟩ := pk_nat (hs := hs) (i := j) (by omega)
    obtain ⟨_, mc⟩ := pk_nat (hs := hs) (i := k) h3
    have e : triC hs i j k = some ct := e
    unfold triC at e
    split at e
    · rename_i x y z hb
      obtain ⟨x', y', z', hw, b1, b2, b3⟩ := bal_some (n := 3) hb (hz _ ma) (hz _ mb) (hz _ mc)
      cases hw
      unfold ckE at e
      split at e
      · cases e
        refine ⟨by show 3 ≤ 3; decide, by show 0 < 3; decide, fun c hc => ?_⟩
        simp only [List.mem_cons, List.not_mem_nil, or_false] at hc
        rcases hc with rfl | rfl | rfl
        · exact Nat.le_trans (sz_castb b1) (by decide)
        · exact Nat.le_trans (sz_castb b2) (by decide)
        · exact Nat.le_trans (sz_castb b3) (by decide)
      · cases e
    · cases e
  unfold ecert at h
  split at h
  · cases h
  · split at h
    · exact key2 ct h
    · rename_i c hc
      cases h
      exact key1 ct hc
end Z
namespace Z
theorem RetC.frz2 {T : Nat → Option Fn} {k f : Nat} {a b a' b' d : D} {fr : Bool} (h : RetC (callK T k) f a b [] d fr a' b') (hc : roF T 60 f [false, true] = true) : RetB (callK T k) f a [(b, .frz)] d fr a' := by
  obtain ⟨outs, h⟩ := h
  obtain ⟨h1, _⟩ := (sim_all (T := T) (show Mo.frz ≠ .own by decide) 60 k).sim f [false, true] _ _ _ _ hc (fun j hj => by
    match j with
    | 0 => simp at hj
    | 1 => exact ⟨b, .own, by decide, rfl⟩
    | j + 2 => simp at hj) h
  rw [rxA_cons, rxA_cons, if_pos rfl, if_neg (by decide), rxA_nil, rxA_cons, if_neg (by decide)] at h1
  exact ⟨_, h1⟩
theorem dk_ct (ct : Ct) : Dk 3 (.lst (ct.map pkH)) := dk_lst fun x hx => by
  obtain ⟨c, _, rfl⟩ := List.mem_map.mp hx
  refine dk_tup fun y hy => ?_
  simp only [List.mem_cons, List.not_mem_nil, or_false] at hy
  rcases hy with rfl | rfl
  · exact dk_int
  · exact dk_fr _
theorem run_law (ns : List Int) (h : ns.length ≤ 63) : ∃ fr outs, fullK tab.fns 60 F_law [(.rol (ns.map D.int), .frz)] = .ok (.bl true) fr outs := by
  obtain ⟨ds, hds⟩ : ∃ ds, Ret (callK tab.fns 59) i__law_digits [(.rol (ns.map D.int), .frz), (.int 0, .frz), (.int 63, .frz)] (.lst (iz ds)) true := c_digits 57 ns
  refine law_of (f := i_law) ?_ fn_law rfl
  apply v_fn (k := 59) fn_law rfl
  walk_at "go"
  apply w_range (fun j env => ∃ (a : Nat) (s2 s3 s4 s5 s6 : Sl), env = [some (.rol (ns.map D.int), .frz), some (bx ds a, .own), s2, s3, s4, s5, s6] ∧ isLck s2 = false ∧ isLck s3 = false ∧ isLck s4 = false ∧ isLck s5 = false ∧ isLck s6 = false)
  walk_at "go"
  walk_at "go"
  decide
  · exact ⟨0, none, none, none, none, none, rfl, rfl, rfl, rfl, rfl, rfl⟩
  · rintro j' env hj ⟨a, s2, s3, s4, s5, s6, rfl, h2, h3, h4, h5, h6⟩
    refine ⟨_, x_setf rfl h2 rfl rfl, ?_⟩
    simp only [List.set_cons_zero, List.set_cons_succ]
    obtain ⟨hs, a1, hl, ho, hz, w1⟩ : ∃ (hs : List Hf) (a' : Nat), hs.length ≤ 7 ∧ (∀ h ∈ hs, h.ok) ∧ (∀ h ∈ hs, h.z 3) ∧ RetB (callK tab.fns 59) i__law_planes (bx ds a) [(.int 6, .frz)] (.lst (hs.map hd)) true (bx ds a') := c_lplanes 55 ds a 6 (by decide)
    have w2 : RetB (callK tab.fns 59) i__law_first (.lst (hs.map hd)) [] (ctD (lf hs)) (lf hs).isSome (.lst (hs.map hd)) := c_lfirst 56 hs (by omega) ho hz
    have w3 : RetB (callK tab.fns 59) i__law_points (.lst (hs.map hd)) [] (.lst ((pts hs).map rd)) true (.lst (hs.map hd)) := c_lpoints 53 hs (by omega) ho hz
    have w4 : RetB (callK tab.fns 59) i_is_empty (.lst (hs.map hd)) [] (.bl (!(sray hs).isSome)) false (.lst (hs.map hd)) := c_is_empty 52 hs (by omega) ho (fun h hh => (hz h hh).mono (by decide))
    obtain ⟨fr0, w5⟩ : ∃ fr, RetB (callK tab.fns 59) i_emptiness_certificate (.lst (hs.map hd)) [] (ctD (ecert hs)) fr (.lst (hs.map hd)) := c_ecert 51 hs (by omega) ho hz
    have iff := lf_iff ho
    have hE := ecert_lf ho
    have hpl : ((pts hs).map rd).length = (pts hs).length := List.length_map _
    have nil := pts_nil ho
    have qn1 : prB .notn [D.non] = some (.bl false, false) := rfl
    rw [hE] at w5
    cases hL : lf hs with
    | none =>
      rw [hL] at w2 w5 iff
      simp only [ctD, Option.isSome_none] at w2 w5
      obtain ⟨x, hx⟩ : ∃ x, sray hs = some x := by
        cases h : sray hs with
        | none => have := iff.mpr h; cases this
        | some x => exact ⟨x, rfl⟩
      rw [hx] at w4 nil
      have hp0 : ¬ (((pts hs).map rd).length : Int) = 0 := by
        intro z
        have : (pts hs).length = 0 := by omega
        have := nil.mp (List.eq_nil_of_length_eq_zero this)
        cases this
      have w4 : RetB (callK tab.fns 59) i_is_empty (.lst (hs.map hd)) [] (.bl false) false (.lst (hs.map hd)) := w4
      have qb1 : (!(decide ((((pts hs).map rd).length : Int) = 0) == false)) = false := by rw [decide_eq_false hp0]; rfl
      have qb2 : (!(false == decide ((((pts hs).map rd).length : Int) = 0))) = false := by rw [decide_eq_false hp0]; rfl
      have qd : prB .ne [D.non, D.non] = some (.bl false, false) := q_ned (n := 1) dk_non (by decide)
      clear iff nil hE hL hx hl ho hz
      cases fr0 with
      | false =>
        walk_at "go"
        exact w_nil ⟨_, _, _, _, _, _, rfl, k_f, k_o, k_f, k_f, k_f⟩
      | true =>
        walk_at "go"
        exact w_nil ⟨_, _, _, _, _, _, rfl, k_f, k_o, k_f, k_f, k_o⟩
    | some ct =>
      obtain ⟨l3, l0, z8⟩ := ecert_P ho hz (hE.trans hL)
      have hv := lf_ver hL
      have w6 : RetC (callK tab.fns 59) i_verify_emptiness (.lst (hs.map hd)) (.lst (ct.map pkH)) [] (.bl (verE hs ct)) false (.lst (hs.map hd)) (.lst (ct.map pkH)) := c_verE 54 hs ct (by omega) (by omega) (fun h hh => (hz h hh).mono (by decide)) (fun c hc => Nat.le_trans (z8 c hc) (by decide))
      rw [hv] at w6
      have hx : sray hs = none := iff.mp (by rw [hL]; rfl)
      rw [hL] at w2 w5
      simp only [ctD, Option.isSome_some] at w2 w5
      rw [hx] at w4
      have hp0 : (((pts hs).map rd).length : Int) = 0 := by
        rw [nil.mpr hx]
        rfl
      have w4 : RetB (callK tab.fns 59) i_is_empty (.lst (hs.map hd)) [] (.bl true) false (.lst (hs.map hd)) := w4
      have qb1 : (!(decide ((((pts hs).map rd).length : Int) = 0) == true)) = false := by rw [decide_eq_true hp0]; rfl
      have qb2 : (!(true == decide ((((pts hs).map rd).length : Int) = 0))) = false := by rw [decide_eq_true hp0]; rfl
      have qd : prB .ne [D.lst (ct.map pkH), D.lst (ct.map pkH)] = some (.bl false, false) := q_ned (n := 3) (dk_ct ct) (by decide)
      have qn : prB .notn [D.lst (ct.map pkH)] = some (.bl true, false) := rfl
      have qi : prB .nisb [D.bl true, D.bl true] = some (.bl false, false) := rfl
      clear iff nil hE hL hx hl ho hz z8 hv
      cases fr0 with
      | false =>
        have w6 : RetB (callK tab.fns 59) i_verify_emptiness (.lst (hs.map hd)) [(.lst (ct.map pkH), .frz)] (.bl true) false (.lst (hs.map hd)) := w6.frz2 (by decide +kernel)
        walk_at "go"
        exact w_nil ⟨_, _, _, _, _, _, rfl, k_f, k_o, k_o, k_f, k_f⟩
      | true =>
        walk_at "go"
        exact w_nil ⟨_, _, _, _, _, _, rfl, k_f, k_o, k_o, k_f, k_o⟩
  · rintro env ⟨a, s2, s3, s4, s5, s6, rfl, h2, h3, h4, h5, h6⟩
    walk_at "go"
    exact ⟨rfl, rfl⟩
end Z
end
end
open PySem PySem.W PySem.Calls PyProof.Rows
set_option maxHeartbeats 0 in
theorem PySem.Challenge.cw_raytrain_k07_empty_regions_and_their_pap_holds : PySem.Challenge.rw_raytrain_k07_empty_regions_and_their_pap.Holds := by
  w_on; o_law
  refine HandSHeadRun.head_imp (r := OpenLaw.row PySem.Challenge.rw_raytrain_k07_empty_regions_and_their_pap) (q := view (OpenLaw.row PySem.Challenge.rw_raytrain_k07_empty_regions_and_their_pap).prog [0, 1, 63]) (H := ZE.hk) (ob := ZE.ob) (M := 8000) (loose := ZE.loose) (d := HandSHeadRun.topDef (OpenLaw.row PySem.Challenge.rw_raytrain_k07_empty_regions_and_their_pap).prog 63) (kwd := []) ZE.ob_eq
    ZE.run (by kernel_rfl) (by kernel_rfl) (by kernel_rfl) (by rfl) (by first | assumption | decide +kernel) (by decide +kernel) ⟨rfl, rfl, rfl, rfl, rfl, by decide +kernel⟩ ?hw ?hc
  case hw => w_witness2
  case hc =>
    refine Z.walk_GE (l := PySem.Challenge.rw_raytrain_k07_empty_regions_and_their_pap) (n := 63) (k := 60) (x := "script") (C := fun w => L2.CX PySem.Challenge.pw_raytrain_k07_empty_regions_and_their_pap w) rfl (by decide) (by kernel_rfl) ⟨rfl, by decide, by decide⟩ ?F (fun _ _ _ _ _ h => Z.CX_no h)
    intro w mg fa h Y G hmg0
    obtain ⟨K, KX, c, ch⟩ := Y
    have hmg : mg ("law" : PySem.Str) = some (.ref fa) := by
      have e : (HandSHeadRun.topDef (OpenLaw.row PySem.Challenge.rw_raytrain_k07_empty_regions_and_their_pap).prog 63).name = ("law" : PySem.Str) := by kernel_rfl
      rw [← e]
      exact hmg0
    have gz := Bool.and_eq_true_iff.mp ch
    have bi := Z.bimB_ok KX G gz.2
    have tp := fun q hq => Z.topB_ok KX G (x := q.1) (d := q.2) (List.all_eq_true.mp gz.1 q hq)
    have e0 : Z.EntOk Z.tab K mg ⟨"common_divisor", Z.topS 4, Z.F_common_divisor, ["first", "second"], ["first", "second"]⟩ := by
      obtain ⟨fd, F⟩ := c.def_ 0 (d := ZE.d0) rfl
      exact Z.ent_f Z.is_common_divisor (He.glo_ok KX G (c.fact 0 (f := .glo "common_divisor") rfl)) F rfl (fun _ _ _ _ _ _ us hl => match us, hl with | [_, _], _ => rfl)
    have e1 : Z.EntOk Z.tab K mg ⟨"fraction", Z.topS 5, Z.F_fraction, ["numerator", "denominator", "divisor"], ["numerator", "denominator"]⟩ := by
      obtain ⟨fd, F⟩ := c.def_ 1 (d := ZE.d1) rfl
      refine Z.ent_fD Z.is_fraction (He.glo_ok KX G (c.fact 1 (f := .glo "fraction") rfl)) [L2.V.int (1)] F (by simp) (fun M H => .cons (.int (1)) .nil) (by decide) (fun j hj T kV doc pm an cdv ct us its hu hi => ?_)
      by_cases z0 : j = 0
      · subst z0
        match us, its, hu, hi with | [_], [_], _, _ => exact ⟨_, rfl, rfl⟩
      by_cases z1 : j = 1
      · subst z1
        match us, its, hu, hi with | [_, _], [_], _, _ => exact ⟨_, rfl, rfl⟩
      exact absurd hj (by simp; omega)
    have e2 : Z.EntOk Z.tab K mg ⟨"add", Z.topS 6, Z.F_add, ["first", "second"], ["first", "second"]⟩ := by
      obtain ⟨fd, F⟩ := c.def_ 2 (d := ZE.d2) rfl
      exact Z.ent_f Z.is_add (He.glo_ok KX G (c.fact 2 (f := .glo "add") rfl)) F rfl (fun _ _ _ _ _ _ us hl => match us, hl with | [_, _], _ => rfl)
    have e3 : Z.EntOk Z.tab K mg ⟨"subtract", Z.topS 7, Z.F_subtract, ["first", "second"], ["first", "second"]⟩ := by
      obtain ⟨fd, F⟩ := c.def_ 3 (d := ZE.d3) rfl
      exact Z.ent_f Z.is_subtract (He.glo_ok KX G (c.fact 3 (f := .glo "subtract") rfl)) F rfl (fun _ _ _ _ _ _ us hl => match us, hl with | [_, _], _ => rfl)
    have e4 : Z.EntOk Z.tab K mg ⟨"multiply", Z.topS 8, Z.F_multiply, ["first", "second"], ["first", "second"]⟩ := by
      obtain ⟨fd, F⟩ := c.def_ 4 (d := ZE.d4) rfl
      exact Z.ent_f Z.is_multiply (He.glo_ok KX G (c.fact 4 (f := .glo "multiply") rfl)) F rfl (fun _ _ _ _ _ _ us hl => match us, hl with | [_, _], _ => rfl)
    have e5 : Z.EntOk Z.tab K mg ⟨"divide", Z.topS 9, Z.F_divide, ["first", "second"], ["first", "second"]⟩ := by
      obtain ⟨fd, F⟩ := c.def_ 5 (d := ZE.d5) rfl
      exact Z.ent_f Z.is_divide (He.glo_ok KX G (c.fact 5 (f := .glo "divide") rfl)) F rfl (fun _ _ _ _ _ _ us hl => match us, hl with | [_, _], _ => rfl)
    have e6 : Z.EntOk Z.tab K mg ⟨"negative", Z.topS 10, Z.F_negative, ["value"], ["value"]⟩ := by
      obtain ⟨fd, F⟩ := c.def_ 6 (d := ZE.d6) rfl
      exact Z.ent_f Z.is_negative (He.glo_ok KX G (c.fact 6 (f := .glo "negative") rfl)) F rfl (fun _ _ _ _ _ _ us hl => match us, hl with | [_], _ => rfl)
    have e7 : Z.EntOk Z.tab K mg ⟨"sign", Z.topS 11, Z.F_sign, ["value"], ["value"]⟩ := by
      obtain ⟨fd, F⟩ := c.def_ 7 (d := ZE.d7) rfl
      exact Z.ent_f Z.is_sign (He.glo_ok KX G (c.fact 7 (f := .glo "sign") rfl)) F rfl (fun _ _ _ _ _ _ us hl => match us, hl with | [_], _ => rfl)
    have e8 : Z.EntOk Z.tab K mg ⟨"compare", Z.topS 12, Z.F_compare, ["first", "second", "left", "right"], ["first", "second"]⟩ := by
      obtain ⟨fd, F⟩ := c.def_ 8 (d := ZE.d8) rfl
      exact Z.ent_f Z.is_compare (He.glo_ok KX G (c.fact 8 (f := .glo "compare") rfl)) F rfl (fun _ _ _ _ _ _ us hl => match us, hl with | [_, _], _ => rfl)
    have e9 : Z.EntOk Z.tab K mg ⟨"is_less", Z.topS 13, Z.F_is_less, ["first", "second"], ["first", "second"]⟩ := by
      obtain ⟨fd, F⟩ := c.def_ 9 (d := ZE.d9) rfl
      exact Z.ent_f Z.is_is_less (He.glo_ok KX G (c.fact 9 (f := .glo "is_less") rfl)) F rfl (fun _ _ _ _ _ _ us hl => match us, hl with | [_, _], _ => rfl)
    have e10 : Z.EntOk Z.tab K mg ⟨"is_at_most", Z.topS 14, Z.F_is_at_most, ["first", "second"], ["first", "second"]⟩ := by
      obtain ⟨fd, F⟩ := c.def_ 10 (d := ZE.d10) rfl
      exact Z.ent_f Z.is_is_at_most (He.glo_ok KX G (c.fact 10 (f := .glo "is_at_most") rfl)) F rfl (fun _ _ _ _ _ _ us hl => match us, hl with | [_, _], _ => rfl)
    have e11 : Z.EntOk Z.tab K mg ⟨"least_of", Z.topS 15, Z.F_least_of, ["values", "least", "value"], ["values"]⟩ := by
      obtain ⟨fd, F⟩ := c.def_ 11 (d := ZE.d11) rfl
      exact Z.ent_f Z.is_least_of (He.glo_ok KX G (c.fact 11 (f := .glo "least_of") rfl)) F rfl (fun _ _ _ _ _ _ us hl => match us, hl with | [_], _ => rfl)
    have e12 : Z.EntOk Z.tab K mg ⟨"greatest_of", Z.topS 16, Z.F_greatest_of, ["values", "greatest", "value"], ["values"]⟩ := by
      obtain ⟨fd, F⟩ := c.def_ 12 (d := ZE.d12) rfl
      exact Z.ent_f Z.is_greatest_of (He.glo_ok KX G (c.fact 12 (f := .glo "greatest_of") rfl)) F rfl (fun _ _ _ _ _ _ us hl => match us, hl with | [_], _ => rfl)
    have e13 : Z.EntOk Z.tab K mg ⟨"nearest_to_zero", Z.topS 17, Z.F_nearest_to_zero, ["lower", "upper"], ["lower", "upper"]⟩ := by
      obtain ⟨fd, F⟩ := c.def_ 13 (d := ZE.d13) rfl
      exact Z.ent_f Z.is_nearest_to_zero (He.glo_ok KX G (c.fact 13 (f := .glo "nearest_to_zero") rfl)) F rfl (fun _ _ _ _ _ _ us hl => match us, hl with | [_, _], _ => rfl)
    have e14 : Z.EntOk Z.tab K mg ⟨"span_between", Z.topS 18, Z.F_span_between, ["lowers", "uppers", "lower", "upper"], ["lowers", "uppers"]⟩ := by
      obtain ⟨fd, F⟩ := c.def_ 14 (d := ZE.d14) rfl
      exact Z.ent_f Z.is_span_between (He.glo_ok KX G (c.fact 14 (f := .glo "span_between") rfl)) F rfl (fun _ _ _ _ _ _ us hl => match us, hl with | [_, _], _ => rfl)
    have e15 : Z.EntOk Z.tab K mg ⟨"value_at", Z.topS 20, Z.F_value_at, ["half_plane", "ray", "p", "q", "_", "height", "slope"], ["half_plane", "ray"]⟩ := by
      obtain ⟨fd, F⟩ := c.def_ 15 (d := ZE.d15) rfl
      exact Z.ent_f Z.is_value_at (He.glo_ok KX G (c.fact 15 (f := .glo "value_at") rfl)) F rfl (fun _ _ _ _ _ _ us hl => match us, hl with | [_, _], _ => rfl)
    have e16 : Z.EntOk Z.tab K mg ⟨"contains_ray", Z.topS 21, Z.F_contains_ray, ["half_planes", "ray", "half_plane"], ["half_planes", "ray"]⟩ := by
      obtain ⟨fd, F⟩ := c.def_ 16 (d := ZE.d16) rfl
      exact Z.ent_f Z.is_contains_ray (He.glo_ok KX G (c.fact 16 (f := .glo "contains_ray") rfl)) F rfl (fun _ _ _ _ _ _ us hl => match us, hl with | [_, _], _ => rfl)
    have e17 : Z.EntOk Z.tab K mg ⟨"determinant", Z.topS 22, Z.F_determinant, ["first", "second"], ["first", "second"]⟩ := by
      obtain ⟨fd, F⟩ := c.def_ 17 (d := ZE.d17) rfl
      exact Z.ent_f Z.is_determinant (He.glo_ok KX G (c.fact 17 (f := .glo "determinant") rfl)) F rfl (fun _ _ _ _ _ _ us hl => match us, hl with | [_, _], _ => rfl)
    have e18 : Z.EntOk Z.tab K mg ⟨"product", Z.topS 23, Z.F_product, ["first", "second"], ["first", "second"]⟩ := by
      obtain ⟨fd, F⟩ := c.def_ 18 (d := ZE.d18) rfl
      exact Z.ent_f Z.is_product (He.glo_ok KX G (c.fact 18 (f := .glo "product") rfl)) F rfl (fun _ _ _ _ _ _ us hl => match us, hl with | [_, _], _ => rfl)
    have e19 : Z.EntOk Z.tab K mg ⟨"nearest_ray", Z.topS 24, Z.F_nearest_ray, ["line", "p", "q", "r", "square"], ["line"]⟩ := by
      obtain ⟨fd, F⟩ := c.def_ 19 (d := ZE.d19) rfl
      exact Z.ent_f Z.is_nearest_ray (He.glo_ok KX G (c.fact 19 (f := .glo "nearest_ray") rfl)) F rfl (fun _ _ _ _ _ _ us hl => match us, hl with | [_], _ => rfl)
    have e20 : Z.EntOk Z.tab K mg ⟨"ray_along", Z.topS 25, Z.F_ray_along, ["line", "steps", "p", "q", "_", "height", "slope"], ["line", "steps"]⟩ := by
      obtain ⟨fd, F⟩ := c.def_ 20 (d := ZE.d20) rfl
      exact Z.ent_f Z.is_ray_along (He.glo_ok KX G (c.fact 20 (f := .glo "ray_along") rfl)) F rfl (fun _ _ _ _ _ _ us hl => match us, hl with | [_, _], _ => rfl)
    have e21 : Z.EntOk Z.tab K mg ⟨"span_on_line", Z.topS 26, Z.F_span_on_line, ["line", "half_planes", "start", "lowers", "uppers", "half_plane", "room", "growth"], ["line", "half_planes"]⟩ := by
      obtain ⟨fd, F⟩ := c.def_ 21 (d := ZE.d21) rfl
      exact Z.ent_f Z.is_span_on_line (He.glo_ok KX G (c.fact 21 (f := .glo "span_on_line") rfl)) F rfl (fun _ _ _ _ _ _ us hl => match us, hl with | [_, _], _ => rfl)
    have e22 : Z.EntOk Z.tab K mg ⟨"some_ray", Z.topS 27, Z.F_some_ray, ["half_planes", "ray", "index", "half_plane", "span", "lower", "upper"], ["half_planes"]⟩ := by
      obtain ⟨fd, F⟩ := c.def_ 22 (d := ZE.d22) rfl
      exact Z.ent_f Z.is_some_ray (He.glo_ok KX G (c.fact 22 (f := .glo "some_ray") rfl)) F rfl (fun _ _ _ _ _ _ us hl => match us, hl with | [_], _ => rfl)
    have e23 : Z.EntOk Z.tab K mg ⟨"is_empty", Z.topS 28, Z.F_is_empty, ["half_planes"], ["half_planes"]⟩ := by
      obtain ⟨fd, F⟩ := c.def_ 23 (d := ZE.d23) rfl
      exact Z.ent_f Z.is_is_empty (He.glo_ok KX G (c.fact 23 (f := .glo "is_empty") rfl)) F rfl (fun _ _ _ _ _ _ us hl => match us, hl with | [_], _ => rfl)
    have e24 : Z.EntOk Z.tab K mg ⟨"share_of", Z.topS 29, Z.F_share_of, ["goal", "half_plane"], ["goal", "half_plane"]⟩ := by
      obtain ⟨fd, F⟩ := c.def_ 24 (d := ZE.d24) rfl
      exact Z.ent_f Z.is_share_of (He.glo_ok KX G (c.fact 24 (f := .glo "share_of") rfl)) F rfl (fun _ _ _ _ _ _ us hl => match us, hl with | [_, _], _ => rfl)
    have e25 : Z.EntOk Z.tab K mg ⟨"sum_of", Z.topS 31, Z.F_sum_of, ["half_planes", "certificate", "total", "index", "multiplier", "terms", ".0", "number"], ["half_planes", "certificate"]⟩ := by
      obtain ⟨fd, F⟩ := c.def_ 25 (d := ZE.d25) rfl
      exact Z.ent_f Z.is_sum_of (He.glo_ok KX G (c.fact 25 (f := .glo "sum_of") rfl)) F rfl (fun _ _ _ _ _ _ us hl => match us, hl with | [_, _], _ => rfl)
    have e26 : Z.EntOk Z.tab K mg ⟨"is_well_formed", Z.topS 32, Z.F_is_well_formed, ["half_planes", "certificate", "last", "index", "multiplier"], ["half_planes", "certificate"]⟩ := by
      obtain ⟨fd, F⟩ := c.def_ 26 (d := ZE.d26) rfl
      exact Z.ent_f Z.is_is_well_formed (He.glo_ok KX G (c.fact 26 (f := .glo "is_well_formed") rfl)) F rfl (fun _ _ _ _ _ _ us hl => match us, hl with | [_, _], _ => rfl)
    have e27 : Z.EntOk Z.tab K mg ⟨"verify_emptiness", Z.topS 33, Z.F_verify_emptiness, ["half_planes", "certificate", "p", "q", "r"], ["half_planes", "certificate"]⟩ := by
      obtain ⟨fd, F⟩ := c.def_ 27 (d := ZE.d27) rfl
      exact Z.ent_f Z.is_verify_emptiness (He.glo_ok KX G (c.fact 27 (f := .glo "verify_emptiness") rfl)) F rfl (fun _ _ _ _ _ _ us hl => match us, hl with | [_, _], _ => rfl)
    have e28 : Z.EntOk Z.tab K mg ⟨"emptiness_certificate", Z.topS 34, Z.F_emptiness_certificate, ["half_planes", "certificate"], ["half_planes"]⟩ := by
      obtain ⟨fd, F⟩ := c.def_ 28 (d := ZE.d28) rfl
      exact Z.ent_f Z.is_emptiness_certificate (He.glo_ok KX G (c.fact 28 (f := .glo "emptiness_certificate") rfl)) F rfl (fun _ _ _ _ _ _ us hl => match us, hl with | [_], _ => rfl)
    have e29 : Z.EntOk Z.tab K mg ⟨"first_contrary_pair", Z.topS 35, Z.F_first_contrary_pair, ["half_planes", "first", "second", "p", "q", "_", "share", "numerator", "denominator", "certificate"], ["half_planes"]⟩ := by
      obtain ⟨fd, F⟩ := c.def_ 29 (d := ZE.d29) rfl
      exact Z.ent_f Z.is_first_contrary_pair (He.glo_ok KX G (c.fact 29 (f := .glo "first_contrary_pair") rfl)) F rfl (fun _ _ _ _ _ _ us hl => match us, hl with | [_], _ => rfl)
    have e30 : Z.EntOk Z.tab K mg ⟨"first_contrary_three", Z.topS 36, Z.F_first_contrary_three, ["half_planes", "indexes", "weights", "certificate", ".0", "index", "weight"], ["half_planes"]⟩ := by
      obtain ⟨fd, F⟩ := c.def_ 30 (d := ZE.d30) rfl
      exact Z.ent_f Z.is_first_contrary_three (He.glo_ok KX G (c.fact 30 (f := .glo "first_contrary_three") rfl)) F rfl (fun _ _ _ _ _ _ us hl => match us, hl with | [_], _ => rfl)
    have e31 : Z.EntOk Z.tab K mg ⟨"balancing_weights", Z.topS 37, Z.F_balancing_weights, ["half_planes", "one", "two", "three", "weights", "divisor", ".0", "weight"], ["half_planes"]⟩ := by
      obtain ⟨fd, F⟩ := c.def_ 31 (d := ZE.d31) rfl
      exact Z.ent_f Z.is_balancing_weights (He.glo_ok KX G (c.fact 31 (f := .glo "balancing_weights") rfl)) F rfl (fun _ _ _ _ _ _ us hl => match us, hl with | [_], _ => rfl)
    have e32 : Z.EntOk Z.tab K mg ⟨"_law_cell", Z.topS 39, Z.F__law_cell, ["script", "k"], ["script", "k"]⟩ := by
      obtain ⟨fd, F⟩ := c.def_ 32 (d := ZE.d32) rfl
      exact Z.ent_f Z.is__law_cell (He.glo_ok KX G (c.fact 32 (f := .glo "_law_cell") rfl)) F rfl (fun _ _ _ _ _ _ us hl => match us, hl with | [_, _], _ => rfl)
    have e33 : Z.EntOk Z.tab K mg ⟨"_law_digits", Z.topS 40, Z.F__law_digits, ["script", "first", "last", "digits", "k", "cell", "turn", "seed"], ["script", "first", "last"]⟩ := by
      obtain ⟨fd, F⟩ := c.def_ 33 (d := ZE.d33) rfl
      exact Z.ent_f Z.is__law_digits (He.glo_ok KX G (c.fact 33 (f := .glo "_law_digits") rfl)) F rfl (fun _ _ _ _ _ _ us hl => match us, hl with | [_, _, _], _ => rfl)
    have e34 : Z.EntOk Z.tab K mg ⟨"_law_draw", Z.topS 41, Z.F__law_draw, ["box", "many", "at"], ["box", "many"]⟩ := by
      obtain ⟨fd, F⟩ := c.def_ 34 (d := ZE.d34) rfl
      exact Z.ent_f Z.is__law_draw (He.glo_ok KX G (c.fact 34 (f := .glo "_law_draw") rfl)) F rfl (fun _ _ _ _ _ _ us hl => match us, hl with | [_, _], _ => rfl)
    have e35 : Z.EntOk Z.tab K mg ⟨"_law_divisor", Z.topS 42, Z.F__law_divisor, ["one", "other", "turn"], ["one", "other"]⟩ := by
      obtain ⟨fd, F⟩ := c.def_ 35 (d := ZE.d35) rfl
      exact Z.ent_f Z.is__law_divisor (He.glo_ok KX G (c.fact 35 (f := .glo "_law_divisor") rfl)) F rfl (fun _ _ _ _ _ _ us hl => match us, hl with | [_, _], _ => rfl)
    have e36 : Z.EntOk Z.tab K mg ⟨"_law_fr", Z.topS 43, Z.F__law_fr, ["n", "d", "g"], ["n", "d"]⟩ := by
      obtain ⟨fd, F⟩ := c.def_ 36 (d := ZE.d36) rfl
      exact Z.ent_f Z.is__law_fr (He.glo_ok KX G (c.fact 36 (f := .glo "_law_fr") rfl)) F rfl (fun _ _ _ _ _ _ us hl => match us, hl with | [_, _], _ => rfl)
    have e37 : Z.EntOk Z.tab K mg ⟨"_law_add", Z.topS 44, Z.F__law_add, ["x", "y"], ["x", "y"]⟩ := by
      obtain ⟨fd, F⟩ := c.def_ 37 (d := ZE.d37) rfl
      exact Z.ent_f Z.is__law_add (He.glo_ok KX G (c.fact 37 (f := .glo "_law_add") rfl)) F rfl (fun _ _ _ _ _ _ us hl => match us, hl with | [_, _], _ => rfl)
    have e38 : Z.EntOk Z.tab K mg ⟨"_law_mul", Z.topS 46, Z.F__law_mul, ["x", "y"], ["x", "y"]⟩ := by
      obtain ⟨fd, F⟩ := c.def_ 38 (d := ZE.d38) rfl
      exact Z.ent_f Z.is__law_mul (He.glo_ok KX G (c.fact 38 (f := .glo "_law_mul") rfl)) F rfl (fun _ _ _ _ _ _ us hl => match us, hl with | [_, _], _ => rfl)
    have e39 : Z.EntOk Z.tab K mg ⟨"_law_less", Z.topS 47, Z.F__law_less, ["x", "y"], ["x", "y"]⟩ := by
      obtain ⟨fd, F⟩ := c.def_ 39 (d := ZE.d39) rfl
      exact Z.ent_f Z.is__law_less (He.glo_ok KX G (c.fact 39 (f := .glo "_law_less") rfl)) F rfl (fun _ _ _ _ _ _ us hl => match us, hl with | [_, _], _ => rfl)
    have e40 : Z.EntOk Z.tab K mg ⟨"_law_plane", Z.topS 51, Z.F__law_plane, ["box", "p", "q", "r", "g"], ["box"]⟩ := by
      obtain ⟨fd, F⟩ := c.def_ 40 (d := ZE.d40) rfl
      exact Z.ent_f Z.is__law_plane (He.glo_ok KX G (c.fact 40 (f := .glo "_law_plane") rfl)) F rfl (fun _ _ _ _ _ _ us hl => match us, hl with | [_], _ => rfl)
    have e41 : Z.EntOk Z.tab K mg ⟨"_law_planes", Z.topS 52, Z.F__law_planes, ["box", "most", "planes", "one", ".0", "k"], ["box", "most"]⟩ := by
      obtain ⟨fd, F⟩ := c.def_ 41 (d := ZE.d41) rfl
      exact Z.ent_f Z.is__law_planes (He.glo_ok KX G (c.fact 41 (f := .glo "_law_planes") rfl)) F rfl (fun _ _ _ _ _ _ us hl => match us, hl with | [_, _], _ => rfl)
    have e42 : Z.EntOk Z.tab K mg ⟨"_law_value", Z.topS 53, Z.F__law_value, ["plane", "point"], ["plane", "point"]⟩ := by
      obtain ⟨fd, F⟩ := c.def_ 42 (d := ZE.d42) rfl
      exact Z.ent_f Z.is__law_value (He.glo_ok KX G (c.fact 42 (f := .glo "_law_value") rfl)) F rfl (fun _ _ _ _ _ _ us hl => match us, hl with | [_, _], _ => rfl)
    have e43 : Z.EntOk Z.tab K mg ⟨"_law_holds", Z.topS 54, Z.F__law_holds, ["planes", "point", "plane"], ["planes", "point"]⟩ := by
      obtain ⟨fd, F⟩ := c.def_ 43 (d := ZE.d43) rfl
      exact Z.ent_f Z.is__law_holds (He.glo_ok KX G (c.fact 43 (f := .glo "_law_holds") rfl)) F rfl (fun _ _ _ _ _ _ us hl => match us, hl with | [_, _], _ => rfl)
    have e44 : Z.EntOk Z.tab K mg ⟨"_law_meet", Z.topS 55, Z.F__law_meet, ["one", "other", "whole"], ["one", "other"]⟩ := by
      obtain ⟨fd, F⟩ := c.def_ 44 (d := ZE.d44) rfl
      exact Z.ent_f Z.is__law_meet (He.glo_ok KX G (c.fact 44 (f := .glo "_law_meet") rfl)) F rfl (fun _ _ _ _ _ _ us hl => match us, hl with | [_, _], _ => rfl)
    have e45 : Z.EntOk Z.tab K mg ⟨"_law_points", Z.topS 56, Z.F__law_points, ["planes", "found", "plane", "norm", "other", "point", ".0"], ["planes"]⟩ := by
      obtain ⟨fd, F⟩ := c.def_ 45 (d := ZE.d45) rfl
      exact Z.ent_f Z.is__law_points (He.glo_ok KX G (c.fact 45 (f := .glo "_law_points") rfl)) F rfl (fun _ _ _ _ _ _ us hl => match us, hl with | [_], _ => rfl)
    have e46 : Z.EntOk Z.tab K mg ⟨"_law_pair", Z.topS 60, Z.F__law_pair, ["one", "other", "first", "second", "g"], ["one", "other"]⟩ := by
      obtain ⟨fd, F⟩ := c.def_ 46 (d := ZE.d46) rfl
      exact Z.ent_f Z.is__law_pair (He.glo_ok KX G (c.fact 46 (f := .glo "_law_pair") rfl)) F rfl (fun _ _ _ _ _ _ us hl => match us, hl with | [_, _], _ => rfl)
    have e47 : Z.EntOk Z.tab K mg ⟨"_law_three", Z.topS 61, Z.F__law_three, ["a", "b", "c", "one", "two", "six", "g"], ["a", "b", "c"]⟩ := by
      obtain ⟨fd, F⟩ := c.def_ 47 (d := ZE.d47) rfl
      exact Z.ent_f Z.is__law_three (He.glo_ok KX G (c.fact 47 (f := .glo "_law_three") rfl)) F rfl (fun _ _ _ _ _ _ us hl => match us, hl with | [_, _, _], _ => rfl)
    have e48 : Z.EntOk Z.tab K mg ⟨"_law_first", Z.topS 62, Z.F__law_first, ["planes", "many", "i", "j", "found", "k"], ["planes"]⟩ := by
      obtain ⟨fd, F⟩ := c.def_ 48 (d := ZE.d48) rfl
      exact Z.ent_f Z.is__law_first (He.glo_ok KX G (c.fact 48 (f := .glo "_law_first") rfl)) F rfl (fun _ _ _ _ _ _ us hl => match us, hl with | [_], _ => rfl)
    have e49 : Z.EntOk Z.tab K mg ⟨"law", Z.topS 63, Z.F_law, ["script", "box", "turn", "planes", "due", "none", "told"], ["script"]⟩ := by
      obtain ⟨fd, F⟩ := c.def_ 49 (d := ZE.d49) rfl
      exact Z.ent_f Z.is_law (He.glo_ok KX G (c.fact 49 (f := .glo "law") rfl)) F rfl (fun _ _ _ _ _ _ us hl => match us, hl with | [_], _ => rfl)
    have ok : ∀ e ∈ Z.ents, Z.EntOk Z.tab K mg e := by
      intro e he
      simp only [Z.ents, List.mem_cons, List.not_mem_nil, or_false] at he
      rcases he with rfl | rfl | rfl | rfl | rfl | rfl | rfl | rfl | rfl | rfl | rfl | rfl | rfl | rfl | rfl | rfl | rfl | rfl | rfl | rfl | rfl | rfl | rfl | rfl | rfl | rfl | rfl | rfl | rfl | rfl | rfl | rfl | rfl | rfl | rfl | rfl | rfl | rfl | rfl | rfl | rfl | rfl | rfl | rfl | rfl | rfl | rfl | rfl | rfl | rfl
      · exact e0
      · exact e1
      · exact e2
      · exact e3
      · exact e4
      · exact e5
      · exact e6
      · exact e7
      · exact e8
      · exact e9
      · exact e10
      · exact e11
      · exact e12
      · exact e13
      · exact e14
      · exact e15
      · exact e16
      · exact e17
      · exact e18
      · exact e19
      · exact e20
      · exact e21
      · exact e22
      · exact e23
      · exact e24
      · exact e25
      · exact e26
      · exact e27
      · exact e28
      · exact e29
      · exact e30
      · exact e31
      · exact e32
      · exact e33
      · exact e34
      · exact e35
      · exact e36
      · exact e37
      · exact e38
      · exact e39
      · exact e40
      · exact e41
      · exact e42
      · exact e43
      · exact e44
      · exact e45
      · exact e46
      · exact e47
      · exact e48
      · exact e49
    have hgl : ∀ x d, Z.tab.gls.lookup x = some d → ∃ v u, mg x = some u ∧ L2.RelV v u ∧ ∀ M H, Z.Rep K M H d v := by
      intro x d hx
      by_cases z : x = "ZERO"
      · subst z
        have q := Z.lookup_eq hx
        subst q
        exact tp ("ZERO", (.tup [(.int (0)), (.int (1))])) (List.mem_of_getElem? (l := ZE.gl) (i := 0) rfl)
      replace hx := Z.lookup_ne z hx
      cases hx
    have hbl : ∀ x ∈ Z.blts, mg x = none := by
      intro x hx
      simp only [Z.blts, List.mem_cons, List.not_mem_nil, or_false] at hx
      rcases hx with rfl | rfl | rfl | rfl | rfl | rfl | rfl | rfl | rfl | rfl | rfl | rfl | rfl | rfl | rfl | rfl | rfl | rfl | rfl | rfl
      · exact He.free_ok KX G (c.fact 50 (f := .free "len") rfl)
      · exact He.free_ok KX G (c.fact 51 (f := .free "abs") rfl)
      · exact He.free_ok KX G (c.fact 52 (f := .free "int") rfl)
      · exact He.free_ok KX G (c.fact 53 (f := .free "list") rfl)
      · exact He.free_ok KX G (c.fact 54 (f := .free "isinstance") rfl)
      · exact He.free_ok KX G (c.fact 55 (f := .free "range") rfl)
      · exact He.free_ok KX G (c.fact 56 (f := .free "enumerate") rfl)
      · exact He.free_ok KX G (c.fact 57 (f := .free "tuple") rfl)
      · exact He.free_ok KX G (c.fact 58 (f := .free "bool") rfl)
      · exact He.free_ok KX G (c.fact 59 (f := .free "str") rfl)
      · exact He.free_ok KX G (c.fact 60 (f := .free "repr") rfl)
      · exact He.free_ok KX G (c.fact 61 (f := .free "min") rfl)
      · exact He.free_ok KX G (c.fact 62 (f := .free "max") rfl)
      · exact He.free_ok KX G (c.fact 63 (f := .free "sum") rfl)
      · exact He.free_ok KX G (c.fact 64 (f := .free "any") rfl)
      · exact He.free_ok KX G (c.fact 65 (f := .free "all") rfl)
      · exact He.free_ok KX G (c.fact 66 (f := .free "zip") rfl)
      · exact He.free_ok KX G (c.fact 67 (f := .free "reversed") rfl)
      · exact He.free_ok KX G (c.fact 68 (f := .free "dict") rfl)
      · exact He.free_ok KX G (c.fact 69 (f := .free "set") rfl)
    obtain ⟨fd, bd, hF⟩ := Z.end_ok (P := PySem.Challenge.pw_raytrain_k07_empty_regions_and_their_pap) (w := w) KX G hmg Z.ents rfl (fun _ => rfl) ok hgl hbl bi.1 bi.2 (j := 49) (e := ⟨"law", Z.topS 63, Z.F_law, _, _⟩) rfl rfl rfl rfl rfl (fun _ _ _ _ _ _ us hl => match us, hl with | [_], _ => rfl) 60 63 Z.run_law
    exact ⟨K, fd, Z.spL K 63, KX, bd, fun _ a ns hl _ hS => ⟨a, ns, rfl, hS, hl, fun _ => rfl⟩, hF⟩
