import PyProof.Rows.All
import Wide.All
import OpenK.AllK
import Wide.FinOn
import HandS.ForMost
import HandS.Gcd
import HandS.Wide
import HandS.IsInst
import HandS.Deep
import HandS.TupAny
import HandS.TupMul
import HandS.Flow
import HandS.Style
import HandS.Zip
import HandS.Rev
import HandS.Exc
import HandS.TryOnly
import HandS.WordsExc
import HandS.CallSlots
import HandS.Conv
import HandS.Defaults
import HandS.NoneIn
import HandS.More
import HandS.SetFor
import KE.DataFind
import PyProof.TupleOfSeq
import HandS.RepeatKit
import PyProof.P3Eq
import HandS.ExcInit
import HandS.ClsMeth
import HandS.ExcIs
import KE.KStateDown
import HandS.Head0
import HandS.Head1
import HandS.Head2
import HandS.Head3
import HandS.HeadEnd
import HandS.HeadHook1
import HandS.HeadHook2
import PySem.Challenge.RW_raytrain_k05_half_planes
set_option Elab.async false
set_option linter.all false
set_option maxRecDepth 100000
set_option maxHeartbeats 4000000
namespace ZCmb
open PySem PySem.Spec PyProof.Rows L2
open Sem (wp)
theorem mro_cmb : mroOf (.type "itertools.combinations") = pure [.type "itertools.combinations", .type "object"] := by rw [mroOf_type]; kernel_rfl
theorem lookup_cmb_new : typeLookup (.type "itertools.combinations") "__new__" = pure (some (.builtin "itertools.combinations.__new__")) := by rw [typeLookup_type, builtinLookup_eq_fast]; kernel_rfl
theorem slot_cmb_init : Slot "itertools.combinations" "__init__" "object.__init__" :=
  .of (owner := "object") (n := "__init__") (by rw [typeLookup_type, builtinLookup_eq_fast]; kernel_rfl) (by decide +kernel) (by decide +kernel) (by decide +kernel)
    (by first | exact .inl (by decide +kernel) | exact .inr (by decide +kernel)) (by rw [isSubtype_type]; kernel_rfl)
theorem sub_cmb : isSubtype (.type "itertools.combinations") (.type "itertools.combinations") = pure true := by rw [isSubtype_type]; kernel_rfl
theorem called_cmb : TypeCalled "itertools.combinations" "itertools.combinations.__new__" "object.__init__" :=
  ⟨by decide +kernel, by decide +kernel, ⟨_, _, mro_cmb⟩, madeBy_type mro_cmb lookup_cmb_new (by decide +kernel), by decide +kernel, sub_cmb, slot_cmb_init⟩
theorem typeCall_cmb_2 (a b : Value) : checkTypeCall "itertools.combinations" ⟨[a, b], []⟩ = pure () := by kernel_rfl
theorem newCall_cmb_2 (a b : Value) : checkBuiltinCall "itertools.combinations.__new__" ⟨[.type "itertools.combinations", a, b], []⟩ = pure () := by kernel_rfl
theorem entry_cmb_new : entryFor table "itertools.combinations.__new__" = some Builtin.«itertools.combinations.__new__» := entryFor_of_tree (by kernel_rfl)
theorem slot_cmb_iter : Slot "itertools.combinations" "__iter__" "itertools.combinations.__iter__" :=
  .of (owner := "itertools.combinations") (n := "__iter__") (by rw [typeLookup_type, builtinLookup_eq_fast]; kernel_rfl) (by decide +kernel) (by decide +kernel) (by decide +kernel)
    (by first | exact .inl (by decide +kernel) | exact .inr (by decide +kernel)) sub_cmb
theorem slot_cmb_next : Slot "itertools.combinations" "__next__" "itertools.combinations.__next__" :=
  .of (owner := "itertools.combinations") (n := "__next__") (by rw [typeLookup_type, builtinLookup_eq_fast]; kernel_rfl) (by decide +kernel) (by decide +kernel) (by decide +kernel)
    (by first | exact .inl (by decide +kernel) | exact .inr (by decide +kernel)) sub_cmb
theorem entry_cmb_iter : entryFor table "itertools.combinations.__iter__" = some Builtin.«dict_keyiterator.__iter__» :=
  entryFor_alias (id' := "dict_keyiterator.__iter__") (by kernel_rfl) (by first | rfl | decide +kernel | (unfold String.splitOn; simp +decide [String.splitOnAux])) (by decide +kernel) (by kernel_rfl)
theorem entry_cmb_next : entryFor table "itertools.combinations.__next__" = some Builtin.«itertools.combinations.__next__» := entryFor_of_tree (by kernel_rfl)
theorem owner_cmb : Manifest.owners.lookup (String.ofList ['s', 'n', 'o', 'i', 't', 'a', 'n', 'i', 'b', 'm', 'o', 'c', '.', 's', 'l', 'o', 'o', 't', 'r', 'e', 't', 'i'].reverse) = some Manifest.sig_itertools_combinations := by kernel_rfl
theorem args_cmb_iter (a : Value) : argsOk "itertools.combinations.__iter__" ⟨[a], []⟩ := by
  unfold argsOk; rw [signature?_of (id := "itertools.combinations.__iter__") (n := ['_', '_', 'r', 'e', 't', 'i', '_', '_']) (o := ['s', 'n', 'o', 'i', 't', 'a', 'n', 'i', 'b', 'm', 'o', 'c', '.', 's', 'l', 'o', 'o', 't', 'r', 'e', 't', 'i']) (by kernel_rfl) owner_cmb]; kernel_rfl
theorem args_cmb_next (a : Value) : argsOk "itertools.combinations.__next__" ⟨[a], []⟩ := by
  unfold argsOk; rw [signature?_of (id := "itertools.combinations.__next__") (n := ['_', '_', 't', 'x', 'e', 'n', '_', '_']) (o := ['s', 'n', 'o', 'i', 't', 'a', 'n', 'i', 'b', 'm', 'o', 'c', '.', 's', 'l', 'o', 'o', 't', 'r', 'e', 't', 'i']) (by kernel_rfl) owner_cmb]; kernel_rfl
theorem noDict_cmb : typeHasDict (.type "itertools.combinations") = false := by decide +kernel
/-- the object: pool, state (0 at the beginning, 1 within, 2 at the end), what was handed out last, the indexes -/
def cmbO (pool : Addr) (st : Int) (last : Value) (idx : List Nat) : Obj := { cls := .type "itertools.combinations", dict := none, data := .fields (([.ref pool, rawInt st, last] ++ idx.map fun (i : Nat) => rawInt i).toArray), slots := #[] }
abbrev IsCmb (h : Heap) (it pool : Addr) (st : Int) (last : Value) (idx : List Nat) : Prop := h.get? it = some (cmbO pool st last idx)
end ZCmb
namespace ZCmb
open PySem PySem.Spec PyProof.Rows L2
open Sem (wp)
/-- what collecting a value gives: values with P, nothing lost -/
def Cols (A : Around) (src : Value) (P : List Value → Prop) (s : Shared) : Prop := ∀ (prog : Program) (w : World) (Q : List Value → Shared → Prop) (E : Value → Shared → Prop),
  (∀ (h' : Heap) (tk : Nat) (us : List Value), (∀ b o', s.heap.get? b = some o' → h'.get? b = some o') → P us → us.length ≤ sizeLine → Q us { s with heap := h', toks := tk }) → wpAny (model prog w) A (collect src) Q E s
theorem meets_cmb_new (src : Value) (r : Nat) (t : Tok) (hr : r ≤ 10) (P : List Value → Prop) :
    Meets (Builtin.«itertools.combinations.__new__» ⟨[.type "itertools.combinations", src, .int (r : Int) t], []⟩)
      (fun A R s => Cols A.in1 src P s ∧ ∀ (h2 h' : Heap) (tk : Nat) (us : List Value), (∀ b o', s.heap.get? b = some o' → h2.get? b = some o') → (∀ b o', h2.get? b = some o' → h'.get? b = some o') → h'.IsTuple h2.objs.size us.toArray → P us → IsCmb h' (h2.objs.size + 1) h2.objs.size (if r > us.length then 2 else 0) .none (List.range r) →
        R (.ok (.ret (.ref (h2.objs.size + 1)))) { s with heap := h', toks := tk }) :=
  .of_wp fun prog w A R s h => by
    obtain ⟨hp, g, dd, tk, os⟩ := s
    obtain ⟨hcol, h⟩ := h
    have hsub : isSubtype (.type "itertools.combinations") (.type ("itertools." ++ "combinations")) = pure true := by
      rw [show "itertools." ++ "combinations" = "itertools.combinations" from by decide]
      exact sub_cmb
    have hdn := noDict_cmb
    have hn : ¬ ((decide ((r : Int) < -(2 ^ 63 : Int)) || decide ((r : Int) ≥ (2 ^ 63 : Int))) = true) := by
      have a : decide ((r : Int) < -(2 ^ 63 : Int)) = false := decide_eq_false (by omega)
      have b : decide ((r : Int) ≥ (2 ^ 63 : Int)) = false := decide_eq_false (by omega)
      rw [a, b]
      decide
    have h0 : ¬ ((r : Int) < 0) := by omega
    have h1 : ¬ (Builtin.Itertools.itTooMany (r : Int) = true) := by
      unfold Builtin.Itertools.itTooMany
      rw [decide_eq_true_eq]
      omega
    repeat (first
      | (refine wpAny_bind (hcol _ _ _ _ (fun h2 tk2 us hk hP hsz => ?_)))
      | (refine wpAny_ite_false (decide_eq_false h0) ?_)
      | (rw [if_neg h0])
      | (rw [if_neg h1])
      | (rw [if_neg (show ¬ (([Value.ref _, rawInt _, Value.none] ++ List.map (fun (i : Nat) => rawInt i) (List.range (r : Int).toNat)).toArray.size > sizeLine + 2) from by simp [sizeLine_eq]; omega)])
      | wp_step
      | simp only [List.head?_cons, Option.some_or, List.getElem?_cons_succ, List.getElem?_cons_zero, List.length_cons, List.length_nil, List.forIn_nil]
      | (refine wpAny_ite_false (by simpa using hn) ?_))
    refine ⟨_, rfl, ?_⟩
    have e1 : (if ((r : Int).toNat > us.length) then (2 : Int) else 0) = if r > us.length then 2 else 0 := by simp
    have e2 : (h2.push { cls := .type "tuple", data := .seq us.toArray }).objs.size = h2.objs.size + 1 := Heap.size_push ..
    have := Heap.get?_push_size (h2.push { cls := .type "tuple", data := .seq us.toArray }) (o := cmbO h2.objs.size (if r > us.length then 2 else 0) .none (List.range r)) rfl
    rw [← e1] at this
    rw [e2]
    rw [e2] at this
    refine h h2 _ tk2 us hk (fun b o' e => Heap.get?_push_of_some _ (Heap.get?_push_of_some _ e)) ⟨_, Heap.get?_push_of_some _ (Heap.get?_push_size _ rfl), rfl, _, rfl⟩ hP ?_
    rw [e1] at this
    exact this
section
variable {prog : Program} {w : World} {A : Around} {E : Value → Shared → Prop} {s : Shared}
theorem call_cmb {src : Value} {r : Nat} {t : Tok} {P : List Value → Prop} {Q : Value → Shared → Prop} (hr : r ≤ 10) (hcol : Cols A.in1.in1 src P s)
    (h : ∀ (h2 h' : Heap) (tk : Nat) (us : List Value), (∀ b o', s.heap.get? b = some o' → h2.get? b = some o') → (∀ b o', h2.get? b = some o' → h'.get? b = some o') → h'.IsTuple h2.objs.size us.toArray → P us → IsCmb h' (h2.objs.size + 1) h2.objs.size (if r > us.length then 2 else 0) .none (List.range r) → Q (.ref (h2.objs.size + 1)) { s with heap := h', toks := tk }) :
    wpAny (model prog w) A (call (.type "itertools.combinations") [src, .int (r : Int) t]) Q E s := by
  refine callType_new called_cmb (by decide +kernel) (typeCall_cmb_2 _ _) (newCall_cmb_2 _ _) (fun obj => F.args_object_init_3 obj _ _) entry_cmb_new (meets_cmb_new src r t hr P) ?_
  exact ⟨hcol, fun h2 h' tk us a1 a2 a3 a4 a5 => ⟨⟨_, a5, rfl⟩, h h2 h' tk us a1 a2 a3 a4 a5⟩⟩
theorem cols_list {l : Addr} {T : String} {items : Array Value} {o : Obj} {n : Nat} (hT : T = "list" ∨ T = "tuple") (hsz : items.size ≤ sizeLine) (ho : s.heap.get? l = some o) (hc : o.cls = .type T) (hd : o.data = .seq items n) : Cols A (.ref l) (fun us => us = items.toList) s :=
  fun prog w Q E h => wpAny_collect_seq l hT ho hc hd (fun h' hk => h h' s.toks _ hk rfl (by simpa using hsz)) hsz
theorem cols_range {r : Addr} {a b : Int} {t u v : Tok} (hh : A.handled = none) (hr : IsRange s.heap r a b 1 t u v) (ok : RgOk a b) : Cols A (.ref r) (fun us => Vals (rgV a b) us) s := by
  obtain ⟨b1, b2, b3, b4, b5⟩ := ok
  intro prog w Q E h
  refine collect_range (n := (b - a).toNat) hh hr (small_one b1 b2 b3 b4) (rangeSize_nat a b) b5 fun h' tk acc hk hi => h h' tk _ hk (vals_rg hi) ?_
  have := (vals_rg hi).length
  rw [rgV_length] at this
  rw [← this, sizeLine_eq]
  omega
end
end ZCmb
namespace ZCmb
open PySem PySem.Spec PyProof.Rows L2
open Sem (wp)
/-- the step of the indexes -/
def nxt (n : Nat) (indices : List Nat) : Option (List Nat) :=
  let r := indices.length
  match (List.range r).reverse.find? fun i => indices.getD i 0 != i + n - r with
  | none => none
  | some i => some (indices.take i ++ (List.range (r - i)).map (indices.getD i 0 + 1 + ·))
def pk (items : Array Value) (idx : List Nat) : List Value := idx.map fun i => items.getD i .none
section
variable {prog : Program} {w : World} {A : Around} {E : Value → Shared → Prop} {s : Shared}
theorem map_raw {f : Value → Nat} (h : ∀ i : Nat, f (rawInt i) = i) (idx : List Nat) : (idx.map fun (i : Nat) => rawInt i).map f = idx := by
  induction idx with
  | nil => rfl
  | cons i idx ih => simp only [List.map_cons, ih, h]
theorem numbers {it pool : Addr} {st : Int} {last : Value} {idx : List Nat} {Q : List Nat → Shared → Prop} (h : IsCmb s.heap it pool st last idx) (q : Q idx s) : wpAny (model prog w) A (Builtin.Itertools.itNumbersFrom (.ref it) 3) Q E s := by
  unfold Builtin.Itertools.itNumbersFrom
  refine wpAny_bind (wpAny_load h ?_)
  refine wpAny_pure ?_
  have : (([.ref pool, rawInt st, last] ++ idx.map fun (i : Nat) => rawInt i).toArray.toList.drop 3) = idx.map fun (i : Nat) => rawInt i := rfl
  rw [this, map_raw (fun i => rfl)]
  exact q
theorem poolItems {pool : Addr} {items : Array Value} {Q : Array Value → Shared → Prop} (h : s.heap.IsTuple pool items) (q : Q items s) : wpAny (model prog w) A (Builtin.Itertools.itPoolItems (.ref pool)) Q E s := by
  obtain ⟨o, ho, _, n, hd⟩ := h
  unfold Builtin.Itertools.itPoolItems
  exact wpAny_bind (wpAny_seqItems ho hd (wpAny_pure q))
theorem hand_out {it pool : Addr} {last : Value} {st : Int} {idx : List Nat} {items : Array Value} {Q : Fin → Shared → Prop} (hi : IsCmb s.heap it pool st last idx) (hp : s.heap.IsTuple pool items) (hne : pool ≠ it) (hl : idx.length ≤ 10)
    (hQ : ∀ h' q, IsCmb h' it pool st (.ref q) idx → q = s.heap.objs.size → h'.get? q = some { cls := .type "tuple", data := .seq (pk items idx).toArray } → (∀ b o, b ≠ it → s.heap.get? b = some o → h'.get? b = some o) → Q (.done (.ret (.ref q))) { s with heap := h' }) :
    wpAny (model prog w) A (do
      let result ← (do
        let items ← Builtin.Itertools.itPoolItems (.ref pool)
        newTuple (idx.map fun i => items.getD i .none))
      let before ← field (.ref it) 2
      setField (.ref it) 2 result
      letGo [before] [result]
      ret result : Sem Fin) Q E s := by
  refine wpAny_bind (wpAny_bind (poolItems hp ?_))
  refine wpAny_newTuple ?_ (by rw [List.length_map, sizeLine_eq]; omega)
  have hi1 : IsCmb (s.heap.push { cls := .type "tuple", data := .seq (pk items idx).toArray }) it pool st last idx := Heap.get?_push_of_some _ hi
  refine wpAny_bind (wpAny_field hi1 rfl (x := last) rfl ?_)
  refine wpAny_bind (wpAny_setField_rec hi1 (by simp) fun h1 hi2 hs1 => ?_)
  replace hi2 : IsCmb h1 it pool st (.ref s.heap.objs.size) idx := hi2
  refine wpAny_bind (wpAny_letGo (wpAny_pure ?_))
  have hlt : it < s.heap.objs.size := Heap.lt_size hi
  exact hQ h1 s.heap.objs.size hi2 rfl (hs1.extBut _ _ (Nat.ne_of_gt hlt) (Heap.get?_push_size _ rfl)) fun b o hb e => hs1.extBut _ _ hb (Heap.get?_push_of_some _ e)
theorem next_first {it pool : Addr} {last : Value} {idx : List Nat} {items : Array Value} {Q : Fin → Shared → Prop} (hi : IsCmb s.heap it pool 0 last idx) (hp : s.heap.IsTuple pool items) (hne : pool ≠ it) (hl : idx.length ≤ 10)
    (hQ : ∀ h' q, IsCmb h' it pool 1 (.ref q) idx → q = s.heap.objs.size → h'.get? q = some { cls := .type "tuple", data := .seq (pk items idx).toArray } → (∀ b o, b ≠ it → s.heap.get? b = some o → h'.get? b = some o) → Q (.done (.ret (.ref q))) { s with heap := h' }) :
    wpAny (model prog w) A (Builtin.«itertools.combinations.__next__» ⟨[.ref it], []⟩) Q E s := by
  show wpAny _ _ (field (.ref it) 0 >>= _) _ _ _
  refine wpAny_bind (wpAny_field hi rfl (x := .ref pool) rfl ?_)
  show wpAny _ _ (Builtin.Itertools.itNumbersFrom (.ref it) 3 >>= _) _ _ _
  refine wpAny_bind (numbers hi ?_)
  show wpAny _ _ (Builtin.Itertools.itIntField (.ref it) 1 >>= _) _ _ _
  unfold Builtin.Itertools.itIntField
  refine wpAny_bind (wpAny_bind (wpAny_field hi rfl (x := rawInt 0) rfl (wpAny_pure ?_)))
  show wpAny _ _ (setField (.ref it) 1 (rawInt 1) >>= _) _ _ _
  refine wpAny_bind (wpAny_setField_rec hi (by simp) fun h1 hi1 hs1 => ?_)
  replace hi1 : IsCmb h1 it pool 1 last idx := hi1
  have hp1 : h1.IsTuple pool items := hp.extBut hs1.extBut hne
  exact hand_out hi1 hp1 hne hl fun h' q a1 a2 a3 a4 => hQ h' q a1 (a2.trans hs1.1) a3 fun b o hb e => a4 b o hb (hs1.extBut _ _ hb e)
/-- a step within -/
theorem next_more {it pool : Addr} {last : Value} {idx idx' : List Nat} {items : Array Value} {Q : Fin → Shared → Prop} (hi : IsCmb s.heap it pool 1 last idx) (hp : s.heap.IsTuple pool items) (hne : pool ≠ it) (hx : nxt items.size idx = some idx') (hl : idx'.length ≤ 10)
    (hQ : ∀ h' q, IsCmb h' it pool 1 (.ref q) idx' → q = s.heap.objs.size → h'.get? q = some { cls := .type "tuple", data := .seq (pk items idx').toArray } → (∀ b o, b ≠ it → s.heap.get? b = some o → h'.get? b = some o) → Q (.done (.ret (.ref q))) { s with heap := h' }) :
    wpAny (model prog w) A (Builtin.«itertools.combinations.__next__» ⟨[.ref it], []⟩) Q E s := by
  show wpAny _ _ (field (.ref it) 0 >>= _) _ _ _
  refine wpAny_bind (wpAny_field hi rfl (x := .ref pool) rfl ?_)
  show wpAny _ _ (Builtin.Itertools.itNumbersFrom (.ref it) 3 >>= _) _ _ _
  refine wpAny_bind (numbers hi ?_)
  show wpAny _ _ (Builtin.Itertools.itIntField (.ref it) 1 >>= _) _ _ _
  unfold Builtin.Itertools.itIntField
  refine wpAny_bind (wpAny_bind (wpAny_field hi rfl (x := rawInt 1) rfl (wpAny_pure ?_)))
  show wpAny _ _ (Builtin.Itertools.itPoolItems (.ref pool) >>= _) _ _ _
  refine wpAny_bind (poolItems hp ?_)
  show wpAny _ _ (match nxt items.size idx with | some next => (Builtin.Itertools.itSetNumbersFrom (.ref it) 3 next >>= fun _ => _) | none => _) _ _ _
  rw [hx]
  show wpAny _ _ (Builtin.Itertools.itSetNumbersFrom (.ref it) 3 idx' >>= _) _ _ _
  unfold Builtin.Itertools.itSetNumbersFrom
  refine wpAny_bind (wpAny_updateFields hi rfl ?_ (by simp [sizeLine_eq]; omega))
  have hs1 : Heap.SameBut it s.heap (s.heap.update it (Obj.mapFields (fun fs => fs.extract 0 3 ++ (List.map (fun (n : Nat) => rawInt n) idx').toArray))) := Heap.SameBut.update ..
  have hi1 : IsCmb (s.heap.update it (Obj.mapFields (fun fs => fs.extract 0 3 ++ (List.map (fun (n : Nat) => rawInt n) idx').toArray))) it pool 1 last idx' := by
    rw [IsCmb, Heap.get?_update_self _ hi rfl]
    simp [cmbO, Obj.mapFields]
  generalize s.heap.update it (Obj.mapFields (fun fs => fs.extract 0 3 ++ (List.map (fun (n : Nat) => rawInt n) idx').toArray)) = h1 at *
  have hp1 : h1.IsTuple pool items := hp.extBut hs1.extBut hne
  exact hand_out hi1 hp1 hne hl fun h' q a1 a2 a3 a4 => hQ h' q a1 (a2.trans hs1.1) a3 fun b o hb e => a4 b o hb (hs1.extBut _ _ hb e)
theorem next_stop {it pool : Addr} {last : Value} {idx : List Nat} {items : Array Value} {Q : Fin → Shared → Prop} (hh : A.handled = none) (hi : IsCmb s.heap it pool 1 last idx) (hp : s.heap.IsTuple pool items) (hne : pool ≠ it) (hx : nxt items.size idx = none)
    (hE : ∀ h' e, (∀ b o, b ≠ it → s.heap.get? b = some o → h'.get? b = some o) → (∃ o, h'.get? e = some o ∧ o.cls = .type "StopIteration") → E (.ref e) { s with heap := h' }) :
    wpAny (model prog w) A (Builtin.«itertools.combinations.__next__» ⟨[.ref it], []⟩) Q E s := by
  show wpAny _ _ (field (.ref it) 0 >>= _) _ _ _
  refine wpAny_bind (wpAny_field hi rfl (x := .ref pool) rfl ?_)
  show wpAny _ _ (Builtin.Itertools.itNumbersFrom (.ref it) 3 >>= _) _ _ _
  refine wpAny_bind (numbers hi ?_)
  show wpAny _ _ (Builtin.Itertools.itIntField (.ref it) 1 >>= _) _ _ _
  unfold Builtin.Itertools.itIntField
  refine wpAny_bind (wpAny_bind (wpAny_field hi rfl (x := rawInt 1) rfl (wpAny_pure ?_)))
  show wpAny _ _ (Builtin.Itertools.itPoolItems (.ref pool) >>= _) _ _ _
  refine wpAny_bind (poolItems hp ?_)
  show wpAny _ _ (match nxt items.size idx with | some next => _ | none => (setField (.ref it) 1 (rawInt 2) >>= fun _ => Builtin.Itertools.itStop)) _ _ _
  rw [hx]
  show wpAny _ _ (setField (.ref it) 1 (rawInt 2) >>= fun _ => Builtin.Itertools.itStop) _ _ _
  refine wpAny_bind (wpAny_setField_rec hi (by simp) fun h1 hi1 hs1 => ?_)
  unfold Builtin.Itertools.itStop
  show wpAny _ _ (newExc (.type "StopIteration") [] >>= _) _ _ _
  refine wpAny_bind ?_
  simp only [newExc, newTuple]
  refine wpAny_bind (wpAny_newObj_type ?_ (by size_fits))
  refine wpAny_bind (m := firstArgMember _ _) (wpAny_of_eq (a := Value.none) (by first | rfl | (simp only [firstArgMember]; rfl)) ?_)
  refine wpAny_newObj_type ?_ (by size_fits)
  simp only [raiseNew]
  refine wpAny_bind (wpAny_handled ?_)
  first | rw [show A.in1.handled = none from hh] | rw [hh]
  refine wpAny_bind (wpAny_pure (wpAny_throw ?_))
  exact hE _ _ (((hs1.extBut).push _).push _) ⟨_, Heap.get?_push_size _ rfl, rfl⟩
theorem next_ended {it pool : Addr} {last : Value} {idx : List Nat} {Q : Fin → Shared → Prop} (hh : A.handled = none) (hi : IsCmb s.heap it pool 2 last idx)
    (hE : ∀ h' e, (∀ b o, b ≠ it → s.heap.get? b = some o → h'.get? b = some o) → (∃ o, h'.get? e = some o ∧ o.cls = .type "StopIteration") → E (.ref e) { s with heap := h' }) :
    wpAny (model prog w) A (Builtin.«itertools.combinations.__next__» ⟨[.ref it], []⟩) Q E s := by
  show wpAny _ _ (field (.ref it) 0 >>= _) _ _ _
  refine wpAny_bind (wpAny_field hi rfl (x := .ref pool) rfl ?_)
  show wpAny _ _ (Builtin.Itertools.itNumbersFrom (.ref it) 3 >>= _) _ _ _
  refine wpAny_bind (numbers hi ?_)
  show wpAny _ _ (Builtin.Itertools.itIntField (.ref it) 1 >>= _) _ _ _
  unfold Builtin.Itertools.itIntField
  refine wpAny_bind (wpAny_bind (wpAny_field hi rfl (x := rawInt 2) rfl (wpAny_pure ?_)))
  show wpAny _ _ (rule "itertools.combinations.ended" >>= fun _ => Builtin.Itertools.itStop) _ _ _
  refine wpAny_bind (wpAny_rule ?_)
  unfold Builtin.Itertools.itStop
  show wpAny _ _ (newExc (.type "StopIteration") [] >>= _) _ _ _
  refine wpAny_bind ?_
  simp only [newExc, newTuple]
  refine wpAny_bind (wpAny_newObj_type ?_ (by size_fits))
  refine wpAny_bind (m := firstArgMember _ _) (wpAny_of_eq (a := Value.none) (by first | rfl | (simp only [firstArgMember]; rfl)) ?_)
  refine wpAny_newObj_type ?_ (by size_fits)
  simp only [raiseNew]
  refine wpAny_bind (wpAny_handled ?_)
  first | rw [show A.in1.handled = none from hh] | rw [hh]
  refine wpAny_bind (wpAny_pure (wpAny_throw ?_))
  exact hE _ _ (fun b o _ e => Heap.get?_push_of_some _ (Heap.get?_push_of_some _ e)) ⟨_, Heap.get?_push_size _ rfl, rfl⟩
end
end ZCmb
namespace ZCmb
open PySem PySem.Spec PyProof.Rows L2
open Sem (wp)
/-- the indexes at turn i, if there is one -/
def seqI (n r : Nat) : Nat → Option (List Nat)
  | 0 => if r > n then none else some (List.range r)
  | i + 1 => (seqI n r i).bind (nxt n)
theorem nxt_len {n : Nat} {a b : List Nat} (h : nxt n a = some b) : b.length = a.length := by
  unfold nxt at h
  simp only at h
  split at h
  · cases h
  · rename_i i hi
    cases h
    have := List.mem_of_find?_eq_some hi
    rw [List.mem_reverse, List.mem_range] at this
    rw [List.length_append, List.length_take, List.length_map, List.length_range]
    omega
theorem seqI_len {n r : Nat} : ∀ {i : Nat} {a : List Nat}, seqI n r i = some a → a.length = r
  | 0, a, h => by
    unfold seqI at h
    split at h
    · cases h
    · cases h; exact List.length_range
  | i + 1, a, h => by
    unfold seqI at h
    cases hx : seqI n r i with
    | none => rw [hx] at h; cases h
    | some b =>
      rw [hx] at h
      rw [nxt_len h]
      exact seqI_len hx
def Itcm (its : List V) (r : Nat) : It :=
  ⟨fun i H => (seqI its.length r i).isSome = true,
    fun i H v H' => ∃ T a, v = .ref T ∧ H T = none ∧ H' = upd H T (.tup (a.map fun j => its.getD j .non)) ∧ seqI its.length r i = some a,
    fun i H => seqI its.length r i = none⟩
section
variable {prog : Program} {w : World} {A : Around} {E : Value → Shared → Prop} {s : Shared}
theorem iter_cmb {it pool : Addr} {st : Int} {last : Value} {idx : List Nat} {Q : Value → Shared → Prop} (hit : IsCmb s.heap it pool st last idx) (h : Q (.ref it) s) : wpAny (model prog w) A (pyIter (.ref it)) Q E s := by
  have hT : s.TypeIs (.ref it) "itertools.combinations" := ⟨_, hit, rfl⟩
  refine wpAny_pyIter_slot hT slot_cmb_iter (wpAny_call_entry slot_cmb_iter hT entry_cmb_iter ?_ (args_cmb_iter _))
  show wpAny _ _ (ret (.ref it)) _ _ s
  exact wpAny_pure ⟨_, rfl, "itertools.combinations", _, hT, slot_cmb_next.lookup, h⟩
theorem pyNext_cmb {it pool : Addr} {st : Int} {last : Value} {idx : List Nat} {Q : Option Value → Shared → Prop} (hit : IsCmb s.heap it pool st last idx)
    (h : wpAny (model prog w) A.in1 (Builtin.«itertools.combinations.__next__» ⟨[.ref it], []⟩) (fun fin s' => ∃ v, fin = .done (.ret v) ∧ Q (some v) s') (fun e s' => ∃ a o, e = .ref a ∧ s'.heap.get? a = some o ∧ o.cls = .type "StopIteration" ∧ Q none s') s) : wpAny (model prog w) A (pyNext (.ref it)) Q E s := by
  have hT : s.TypeIs (.ref it) "itertools.combinations" := ⟨_, hit, rfl⟩
  unfold pyNext
  refine wpAny_bind (wpAny_attempt (wpAny_callSpecial?_slot (name := Str.ofString "__next__") hT slot_cmb_next (wpAny_call_entry slot_cmb_next hT entry_cmb_next ?_ (args_cmb_next _))))
  refine wpAny_mono h (fun fin s' ⟨v, e, q⟩ => ⟨v, e, wpAny_pure q⟩) (fun e s' ⟨a, o, e1, ho, hc, q⟩ => ?_)
  subst e1
  exact wpAny_bind (wpAny_isInstance (T := "StopIteration") (b := true) ⟨o, ho, hc⟩ isSubtype_stop (wpAny_pure q))
end
/-- what stands at turn i -/
def Tn (its : List V) (r : Nat) (pool it : Addr) (i : Nat) (h : Heap) : Prop := ∃ us, Vals its us ∧ h.IsTuple pool us.toArray ∧
  ((i = 0 ∧ IsCmb h it pool (if r > its.length then 2 else 0) .none (List.range r)) ∨ ∃ j idx last, i = j + 1 ∧ seqI its.length r j = some idx ∧ IsCmb h it pool 1 last idx)
theorem pk_vals {its : List V} {us : List Value} (h : Vals its us) (idx : List Nat) : Vals (idx.map fun j => its.getD j .non) (pk us.toArray idx) := by
  induction idx with
  | nil => exact .nil
  | cons j idx ih =>
    refine .cons ?_ ih
    show RelV (its.getD j .non) (us.toArray.getD j .none)
    rw [List.getD_eq_getElem?_getD, Array.getD_eq_getD_getElem?, List.getElem?_toArray]
    cases hx : its[j]? with
    | none =>
      have hu : us[j]? = none := by
        rw [List.getElem?_eq_none_iff] at hx ⊢
        rw [← h.length]
        exact hx
      rw [hu]
      exact rfl
    | some x =>
      obtain ⟨u, hu, ru⟩ := h.get hx
      rw [hu]
      exact ru
theorem turn_cmb {P : Program} {w : World} {K : PySem.W.Frag} {tg : Expr} {its : List V} {r : Nat} {pool it : Addr} (hr : r ≤ 10) (hne : pool ≠ it) : Turn P w K tg (Itcm its r) [it, pool] it (Tn its r pool it) where
  mem := by simp
  obj := fun i h st c hc => by
    obtain ⟨us, rv, ⟨o, ho, _, n, hd⟩, q⟩ := st
    have hi : ∃ st last idx, IsCmb h it pool st last idx := by
      rcases q with ⟨_, q⟩ | ⟨_, _, _, _, _, q⟩
      · exact ⟨_, _, _, q⟩
      · exact ⟨_, _, _, q⟩
    obtain ⟨st, last, idx, hi⟩ := hi
    have e' : c = it ∨ c = pool := by simpa using hc
    rcases e' with q | q
    · rw [q]; exact ⟨_, hi, fun v q => nomatch q⟩
    · rw [q]; exact ⟨o, ho, fun v q => by rw [hd] at q; cases q⟩
  keep := fun i h h' st k => by
    obtain ⟨us, rv, ⟨o, ho, hc, n, hd⟩, q⟩ := st
    refine ⟨us, rv, ⟨o, k pool (by simp) _ ho, hc, n, hd⟩, ?_⟩
    rcases q with ⟨e, q⟩ | ⟨j, idx, last, e1, e2, q⟩
    · exact .inl ⟨e, k it (by simp) _ q⟩
    · exact .inr ⟨j, idx, last, e1, e2, k it (by simp) _ q⟩
  item := by
    intro X hP hw hK hc i pins s σ H E I hf st hg
    subst hP hw hK
    obtain ⟨us, rv, hp, q⟩ := st
    have hlen := rv.length
    have hsz : us.toArray.size = its.length := by rw [List.size_toArray]; exact hlen.symm
    -- what every step ends with
    have fin : ∀ (a : List Nat) (h' : Heap) (t : Addr), seqI its.length r i = some a → IsCmb h' it pool 1 (.ref t) a → t = s.heap.objs.size → h'.get? t = some { cls := .type "tuple", data := .seq (pk us.toArray a).toArray } → (∀ b o, b ≠ it → s.heap.get? b = some o → h'.get? b = some o) →
        ∃ u, some (Value.ref t) = some u ∧ wpAny (model X.prog X.w) X.A (letOwnedTupleGo tg (.ref it) u) (fun _ s2 => ∃ x H', Inv X pins σ H' s2 ∧ RelV x u ∧ (Itcm its r).yld i H x H' ∧ Tn its r pool it (i + 1) s2.heap ∧ ∀ b ∈ [it, pool], H' b = none) E { s with heap := h' } := by
      intro a h' t hs hi ht hT hk
      refine ⟨_, rfl, go_of (o := cmbO pool 1 (.ref t) a) hi rfl rfl (by decide) ?_⟩
      have ha := seqI_len hs
      have new : ObjOk X.prog X.w (upd H t (.tup (a.map fun j => its.getD j .non))) h' t (.tup (a.map fun j => its.getD j .non)) :=
        ⟨by rw [List.length_map, sizeLine_eq]; omega, pk us.toArray a, pk_vals rv a, ⟨_, hT, rfl, _, rfl⟩⟩
      have I1 : Inv X pins σ (upd H t (.tup (a.map fun j => its.getD j .non))) { s with heap := h' } :=
        I.turnedNew (t' := s.toks) (ch := [it, pool]) (fun c o hb q => hk c o (fun q' => hb (by simp [q'])) q) hf (by rw [ht]; exact Nat.le_refl _) new
      have hit : it < s.heap.objs.size := by
        rcases q with ⟨_, q⟩ | ⟨_, _, _, _, _, q⟩ <;> exact Heap.lt_size q
      have hpl : pool < s.heap.objs.size := by
        obtain ⟨o, ho, _⟩ := hp
        exact Heap.lt_size ho
      refine ⟨.ref t, _, I1, rfl, ⟨t, a, rfl, by rw [ht]; exact I.hok.fresh (Nat.le_refl _), rfl, hs⟩, ⟨us, rv, ?_, .inr ⟨i, a, _, rfl, hs, hi⟩⟩, fun c hcm => ?_⟩
      · obtain ⟨o, ho, hc, n, hd⟩ := hp
        exact ⟨o, hk _ _ hne ho, hc, n, hd⟩
      · have e' : c = it ∨ c = pool := by simpa using hcm
        have hlt : c < s.heap.objs.size := by rcases e' with q | q <;> rw [q] <;> assumption
        rw [upd_ne (by rw [ht]; exact Nat.ne_of_lt hlt)]
        exact (hf c hcm).1
    rcases q with ⟨rfl, q⟩ | ⟨j, idx, last, rfl, e2, q⟩
    · have hle : ¬ r > its.length := fun z => by
        have : (seqI its.length r 0).isSome = true := hg
        unfold seqI at this
        rw [if_pos z] at this
        cases this
      rw [if_neg hle] at q
      have hs : seqI its.length r 0 = some (List.range r) := if_neg hle
      refine pyNext_cmb q (next_first q hp hne (by rw [List.length_range]; exact hr) fun h' t a1 a2 a3 a4 => ⟨_, rfl, ?_⟩)
      exact fin _ h' t hs a1 a2 a3 a4
    · have hs : (seqI its.length r (j + 1)).isSome = true := hg
      cases hx : seqI its.length r (j + 1) with
      | none => rw [hx] at hs; cases hs
      | some idx' =>
        have hn : nxt its.length idx = some idx' := by
          have := hx
          unfold seqI at this
          rw [e2] at this
          exact this
        refine pyNext_cmb q (next_more q hp hne (by rw [hsz]; exact hn) (by rw [seqI_len hx]; exact hr) fun h' t a1 a2 a3 a4 => ⟨_, rfl, ?_⟩)
        exact fin _ h' t hx a1 a2 a3 a4
  done := by
    intro X hP hw hK hc i pins s σ H E I hf st hg
    subst hP hw hK
    obtain ⟨us, rv, hp, q⟩ := st
    have hsz : us.toArray.size = its.length := by rw [List.size_toArray]; exact rv.length.symm
    have hg : seqI its.length r i = none := hg
    have hh : X.A.in1.handled = none := I.ok.hd hc
    rcases q with ⟨rfl, q⟩ | ⟨j, idx, last, rfl, e2, q⟩
    · have hle : r > its.length := by
        unfold seqI at hg
        by_cases z : r > its.length
        · exact z
        · rw [if_neg z] at hg; cases hg
      rw [if_pos hle] at q
      refine pyNext_cmb q (next_ended hh q fun h' e hk ⟨o, ho, hc⟩ => ⟨e, o, rfl, ho, hc, rfl, ?_⟩)
      exact I.turnedL (t' := s.toks) (ch := [it, pool]) (fun c o hb q => hk c o (fun q' => hb (by simp [q'])) q) hf
    · have hn : nxt its.length idx = none := by
        unfold seqI at hg
        rw [e2] at hg
        exact hg
      refine pyNext_cmb q (next_stop hh q hp hne (by rw [hsz]; exact hn) fun h' e hk ⟨o, ho, hc⟩ => ⟨e, o, rfl, ho, hc, rfl, ?_⟩)
      exact I.turnedL (t' := s.toks) (ch := [it, pool]) (fun c o hb q => hk c o (fun q' => hb (by simp [q'])) q) hf
  self := fun A i s Q E st h => by
    obtain ⟨us, rv, hp, q⟩ := st
    rcases q with ⟨_, q⟩ | ⟨_, _, _, _, _, q⟩ <;> exact iter_cmb q h
end ZCmb
namespace ZCmb
open PySem PySem.Spec PyProof.Rows L2
open Sem (wp)
section
variable {X : Cx} {tg e e2 : Expr} {te : TE} {ta : TA} {p pos p2 : Pos} {k : Nat}
theorem pie {pins : List (Addr × Obj)} {s1 : Shared} {σ : L2.St} {H1 : Hp} {R : It → Hp → Prop} {xs : List V} {r : Nat} (I1 : Inv X pins σ H1 s1) (hr : r ≤ 10) {us : List Value} {h2 h' : Heap} {tk : Nat} (rv : Vals xs us) (k1 : ∀ b o', s1.heap.get? b = some o' → h2.get? b = some o')
    (k2 : ∀ b o', h2.get? b = some o' → h'.get? b = some o') (a5 : h'.IsTuple h2.objs.size us.toArray) (a7 : IsCmb h' (h2.objs.size + 1) h2.objs.size (if r > us.length then 2 else 0) .none (List.range r)) (q : R (Itcm xs r) H1) :
    wpAny (model X.prog X.w) X.A (pyIter (.ref (h2.objs.size + 1))) (PIE X pins σ tg R) X.xe { s1 with heap := h', toks := tk } := by
  refine iter_cmb a7 ?_
  have I2 : Inv X pins σ H1 { s1 with heap := h2, toks := tk } := I1.kept (t' := tk) k1
  have I3 : Inv X pins σ H1 { s1 with heap := h', toks := tk } := I1.kept (t' := tk) fun b o e => k2 b o (k1 b o e)
  refine ⟨h2.objs.size + 1, [h2.objs.size + 1, h2.objs.size], _, _, H1, rfl, I3, turn_cmb hr (Nat.succ_ne_self _).symm, ⟨us, rv, a5, .inl ⟨rfl, by rw [rv.length]; exact a7⟩⟩, fun c hc => ?_, q⟩
  have hle : h2.objs.size ≤ c := by
    have e' : c = h2.objs.size + 1 ∨ c = h2.objs.size := by simpa using hc
    rcases e' with z | z <;> rw [z]
    · exact Nat.le_succ _
    · exact Nat.le_refl _
  have hf : FpOk X pins H1 c := I2.fpOk (s := { s1 with heap := h2, toks := tk }) hle (I2.hok.fresh hle)
  exact hf
def iCmb (K : PySem.W.Frag) (ta : TA) : TI := fun σ H R => ta σ H fun vs H1 => ∃ a xs, ∃ r : Nat, vs = [.ref a, .int (r : Int)] ∧ r ≤ 10 ∧ SqL K H1 a xs ∧ R (Itcm xs r) H1
theorem pi_cmb (hg : Gl X "combinations") (hm : X.mg "combinations" = some (.type "itertools.combinations")) (ha : PA X [e, e2] ta)
    (hs : starEach [e, e2] X.env = (false, eval e X.env) :: starEach [e2] X.env := by rfl) (hpl : (backTo pos (starEach [e2] X.env)).any (·.1) = false := by rfl) :
    PI X tg (.Call (.Name "combinations" p) [e, e2] [] pos) (iCmb X.K ta) := by
  refine ⟨fun pins s σ H R I h => ?_⟩
  refine Call_ (ld_glob I hg hm (PyProof.Rows.callWith_type1 (thn (ha.run pos pins s σ H _ I h) fun us s1 ⟨vs, H1, I1, r1, q1⟩ => ?_) hs hpl))
  obtain ⟨a, xs, r, rfl, hr, hq, q⟩ := q1
  cases r1 with
  | cons r1 rr =>
    cases rr with
    | cons r2 rr =>
      cases rr
      cases r1
      obtain ⟨t, rfl⟩ := r2
      obtain ⟨its, rv, p1, hz⟩ := I1.list hq
      obtain ⟨o, ho, hc, n, hd⟩ := p1.isList
      refine call_cmb hr (cols_list (.inl rfl) (by rw [List.size_toArray, ← rv.length]; exact hz) ho hc hd) fun h2 h' tk us k1 k2 a5 hP a7 => ?_
      subst hP
      exact pie I1 hr (by simpa using rv) k1 k2 a5 a7 q
/-- combinations(range(..), r) -/
def iCmbR (te : L2.St → Hp → (Int → Int → Hp → Prop) → Prop) (r : Nat) : TI := fun σ H R => te σ H fun a b H1 => RgOk a b ∧ R (Itcm (rgV a b) r) H1
theorem pi_cmbR {tr : L2.St → Hp → (Int → Int → Hp → Prop) → Prop} {r : Nat} (hc : X.calm = true) (hr : r ≤ 10) (hg : Gl X "combinations") (hm : X.mg "combinations" = some (.type "itertools.combinations")) (he : PRg X e tr)
    (na : starEach [e, .Constant (.int (r : Int)) k p2] X.env = (false, eval e X.env) :: starEach [.Constant (.int (r : Int)) k p2] X.env := by rfl) :
    PI X tg (.Call (.Name "combinations" p) [e, .Constant (.int (r : Int)) k p2] [] pos) (iCmbR tr r) := by
  refine ⟨fun pins s σ H R I h => ?_⟩
  refine Call_ (ld_glob I hg hm (PyProof.Rows.callWith_type1 (args_cons (thn (he pins s σ H _ I h) fun x s1 ⟨q, a, b, t, u, v, H1, ex, hrg, I1, ok, q1⟩ => args_cons (wpAny_Constant_int (args_nil ?_)) (by rfl)) na) na (by rfl)))
  subst ex
  have I2 := I1.tok (s1.toks + 1)
  refine call_cmb hr (cols_range (I1.ok.hd hc) hrg ok) fun h2 h' tk us k1 k2 a5 hP a7 => ?_
  exact pie (s1 := { s1 with toks := s1.toks + 1 }) I2 hr hP k1 k2 a5 a7 q1
end
end ZCmb
namespace Z
open PySem PySem.Spec PyProof.Rows L2
def rRemD (K : PySem.W.Frag) : V → List V → Hp → VK → Prop := fun x xs H Q => ∃ (l : Addr) (y : V) (d : PyData) (ds : List PyData) (ws : List V) (j : Nat) (z : PyData), x = V.ref l ∧ xs = [y] ∧ H l = some (.lst ws) ∧ DpAll K H ws ds ∧ Dp K H y d ∧
  SeqAt.shaped (.list ds) = true ∧ SeqAt.shaped d = true ∧ ds[j]? = some z ∧ PyData.eqv z d = true ∧ (∀ (m : Nat) (z' : PyData), m < j → ds[m]? = some z' → PyData.eqv z' d = false) ∧ Q .non (upd H l (.lst (ws.eraseIdx j)))
theorem mt_removeD {X : Cx} (hu : X.A.units + 65 < cLine) : MtR X "list.remove" (rRemD X.K) := by
  intro pins s σ H x xs v us Q I rx rxs h
  obtain ⟨l, y, d, ds, ws, j, z, rfl, rfl, hH, ha, hy, sl, sd, hz, hzj, hno, q⟩ := h
  cases rx
  obtain ⟨uy, rfl, ry⟩ := rxs.one
  obtain ⟨bs, r1⟩ := Dp.reads I d y uy hy ry
  have hxs : PyData.canLayAll0 ds = true := SeqAt.canLay_of_shaped sl
  have hroom : X.A.units + 1 + min (PyData.depthAll ds) d.depth < cLine := room_in_shaped sd hu
  obtain ⟨zz, its, n, r, hl, e⟩ := I.lstM hH
  obtain ⟨as, h4⟩ := Dp.readsAll I ds _ its ha r
  have hn : its.length = ds.length := SeqAt.ReadsAll.length ds its as h4
  have hmap : its.map (SeqAt.readOf s.heap) = ds := SeqAt.readsAll_map ds its as hxs h4
  obtain ⟨hjd, _⟩ := List.getElem?_eq_some_iff.mp hz
  have hjl : j < its.length := by omega
  have hj : j < its.toArray.size := by simpa using hjl
  have at_ : ∀ (m : Nat) (hm : m < its.toArray.size) (z' : PyData), ds[m]? = some z' → SeqAt.readOf s.heap its.toArray[m] = z' := by
    intro m hm z' hz'
    have hml : m < its.length := by simpa using hm
    rw [← hmap, List.getElem?_map, List.getElem?_eq_getElem hml] at hz'
    have e1 : SeqAt.readOf s.heap its[m] = z' := Option.some.inj (show some (SeqAt.readOf s.heap its[m]) = some z' from hz')
    simpa using e1
  refine call_meets PySem.F.slot_list_remove ⟨_, e, rfl⟩ PySem.F.entry_list_remove (PySem.F.args_list_remove_2 _ _)
    (SeqAt.list_removeAt l its.toArray n none #[] uy (fun u => PyData.eqv (SeqAt.readOf s.heap u) d) j hj ?_ ?_ (by rw [List.size_toArray]; omega)) ⟨e, SeqAt.items_eqAt (vs := its.toArray) (show ReadsAll s.heap its.toArray.toList ds as from h4) r1 hxs (SeqAt.canLay_of_shaped sd) hroom, ?_⟩
  · show PyData.eqv (SeqAt.readOf s.heap its.toArray[j]) d = true
    rw [at_ j hj z hz]
    exact hzj
  · intro m hm hmj
    obtain ⟨z', hz'⟩ : ∃ z', ds[m]? = some z' := ⟨_, List.getElem?_eq_getElem (by omega)⟩
    show PyData.eqv (SeqAt.readOf s.heap its.toArray[m]) d = false
    rw [at_ m hm z' hz']
    exact hno m z' hmj hz'
  · refine ⟨.non, _, I.lset (its' := its.eraseIdx j) (t' := s.toks) hH e ?_ (r.eraseIdx j) ?_, rfl, q⟩
    · show its.toArray.eraseIdxIfInBounds j = (its.eraseIdx j).toArray
      rw [List.eraseIdxIfInBounds_toArray]
    · have z2 := r.length
      have z3 := (r.eraseIdx j).length
      have z4 := len_erase its j
      omega
def rInTD (K : PySem.W.Frag) : R2 := fun x y H Q => ∃ d ds, Dp K H x d ∧ Dp K H y (.tuple ds) ∧ SeqAt.shaped d = true ∧ SeqAt.shaped (.tuple ds) = true ∧ Q (.bl (ds.any fun z => PyData.eqv z d)) H
def rNotInTD (K : PySem.W.Frag) : R2 := fun x y H Q => ∃ d ds, Dp K H x d ∧ Dp K H y (.tuple ds) ∧ SeqAt.shaped d = true ∧ SeqAt.shaped (.tuple ds) = true ∧ Q (.bl (!ds.any fun z => PyData.eqv z d)) H
theorem op_inTD {X : Cx} (hu : X.A.units + 65 < cLine) : OpR X (compareOp .In) (rInTD X.K) := by
  intro pins s σ H x y v u Q I rx ry h
  obtain ⟨d, ds, hd, he, sd, se, q⟩ := h
  obtain ⟨as, r1⟩ := Dp.reads I d x v hd rx
  obtain ⟨bs, r2⟩ := Dp.reads I (.tuple ds) y u he ry
  exact SeqAt.in_tuple_reads r2 r1 (SeqAt.canLay_of_shaped se) (SeqAt.canLay_of_shaped sd) (room_in_shaped sd hu) ⟨.bl _, H, I, rfl, q⟩
theorem op_notInTD {X : Cx} (hu : X.A.units + 65 < cLine) : OpR X (compareOp .NotIn) (rNotInTD X.K) := by
  intro pins s σ H x y v u Q I rx ry h
  obtain ⟨d, ds, hd, he, sd, se, q⟩ := h
  obtain ⟨as, r1⟩ := Dp.reads I d x v hd rx
  obtain ⟨bs, r2⟩ := Dp.reads I (.tuple ds) y u he ry
  exact SeqAt.notIn_tuple_reads r2 r1 (SeqAt.canLay_of_shaped se) (SeqAt.canLay_of_shaped sd) (room_in_shaped sd hu) ⟨.bl _, H, I, rfl, q⟩
end Z
set_option maxHeartbeats 1000000
namespace ZRev
open PySem PySem.Spec PyProof.Rows L2
open Sem (wp)
section
variable {prog : Program} {w : World} {A : Around} {E : Value → Shared → Prop} {s : Shared}
theorem extend_rev {R : Result → Shared → Prop} {it l : Addr} {items : Array Value} (hh : A.handled = none) (hit : s.heap.IsRevIter it l ((items.size : Int) - 1)) (hl : s.heap.IsList l items) (hne : l ≠ it) (hn : items.size ≤ sizeLine)
    (S : Addr) (res : Value) (c₀ : Nat) (hSi : S ≠ it) (hSl : S ≠ l) (hS : s.heap.get? S = some { cls := .type "list", data := .seq #[] c₀ })
    (hR : ∀ h' tk acc' c', (∀ b o, b ≠ S → b ≠ it → s.heap.get? b = some o → h'.get? b = some o) → h'.get? S = some { cls := .type "list", dict := none, data := .seq acc' c', slots := #[] } →
      ItemsOf (fun i v => items[items.size - 1 - i]? = some v) acc' items.size → R (.ok (.ret res)) { s with heap := h', toks := tk }) :
    wpAny (model prog w) A.in1 (Builtin.List.listExtendWith (.ref S) (.ref it) res)
      (fun fin s' => match fin with | .done f => R (.ok f) s' | .again c' => c'.quiet = true ∧ codeAny (model prog w) A c' R s') (fun e s' => R (.error e) s') s := by
  have W := (Walks.listRev (prog := prog) (w := w) (A := A.in1) hh it l hne items).toS
  have hSf : S ∉ [it, l] := by simp only [List.mem_cons, List.not_mem_nil, or_false, not_or]; exact ⟨hSi, hSl⟩
  have hT : s.TypeIs (.ref it) "list_reverseiterator" := Heap.IsRevIter.typeIs hit
  have h1 : Builtin.List.listSameRef (.ref S) (.ref it) = false := by simp [Builtin.List.listSameRef, hSi]
  unfold Builtin.List.listExtendWith
  refine wpAny_bind (wpAny_typeOf hT ?_)
  rw [if_neg (by rw [h1]; decide)]
  refine wpAny_bind (wpAny_pyIter_revIter hit ?_)
  refine wpAny_bind (wpAny_holding ?_)
  unfold Builtin.List.listLengthHint
  refine wpAny_bind (wpAny_specialOf hT RT.nolen_lri ?_)
  show wpAny _ A.in1 (specialOf (Value.ref it) (Str.ofString "__length_hint__") >>= _) _ _ _
  refine wpAny_bind (wpAny_specialOf hT RT.hint_lri ?_)
  generalize hid : ("list_reverseiterator.__length_hint__" : String) = id0
  wp_delta
  rw [show splitId id0 = some ("list_reverseiterator", "__length_hint__") from by subst hid; decide +kernel]
  subst hid
  refine wpAny_bind (wpAny_isInstance (b := true) hT (by rw [isSubtype_type]; kernel_rfl) ?_)
  refine wpAny_pure ?_
  rw [if_neg (by decide)]
  have e0 : ((items.size : Nat) : Int) - 1 - ((0 : Nat) : Int) = (items.size : Int) - 1 := by omega
  refine wpAny_pure ⟨plainId_quiet F.plain_extend_loop _, codeAny_extend_loopS W hn _ hSf _ items.size 0 _ _ _ rfl (Nat.zero_le _) ⟨Nat.zero_le _, by rw [e0]; exact hit, hl⟩ hS (ItemsOf.nil _) fun s' acc' c' hm hS' hacc => ?_⟩
  rw [Moved.eq_with hm]
  refine hR s'.heap s'.toks acc' c' (fun b o hb hb2 e => hm.heap b o (fun hmem => ?_) e) hS' hacc
  rcases List.mem_cons.mp hmem with e' | hmem
  · exact hb e'
  · exact hb2 (List.mem_singleton.mp hmem)
theorem list_init_rev {R : Result → Shared → Prop} {it l : Addr} {items : Array Value} (hh : A.handled = none) (hit : s.heap.IsRevIter it l ((items.size : Int) - 1)) (hl : s.heap.IsList l items) (hne : l ≠ it) (hn : items.size ≤ sizeLine)
    (S : Addr) (hSi : S ≠ it) (hSl : S ≠ l) (hS : s.heap.get? S = some { cls := .type "list", data := .seq #[] })
    (hR : ∀ h' tk acc' c', (∀ b o, b ≠ S → b ≠ it → s.heap.get? b = some o → h'.get? b = some o) → h'.get? S = some { cls := .type "list", dict := none, data := .seq acc' c', slots := #[] } →
      ItemsOf (fun i v => items[items.size - 1 - i]? = some v) acc' items.size → R (.ok (.ret .none)) { s with heap := h', toks := tk }) :
    wpAny (model prog w) A.in1 (Builtin.«list.__init__» ⟨[.ref S, .ref it], []⟩)
      (fun fin s' => match fin with | .done f => R (.ok f) s' | .again c' => c'.quiet = true ∧ codeAny (model prog w) A c' R s') (fun e s' => R (.error e) s') s := by
  show wpAny _ A.in1 (do let old ← Builtin.List.listItems (.ref S); Builtin.List.listUpdate (.ref S) (fun _ => #[]); letGo old.toList.reverse; Builtin.List.listExtendWith (.ref S) (.ref it) .none) _ _ s
  refine wpAny_bind ?_
  unfold Builtin.List.listItems
  refine wpAny_bind (wpAny_seqItems hS rfl (wpAny_pure ?_))
  show wpAny _ A.in1 (updateSeq S (fun _ => #[]) >>= fun _ => letGo (#[] : Array Value).toList.reverse >>= fun _ => Builtin.List.listExtendWith (.ref S) (.ref it) .none) _ _ s
  refine wpAny_bind (wpAny_updateSeq hS rfl ?_)
  have hS₂ := Heap.get?_update_self (Obj.mapSeq (fun _ => (#[] : Array Value))) hS rfl
  have oth : ∀ b o, b ≠ S → s.heap.get? b = some o → (s.heap.update S (Obj.mapSeq (fun _ => (#[] : Array Value)))).get? b = some o :=
    fun b o hb e => (Heap.get?_update_other _ _ (Ne.symm hb)).trans e
  refine wpAny_bind (wpAny_letGo ?_)
  have hit1 : (s.heap.update S (Obj.mapSeq (fun _ => (#[] : Array Value)))).IsRevIter it l ((items.size : Int) - 1) := hit.at fun o e => oth _ _ (Ne.symm hSi) e
  have hl1 : (s.heap.update S (Obj.mapSeq (fun _ => (#[] : Array Value)))).IsList l items := by
    obtain ⟨o, h1, h2⟩ := hl
    exact ⟨o, oth _ _ (Ne.symm hSl) h1, h2⟩
  refine extend_rev (s := { s with heap := s.heap.update S (Obj.mapSeq (fun _ => (#[] : Array Value))) }) hh hit1 hl1 hne hn S .none _ hSi hSl hS₂ fun h' tk acc' c' hk hS' hacc => ?_
  exact hR h' tk acc' c' (fun b o hb hb2 e => hk b o hb hb2 (oth b o hb e)) hS' hacc
theorem call_list_rev {Q : Value → Shared → Prop} {it l : Addr} {items : Array Value} (hh : A.handled = none) (hit : s.heap.IsRevIter it l ((items.size : Int) - 1)) (hl : s.heap.IsList l items) (hne : l ≠ it) (hn : items.size ≤ sizeLine)
    (hQ : ∀ h' tk acc' c', (∀ b o, b ≠ it → s.heap.get? b = some o → h'.get? b = some o) →
      h'.get? s.heap.objs.size = some { cls := .type "list", dict := none, data := .seq acc' c', slots := #[] } → ItemsOf (fun i v => items[items.size - 1 - i]? = some v) acc' items.size → Q (.ref s.heap.objs.size) { s with heap := h', toks := tk }) :
    wpAny (model prog w) A (call (.type "list") [.ref it]) Q E s := by
  obtain ⟨oi, hoi, _⟩ := id hit
  obtain ⟨ol, hol, _⟩ := id hl
  have hSi : s.heap.objs.size ≠ it := Nat.ne_of_gt (Heap.lt_size hoi)
  have hSl : s.heap.objs.size ≠ l := Nat.ne_of_gt (Heap.lt_size hol)
  refine callType_codes (Q₁ := fun obj s₁ => obj = .ref s.heap.objs.size ∧ s₁ = { s with heap := s.heap.push { cls := .type "list", data := .seq #[] } }) F.called_list (F.typeCall_list_1 _) F.entry_list_init
    (code_list_new _ ⟨rfl, rfl⟩) fun obj s₁ h₁ => ?_
  obtain ⟨rfl, rfl⟩ := h₁
  have hS : (s.heap.push { cls := .type "list", data := .seq #[] }).get? s.heap.objs.size = some { cls := .type "list", data := .seq #[] } := Heap.get?_push_size _ rfl
  have hit1 : (s.heap.push { cls := .type "list", data := .seq #[] }).IsRevIter it l ((items.size : Int) - 1) := hit.at fun o e => Heap.get?_push_of_some _ e
  refine ⟨⟨_, hS, rfl⟩, F.args_list_init_2 _ _, list_init_rev (A := A.in1) (s := { s with heap := s.heap.push { cls := .type "list", data := .seq #[] } }) hh hit1 (hl.push _) hne hn _ hSi hSl hS fun h' tk acc' c' hk hS' hacc => ?_⟩
  exact ⟨rfl, hQ h' tk acc' c' (fun b o hb e => hk b o (Nat.ne_of_lt (Heap.lt_size e)) hb (Heap.get?_push_of_some _ e)) hS' hacc⟩
end
/-- list(reversed(x)), x a list: a new list -/
def tLstRev (K : PySem.W.Frag) (te : TE) : TE := fun σ H Q => te σ H fun v H1 => ∃ (a : Addr) (xs : List V), v = .ref a ∧ SqL K H1 a xs ∧ ∀ q, H1 q = none → Q (.ref q) (upd H1 q (.lst xs.reverse))
section
variable {X : Cx}
theorem pe_lstRev {e : Expr} {te : TE} {p p2 pos pos2 : Pos} (hc : X.calm = true) (hg : Gl X "list") (hm : X.mg "list" = none) (hg2 : Gl X "reversed") (hm2 : X.mg "reversed" = none) (he : PE X e te)
    (hs : starEach [e] X.env = (false, eval e X.env) :: starEach [] X.env)
    (hs2 : starEach [.Call (.Name "reversed" p2) [e] [] pos2] X.env = (false, eval (.Call (.Name "reversed" p2) [e] [] pos2) X.env) :: starEach [] X.env := by rfl) :
    PE X (.Call (.Name "list" p) [.Call (.Name "reversed" p2) [e] [] pos2] [] pos) (tLstRev X.K te) := by
  refine ⟨fun pins s σ H Q I h => ?_⟩
  refine Call_ (ld_blt I hg hm (show bootBuiltins "list" = some (.type "list") from by decide +kernel) (PyProof.Rows.callWith_type1 (args_cons (Call_ (ld_blt I hg2 hm2 PyProof.Rows.boot_reversed (PyProof.Rows.callWith_type1 (args_cons (thn (he.run pins s σ H _ I h) fun u s1 ⟨v, H1, I1, r1, q1⟩ => args_nil ?_) hs) hs rfl))) hs2) hs2 rfl))
  obtain ⟨a, xs, ev, hq, q⟩ := q1
  subst ev
  obtain rfl : u = Value.ref a := r1
  obtain ⟨its, rv, p', hz⟩ := I1.list hq
  refine call_reversed_list p'.isList (args_nil ?_)
  have k0 : ∀ b o, s1.heap.get? b = some o → (s1.heap.push (revObj a ((its.toArray.size : Int) - 1))).get? b = some o := fun b o e => Heap.get?_push_of_some _ e
  have I2 : Inv X pins σ H1 { s1 with heap := s1.heap.push (revObj a ((its.toArray.size : Int) - 1)) } := I1.kept (t' := s1.toks) k0
  obtain ⟨f0, f1, f2, f3, f4, f5⟩ := I1.fpOk (H' := H1) (b := s1.heap.objs.size) (Nat.le_refl _) (I1.hok.fresh (Nat.le_refl _))
  have hl := p'.isList
  obtain ⟨ol, hol, _⟩ := id hl
  have hne : a ≠ s1.heap.objs.size := Nat.ne_of_lt (Heap.lt_size hol)
  have hn : its.toArray.size ≤ sizeLine := by rw [List.size_toArray, ← rv.length]; exact hz
  refine call_list_rev (s := { s1 with heap := s1.heap.push (revObj a ((its.toArray.size : Int) - 1)) }) (I1.ok.hd hc) ⟨_, Heap.get?_push_size _ rfl, rfl, rfl⟩ (hl.push _) hne hn fun h' tk acc c' hk hS' hi => ?_
  have hsz : (s1.heap.push (revObj a ((its.toArray.size : Int) - 1))).objs.size = s1.heap.objs.size + 1 := Heap.size_push ..
  have hS2 : h'.get? (s1.heap.objs.size + 1) = some { cls := .type "list", dict := none, data := .seq acc c', slots := #[] } := by rw [← hsz]; exact hS'
  have g1 : Value.ref (s1.heap.push (revObj a ((its.toArray.size : Int) - 1))).objs.size = .ref (s1.heap.objs.size + 1) := by rw [hsz]
  show EP X pins σ Q (Value.ref (s1.heap.push (revObj a ((its.toArray.size : Int) - 1))).objs.size) _
  rw [g1]
  refine ⟨.ref (s1.heap.objs.size + 1), upd H1 (s1.heap.objs.size + 1) (.lst xs.reverse), I1.laid (t' := tk) (fun b o e => hk b o (Nat.ne_of_lt (Heap.lt_size e)) (Heap.get?_push_of_some _ e)) (Nat.le_succ _) (show ObjOk X.prog X.w _ h' _ (.lst xs.reverse) from ⟨by rw [List.length_reverse]; exact hz, acc.toList, c', RT.vals_rev rv hi, ?_⟩), rfl, q _ (I1.hok.fresh (Nat.le_succ _))⟩
  rw [Array.toArray_toList]
  exact hS2
end
end ZRev
namespace Z
open PySem PySem.Spec PyProof.Rows L2
inductive D where
  | non | bl (b : Bool) | int (i : Int) | str (s : Str) | tup (ds : List D) | lst (ds : List D) | rol (ds : List D) | fn (x : Str)
  deriving Inhabited
inductive Mo where
  | frz | own | lck
  deriving DecidableEq, Inhabited
abbrev Sl := Option (D × Mo)
abbrev En := List Sl
structure Ex where
  cls : Nat
  args : List D
  deriving Inhabited
inductive Out (α : Type) where
  | ok (a : α) (e : En)
  | ex (x : Ex) (e : En)
  | bad
abbrev Zm (α : Type) := En → Out α
def Out.bind {α β : Type} : Out α → (α → Zm β) → Out β
  | .ok a e, g => g a e
  | .ex x e, _ => .ex x e
  | .bad, _ => .bad
@[simp] theorem Out.bind_ok {α β : Type} (a : α) (e : En) (g : α → Zm β) : Out.bind (.ok a e) g = g a e := rfl
@[simp] theorem Out.bind_ex {α β : Type} (x : Ex) (e : En) (g : α → Zm β) : Out.bind (.ex x e) g = .ex x e := rfl
@[simp] theorem Out.bind_bad {α β : Type} (g : α → Zm β) : Out.bind (.bad) g = .bad := rfl
/-- an Option as an outcome -/
def lift {α : Type} (o : Option α) : Zm α := fun e => match o with | some a => .ok a e | none => .bad
@[simp] theorem lift_some {α : Type} (a : α) (e : En) : lift (some a) e = .ok a e := rfl
@[simp] theorem lift_none {α : Type} (e : En) : lift (none : Option α) e = .bad := rfl
mutual
def toP : D → PyData
  | .non => .none
  | .bl b => .bool b
  | .int i => .int i
  | .str s => .str s
  | .tup ds => .tuple (toPs ds)
  | .lst ds => .list (toPs ds)
  | .rol _ => .dict []
  | .fn _ => .dict []
def toPs : List D → List PyData
  | [] => []
  | d :: ds => toP d :: toPs ds
end
def D.eqv (a b : D) : Bool := PyData.eqv (toP a) (toP b)
def D.ok (a : D) : Bool := SeqAt.shaped (toP a)
inductive Ty5 where
  | tuple | int | bool | list | str
  deriving DecidableEq, Inhabited
def Ty5.nm : Ty5 → String
  | .tuple => "tuple" | .int => "int" | .bool => "bool" | .list => "list" | .str => "str"
def isiD : D → Ty5 → Option Bool
  | .bl _, .bool => some true | .bl _, .int => some true | .int _, .int => some true | .str _, .str => some true | .tup _, .tuple => some true | .lst _, .list => some true
  | .rol _, _ => none
  | .fn _, _ => none
  | _, _ => some false
inductive Pr where
  | add | sub | mul | fdiv | mod | pow | neg | eq | ne | lt | le | gt | ge | isn | notn | inn | notin | ix | sl (lo hi : Bool)
  | int | abs | len | isi (T : Ty5) | list | gcd | isb | nisb | repr | lrev
  deriving DecidableEq, Inhabited
def pAdd : D → D → Option (D × Bool)
  | .int i, .int j => some (.int (i + j), false)
  | .lst a, .lst b => if a.length + b.length ≤ sizeLine then some (.lst (a ++ b), true) else none
  | .tup a, .tup b => if a.length + b.length ≤ sizeLine then some (.tup (a ++ b), false) else none
  | .str a, .str b => if a.length + b.length ≤ sizeLine then some (.str (a ++ b), false) else none
  | _, _ => none
def pSub : D → D → Option (D × Bool)
  | .int i, .int j => some (.int (i - j), false)
  | _, _ => none
/-- * of two factors, one of them short, or both together of less than a million bits -/
def CMulZ (i j : Int) : Prop := i.natAbs < 2 ^ 64 ∨ j.natAbs < 2 ^ 64 ∨ i.natAbs.log2 + j.natAbs.log2 < 1000000
instance (i j : Int) : Decidable (CMulZ i j) := inferInstanceAs (Decidable (_ ∨ _))
theorem CMulZ.ok {i j : Int} (h : CMulZ i j) : IntMulOk i j := by
  rcases h with h | h | h
  · exact IntMulOk.of_left (intBits_le_64 (by omega) (by omega))
  · exact IntMulOk.of_right (intBits_le_64 (by omega) (by omega))
  · exact CMulW.ok h
theorem op_mulZ {X : Cx} : OpR X (binaryOp .Mult) (rI CMulZ fun i j => .int (i * j)) := opI fun _ _ _ _ _ _ _ hc q => mul_int q hc.ok
def pMul : D → D → Option (D × Bool)
  | .int i, .int j => if CMulZ i j then some (.int (i * j), false) else none
  | .lst a, .int k => if -(2 ^ 63) ≤ k ∧ k < 2 ^ 63 ∧ a.length * k.toNat ≤ sizeLine then some (.lst (List.replicate k.toNat a).flatten, true) else none
  | _, _ => none
def pFdiv : D → D → Option (D × Bool)
  | .int i, .int j => if 0 < j ∧ j.natAbs.log2 < 9000 then some (.int (i / j), false) else if j < 0 ∧ j.natAbs.log2 < 9000 then some (.int (Int.fdiv i j), false) else none
  | _, _ => none
/-- // by what is not 0 -/
theorem op_fdivZ {X : Cx} : OpR X (binaryOp .FloorDiv) (rI (fun _ j => j ≠ 0 ∧ j.natAbs.log2 < 9000) fun i j => .int (Int.fdiv i j)) := opI fun i j _ _ _ _ _ hc q => floordiv_int hc.1 q (.inl (PyProof.noPylong_of_log2 hc.2))
def pMod : D → D → Option (D × Bool)
  | .int i, .int j => if 0 < j then some (.int (i % j), false) else none
  | _, _ => none
def pPow : D → D → Option (D × Bool)
  | .int i, .int j => if 0 ≤ j ∧ j ≤ 1000000 ∧ i.natAbs < 2 ^ 64 then some (.int (i ^ j.toNat), false) else none
  | _, _ => none
def pCmp (f : Int → Int → Bool) : D → D → Option (D × Bool)
  | .int i, .int j => some (.bl (f i j), false)
  | _, _ => none
def isNonD : D → Bool
  | .non => true
  | _ => false
def pIn (neg : Bool) (a : D) : D → Option (D × Bool)
  | .lst b => if a.ok && (D.lst b).ok then some (.bl (if neg then !b.any fun z => z.eqv a else b.any fun z => z.eqv a), false) else none
  | .tup b => if a.ok && (D.tup b).ok then some (.bl (if neg then !b.any fun z => z.eqv a else b.any fun z => z.eqv a), false) else none
  | _ => none
def pIx : D → D → Option (D × Bool)
  | .lst a, .int i => (atI a i).map (·, false)
  | .tup a, .int i => (atI a i).map (·, false)
  | .rol a, .int i => (atI a i).map (·, false)
  | _, _ => none
def cutD (a : List D) (lo hi : Option Int) : List D := (a.drop (HT.sIx a.length 0 lo)).take (HT.sIx a.length a.length hi - HT.sIx a.length 0 lo)
def pSl (lo hi : Option Int) : D → Option (D × Bool)
  | .lst a => some (.lst (cutD a lo hi), true)
  | .tup a => some (.tup (cutD a lo hi), false)
  | _ => none
def pInt : D → Option (D × Bool)
  | .int i => some (.int i, false)
  | .bl k => some (.int (if k then 1 else 0), false)
  | _ => none
def pAbs : D → Option (D × Bool)
  | .int i => some (.int (if i < 0 then -i else i), false)
  | _ => none
def pNeg : D → Option (D × Bool)
  | .int i => some (.int (-i), false)
  | _ => none
def pLen : D → Option (D × Bool)
  | .lst a => some (.int a.length, false)
  | .tup a => some (.int a.length, false)
  | .rol a => some (.int a.length, false)
  | _ => none
def pList : D → Option (D × Bool)
  | .lst a => some (.lst a, true)
  | .tup a => some (.lst a, true)
  | _ => none
/-- list(reversed(x)) -/
def pLrev : D → Option (D × Bool)
  | .lst a => some (.lst a.reverse, true)
  | _ => none
def pGcd : D → D → Option (D × Bool)
  | .int i, .int j => some (.int ((Nat.gcd i.natAbs j.natAbs : Nat) : Int), false)
  | _, _ => none
def pIsb : D → D → Option (D × Bool)
  | .bl i, .bl j => some (.bl (decide (i = j)), false)
  | _, _ => none
def pNisb : D → D → Option (D × Bool)
  | .bl i, .bl j => some (.bl (!decide (i = j)), false)
  | _, _ => none
/-- texts of any signs -/
def pEqS : D → D → Option (D × Bool)
  | .str x, .str y => some (.bl (decide (x = y)), false)
  | _, _ => none
def pNeS : D → D → Option (D × Bool)
  | .str x, .str y => some (.bl (!decide (x = y)), false)
  | _, _ => none
/-- data whose text can be made -/
def D.shw (d : D) : Bool := d.ok && (toP d).showable && decide ((toP d).depth ≤ 60) && decide ((toP d).shown.length ≤ 1000000)
def pRepr (d : D) : Option (D × Bool) := if d.shw then some (.str (toP d).shown, false) else none
/-- an operation on data: the value, whether it is a new list -/
def prB : Pr → List D → Option (D × Bool)
  | .add, [a, b] => pAdd a b
  | .sub, [a, b] => pSub a b
  | .mul, [a, b] => pMul a b
  | .fdiv, [a, b] => pFdiv a b
  | .mod, [a, b] => pMod a b
  | .pow, [a, b] => pPow a b
  | .neg, [a] => pNeg a
  | .eq, [a, b] => if a.ok && b.ok then some (.bl (a.eqv b), false) else pEqS a b
  | .ne, [a, b] => if a.ok && b.ok then some (.bl (!a.eqv b), false) else pNeS a b
  | .lt, [a, b] => pCmp (fun i j => decide (i < j)) a b
  | .le, [a, b] => pCmp (fun i j => decide (i ≤ j)) a b
  | .gt, [a, b] => pCmp (fun i j => decide (j < i)) a b
  | .ge, [a, b] => pCmp (fun i j => decide (j ≤ i)) a b
  | .isn, [d] => some (.bl (isNonD d), false)
  | .notn, [d] => some (.bl (!isNonD d), false)
  | .inn, [a, b] => pIn false a b
  | .notin, [a, b] => pIn true a b
  | .ix, [a, b] => pIx a b
  | .sl true true, [a, .int i, .int j] => pSl (some i) (some j) a
  | .sl true false, [a, .int i] => pSl (some i) none a
  | .sl false true, [a, .int j] => pSl none (some j) a
  | .sl false false, [a] => pSl none none a
  | .int, [a] => pInt a
  | .abs, [a] => pAbs a
  | .len, [a] => pLen a
  | .isi T, [d] => (isiD d T).map fun b => (.bl b, false)
  | .list, [a] => pList a
  | .lrev, [a] => pLrev a
  | .gcd, [a, b] => pGcd a b
  | .isb, [a, b] => pIsb a b
  | .repr, [a] => pRepr a
  | .nisb, [a, b] => pNisb a b
  | _, _ => none
inductive IG where
  | nm (i : Nat) | tp (l : List Nat)
  deriving DecidableEq, Inhabited
def tgIn (own : List Nat) : IG → Bool
  | .nm i => own.contains i
  | .tp l => l.all own.contains
/-- a pattern's item; a pattern -/
inductive IP0 where
  | wild | cap (i : Nat) | lit (s : Str)
  deriving Inhabited
inductive IP where
  | wild | seq (ps : List IP0) | lit (s : Str)
  deriving Inhabited
mutual
inductive IE where
  | var (i : Nat) | cst (d : D) | op (p : Pr) (args : List IA) | and (a b : IE) | or (a b : IE) | not (a : IE)
  | ife (c : IT) (a b : IE) | call (f : Nat) (args : List IA) | tup (es : List IE) | lst (es : List IE)
  | chain (p q : Pr) (a b c : IE)
  | comp (own : List Nat) (tg : IG) (src : II) (cond : List IT) (elt : IE)
  | callv (i : Nat) (tb : List (Str × Nat)) (args : List IA)
inductive IA where
  | at (i : Nat) | val (e : IE)
inductive IT where
  | val (a : IA) | and (a b : IT) | or (a b : IT) | not (a : IT)
inductive II where
  | over (a : IA) | range (a b : IE) | enum (a : IA) | cmb (a : IA) (r : Nat) | cmbR (e : IE) (r : Nat) | rev (a : IA) | zipt (a b : IA)
end
inductive IS where
  | set (i : Nat) (e : IE)
  | unp (l : List Nat) (e : IE)
  | par (l : List Nat) (es : List IE)
  | setix (i : Nat) (k v : IE)
  | app (i : Nat) (e : IE)
  | ext (i : Nat) (e : IE)
  | rev (i : Nat)
  | ins (i : Nat) (k v : IE)
  | rem (i : Nat) (e : IE)
  | parix (i : Nat) (k l e : IE)
  | unpl (l : List Nat) (e : IE)
  | no
  | ife (c : IT) (a b : List IS)
  | forr (tg : IG) (src : II) (body : List IS)
  | whil (c : IT) (body : List IS)
  | mt (i : Nat) (p : IP) (hit miss : List IS)
  | ret (e : IE)
  | retv (i : Nat)
  | retn
  | brk | cont | pass
  | rz (c : Nat)
  | tr (i : Nat) (body : List IS) (hs : List (Option D))
def m0 : IP0 → D → Option (Option (List Nat × List D))
  | .wild, _ => some (some ([], []))
  | .cap i, d => some (some ([i], [d]))
  | .lit s, .str t => some (if t = s then some ([], []) else none)
  | .lit _, _ => none
def mEach : List IP0 → List D → Option (Option (List Nat × List D))
  | [], [] => some (some ([], []))
  | p :: ps, d :: ds => match m0 p d with
    | some (some a) => match mEach ps ds with
      | some (some b) => some (some (a.1 ++ b.1, a.2 ++ b.2))
      | some none => some none
      | none => none
    | some none => some none
    | none => none
  | _, _ => none
def mP : IP → D → Option (Option (List Nat × List D))
  | .wild, _ => some (some ([], []))
  | .lit s, d => m0 (.lit s) d
  | .seq ps, .tup ds => if ds.length = ps.length then mEach ps ds else some none
  | .seq _, _ => none
inductive PV where
  | val (d : D) | at (i : Nat)
def fill1 (env : En) : PV → Option D
  | .val d => some d
  | .at i => match env[i]? with | some (some (d, _)) => some d | _ => none
def fill (env : En) : List PV → Option (List D)
  | [] => some []
  | p :: ps => match fill1 env p, fill env ps with | some d, some ds => some (d :: ds) | _, _ => none
def argv1 (env : En) : PV → Option (D × Mo)
  | .val d => some (d, .frz)
  | .at i => match env[i]? with | some (some (d, m)) => some (d, m) | _ => none
def argv (env : En) : List PV → Option (List (D × Mo))
  | [] => some []
  | p :: ps => match argv1 env p, argv env ps with | some d, some ds => some (d :: ds) | _, _ => none
/-- the owned names among the arguments -/
def ownIx (env : En) : List PV → List Nat
  | [] => []
  | .at i :: ps => match env[i]? with | some (some (_, .own)) => i :: ownIx env ps | _ => ownIx env ps
  | .val _ :: ps => ownIx env ps
/-- the owned names behind a call -/
def wb (env0 : En) : List PV → List (D × Mo) → En → En
  | .at i :: ps, o :: os, env => match env0[i]? with | some (some (_, .own)) => wb env0 ps os (env.set i (some o)) | _ => wb env0 ps os env
  | .val _ :: ps, _ :: os, env => wb env0 ps os env
  | _, _, env => env
inductive CR where
  | ok (d : D) (fr : Bool) (outs : List (D × Mo))
  | ex (x : Ex) (outs : List (D × Mo))
  | bad
abbrev Cl := Nat → List (D × Mo) → CR
def doCall (C : Cl) (f : Nat) (ps : List PV) : Zm (D × Bool) := fun env =>
  if (ownIx env ps).Nodup then
    match argv env ps with
    | some as => match C f as with
      | .ok d fr outs => .ok (d, fr) (wb env ps outs env)
      | .ex x outs => .ex x (wb env ps outs env)
      | .bad => .bad
    | none => .bad
  else .bad
def truthy : D → Option Bool
  | .non => some false
  | .bl b => some b
  | .int i => some (decide (i ≠ 0))
  | .str s => none
  | .tup ds => some (!ds.isEmpty)
  | .lst ds => some (!ds.isEmpty)
  | .rol _ => none
  | .fn _ => none
def getV (i : Nat) : Zm (D × Bool) := fun env => match env[i]? with
  | some (some (d, .frz)) => .ok (d, false) env
  | some (some (d, .own)) => .ok (d, false) (env.set i (some (d, .frz)))
  | _ => .bad
def peek (i : Nat) : Zm PV := fun env => match env[i]? with
  | some (some _) => .ok (.at i) env
  | _ => .bad
/-- a store; pin: the names that must stay -/
def setS (pin : Nat → Bool) (i : Nat) (d : D) (fr : Bool) : Zm Unit := fun env => match env[i]? with
  | some (some (_, .lck)) => .bad
  | some _ => if pin i then .bad else .ok () (env.set i (some (d, if fr then .own else .frz)))
  | none => .bad
def setAll (pin : Nat → Bool) : List Nat → List D → Zm Unit
  | [], [], env => .ok () env
  | i :: is, d :: ds, env => (setS pin i d false env).bind fun _ => setAll pin is ds
  | _, _, _ => .bad
def setG (pin : Nat → Bool) : IG → D → Zm Unit
  | .nm i, d => setS pin i d false
  | .tp l, .tup ds => setAll pin l ds
  | .tp _, _ => fun _ => .bad
/-- what a loop walks, and the name that is locked -/
def seqOf : D → Option (List D)
  | .lst ds => some ds
  | .tup ds => some ds
  | .rol ds => some ds
  | _ => none
def seqL : D → Option (List D)
  | .lst ds => some ds
  | .rol ds => some ds
  | _ => none
def lockOf (env : En) : PV → Option Nat
  | .at i => match env[i]? with | some (some (_, .own)) => some i | _ => none
  | .val _ => none
def lock (o : Option Nat) (env : En) : En := match o with
  | some i => match env[i]? with | some (some (d, _)) => env.set i (some (d, .lck)) | _ => env
  | none => env
def unlock (o : Option Nat) (env : En) : En := match o with
  | some i => match env[i]? with | some (some (d, _)) => env.set i (some (d, .own)) | _ => env
  | none => env
def Out.mapEn {α : Type} (f : En → En) : Out α → Out α
  | .ok a e => .ok a (f e)
  | .ex x e => .ex x (f e)
  | .bad => .bad
/-- what lets no exception out -/
def Out.noEx {α : Type} : Out α → Out α
  | .ex _ _ => .bad
  | o => o
/-- the parts of a slice let no exception out -/
def slx {α : Type} (p : Pr) (o : Out α) : Out α := match p with | .sl _ _ => o.noEx | _ => o
@[simp] theorem slx_ok {α : Type} {p : Pr} {a : α} {e : En} : slx p (.ok a e) = .ok a e := by cases p <;> rfl
@[simp] theorem slx_bad {α : Type} {p : Pr} : slx p (.bad : Out α) = .bad := by cases p <;> rfl
theorem slx_ex {α : Type} (p : Pr) (x : Ex) (e : En) : slx p (.ex x e : Out α) = .ex x e ∨ slx p (.ex x e : Out α) = .bad := by cases p <;> first | exact .inl rfl | exact .inr rfl
inductive Fl where
  | nx | bk | ct | rt (d : D) (fr : Bool)
/-- a for loop over the items -/
def loopFor (f : D → Zm Fl) : List D → Zm Fl
  | [], env => .ok .nx env
  | d :: ds, env => (f d env).bind fun fl => match fl with
    | .nx => loopFor f ds
    | .ct => loopFor f ds
    | .bk => fun e => .ok .nx e
    | .rt d fr => fun e => .ok (.rt d fr) e
def loopWhile (c : Zm Bool) (f : Zm Fl) : Nat → Zm Fl
  | 0, _ => .bad
  | n + 1, env => (c env).bind fun b => if b then fun e => (f e).bind fun fl => match fl with
      | .nx => loopWhile c f n
      | .ct => loopWhile c f n
      | .bk => fun e => .ok .nx e
      | .rt d fr => fun e => .ok (.rt d fr) e
    else fun e => .ok .nx e
/-- a comprehension's items: what a turn gives, if anything -/
def loopLc (f : D → Zm (Option D)) : List D → List D → Zm (List D)
  | [], acc, env => .ok acc env
  | d :: ds, acc, env => (f d env).bind fun o => match o with
    | some x => if acc.length < sizeLine then loopLc f ds (acc ++ [x]) else fun _ => .bad
    | none => loopLc f ds acc
def wipeE (env : En) : List Nat → En
  | [] => env
  | v :: vs => (wipeE env vs).set v none
/-- the block's own names have no owned lists -/
def plainAt (env : En) (l : List Nat) : Bool := l.all fun i => match env[i]? with | some none => true | some (some (_, .frz)) => true | _ => false
/-- all choices of r of n indexes -/
def combAux (n : Nat) : Nat → Option (List Nat) → Option (List (List Nat))
  | _, none => some []
  | 0, some _ => none
  | f + 1, some a => (combAux n f (ZCmb.nxt n a)).map (a :: ·)
def combs (n r : Nat) : Option (List (List Nat)) := combAux n 5000 (if r > n then none else some (List.range r))
def rangeD (a : Int) : Nat → List D
  | 0 => []
  | n + 1 => .int a :: rangeD (a + 1) n
def restore (env0 env : En) : List Nat → En
  | [] => env
  | v :: vs => (restore env0 env vs).set v ((env0[v]?).getD none)
def WF : Nat := 1000000000000000000000000
end Z
namespace Z
open PySem PySem.Spec PyProof.Rows L2
section
variable (C : Cl)
mutual
def evE : IE → Zm (D × Bool)
  | .var i, env => getV i env
  | .cst d, env => .ok (d, false) env
  | .op p as, env => (slx p (evAs as env)).bind fun l env => match fill env l with
    | some ds => lift (prB p ds) env
    | none => .bad
  | .and a b, env => (evE a env).bind fun x => match x with
    | (.bl true, _) => evE b
    | (.bl false, _) => fun env => .ok (.bl false, false) env
    | _ => fun _ => .bad
  | .or a b, env => (evE a env).bind fun x => match x with
    | (.bl false, _) => evE b
    | (.bl true, _) => fun env => .ok (.bl true, false) env
    | _ => fun _ => .bad
  | .not a, env => (evE a env).bind fun x => match x with
    | (.bl b, _) => fun env => .ok (.bl (!b), false) env
    | _ => fun _ => .bad
  | .ife c a b, env => (evT c env).bind fun x env => if x then evE a env else evE b env
  | .call f as, env => (evAs as env).bind fun l => doCall C f l
  | .callv i tb as, env => match env[i]? with
    | some (some (.fn x, .frz)) => match tb.lookup x with
      | some f => (evAs as env).bind fun l => doCall C f l
      | none => .bad
    | _ => .bad
  | .tup es, env => (evEs es env).bind fun ds env => if ds.length ≤ sizeLine then .ok (.tup ds, false) env else .bad
  | .lst es, env => (evEs es env).bind fun ds env => if ds.length ≤ sizeLine then .ok (.lst ds, true) env else .bad
  | .chain p q a b c, env => (evE a env).bind fun x env => (evE b env).bind (fun y env => match prB p [x.1, y.1] with
    | some (.bl true, _) => (evE c env).bind fun z env => lift (prB q [y.1, z.1]) env
    | some (.bl false, _) => .ok (.bl false, false) env
    | _ => .bad)
  | .comp own tg src cond elt, env => (evI src env).bind fun x env0 =>
    let env1 := lock x.2 env0
    if plainAt env1 own then
      (((loopLc (fun d env => (setG (fun _ => false) tg d env).bind fun _ env => (evTs cond env).bind (fun b env =>
        if b then (evE elt env).bind (fun x env => .ok (some x.1) (wipeE env own)) else .ok none (wipeE env own))) x.1 [] (wipeE env1 own)).bind fun ds env => .ok (.lst ds, true) env).mapEn (fun e => unlock x.2 (restore env1 e own))).noEx
    else .bad
def evA : IA → Zm PV
  | .at i, env => peek i env
  | .val e, env => (evE e env).bind fun x env => .ok (.val x.1) env
def evAs : List IA → Zm (List PV)
  | [], env => .ok [] env
  | a :: as, env => (evA a env).bind fun p env => (evAs as env).bind (fun ps env => .ok (p :: ps) env)
def evEs : List IE → Zm (List D)
  | [], env => .ok [] env
  | e :: es, env => (evE e env).bind fun x env => (evEs es env).bind (fun xs env => .ok (x.1 :: xs) env)
def evT : IT → Zm Bool
  | .val a, env => (evA a env).bind fun p env => match fill1 env p with
    | some d => lift (truthy d) env
    | none => .bad
  | .and a b, env => (evT a env).bind fun x env => if x then evT b env else .ok false env
  | .or a b, env => (evT a env).bind fun x env => if x then .ok true env else evT b env
  | .not a, env => (evT a env).bind fun x env => .ok (!x) env
def evTs : List IT → Zm Bool
  | [], env => .ok true env
  | c :: cs, env => (evT c env).bind fun x env => if x then evTs cs env else .ok false env
def evI : II → Zm (List D × Option Nat)
  | .over a, env => (evA a env).bind fun p env => match fill1 env p with
    | some d => match seqOf d with
      | some ds => .ok (ds, lockOf env p) env
      | none => .bad
    | none => .bad
  | .range a b, env => (evE a env).bind fun x env => (evE b env).bind (fun y env => match x.1, y.1 with
    | .int i, .int j => if -(2 ^ 62) ≤ i ∧ i < 2 ^ 62 ∧ -(2 ^ 62) ≤ j ∧ j < 2 ^ 62 then .ok (rangeD i (j - i).toNat, none) env else .bad
    | _, _ => .bad)
  | .cmb a r, env => (evA a env).bind fun p env => match fill1 env p with
    | some (.lst ds) => match combs ds.length r with
      | some L => .ok (L.map fun idx => D.tup (idx.map fun j => ds.getD j .non), none) env
      | none => .bad
    | _ => .bad
  | .cmbR e r, env => (evE e env).bind fun x env => match x.1 with
    | .int n => if 0 ≤ n ∧ n ≤ 1000 then match combs n.toNat r with
      | some L => .ok (L.map fun idx => D.tup (idx.map fun (j : Nat) => ((List.range n.toNat).map fun (k : Nat) => D.int (k : Int)).getD j .non), none) env
      | none => .bad else .bad
    | _ => .bad
  | .rev a, env => (evA a env).bind fun p env => match fill1 env p with
    | some (.lst ds) => .ok (ds.reverse, lockOf env p) env
    | _ => .bad
  | .zipt a b, env => (evA a env).bind fun p env => (evA b env).bind (fun q env => match fill1 env p, fill1 env q with
    | some (.tup xs), some (.tup ys) => .ok (List.zipWith (fun x y => D.tup [x, y]) xs ys, none) env
    | _, _ => .bad)
  | .enum a, env => (evA a env).bind fun p env => match fill1 env p with
    | some d => match seqL d with
      | some ds => .ok ((List.range ds.length).zipWith (fun (k : Nat) d => D.tup [.int (k : Int), d]) ds, lockOf env p) env
      | none => .bad
    | none => .bad
end
/-- xs[k] = d, for a list of a name -/
def wrI (i : Nat) (k : IE) (d : D) : Zm Unit := fun env => (peek i env).bind fun _ env => (evE C k env).bind fun y env => match env[i]? with
  | some (some (.lst ds, .own)) => match y.1 with
    | .int j => match ixN ds.length j with
      | some n => .ok () (env.set i (some (.lst (ds.set n d), .own)))
      | none => .bad
    | _ => .bad
  | _ => .bad
variable (pin : Nat → Bool)
mutual
def evS : IS → Zm Fl
  | .set i e, env => (evE C e env).bind fun x env => (setS pin i x.1 x.2 env).bind fun _ env => .ok Fl.nx env
  | .unp l e, env => (evE C e env).bind fun x env => (setG pin (.tp l) x.1 env).bind fun _ env => .ok Fl.nx env
  | .par l es, env => (evEs C es env).bind fun ds env => (setAll pin l ds env).bind fun _ env => .ok Fl.nx env
  | .setix i k v, env => (evE C v env).bind fun x env => (peek i env).bind fun _ env => (evE C k env).bind (fun y env => match env[i]? with
    | some (some (.lst ds, .own)) => match y.1 with
      | .int j => match ixN ds.length j with
        | some n => .ok Fl.nx (env.set i (some (.lst (ds.set n x.1), .own)))
        | none => .bad
      | _ => .bad
    | _ => .bad)
  | .app i e, env => match env[i]? with
    | some (some (.lst _, _)) => (evE C e env).bind fun x env => match env[i]? with
      | some (some (.lst ds, .own)) => if ds.length < sizeLine then .ok Fl.nx (env.set i (some (.lst (ds ++ [x.1]), .own))) else .bad
      | _ => .bad
    | _ => .bad
  | .ext i e, env => match env[i]? with
    | some (some (.lst _, _)) => (evE C e env).bind fun x env => match x.1 with
      | .lst xs => match env[i]? with
        | some (some (.lst ds, .own)) => if ds.length + xs.length ≤ sizeLine then .ok Fl.nx (env.set i (some (.lst (ds ++ xs), .own))) else .bad
        | _ => .bad
      | _ => .bad
    | _ => .bad
  | .rev i, env => match env[i]? with
    | some (some (.lst ds, .own)) => .ok Fl.nx (env.set i (some (.lst ds.reverse, .own)))
    | _ => .bad
  | .ins i k e, env => match env[i]? with
    | some (some (.lst _, _)) => (evE C k env).bind fun y env => (evE C e env).bind (fun x env => match env[i]? with
      | some (some (.lst ds, .own)) => match y.1 with
        | .int j => if 0 ≤ j ∧ j < 2 ^ 63 ∧ ds.length < sizeLine then .ok Fl.nx (env.set i (some (.lst (ds.take j.toNat ++ [x.1] ++ ds.drop j.toNat), .own))) else .bad
        | _ => .bad
      | _ => .bad)
    | _ => .bad
  | .rem i e, env => match env[i]? with
    | some (some (.lst _, _)) => (evE C e env).bind fun x env => match env[i]? with
      | some (some (.lst ds, .own)) => if x.1.ok && (D.lst ds).ok then match ds.findIdx? (fun z => z.eqv x.1) with
          | some j => .ok Fl.nx (env.set i (some (.lst (ds.eraseIdx j), .own)))
          | none => .bad
        else .bad
      | _ => .bad
    | _ => .bad
  | .unpl l e, env => (evE C e env).bind fun x env => match x.1 with
    | .lst ds => (setAll pin l ds env).bind fun _ env => .ok Fl.nx env
    | _ => .bad
  | .parix i k l e, env => (evE C e env).bind fun x env => match x.1 with
    | .tup [a, b] => (wrI C i k a env).noEx.bind fun _ env => (wrI C i l b env).noEx.bind fun _ env => .ok Fl.nx env
    | _ => .bad
  | .no, _ => .bad
  | .ife c a b, env => (evT C c env).bind fun x env => if x then evSs a env else evSs b env
  | .forr tg src body, env => (evI C src env).bind fun x env =>
    (loopFor (fun d env => (setG pin tg d env).bind fun _ env => evSs body env) x.1 (lock x.2 env)).mapEn (unlock x.2)
  | .whil c body, env => loopWhile (evT C c) (evSs body) WF env
  | .mt i p hit miss, env => match env[i]? with
    | some (some (d, .frz)) => match mP p d with
      | some (some bs) => (setAll pin bs.1 bs.2 env).bind fun _ env => evSs hit env
      | some none => evSs miss env
      | none => .bad
    | _ => .bad
  | .ret e, env => (evE C e env).bind fun x env => .ok (Fl.rt x.1 x.2) env
  | .retv i, env => match env[i]? with
    | some (some (d, .own)) => if pin i then (getV i env).bind fun x env => .ok (Fl.rt x.1 false) env else .ok (Fl.rt d true) (env.set i none)
    | some (some (d, .frz)) => .ok (Fl.rt d false) env
    | _ => .bad
  | .retn, env => .ok (Fl.rt .non false) env
  | .rz c, env => .ex ⟨c, []⟩ env
  | .tr i body hs, env => match evSs body env with
    | .ex x env' => match hs.getD x.cls none with
      | some d => match env'[i]?, x.args with
        | some none, [] => .ok (Fl.rt d false) env'
        | _, _ => .bad
      | none => .bad
    | .ok fl env' => .ok fl env'
    | .bad => .bad
  | .brk, env => .ok Fl.bk env
  | .cont, env => .ok Fl.ct env
  | .pass, env => .ok Fl.nx env
def evSs : List IS → Zm Fl
  | [], env => .ok Fl.nx env
  | s :: ss, env => (evS s env).bind fun fl env => match fl with
    | .nx => evSs ss env
    | .bk => .ok Fl.bk env
    | .ct => .ok Fl.ct env
    | .rt d fr => .ok (Fl.rt d fr) env
end
end
structure Fn where
  np : Nat
  dv : List D
  n : Nat
  body : List IS
def pinOf (bs : List (D × Mo)) : Nat → Bool := fun i => match bs[i]? with | some (_, .own) => true | _ => false
/-- what a def does with all its arguments -/
def runFull (C : Cl) (F : Fn) (bs : List (D × Mo)) : CR :=
  if bs.length = F.np then
    match evSs C (pinOf bs) F.body (bs.map some ++ List.replicate (F.n - F.np) none) with
    | .ok (.rt d fr) env => .ok d fr ((env.take F.np).map fun s => s.getD (.non, .frz))
    | .ok .nx env => .ok .non false ((env.take F.np).map fun s => s.getD (.non, .frz))
    | .ex x env => .ex x ((env.take F.np).map fun s => s.getD (.non, .frz))
    | _ => .bad
  else .bad
def withDv (F : Fn) (as : List (D × Mo)) : List (D × Mo) := as ++ (F.dv.drop (F.dv.length - (F.np - as.length))).map fun d => (d, Mo.frz)
def callK (T : Nat → Option Fn) : Nat → Cl
  | 0, _, _ => .bad
  | k + 1, f, as => match T f with
    | some F => runFull (callK T k) F (withDv F as)
    | none => .bad
end Z
namespace Z
open PySem PySem.Spec PyProof.Rows L2
abbrev Mk := Addr → Prop
def KList (K : PySem.W.Frag) (a : Addr) (xs : List V) : Prop :=
  ∃ (o : Obj) (its : Array Value) (n : Nat), K.lookup a = some o ∧ o.cls = .type "list" ∧ o.dict = none ∧ o.data = .seq its n ∧ its.size ≤ sizeLine ∧ Vals xs its.toList
def RolL (K : PySem.W.Frag) (M : Mk) (H : Hp) (a : Addr) (xs : List V) : Prop :=
  (H a = some (.lst xs) ∧ ¬ M a) ∨ (∃ o, H a = some (.frz o (.lst xs))) ∨ KList K a xs
theorem RolL.sq {K : PySem.W.Frag} {M : Mk} {H : Hp} {a : Addr} {xs : List V} (h : RolL K M H a xs) : SqL K H a xs := by
  rcases h with ⟨h, _⟩ | h | h
  · exact .inl (.inl h)
  · exact .inl (.inr h)
  · exact .inr h
mutual
inductive Rep (K : PySem.W.Frag) (M : Mk) (H : Hp) : D → V → Prop
  | non : Rep K M H .non .non
  | bl (b : Bool) : Rep K M H (.bl b) (.bl b)
  | int (i : Int) : Rep K M H (.int i) (.int i)
  | str (s : Str) : Rep K M H (.str s) (.str s)
  | tup {a : Addr} {xs : List V} {ds : List D} : SqT K H a xs → Reps K M H ds xs → Rep K M H (.tup ds) (.ref a)
  | lst {a : Addr} {xs : List V} {ds : List D} : H a = some (.lst xs) → ¬ M a → Reps K M H ds xs → Rep K M H (.lst ds) (.ref a)
  | rol {a : Addr} {xs : List V} {ds : List D} : RolL K M H a xs → Reps K M H ds xs → Rep K M H (.rol ds) (.ref a)
  | fn {a : Addr} {x : Str} : PySem.W.nsIn K mainGlobals x = some (some (.ref a)) → Rep K M H (.fn x) (.ref a)
inductive Reps (K : PySem.W.Frag) (M : Mk) (H : Hp) : List D → List V → Prop
  | nil : Reps K M H [] []
  | cons {d : D} {ds : List D} {v : V} {vs : List V} : Rep K M H d v → Reps K M H ds vs → Reps K M H (d :: ds) (v :: vs)
end
def SlotRep (K : PySem.W.Frag) (M : Mk) (H : Hp) (d : D) (m : Mo) (v : V) : Prop := match m with
  | .frz => Rep K M H d v
  | _ => ∃ ds a xs, d = .lst ds ∧ v = .ref a ∧ M a ∧ H a = some (.lst xs) ∧ Reps K M H ds xs
def OwnAt (σ : L2.St) (env : En) (i : Nat) (a : Addr) : Prop := ∃ d, env[i]? = some (some (d, .own)) ∧ σ[i]? = some (some (.ref a))
def Wr (σ : L2.St) (env : En) (a : Addr) : Prop := ∃ i, OwnAt σ env i a
def Held (σ : L2.St) (env : En) (i : Nat) (a : Addr) : Prop := ∃ d m, m ≠ Mo.frz ∧ env[i]? = some (some (d, m)) ∧ σ[i]? = some (some (.ref a))
def IsL (env : En) (i : Nat) : Prop := ∃ d, env[i]? = some (some (d, .lck))
structure EnvOk (K : PySem.W.Frag) (M : Mk) (H : Hp) (σ : L2.St) (env : En) : Prop where
  len : σ.length = env.length
  slot : ∀ (i : Nat) (d : D) (m : Mo), env[i]? = some (some (d, m)) → ∃ v, σ[i]? = some (some v) ∧ SlotRep K M H d m v
  apart : ∀ (i j : Nat) (a : Addr), i ≠ j → OwnAt σ env i a → Held σ env j a → False
  mok : ∀ a, M a → ∃ xs, H a = some (.lst xs)
theorem OwnAt.held {σ : L2.St} {env : En} {i : Nat} {a : Addr} (h : OwnAt σ env i a) : Held σ env i a := by
  obtain ⟨d, h1, h2⟩ := h
  exact ⟨d, .own, by decide, h1, h2⟩
section
variable {K : PySem.W.Frag} {M M' : Mk} {H H' : Hp} {σ : L2.St} {env : En}
theorem EnvOk.held_m (e : EnvOk K M H σ env) {i : Nat} {a : Addr} (h : Held σ env i a) : M a := by
  obtain ⟨d, m, hm, h1, h2⟩ := h
  obtain ⟨v, h3, h4⟩ := e.slot i d m h1
  rw [h2] at h3
  cases h3
  cases m with
  | frz => exact absurd rfl hm
  | own => obtain ⟨ds, b, xs, _, e2, h5, _⟩ := h4; cases e2; exact h5
  | lck => obtain ⟨ds, b, xs, _, e2, h5, _⟩ := h4; cases e2; exact h5
theorem EnvOk.wr_m (e : EnvOk K M H σ env) {a : Addr} (h : Wr σ env a) : M a := by
  obtain ⟨i, h⟩ := h
  exact e.held_m h.held
/-- how the frozen data stay: (W: what may be written) -/
structure Keeps (M : Mk) (H : Hp) (M' : Mk) (H' : Hp) : Prop where
  heap : ∀ a o, H a = some o → ¬ M a → H' a = some o
  mold : ∀ a, H a ≠ none → M' a → M a
theorem SqT.keeps {a : Addr} {xs : List V} (mok : ∀ a, M a → ∃ xs, H a = some (.lst xs)) (k : Keeps M H M' H') (h : SqT K H a xs) : SqT K H' a xs := by
  have go : ∀ o, H a = some o → (∀ ys, o ≠ .lst ys) → H' a = some o := fun o e n => k.heap a o e fun hm => by
    obtain ⟨ys, e2⟩ := mok a hm
    rw [e] at e2
    exact n ys (Option.some.inj e2)
  rcases h with (h | ⟨o, h⟩) | h
  · exact .inl (.inl (go _ h (fun _ z => nomatch z)))
  · exact .inl (.inr ⟨o, go _ h (fun _ z => nomatch z)⟩)
  · exact .inr h
theorem RolL.keeps {a : Addr} {xs : List V} (mok : ∀ a, M a → ∃ xs, H a = some (.lst xs)) (k : Keeps M H M' H') (h : RolL K M H a xs) : RolL K M' H' a xs := by
  rcases h with ⟨h, n⟩ | ⟨o, h⟩ | h
  · exact .inl ⟨k.heap _ _ h n, fun z => n (k.mold a (by rw [h]; simp) z)⟩
  · refine .inr (.inl ⟨o, k.heap a _ h fun hm => ?_⟩)
    obtain ⟨ys, e2⟩ := mok a hm
    rw [h] at e2
    cases e2
  · exact .inr (.inr h)
mutual
theorem Rep.keeps (mok : ∀ a, M a → ∃ xs, H a = some (.lst xs)) (k : Keeps M H M' H') : ∀ {d : D} {v : V}, Rep K M H d v → Rep K M' H' d v
  | _, _, .non => .non
  | _, _, .bl b => .bl b
  | _, _, .int i => .int i
  | _, _, .str s => .str s
  | _, _, .tup h r => .tup (SqT.keeps mok k h) (Reps.keeps mok k r)
  | _, _, .lst (a := a) h n r => .lst (k.heap _ _ h n) (fun z => n (k.mold a (by rw [h]; simp) z)) (Reps.keeps mok k r)
  | _, _, .rol h r => .rol (h.keeps mok k) (Reps.keeps mok k r)
  | _, _, .fn h => .fn h
theorem Reps.keeps (mok : ∀ a, M a → ∃ xs, H a = some (.lst xs)) (k : Keeps M H M' H') : ∀ {ds : List D} {vs : List V}, Reps K M H ds vs → Reps K M' H' ds vs
  | _, _, .nil => .nil
  | _, _, .cons h r => .cons (Rep.keeps mok k h) (Reps.keeps mok k r)
end
theorem Reps.length : ∀ {ds : List D} {vs : List V}, Reps K M H ds vs → ds.length = vs.length
  | _, _, .nil => rfl
  | _, _, .cons _ r => congrArg (· + 1) r.length
theorem Reps.get : ∀ {ds : List D} {vs : List V} {i : Nat} {d : D}, Reps K M H ds vs → ds[i]? = some d → ∃ v, vs[i]? = some v ∧ Rep K M H d v
  | _, _, _, _, .nil, e => by simp at e
  | _, _, 0, _, .cons h _, e => by simp at e; subst e; exact ⟨_, rfl, h⟩
  | _, _, i + 1, d, .cons _ r, e => by
    obtain ⟨v, h1, h2⟩ := Reps.get (i := i) (d := d) r (by simpa using e)
    exact ⟨v, by simpa using h1, h2⟩
theorem Reps.append : ∀ {ds es : List D} {vs ws : List V}, Reps K M H ds vs → Reps K M H es ws → Reps K M H (ds ++ es) (vs ++ ws)
  | _, _, _, _, .nil, s => s
  | _, _, _, _, .cons h r, s => .cons h (Reps.append r s)
theorem Reps.reverse : ∀ {ds : List D} {vs : List V}, Reps K M H ds vs → Reps K M H ds.reverse vs.reverse
  | _, _, .nil => .nil
  | _, _, .cons h r => by rw [List.reverse_cons, List.reverse_cons]; exact Reps.append (Reps.reverse r) (.cons h .nil)
theorem Reps.drop : ∀ {ds : List D} {vs : List V} (n : Nat), Reps K M H ds vs → Reps K M H (ds.drop n) (vs.drop n)
  | _, _, 0, r => r
  | _, _, _ + 1, .nil => .nil
  | _, _, n + 1, .cons _ r => Reps.drop n r
theorem Reps.take : ∀ {ds : List D} {vs : List V} (n : Nat), Reps K M H ds vs → Reps K M H (ds.take n) (vs.take n)
  | _, _, 0, _ => .nil
  | _, _, _ + 1, .nil => .nil
  | _, _, n + 1, .cons h r => .cons h (Reps.take n r)
theorem Reps.set {d : D} {v : V} (h : Rep K M H d v) : ∀ {ds : List D} {vs : List V} (n : Nat), Reps K M H ds vs → Reps K M H (ds.set n d) (vs.set n v)
  | _, _, _, .nil => .nil
  | _, _, 0, .cons _ r => .cons h r
  | _, _, n + 1, .cons q r => .cons q (Reps.set h n r)
/-- a new object -/
theorem keeps_upd {p : Addr} {o : HO} (hp : H p = none) (M' : Mk) (hM : ∀ a, M' a → M a ∨ a = p) : Keeps M H M' (upd H p o) :=
  ⟨fun a u e _ => by rw [upd_ne (ne_of_none e hp)]; exact e, fun a n z => (hM a z).elim id fun e => by rw [e, hp] at n; exact absurd rfl n⟩
theorem SlotRep.keeps {d : D} {m : Mo} {v : V} (mok : ∀ a, M a → ∃ xs, H a = some (.lst xs)) (k : Keeps M H M' H') (hm : m ≠ .frz → ∀ a, v = .ref a → M' a ∧ ∀ o, H a = some o → H' a = some o) (h : SlotRep K M H d m v) : SlotRep K M' H' d m v := by
  cases m with
  | frz => exact Rep.keeps mok k h
  | own =>
    obtain ⟨ds, a, xs, e1, e2, h1, h2, h3⟩ := h
    obtain ⟨z1, z2⟩ := hm (by decide) a e2
    exact ⟨ds, a, xs, e1, e2, z1, z2 _ h2, h3.keeps mok k⟩
  | lck =>
    obtain ⟨ds, a, xs, e1, e2, h1, h2, h3⟩ := h
    obtain ⟨z1, z2⟩ := hm (by decide) a e2
    exact ⟨ds, a, xs, e1, e2, z1, z2 _ h2, h3.keeps mok k⟩
/-- the same names over a heap in which more stands -/
theorem EnvOk.more (e : EnvOk K M H σ env) (k : Keeps M H M' H') (hM : ∀ a, M a → M' a) (hH : ∀ a o, H a = some o → H' a = some o) (mok : ∀ a, M' a → ∃ xs, H' a = some (.lst xs)) : EnvOk K M' H' σ env :=
  ⟨e.len, fun i d m h => by
    obtain ⟨v, h1, h2⟩ := e.slot i d m h
    refine ⟨v, h1, h2.keeps e.mok k fun hm a ea => ⟨hM a (e.held_m ⟨d, m, hm, h, by rw [h1, ea]⟩), hH a⟩⟩, e.apart, mok⟩
end
/-- from one place to the next -/
structure Stp (pin : Nat → Bool) (M : Mk) (H : Hp) (σ : L2.St) (env : En) (M' : Mk) (H' : Hp) (σ' : L2.St) (env' : En) : Prop where
  heap : ∀ a o, H a = some o → ¬ Wr σ env a → H' a = some o
  dom : ∀ a, H a ≠ none → H' a ≠ none
  mold : ∀ a, H a ≠ none → M' a → M a
  mkeep : ∀ a, M a → ¬ Wr σ env a → M' a
  wr : ∀ (i : Nat) (a : Addr), OwnAt σ' env' i a → OwnAt σ env i a ∨ H a = none
  lck : ∀ i, IsL env' i ↔ IsL env i
  lkσ : ∀ i, IsL env i → σ'[i]? = σ[i]?
  pinσ : ∀ i, pin i = true → σ'[i]? = σ[i]?
  pinS : ∀ i, pin i = true → (∃ s, env[i]? = some (some s)) → ∃ s, env'[i]? = some (some s)
section
variable {K : PySem.W.Frag} {pin : Nat → Bool} {M M' M1 M2 : Mk} {H H' H1 H2 : Hp} {σ σ' σ1 σ2 : L2.St} {env env' env1 env2 : En}
theorem Stp.refl : Stp pin M H σ env M H σ env :=
  ⟨fun _ _ h _ => h, fun _ h => h, fun _ _ h => h, fun _ h _ => h, fun _ _ h => .inl h, fun _ => Iff.rfl, fun _ _ => rfl, fun _ _ => rfl, fun _ _ h => h⟩
theorem Stp.trans (mok : ∀ a, M a → ∃ xs, H a = some (.lst xs)) (a : Stp pin M H σ env M1 H1 σ1 env1) (b : Stp pin M1 H1 σ1 env1 M2 H2 σ2 env2) : Stp pin M H σ env M2 H2 σ2 env2 := by
  have nw : ∀ x, H x ≠ none → ¬ Wr σ env x → ¬ Wr σ1 env1 x := fun x hn hw ⟨i, z⟩ => (a.wr i x z).elim (fun y => hw ⟨i, y⟩) hn
  refine ⟨fun x o e n => b.heap x o (a.heap x o e n) (nw x (by rw [e]; simp) n), fun x n => b.dom x (a.dom x n), fun x n m => a.mold x n (b.mold x (a.dom x n) m), fun x m n => ?_, fun i x w => ?_, fun i => (b.lck i).trans (a.lck i), fun i l => ?_, fun i p => (b.pinσ i p).trans (a.pinσ i p), fun i p s => b.pinS i p (a.pinS i p s)⟩
  · obtain ⟨ys, e⟩ := mok x m
    exact b.mkeep x (a.mkeep x m n) (nw x (by rw [e]; simp) n)
  · rcases b.wr i x w with q | q
    · exact a.wr i x q
    · refine .inr ?_
      cases e : H x with
      | none => rfl
      | some o => exact absurd q (a.dom x (by rw [e]; simp))
  · exact (b.lkσ i ((a.lck i).mpr l)).trans (a.lkσ i l)
theorem Stp.keeps (e : EnvOk K M H σ env) (s : Stp pin M H σ env M' H' σ' env') : Keeps M H M' H' :=
  ⟨fun a o h n => s.heap a o h fun w => n (e.wr_m w), s.mold⟩
theorem Stp.weak {pin' : Nat → Bool} (h : ∀ i, pin' i = true → pin i = true) (s : Stp pin M H σ env M' H' σ' env') : Stp pin' M H σ env M' H' σ' env' :=
  ⟨s.heap, s.dom, s.mold, s.mkeep, s.wr, s.lck, s.lkσ, fun i p => s.pinσ i (h i p), fun i p => s.pinS i (h i p)⟩
end
end Z
namespace Z
open PySem PySem.Spec PyProof.Rows L2
abbrev allP : Nat → Bool := fun _ => true
/-- a value that comes: frozen, or a new list that nobody holds -/
def Res (K : PySem.W.Frag) (M' : Mk) (H' : Hp) (σ : L2.St) (env' : En) (H : Hp) (d : D) (fr : Bool) (v : V) : Prop := match fr with
  | false => Rep K M' H' d v
  | true => ∃ ds a xs, d = .lst ds ∧ v = .ref a ∧ H a = none ∧ M' a ∧ H' a = some (.lst xs) ∧ Reps K M' H' ds xs ∧ ∀ i, ¬ Held σ env' i a
section
variable {K : PySem.W.Frag} {pin : Nat → Bool} {M M' M1 M2 : Mk} {H H' H1 H2 : Hp} {σ σ' σ1 σ2 : L2.St} {env env' env1 env2 : En}
/-- what nobody holds is let go -/
theorem EnvOk.drop (e : EnvOk K M H σ env) (a : Addr) (h : ∀ i, ¬ Held σ env i a) : EnvOk K (fun b => M b ∧ b ≠ a) H σ env :=
  ⟨e.len, fun i d m hi => by
    obtain ⟨v, h1, h2⟩ := e.slot i d m hi
    refine ⟨v, h1, h2.keeps e.mok ⟨fun _ _ q _ => q, fun _ _ z => z.1⟩ fun hm b eb => ⟨⟨e.held_m ⟨d, m, hm, hi, by rw [h1, eb]⟩, fun z => ?_⟩, fun _ q => q⟩⟩
    subst eb
    subst z
    exact h i ⟨d, m, hm, hi, h1⟩, e.apart, fun b z => e.mok b z.1⟩
theorem Stp.drop (mok : ∀ a, M a → ∃ xs, H a = some (.lst xs)) (s : Stp pin M H σ env M' H' σ' env') {a : Addr} (h : H a = none ∨ Wr σ env a) : Stp pin M H σ env (fun b => M' b ∧ b ≠ a) H' σ' env' :=
  ⟨s.heap, s.dom, fun b n z => s.mold b n z.1, fun b m n => ⟨s.mkeep b m n, fun z => by
    subst z
    rcases h with h | h
    · obtain ⟨ys, q⟩ := mok b m
      rw [h] at q
      cases q
    · exact n h⟩, s.wr, s.lck, s.lkσ, s.pinσ, s.pinS⟩
theorem Res.freeze {d : D} {fr : Bool} {v : V} (e : EnvOk K M H σ env) (e' : EnvOk K M' H' σ' env') (s : Stp pin M H σ env M' H' σ' env') (r : Res K M' H' σ' env' H d fr v) :
    ∃ M2, EnvOk K M2 H' σ' env' ∧ Stp pin M H σ env M2 H' σ' env' ∧ Rep K M2 H' d v := by
  cases fr with
  | false => exact ⟨M', e', s, r⟩
  | true =>
    obtain ⟨ds, a, xs, rfl, rfl, h0, hm, h1, h2, h3⟩ := r
    exact ⟨_, e'.drop a h3, s.drop e.mok (.inl h0), .lst h1 (fun z => z.2 rfl) (h2.keeps e'.mok ⟨fun _ _ q _ => q, fun _ _ z => z.1⟩)⟩
/-- a result seen from further back -/
theorem Res.back {d : D} {fr : Bool} {v : V} {env0 : En} {σ0 : L2.St} {M0 : Mk} {H0 : Hp} (s : Stp pin M0 H0 σ0 env0 M H σ env) (r : Res K M' H' σ' env' H d fr v) : Res K M' H' σ' env' H0 d fr v := by
  cases fr with
  | false => exact r
  | true =>
    obtain ⟨ds, a, xs, e1, e2, h0, hr⟩ := r
    refine ⟨ds, a, xs, e1, e2, ?_, hr⟩
    cases q : H0 a with
    | none => rfl
    | some o => exact absurd h0 (s.dom a (by rw [q]; simp))
theorem set_get {α : Type} {l : List α} {i j : Nat} {x y : α} (h : (l.set i x)[j]? = some y) : (i = j ∧ x = y ∧ i < l.length) ∨ (i ≠ j ∧ l[j]? = some y) := by
  by_cases e : i = j
  · subst e
    by_cases hl : i < l.length
    · rw [List.getElem?_set_self hl] at h
      exact .inl ⟨rfl, Option.some.inj h, hl⟩
    · rw [List.getElem?_eq_none (by simpa using hl)] at h
      cases h
  · rw [List.getElem?_set_ne e] at h
    exact .inr ⟨e, h⟩
theorem lt_of_get {α : Type} {l : List α} {i : Nat} {x : α} (h : l[i]? = some x) : i < l.length := (List.getElem?_eq_some_iff.mp h).1
/-- a name is read, to be kept -/
theorem getV_ok {i : Nat} {d : D} {fr : Bool} (e : EnvOk K M H σ env) (h : getV i env = .ok (d, fr) env') :
    ∃ v, σ[i]? = some (some v) ∧ fr = false ∧ ∃ M', EnvOk K M' H σ env' ∧ Stp allP M H σ env M' H σ env' ∧ Rep K M' H d v := by
  unfold getV at h
  split at h
  · rename_i d' q
    cases h
    obtain ⟨v, h1, h2⟩ := e.slot i d .frz q
    exact ⟨v, h1, rfl, M, e, .refl, h2⟩
  · rename_i d' q
    cases h
    obtain ⟨v, h1, ds, a, xs, rfl, rfl, h2, h3, h4⟩ := e.slot i d .own q
    have hO : OwnAt σ env i a := ⟨_, q, h1⟩
    have hl := lt_of_get q
    have kp : Keeps M H (fun b => M b ∧ b ≠ a) H := ⟨fun _ _ q _ => q, fun _ _ z => z.1⟩
    have rp : Rep K (fun b => M b ∧ b ≠ a) H (.lst ds) (.ref a) := .lst h3 (fun z => z.2 rfl) (h4.keeps e.mok kp)
    refine ⟨.ref a, h1, rfl, _, ⟨by rw [List.length_set]; exact e.len, fun j d m hj => ?_, fun j k b hn ho hh => ?_, fun b z => e.mok b z.1⟩, ⟨fun _ _ h _ => h, fun _ h => h, fun _ _ z => z.1, fun b m n => ⟨m, fun z => n ⟨i, z ▸ hO⟩⟩, fun j b w => ?_, fun j => ⟨?_, ?_⟩, fun _ _ => rfl, fun _ _ => rfl, fun j _ hj => ?_⟩, rp⟩
    · rcases set_get hj with ⟨rfl, z, _⟩ | ⟨n, hj⟩
      · cases z
        exact ⟨_, h1, rp⟩
      · obtain ⟨v, g1, g2⟩ := e.slot j d m hj
        refine ⟨v, g1, g2.keeps e.mok kp fun hm b eb => ⟨⟨e.held_m ⟨d, m, hm, hj, by rw [g1, eb]⟩, fun z => ?_⟩, fun _ q => q⟩⟩
        subst eb
        subst z
        exact e.apart i j b n hO ⟨d, m, hm, hj, g1⟩
    · obtain ⟨d1, g1, g2⟩ := ho
      rcases set_get g1 with ⟨rfl, z, _⟩ | ⟨n1, g1⟩
      · cases z
      · obtain ⟨d2, m2, hm2, g3, g4⟩ := hh
        rcases set_get g3 with ⟨rfl, z, _⟩ | ⟨n2, g3⟩
        · cases z
          exact hm2 rfl
        · exact e.apart j k b hn ⟨d1, g1, g2⟩ ⟨d2, m2, hm2, g3, g4⟩
    · obtain ⟨d1, g1, g2⟩ := w
      rcases set_get g1 with ⟨rfl, z, _⟩ | ⟨n1, g1⟩
      · cases z
      · exact .inl ⟨d1, g1, g2⟩
    · rintro ⟨d1, g1⟩
      rcases set_get g1 with ⟨rfl, z, _⟩ | ⟨n1, g1⟩
      · cases z
      · exact ⟨d1, g1⟩
    · rintro ⟨d1, g1⟩
      refine ⟨d1, ?_⟩
      rw [List.getElem?_set_ne (fun z => by subst z; rw [q] at g1; cases g1)]
      exact g1
    · obtain ⟨t, ht⟩ := hj
      by_cases z : i = j
      · subst z
        exact ⟨_, List.getElem?_set_self hl⟩
      · exact ⟨t, by rw [List.getElem?_set_ne z]; exact ht⟩
  · cases h
/-- more stands in the heap -/
theorem Stp.grow (e : EnvOk K M H σ env) (hH : ∀ a o, H a = some o → H' a = some o) (h1 : ∀ a, H a ≠ none → M' a → M a) (h2 : ∀ a, M a → M' a) : Stp allP M H σ env M' H' σ env :=
  ⟨fun a o h _ => hH a o h, fun a n => by
    cases q : H a with
    | none => exact absurd q n
    | some o => rw [hH a o q]; simp, h1, fun a m _ => h2 a m, fun _ _ h => .inl h, fun _ => Iff.rfl, fun _ _ => rfl, fun _ _ => rfl, fun _ _ h => h⟩
theorem upd_up {p : Addr} {o : HO} (hp : H p = none) : ∀ a u, H a = some u → upd H p o a = some u := fun a u h => by
  rw [upd_ne (ne_of_none h hp)]
  exact h
theorem alloc_tup {p : Addr} {xs : List V} {ds : List D} (e : EnvOk K M H σ env) (hp : H p = none) (r : Reps K M H ds xs) :
    EnvOk K M (upd H p (.tup xs)) σ env ∧ Stp allP M H σ env M (upd H p (.tup xs)) σ env ∧ Rep K M (upd H p (.tup xs)) (.tup ds) (.ref p) := by
  have k : Keeps M H M (upd H p (.tup xs)) := keeps_upd hp M fun a h => .inl h
  refine ⟨e.more k (fun _ h => h) (upd_up hp) fun a h => ?_, .grow e (upd_up hp) (fun _ _ h => h) fun _ h => h, .tup (.inl (.inl upd_same)) (r.keeps e.mok k)⟩
  obtain ⟨ys, q⟩ := e.mok a h
  exact ⟨ys, upd_up hp _ _ q⟩
theorem alloc_lst {p : Addr} {xs : List V} {ds : List D} (e : EnvOk K M H σ env) (hp : H p = none) (r : Reps K M H ds xs) :
    EnvOk K (fun b => M b ∨ b = p) (upd H p (.lst xs)) σ env ∧ Stp allP M H σ env (fun b => M b ∨ b = p) (upd H p (.lst xs)) σ env ∧ Res K (fun b => M b ∨ b = p) (upd H p (.lst xs)) σ env H (.lst ds) true (.ref p) := by
  have k : Keeps M H (fun b => M b ∨ b = p) (upd H p (.lst xs)) := keeps_upd hp _ fun a h => h
  refine ⟨e.more k (fun _ h => .inl h) (upd_up hp) fun a h => ?_, .grow e (upd_up hp) (fun a n h => h.elim id fun z => by rw [z] at n; exact absurd hp n) fun _ h => .inl h, ⟨ds, p, xs, rfl, rfl, hp, .inr rfl, upd_same, r.keeps e.mok k, fun i hh => ?_⟩⟩
  · rcases h with h | rfl
    · obtain ⟨ys, q⟩ := e.mok a h
      exact ⟨ys, upd_up hp _ _ q⟩
    · exact ⟨xs, upd_same⟩
  · obtain ⟨ys, q⟩ := e.mok p (e.held_m hh)
    rw [hp] at q
    cases q
end
/-- what is wanted of an exception -/
abbrev XW := Ex → L2.St → Hp → Prop
def ExK (K : PySem.W.Frag) (W : XW) (M : Mk) (H : Hp) (σ : L2.St) (env : En) (x : Ex) (env' : En) : Prop :=
  ∀ M' H', EnvOk K M' H' σ env' → Stp allP M H σ env M' H' σ env' → W x σ H'
theorem ExK.back {K : PySem.W.Frag} {W : XW} {M M1 : Mk} {H H1 : Hp} {σ : L2.St} {env env1 env' : En} {x : Ex} (h : ExK K W M H σ env x env') (e : EnvOk K M H σ env) (s : Stp allP M H σ env M1 H1 σ env1) : ExK K W M1 H1 σ env1 x env' :=
  fun M' H' e' s' => h M' H' e' (s.trans e.mok s')
def RZ (K : PySem.W.Frag) (W : XW) (M : Mk) (H : Hp) (σ : L2.St) (env : En) (o : Out (D × Bool)) (Q : VK) : Prop := match o with
  | .ok x env' => ∀ M' H' v, EnvOk K M' H' σ env' → Stp allP M H σ env M' H' σ env' → Res K M' H' σ env' H x.1 x.2 v → Q v H'
  | .ex x env' => ExK K W M H σ env x env'
  | .bad => False
def tZ (K : PySem.W.Frag) (W : XW) (f : Zm (D × Bool)) : TE := fun σ H Q => ∃ M env, EnvOk K M H σ env ∧ RZ K W M H σ env (f env) Q
def Fil1 (K : PySem.W.Frag) (M : Mk) (H : Hp) (σ : L2.St) : PV → V → Prop
  | .val d, v => Rep K M H d v
  | .at i, v => σ[i]? = some (some v)
def RP (K : PySem.W.Frag) (W : XW) (M : Mk) (H : Hp) (σ : L2.St) (env : En) (o : Out PV) (Q : VK) : Prop := match o with
  | .ok p env' => ∀ M' H' v, EnvOk K M' H' σ env' → Stp allP M H σ env M' H' σ env' → Fil1 K M' H' σ p v → Q v H'
  | .ex x env' => ExK K W M H σ env x env'
  | .bad => False
def tP (K : PySem.W.Frag) (W : XW) (f : Zm PV) : TE := fun σ H Q => ∃ M env, EnvOk K M H σ env ∧ RP K W M H σ env (f env) Q
inductive Fils (K : PySem.W.Frag) (M : Mk) (H : Hp) (σ : L2.St) : List PV → List V → Prop
  | nil : Fils K M H σ [] []
  | cons {p : PV} {ps : List PV} {v : V} {vs : List V} : Fil1 K M H σ p v → Fils K M H σ ps vs → Fils K M H σ (p :: ps) (v :: vs)
def tPs (K : PySem.W.Frag) (W : XW) (f : Zm (List PV)) : TA := fun σ H Q => ∃ M env, EnvOk K M H σ env ∧ match f env with
  | .ok l env' => ∀ M' H' vs, EnvOk K M' H' σ env' → Stp allP M H σ env M' H' σ env' → Fils K M' H' σ l vs → Q vs H'
  | .ex x env' => ExK K W M H σ env x env'
  | .bad => False
def tDs (K : PySem.W.Frag) (W : XW) (f : Zm (List D)) : TA := fun σ H Q => ∃ M env, EnvOk K M H σ env ∧ match f env with
  | .ok l env' => ∀ M' H' vs, EnvOk K M' H' σ env' → Stp allP M H σ env M' H' σ env' → Reps K M' H' l vs → Q vs H'
  | .ex x env' => ExK K W M H σ env x env'
  | .bad => False
def tB (K : PySem.W.Frag) (W : XW) (f : Zm Bool) : TT := fun σ H Q => ∃ M env, EnvOk K M H σ env ∧ match f env with
  | .ok b env' => ∀ M' H', EnvOk K M' H' σ env' → Stp allP M H σ env M' H' σ env' → Q b H'
  | .ex x env' => ExK K W M H σ env x env'
  | .bad => False
theorem PE.imp {X : Cx} {e : Expr} {t t' : TE} (h : PE X e t) (i : ∀ σ H Q, t' σ H Q → t σ H Q) : PE X e t' := ⟨fun pins s σ H Q I hw => h.run pins s σ H Q I (i σ H Q hw)⟩
theorem PT.imp {X : Cx} {e : Expr} {t t' : TT} (h : PT X e t) (i : ∀ σ H Q, t' σ H Q → t σ H Q) : PT X e t' := ⟨fun pins s σ H Q I hw => h.run pins s σ H Q I (i σ H Q hw)⟩
theorem PW.imp {X : Cx} {e : Expr} {t t' : TT} (h : PW X e t) (i : ∀ σ H Q, t' σ H Q → t σ H Q) : PW X e t' := ⟨fun wh pins s σ H Q I hw => h.run wh pins s σ H Q I (i σ H Q hw)⟩
theorem PA.imp {X : Cx} {es : List Expr} {t t' : TA} (h : PA X es t) (i : ∀ σ H Q, t' σ H Q → t σ H Q) : PA X es t' := ⟨fun pos pins s σ H Q I hw => h.run pos pins s σ H Q I (i σ H Q hw)⟩
theorem PS.imp {X : Cx} {st : Stmt} {t t' : TS} (h : PS X st t) (i : ∀ D σ H, t' D σ H → t D σ H) : PS X st t' := ⟨fun pins s σ H D I hw => h.run pins s σ H D I (i D σ H hw)⟩
theorem PSs.imp {X : Cx} {st : List Stmt} {t t' : TS} (h : PSs X st t) (i : ∀ D σ H, t' D σ H → t D σ H) : PSs X st t' := ⟨fun pins s σ H D I hw => h.run pins s σ H D I (i D σ H hw)⟩
theorem PI.imp {X : Cx} {tg it : Expr} {t t' : TI} (h : PI X tg it t) (i : ∀ σ H Q, t' σ H Q → t σ H Q) : PI X tg it t' := ⟨fun pins s σ H Q I hw => h.run pins s σ H Q I (i σ H Q hw)⟩
end Z
namespace Z
open PySem PySem.Spec PyProof.Rows L2
section
variable {K : PySem.W.Frag} {pin : Nat → Bool} {M M' M1 M2 : Mk} {H H' H1 H2 : Hp} {σ σ' σ1 σ2 : L2.St} {env env' env1 env2 : En} {d d1 d2 : D} {v v1 v2 : V} {fr : Bool} {Q : VK}
def AnyR (K : PySem.W.Frag) (M : Mk) (H : Hp) (d : D) (v : V) : Prop := ∃ m, SlotRep K M H d m v
theorem AnyR.of (h : Rep K M H d v) : AnyR K M H d v := ⟨.frz, h⟩
theorem AnyR.int {i : Int} (h : AnyR K M H (.int i) v) : v = .int i := by
  obtain ⟨m, h⟩ := h
  cases m with
  | frz => cases (show Rep K M H (.int i) v from h); rfl
  | own => obtain ⟨_, _, _, z, _⟩ := h; cases z
  | lck => obtain ⟨_, _, _, z, _⟩ := h; cases z
theorem AnyR.bl {i : Bool} (h : AnyR K M H (.bl i) v) : v = .bl i := by
  obtain ⟨m, h⟩ := h
  cases m with
  | frz => cases (show Rep K M H (.bl i) v from h); rfl
  | own => obtain ⟨_, _, _, z, _⟩ := h; cases z
  | lck => obtain ⟨_, _, _, z, _⟩ := h; cases z
theorem AnyR.str {i : Str} (h : AnyR K M H (.str i) v) : v = .str i := by
  obtain ⟨m, h⟩ := h
  cases m with
  | frz => cases (show Rep K M H (.str i) v from h); rfl
  | own => obtain ⟨_, _, _, z, _⟩ := h; cases z
  | lck => obtain ⟨_, _, _, z, _⟩ := h; cases z
theorem AnyR.non (h : AnyR K M H .non v) : v = .non := by
  obtain ⟨m, h⟩ := h
  cases m with
  | frz => cases (show Rep K M H .non v from h); rfl
  | own => obtain ⟨_, _, _, z, _⟩ := h; cases z
  | lck => obtain ⟨_, _, _, z, _⟩ := h; cases z
theorem AnyR.lst {ds : List D} (h : AnyR K M H (.lst ds) v) : ∃ a xs, v = .ref a ∧ H a = some (.lst xs) ∧ Reps K M H ds xs := by
  obtain ⟨m, h⟩ := h
  cases m with
  | frz => cases (show Rep K M H (.lst ds) v from h) with | lst h1 _ h3 => exact ⟨_, _, rfl, h1, h3⟩
  | own => obtain ⟨_, a, xs, z, e, _, h1, h2⟩ := h; cases z; exact ⟨a, xs, e, h1, h2⟩
  | lck => obtain ⟨_, a, xs, z, e, _, h1, h2⟩ := h; cases z; exact ⟨a, xs, e, h1, h2⟩
theorem AnyR.tup {ds : List D} (h : AnyR K M H (.tup ds) v) : ∃ a xs, v = .ref a ∧ SqT K H a xs ∧ Reps K M H ds xs := by
  obtain ⟨m, h⟩ := h
  cases m with
  | frz => cases (show Rep K M H (.tup ds) v from h) with | tup h1 h3 => exact ⟨_, _, rfl, h1, h3⟩
  | own => obtain ⟨_, _, _, z, _⟩ := h; cases z
  | lck => obtain ⟨_, _, _, z, _⟩ := h; cases z
theorem AnyR.rol {ds : List D} (h : AnyR K M H (.rol ds) v) : ∃ a xs, v = .ref a ∧ SqL K H a xs ∧ Reps K M H ds xs := by
  obtain ⟨m, h⟩ := h
  cases m with
  | frz => cases (show Rep K M H (.rol ds) v from h) with | rol h1 h3 => exact ⟨_, _, rfl, h1.sq, h3⟩
  | own => obtain ⟨_, _, _, z, _⟩ := h; cases z
  | lck => obtain ⟨_, _, _, z, _⟩ := h; cases z
theorem AnyR.fn {x : Str} (h : AnyR K M H (.fn x) v) : ∃ a, v = .ref a ∧ PySem.W.nsIn K mainGlobals x = some (some (.ref a)) := by
  obtain ⟨m, h⟩ := h
  cases m with
  | frz => cases (show Rep K M H (.fn x) v from h) with | fn h1 => exact ⟨_, rfl, h1⟩
  | own => obtain ⟨_, _, _, z, _⟩ := h; cases z
  | lck => obtain ⟨_, _, _, z, _⟩ := h; cases z
mutual
theorem Rep.dp : ∀ {d : D} {v : V}, Rep K M H d v → (toP d).canLay0 = true → Dp K H v (toP d)
  | _, _, .non, _ => .non
  | _, _, .bl b, _ => .bl b
  | _, _, .int b, _ => .int b
  | _, _, .str b, _ => .str b
  | _, _, .tup h r, c => .tup h (Reps.dp r (by simpa [toP, PyData.canLay0] using c))
  | _, _, .lst h _ r, c => .lst (.inl (.inl h)) (Reps.dp r (by simpa [toP, PyData.canLay0] using c))
  | _, _, .rol h r, c => by simp [toP, PyData.canLay0] at c
  | _, _, .fn h, c => by simp [toP, PyData.canLay0] at c
theorem Reps.dp : ∀ {ds : List D} {vs : List V}, Reps K M H ds vs → PyData.canLayAll0 (toPs ds) = true → DpAll K H vs (toPs ds)
  | _, _, .nil, _ => .nil
  | _, _, .cons h r, c => by
    simp only [toPs, PyData.canLayAll0, Bool.and_eq_true] at c
    exact .cons (Rep.dp h c.1) (Reps.dp r c.2)
end
theorem D.ok_can (h : d.ok = true) : (toP d).canLay0 = true := SeqAt.canLay_of_shaped h
theorem AnyR.dp (h : AnyR K M H d v) (o : d.ok = true) : Dp K H v (toP d) := by
  have c := D.ok_can o
  obtain ⟨m, h⟩ := h
  cases m with
  | frz => exact Rep.dp h c
  | own => obtain ⟨ds, a, xs, rfl, rfl, _, h1, h2⟩ := h; exact .lst (.inl (.inl h1)) (Reps.dp h2 (by simpa [toP, PyData.canLay0] using c))
  | lck => obtain ⟨ds, a, xs, rfl, rfl, _, h1, h2⟩ := h; exact .lst (.inl (.inl h1)) (Reps.dp h2 (by simpa [toP, PyData.canLay0] using c))
/-- what is wanted of a result -/
def Kont (K : PySem.W.Frag) (M : Mk) (H : Hp) (σ : L2.St) (env : En) (d : D) (fr : Bool) (Q : VK) : Prop :=
  ∀ M' H' v, EnvOk K M' H' σ env → Stp allP M H σ env M' H' σ env → Res K M' H' σ env H d fr v → Q v H'
theorem Kont.here (e : EnvOk K M H σ env) (k : Kont K M H σ env d false Q) (h : Rep K M H d v) : Q v H := k M H v e .refl h
theorem Kont.tup (e : EnvOk K M H σ env) {ds : List D} {xs : List V} (k : Kont K M H σ env (.tup ds) false Q) (r : Reps K M H ds xs) {p : Addr} (hp : H p = none) : Q (.ref p) (upd H p (.tup xs)) := by
  obtain ⟨h1, h2, h3⟩ := alloc_tup e hp r
  exact k _ _ _ h1 h2 h3
theorem Kont.lst (e : EnvOk K M H σ env) {ds : List D} {xs : List V} (k : Kont K M H σ env (.lst ds) true Q) (r : Reps K M H ds xs) {p : Addr} (hp : H p = none) : Q (.ref p) (upd H p (.lst xs)) := by
  obtain ⟨h1, h2, h3⟩ := alloc_lst e hp r
  exact k _ _ _ h1 h2 h3
theorem Reps.atI {ds : List D} {xs : List V} {i : Int} (r : Reps K M H ds xs) (h : L2.atI ds i = some d) : ∃ v, L2.atI xs i = some v ∧ Rep K M H d v := by
  unfold L2.atI at h ⊢
  rw [← r.length]
  cases e : ixN ds.length i with
  | none => rw [e] at h; cases h
  | some j =>
    rw [e] at h
    exact r.get h
theorem map_some {α β : Type} {o : Option α} {f : α → β} {b : β} (h : o.map f = some b) : ∃ a, o = some a ∧ f a = b := by
  cases o with
  | none => cases h
  | some a => exact ⟨a, rfl, Option.some.inj h⟩
theorem ite_some {α : Type} {c : Prop} [Decidable c] {a b : α} (h : (if c then some a else none) = some b) : c ∧ a = b := by
  split at h
  · rename_i hc; exact ⟨hc, Option.some.inj h⟩
  · cases h
abbrev P2T (K : PySem.W.Frag) (f : D → D → Option (D × Bool)) (r : R2) : Prop := ∀ {M : Mk} {H : Hp} {σ : L2.St} {env : En} {d1 d2 d : D} {fr : Bool} {v1 v2 : V} {Q : VK}, EnvOk K M H σ env → f d1 d2 = some (d, fr) → AnyR K M H d1 v1 → AnyR K M H d2 v2 → Kont K M H σ env d fr Q → r v1 v2 H Q
def rAddZ (K : PySem.W.Frag) : R2 := fun x y H Q => rI0 (fun i j => .int (i + j)) x y H Q ∨ rCat x y H Q ∨ rCatA K x y H Q ∨ ∃ i j, x = .str i ∧ y = .str j ∧ i.length + j.length ≤ sizeLine ∧ Q (.str (i ++ j)) H
theorem p_add : P2T K pAdd (rAddZ K) := by
  intro M H σ env d1 d2 d fr v1 v2 Q e h a1 a2 k
  cases d1 <;> cases d2 <;> try (simp [pAdd] at h; done)
  case int.int i j =>
    simp only [pAdd, Option.some.injEq, Prod.mk.injEq] at h
    obtain ⟨rfl, rfl⟩ := h
    exact .inl ⟨i, j, a1.int, a2.int, k.here e (.int _)⟩
  case str.str i j =>
    obtain ⟨hc, z⟩ := ite_some h
    cases z
    exact .inr (.inr (.inr ⟨i, j, a1.str, a2.str, hc, k.here e (.str _)⟩))
  case tup.tup xs ys =>
    obtain ⟨hc, z⟩ := ite_some h
    cases z
    obtain ⟨a, us, rfl, s1, r1⟩ := a1.tup
    obtain ⟨b, ws, rfl, s2, r2⟩ := a2.tup
    refine .inr (.inr (.inl ⟨a, b, us, ws, rfl, rfl, s1, s2, by rw [← r1.length, ← r2.length]; exact hc, fun z => ?_, fun _ z => ?_, fun _ _ p hp => k.tup e (r1.append r2) hp⟩))
    · subst z
      cases r1
      exact k.here e (.tup s2 r2)
    · subst z
      cases r2
      exact k.here e (by rw [List.append_nil]; exact .tup s1 r1)
  case lst.lst xs ys =>
    obtain ⟨hc, z⟩ := ite_some h
    cases z
    obtain ⟨a, us, rfl, s1, r1⟩ := a1.lst
    obtain ⟨b, ws, rfl, s2, r2⟩ := a2.lst
    exact .inr (.inl ⟨a, b, us, ws, rfl, rfl, s1, s2, by rw [← r1.length, ← r2.length]; exact hc, fun p hp => k.lst e (r1.append r2) hp⟩)
theorem p_sub : P2T K pSub (rI0 fun i j => .int (i - j)) := by
  intro M H σ env d1 d2 d fr v1 v2 Q e h a1 a2 k
  cases d1 <;> cases d2 <;> try (simp [pSub] at h; done)
  case int.int i j =>
    simp only [pSub, Option.some.injEq, Prod.mk.injEq] at h
    obtain ⟨rfl, rfl⟩ := h
    exact ⟨i, j, a1.int, a2.int, k.here e (.int _)⟩
def rMulZ : R2 := fun x y H Q => rI CMulZ (fun i j => .int (i * j)) x y H Q ∨ rRep x y H Q
theorem p_mul : P2T K pMul rMulZ := by
  intro M H σ env d1 d2 d fr v1 v2 Q e h a1 a2 k
  cases d1 <;> cases d2 <;> try (simp [pMul] at h; done)
  case int.int i j =>
    obtain ⟨hc, z⟩ := ite_some h
    cases z
    exact .inl ⟨i, j, a1.int, a2.int, hc, k.here e (.int _)⟩
  case lst.int xs n =>
    obtain ⟨hc, z⟩ := ite_some h
    cases z
    obtain ⟨a, us, rfl, s1, r1⟩ := a1.lst
    refine .inr ⟨a, n, us, rfl, a2.int, s1, hc.1, hc.2.1, by rw [← r1.length]; exact hc.2.2, fun p hp => k.lst e ?_ hp⟩
    generalize n.toNat = m
    induction m with
    | zero => exact .nil
    | succ m ih => rw [List.replicate_succ, List.replicate_succ, List.flatten_cons, List.flatten_cons]; exact r1.append ih
theorem p_fdiv : P2T K pFdiv (rI (fun _ j => j ≠ 0 ∧ j.natAbs.log2 < 9000) fun i j => .int (Int.fdiv i j)) := by
  intro M H σ env d1 d2 d fr v1 v2 Q e h a1 a2 k
  cases d1 <;> cases d2 <;> try (simp [pFdiv] at h; done)
  case int.int i j =>
    unfold pFdiv at h
    simp only at h
    split at h
    · rename_i hc
      cases h
      have hj := hc.1
      exact ⟨i, j, a1.int, a2.int, ⟨by omega, hc.2⟩, by show Q (.int (Int.fdiv i j)) H; rw [Int.fdiv_eq_ediv_of_nonneg i (by omega)]; exact k.here e (.int _)⟩
    · obtain ⟨hc, z⟩ := ite_some h
      cases z
      have hj := hc.1
      exact ⟨i, j, a1.int, a2.int, ⟨by omega, hc.2⟩, k.here e (.int _)⟩
theorem p_mod : P2T K pMod (rI (fun _ j => 0 < j) fun i j => .int (i % j)) := by
  intro M H σ env d1 d2 d fr v1 v2 Q e h a1 a2 k
  cases d1 <;> cases d2 <;> try (simp [pMod] at h; done)
  case int.int i j =>
    obtain ⟨hc, z⟩ := ite_some h
    cases z
    exact ⟨i, j, a1.int, a2.int, hc, k.here e (.int _)⟩
theorem p_pow : P2T K pPow (rI CPow fun i j => .int (i ^ j.toNat)) := by
  intro M H σ env d1 d2 d fr v1 v2 Q e h a1 a2 k
  cases d1 <;> cases d2 <;> try (simp [pPow] at h; done)
  case int.int i j =>
    obtain ⟨hc, z⟩ := ite_some h
    cases z
    exact ⟨i, j, a1.int, a2.int, hc, k.here e (.int _)⟩
theorem p_cmp (f : Int → Int → Bool) : P2T K (pCmp f) (rI0 fun i j => .bl (f i j)) := by
  intro M H σ env d1 d2 d fr v1 v2 Q e h a1 a2 k
  cases d1 <;> cases d2 <;> try (simp [pCmp] at h; done)
  case int.int i j =>
    simp only [pCmp, Option.some.injEq, Prod.mk.injEq] at h
    obtain ⟨rfl, rfl⟩ := h
    exact ⟨i, j, a1.int, a2.int, k.here e (.bl _)⟩
theorem p_isb : P2T K pIsb rIsB := by
  intro M H σ env d1 d2 d fr v1 v2 Q e h a1 a2 k
  cases d1 <;> cases d2 <;> try (simp [pIsb] at h; done)
  case bl.bl i j =>
    simp only [pIsb, Option.some.injEq, Prod.mk.injEq] at h
    obtain ⟨rfl, rfl⟩ := h
    exact ⟨i, j, a1.bl, a2.bl, k.here e (.bl _)⟩
theorem p_nisb : P2T K pNisb rNotB := by
  intro M H σ env d1 d2 d fr v1 v2 Q e h a1 a2 k
  cases d1 <;> cases d2 <;> try (simp [pNisb] at h; done)
  case bl.bl i j =>
    simp only [pNisb, Option.some.injEq, Prod.mk.injEq] at h
    obtain ⟨rfl, rfl⟩ := h
    exact ⟨i, j, a1.bl, a2.bl, k.here e (.bl _)⟩
theorem p_eq : P2T K (fun a b => if a.ok && b.ok then some (.bl (a.eqv b), false) else pEqS a b) (fun x y H Q => rEqD K x y H Q ∨ rEq x y H Q) := by
  intro M H σ env d1 d2 d fr v1 v2 Q e h a1 a2 k
  simp only at h
  split at h
  · rename_i hc
    cases h
    rw [Bool.and_eq_true] at hc
    exact .inl ⟨_, _, a1.dp hc.1, a2.dp hc.2, hc.1, hc.2, k.here e (.bl _)⟩
  · cases d1 <;> cases d2 <;> try (simp [pEqS] at h; done)
    case str.str x y hh =>
      cases h
      rw [a1.str, a2.str]
      refine .inr ⟨rfl, ?_⟩
      have := k.here e (.bl (decide (x = y)))
      simpa using this
theorem p_ne : P2T K (fun a b => if a.ok && b.ok then some (.bl (!a.eqv b), false) else pNeS a b) (fun x y H Q => rNeD K x y H Q ∨ rNe x y H Q) := by
  intro M H σ env d1 d2 d fr v1 v2 Q e h a1 a2 k
  simp only at h
  split at h
  · rename_i hc
    cases h
    rw [Bool.and_eq_true] at hc
    exact .inl ⟨_, _, a1.dp hc.1, a2.dp hc.2, hc.1, hc.2, k.here e (.bl _)⟩
  · cases d1 <;> cases d2 <;> try (simp [pNeS] at h; done)
    case str.str x y hh =>
      cases h
      rw [a1.str, a2.str]
      refine .inr ⟨rfl, ?_⟩
      have := k.here e (.bl (!decide (x = y)))
      simpa using this
theorem toPs_any {f : PyData → Bool} : ∀ ds : List D, (toPs ds).any f = ds.any fun z => f (toP z)
  | [] => rfl
  | d :: ds => by simp [toPs, toPs_any ds]
theorem p_in : P2T K (pIn false) (fun x y H Q => rInD K x y H Q ∨ rInTD K x y H Q) := by
  intro M H σ env d1 d2 d fr v1 v2 Q e h a1 a2 k
  cases d2 <;> try (simp [pIn] at h; done)
  case lst xs =>
    obtain ⟨hc, z⟩ := ite_some h
    cases z
    rw [Bool.and_eq_true] at hc
    refine .inl ⟨_, _, a1.dp hc.1, a2.dp hc.2, hc.1, hc.2, ?_⟩
    rw [toPs_any]
    exact k.here e (.bl _)
  case tup xs =>
    obtain ⟨hc, z⟩ := ite_some h
    cases z
    rw [Bool.and_eq_true] at hc
    refine .inr ⟨_, _, a1.dp hc.1, a2.dp hc.2, hc.1, hc.2, ?_⟩
    rw [toPs_any]
    exact k.here e (.bl _)
theorem p_notin : P2T K (pIn true) (fun x y H Q => rNotInD K x y H Q ∨ rNotInTD K x y H Q) := by
  intro M H σ env d1 d2 d fr v1 v2 Q e h a1 a2 k
  cases d2 <;> try (simp [pIn] at h; done)
  case lst xs =>
    obtain ⟨hc, z⟩ := ite_some h
    cases z
    rw [Bool.and_eq_true] at hc
    refine .inl ⟨_, _, a1.dp hc.1, a2.dp hc.2, hc.1, hc.2, ?_⟩
    rw [toPs_any]
    exact k.here e (.bl _)
  case tup xs =>
    obtain ⟨hc, z⟩ := ite_some h
    cases z
    rw [Bool.and_eq_true] at hc
    refine .inr ⟨_, _, a1.dp hc.1, a2.dp hc.2, hc.1, hc.2, ?_⟩
    rw [toPs_any]
    exact k.here e (.bl _)
def rIxZ (K : PySem.W.Frag) : R2 := fun x y H Q => rIxL K x y H Q ∨ rIxT K x y H Q
theorem p_ix : P2T K pIx (rIxZ K) := by
  intro M H σ env d1 d2 d fr v1 v2 Q e h a1 a2 k
  cases d1 <;> cases d2 <;> try (simp [pIx] at h; done)
  case lst.int xs i =>
    obtain ⟨y, h1, z⟩ := map_some h
    cases z
    obtain ⟨a, us, rfl, s1, r1⟩ := a1.lst
    obtain ⟨w, g1, g2⟩ := r1.atI h1
    exact .inl ⟨a, us, i, w, rfl, a2.int, .inl (.inl s1), g1, k.here e g2⟩
  case tup.int xs i =>
    obtain ⟨y, h1, z⟩ := map_some h
    cases z
    obtain ⟨a, us, rfl, s1, r1⟩ := a1.tup
    obtain ⟨w, g1, g2⟩ := r1.atI h1
    exact .inr ⟨a, us, i, w, rfl, a2.int, s1, g1, k.here e g2⟩
  case rol.int xs i =>
    obtain ⟨y, h1, z⟩ := map_some h
    cases z
    obtain ⟨a, us, rfl, s1, r1⟩ := a1.rol
    obtain ⟨w, g1, g2⟩ := r1.atI h1
    exact .inl ⟨a, us, i, w, rfl, a2.int, s1, g1, k.here e g2⟩
theorem cut_reps {ds : List D} {xs : List V} (lo hi : Option Int) (r : Reps K M H ds xs) : Reps K M H (cutD ds lo hi) (cutV xs lo hi) := by
  unfold cutD cutV
  rw [← r.length]
  exact (r.drop _).take _
def rSlZ (K : PySem.W.Frag) : V → Option Int → Option Int → Hp → VK → Prop := fun x lo hi H Q => rSlL K x lo hi H Q ∨ rSlA K x lo hi H Q
theorem cut_whole {xs : List V} {lo hi : Option Int} (h : HT.sIx xs.length 0 lo = 0 ∧ HT.sIx xs.length xs.length hi = xs.length) : cutV xs lo hi = xs := by
  unfold cutV
  rw [h.1, h.2]
  simp
theorem p_sl {lo hi : Option Int} (e : EnvOk K M H σ env) (h : pSl lo hi d1 = some (d, fr)) (a1 : AnyR K M H d1 v1) (k : Kont K M H σ env d fr Q) : rSlZ K v1 lo hi H Q := by
  cases d1 <;> try (simp [pSl] at h; done)
  case lst xs =>
    cases h
    obtain ⟨a, us, rfl, s1, r1⟩ := a1.lst
    exact .inl ⟨a, us, rfl, .inl (.inl s1), fun p hp => k.lst e (cut_reps lo hi r1) hp⟩
  case tup xs =>
    cases h
    obtain ⟨a, us, rfl, s1, r1⟩ := a1.tup
    refine .inr ⟨a, us, rfl, s1, fun w => k.here e (.tup s1 ?_), fun _ p hp => k.tup e (cut_reps lo hi r1) hp⟩
    have := cut_reps lo hi r1
    rw [cut_whole w] at this
    exact this
theorem p_isn (e : EnvOk K M H σ env) (h : some (D.bl (isNonD d1), false) = some (d, fr)) (a1 : AnyR K M H d1 v1) (k : Kont K M H σ env d fr Q) : Q (.bl (decide (v1 = .non))) H := by
  cases h
  have : decide (v1 = .non) = isNonD d1 := by
    cases d1 with
    | non => rw [a1.non]; rfl
    | bl _ => rw [a1.bl]; rfl
    | int _ => rw [a1.int]; rfl
    | str _ => rw [a1.str]; rfl
    | tup _ => obtain ⟨_, _, rfl, _⟩ := a1.tup; rfl
    | lst _ => obtain ⟨_, _, rfl, _⟩ := a1.lst; rfl
    | rol _ => obtain ⟨_, _, rfl, _⟩ := a1.rol; rfl
    | fn _ => obtain ⟨_, rfl, _⟩ := a1.fn; rfl
  rw [this]
  exact k.here e (.bl _)
theorem p_notn (e : EnvOk K M H σ env) (h : some (D.bl (!isNonD d1), false) = some (d, fr)) (a1 : AnyR K M H d1 v1) (k : Kont K M H σ env d fr Q) : Q (.bl (!decide (v1 = .non))) H := by
  cases h
  have : decide (v1 = .non) = isNonD d1 := by
    cases d1 with
    | non => rw [a1.non]; rfl
    | bl _ => rw [a1.bl]; rfl
    | int _ => rw [a1.int]; rfl
    | str _ => rw [a1.str]; rfl
    | tup _ => obtain ⟨_, _, rfl, _⟩ := a1.tup; rfl
    | lst _ => obtain ⟨_, _, rfl, _⟩ := a1.lst; rfl
    | rol _ => obtain ⟨_, _, rfl, _⟩ := a1.rol; rfl
    | fn _ => obtain ⟨_, rfl, _⟩ := a1.fn; rfl
  rw [this]
  exact k.here e (.bl _)
theorem p_neg (e : EnvOk K M H σ env) (h : pNeg d1 = some (d, fr)) (a1 : AnyR K M H d1 v1) (k : Kont K M H σ env d fr Q) : rU (fun i => .int (-i)) v1 H Q := by
  cases d1 <;> try (simp [pNeg] at h; done)
  case int i =>
    cases h
    exact ⟨i, a1.int, k.here e (.int _)⟩
theorem p_int (e : EnvOk K M H σ env) (h : pInt d1 = some (d, fr)) (a1 : AnyR K M H d1 v1) (k : Kont K M H σ env d fr Q) : (∃ i, [v1] = [.int i] ∧ Q (.int i) H) ∨ ∃ k, [v1] = [.bl k] ∧ Q (.int (if k then 1 else 0)) H := by
  cases d1 <;> try (simp [pInt] at h; done)
  case int i =>
    cases h
    exact .inl ⟨i, by rw [a1.int], k.here e (.int _)⟩
  case bl i =>
    cases h
    exact .inr ⟨i, by rw [a1.bl], k.here e (.int _)⟩
theorem p_abs (e : EnvOk K M H σ env) (h : pAbs d1 = some (d, fr)) (a1 : AnyR K M H d1 v1) (k : Kont K M H σ env d fr Q) : ∃ i, [v1] = [.int i] ∧ Q (.int (if i < 0 then -i else i)) H := by
  cases d1 <;> try (simp [pAbs] at h; done)
  case int i =>
    cases h
    exact ⟨i, by rw [a1.int], k.here e (.int _)⟩
/-- repr(..) of data -/
def rRepr (K : PySem.W.Frag) (vs : List V) (H : Hp) (Q : VK) : Prop := ∃ v d, vs = [v] ∧ Dp K H v d ∧ d.showable = true ∧ d.hasDict = false ∧ d.depth ≤ 60 ∧ d.shown.length ≤ sizeLine ∧ Q (.str d.shown) H
theorem call_reprD {X : Cx} (hg : X.A.guards = some []) (hu : X.A.units + 64 < cLine) : CallR X (.builtin "repr") (rRepr X.K) := by
  intro pins s σ H xs us Q I r h
  obtain ⟨v, d, rfl, hd, hs, hn, hdp, hz, q⟩ := h
  obtain ⟨u, rfl, r1⟩ := vals1 r
  obtain ⟨as, rd⟩ := Dp.reads I d v u hd r1
  cases rd with
  | none => exact PySem.P.repr_of_none ⟨.str _, H, I.tok _, ⟨_, rfl⟩, q⟩
  | bool b => exact PySem.P.repr_of_bool ⟨.str _, H, I.tok _, ⟨_, rfl⟩, q⟩
  | int i t => exact PySem.P.repr_of_int (by simpa [PyData.showable] using hs) ⟨.str _, H, I.tok _, ⟨_, rfl⟩, q⟩
  | str x t => exact PySem.P.repr_of_str ⟨.str _, H, I.tok _, ⟨_, rfl⟩, q⟩ hz
  | list h1 h2 h3 h4 => exact repr_of_reads' (.list h1 h2 h3 h4) hs (PyData.noDict_hsm hn) hg (by omega) (fun _ _ e => e) (fun h' u tk hk => ⟨.str _, H, I.kept hk, ⟨_, rfl⟩, q⟩) hz
  | tuple h1 h2 h3 h4 => exact repr_of_reads' (.tuple h1 h2 h3 h4) hs (PyData.noDict_hsm hn) hg (by omega) (fun _ _ e => e) (fun h' u tk hk => ⟨.str _, H, I.kept hk, ⟨_, rfl⟩, q⟩) hz
  | dict h1 h2 h3 h4 h5 => simp [PyData.hasDict] at hn
theorem p_repr (e : EnvOk K M H σ env) (h : pRepr d1 = some (d, fr)) (a1 : AnyR K M H d1 v1) (k : Kont K M H σ env d fr Q) : rRepr K [v1] H Q := by
  obtain ⟨hc, z⟩ := ite_some h
  cases z
  simp only [D.shw, Bool.and_eq_true, decide_eq_true_eq] at hc
  obtain ⟨⟨⟨h1, h2⟩, h3⟩, h4⟩ := hc
  refine ⟨_, _, rfl, a1.dp h1, h2, PyData.hasDict_of_canLay _ (SeqAt.canLay_of_shaped h1), h3, Nat.le_trans h4 (by rw [sizeLine_eq]; omega), k.here e (.str _)⟩
theorem p_lrev (e : EnvOk K M H σ env) (h : pLrev d1 = some (d, fr)) (a1 : AnyR K M H d1 v1) (k : Kont K M H σ env d fr Q) : ∃ (a : Addr) (xs : List V), v1 = .ref a ∧ SqL K H a xs ∧ ∀ q, H q = none → Q (.ref q) (upd H q (.lst xs.reverse)) := by
  cases d1 <;> try (simp [pLrev] at h; done)
  case lst xs =>
    cases h
    obtain ⟨a, us, rfl, s1, r1⟩ := a1.lst
    exact ⟨a, us, rfl, .inl (.inl s1), fun q hq => k.lst e r1.reverse hq⟩
theorem p_len (e : EnvOk K M H σ env) (h : pLen d1 = some (d, fr)) (a1 : AnyR K M H d1 v1) (k : Kont K M H σ env d fr Q) : ∃ p ys, [v1] = [.ref p] ∧ (SqL K H p ys ∨ SqT K H p ys) ∧ Q (.int ys.length) H := by
  cases d1 <;> try (simp [pLen] at h; done)
  case lst xs =>
    cases h
    obtain ⟨a, us, rfl, s1, r1⟩ := a1.lst
    exact ⟨a, us, rfl, .inl (.inl (.inl s1)), by rw [← r1.length]; exact k.here e (.int _)⟩
  case tup xs =>
    cases h
    obtain ⟨a, us, rfl, s1, r1⟩ := a1.tup
    exact ⟨a, us, rfl, .inr s1, by rw [← r1.length]; exact k.here e (.int _)⟩
  case rol xs =>
    cases h
    obtain ⟨a, us, rfl, s1, r1⟩ := a1.rol
    exact ⟨a, us, rfl, .inl s1, by rw [← r1.length]; exact k.here e (.int _)⟩
theorem p_list (e : EnvOk K M H σ env) (h : pList d1 = some (d, fr)) (a1 : AnyR K M H d1 v1) (k : Kont K M H σ env d fr Q) : ∃ p ys, [v1] = [.ref p] ∧ (SqL K H p ys ∨ SqT K H p ys) ∧ ∀ l, H l = none → Q (.ref l) (upd H l (.lst ys)) := by
  cases d1 <;> try (simp [pList] at h; done)
  case lst xs =>
    cases h
    obtain ⟨a, us, rfl, s1, r1⟩ := a1.lst
    exact ⟨a, us, rfl, .inl (.inl (.inl s1)), fun p hp => k.lst e r1 hp⟩
  case tup xs =>
    cases h
    obtain ⟨a, us, rfl, s1, r1⟩ := a1.tup
    exact ⟨a, us, rfl, .inr s1, fun p hp => k.lst e r1 hp⟩
theorem p_gcd (e : EnvOk K M H σ env) (h : pGcd d1 d2 = some (d, fr)) (a1 : AnyR K M H d1 v1) (a2 : AnyR K M H d2 v2) (k : Kont K M H σ env d fr Q) : rGcd [v1, v2] H Q := by
  cases d1 <;> cases d2 <;> try (simp [pGcd] at h; done)
  case int.int i j =>
    cases h
    exact ⟨i, j, by rw [a1.int, a2.int], k.here e (.int _)⟩
def tyN : D → String
  | .non => "NoneType" | .bl _ => "bool" | .int _ => "int" | .str _ => "str" | .tup _ => "tuple" | .lst _ => "list" | .rol _ => "list" | .fn _ => "function"
theorem isiD_kit {T : Ty5} {b : Bool} (h : isiD d T = some b) : L2.kitB (tyN d) T.nm = some b := by
  cases d <;> cases T <;> first
    | (simp [isiD] at h; done)
    | (cases h; simp only [tyN, Ty5.nm]; decide +kernel)
theorem AnyR.ty (h : AnyR K M H d v) (n : ∀ ds, d ≠ .rol ds) (n2 : ∀ x, d ≠ .fn x) : TyX K H v (.type (tyN d)) := by
  cases d with
  | non => rw [h.non]; exact .base .non
  | bl _ => rw [h.bl]; exact .base (.bl _)
  | int _ => rw [h.int]; exact .base (.int _)
  | str _ => rw [h.str]; exact .base (.str _)
  | tup _ =>
    obtain ⟨a, us, rfl, s1, r1⟩ := h.tup
    rcases s1 with (s1 | ⟨o, s1⟩) | ⟨o, its, n, s1, s2, _⟩
    · exact .base (.tup s1)
    · exact .fTuple s1
    · exact .kTuple s1 s2
  | lst _ => obtain ⟨a, us, rfl, s1, r1⟩ := h.lst; exact .base (.lst s1)
  | rol ds => exact absurd rfl (n ds)
  | fn x => exact absurd rfl (n2 x)
theorem p_isi {T : Ty5} (e : EnvOk K M H σ env) (h : ((isiD d1 T).map fun b => (D.bl b, false)) = some (d, fr)) (a1 : AnyR K M H d1 v1) (k : Kont K M H σ env d fr Q) : rIsi K [v1, .ty T.nm] H Q := by
  obtain ⟨b, h1, z⟩ := map_some h
  cases z
  exact ⟨v1, .ty T.nm, .type (tyN d1), .type T.nm, b, rfl, .ty _, a1.ty (fun ds z => by subst z; cases T <;> cases h1) (fun ds z => by subst z; cases T <;> cases h1), kit_ty (isiD_kit h1), k.here e (.bl _)⟩
end
end Z
namespace Z
open PySem PySem.Spec PyProof.Rows L2
section
variable {K : PySem.W.Frag} {pin : Nat → Bool} {M M' M1 M2 : Mk} {H H' H1 H2 : Hp} {σ σ' σ1 σ2 : L2.St} {env env' env1 env2 : En} {d d1 d2 : D} {v v1 v2 : V} {fr : Bool} {Q : VK}
theorem Fil1.keeps (mok : ∀ a, M a → ∃ xs, H a = some (.lst xs)) (k : Keeps M H M' H') : ∀ {p : PV}, Fil1 K M H σ p v → Fil1 K M' H' σ p v
  | .val _, h => Rep.keeps mok k h
  | .at _, h => h
theorem Fils.keeps (mok : ∀ a, M a → ∃ xs, H a = some (.lst xs)) (k : Keeps M H M' H') : ∀ {ps : List PV} {vs : List V}, Fils K M H σ ps vs → Fils K M' H' σ ps vs
  | _, _, .nil => .nil
  | _, _, .cons h r => .cons (h.keeps mok k) (Fils.keeps mok k r)
/-- the value that an operand has at last -/
theorem fill1_any (e : EnvOk K M H σ env) {p : PV} (h : Fil1 K M H σ p v) (g : fill1 env p = some d) : AnyR K M H d v := by
  cases p with
  | val x => cases g; exact .of h
  | «at» i =>
    simp only [fill1] at g
    split at g
    · rename_i d' m q
      cases g
      obtain ⟨w, h1, h2⟩ := e.slot i _ m q
      have h : σ[i]? = some (some v) := h
      rw [h] at h1
      cases h1
      exact ⟨m, h2⟩
    · cases g
inductive AnyRs (K : PySem.W.Frag) (M : Mk) (H : Hp) : List D → List V → Prop
  | nil : AnyRs K M H [] []
  | cons {d : D} {ds : List D} {v : V} {vs : List V} : AnyR K M H d v → AnyRs K M H ds vs → AnyRs K M H (d :: ds) (v :: vs)
theorem fill_any (e : EnvOk K M H σ env) : ∀ {ps : List PV} {vs : List V} {ds : List D}, Fils K M H σ ps vs → fill env ps = some ds → AnyRs K M H ds vs
  | _, _, _, .nil, g => by cases g; exact .nil
  | p :: ps, _, ds, .cons h r, g => by
    simp only [fill] at g
    split at g
    · rename_i x xs g1 g2
      cases g
      exact .cons (fill1_any e h g1) (fill_any e r g2)
    · cases g
theorem lockOf_own {p : PV} {i : Nat} (h : lockOf env p = some i) : ∃ d, env[i]? = some (some (d, .own)) ∧ p = .at i := by
  cases p with
  | val x => cases h
  | «at» j =>
    simp only [lockOf] at h
    split at h
    · rename_i d q
      cases h
      exact ⟨d, q, rfl⟩
    · cases h
/-- an owned name -/
def OwnO (env : En) : Option Nat → Prop
  | some i => ∃ d, env[i]? = some (some (d, .own))
  | none => True
theorem lock_get {o : Option Nat} (h : OwnO env o) {j : Nat} {d : D} {m : Mo} (g : (lock o env)[j]? = some (some (d, m))) :
    (o = some j ∧ m = .lck ∧ env[j]? = some (some (d, .own))) ∨ (o ≠ some j ∧ env[j]? = some (some (d, m))) := by
  cases o with
  | none => exact .inr ⟨by simp, g⟩
  | some i =>
    obtain ⟨d', h⟩ := h
    simp only [lock, h] at g
    rcases set_get g with ⟨rfl, z, _⟩ | ⟨n, g⟩
    · cases z
      exact .inl ⟨rfl, rfl, h⟩
    · exact .inr ⟨fun z => n (Option.some.inj z), g⟩
theorem lock_len {o : Option Nat} : (lock o env).length = env.length := by
  unfold lock
  split
  · split
    · exact List.length_set
    · rfl
  · rfl
theorem unlock_len {o : Option Nat} : (unlock o env).length = env.length := by
  unfold unlock
  split
  · split
    · exact List.length_set
    · rfl
  · rfl
theorem lock_own {o : Option Nat} (h : OwnO env o) {i : Nat} {a : Addr} (g : OwnAt σ (lock o env) i a) : OwnAt σ env i a ∧ o ≠ some i := by
  obtain ⟨d, g1, g2⟩ := g
  rcases lock_get h g1 with ⟨_, z, _⟩ | ⟨n, g1⟩
  · cases z
  · exact ⟨⟨d, g1, g2⟩, n⟩
theorem lock_held {o : Option Nat} (h : OwnO env o) {i : Nat} {a : Addr} (g : Held σ (lock o env) i a) : Held σ env i a := by
  obtain ⟨d, m, hm, g1, g2⟩ := g
  rcases lock_get h g1 with ⟨_, z, g1⟩ | ⟨n, g1⟩
  · exact ⟨d, .own, by decide, g1, g2⟩
  · exact ⟨d, m, hm, g1, g2⟩
theorem EnvOk.lock {o : Option Nat} (e : EnvOk K M H σ env) (h : OwnO env o) : EnvOk K M H σ (lock o env) :=
  ⟨by rw [lock_len]; exact e.len, fun i d m g => by
    rcases lock_get h g with ⟨_, rfl, g'⟩ | ⟨_, g'⟩
    · exact e.slot i d .own g'
    · exact e.slot i d m g', fun i j a n g1 g2 => e.apart i j a n (lock_own h g1).1 (lock_held h g2), e.mok⟩
theorem lock_wr {o : Option Nat} (h : OwnO env o) {a : Addr} (g : Wr σ (lock o env) a) : Wr σ env a := by
  obtain ⟨i, g⟩ := g
  exact ⟨i, (lock_own h g).1⟩
/-- the locked list is not written -/
theorem lock_nowr {i : Nat} (e : EnvOk K M H σ env) {d : D} {a : Addr} (h : env[i]? = some (some (d, .own))) (hs : σ[i]? = some (some (.ref a))) : ¬ Wr σ (Z.lock (some i) env) a := fun ⟨j, g⟩ => by
  have q := lock_own (o := some i) ⟨d, h⟩ g
  exact e.apart i j a (fun z => q.2 (by rw [z])) ⟨d, h, hs⟩ q.1.held
theorem isl_lock {o : Option Nat} (h : OwnO env o) (j : Nat) : IsL (Z.lock o env) j ↔ (o = some j ∨ IsL env j) := by
  constructor
  · rintro ⟨d, g⟩
    rcases lock_get h g with ⟨z, _, _⟩ | ⟨_, g⟩
    · exact .inl z
    · exact .inr ⟨d, g⟩
  · rintro (z | ⟨d, g⟩)
    · subst z
      obtain ⟨d, h⟩ := h
      refine ⟨d, ?_⟩
      simp only [Z.lock, h]
      exact List.getElem?_set_self (lt_of_get h)
    · cases o with
      | none => exact ⟨d, g⟩
      | some i =>
        obtain ⟨d', h⟩ := h
        refine ⟨d, ?_⟩
        simp only [Z.lock, h]
        rw [List.getElem?_set_ne (fun z => by subst z; rw [h] at g; cases g)]
        exact g
theorem unlock_get {o : Option Nat} {j : Nat} {d : D} {m : Mo} (g : (unlock o env)[j]? = some (some (d, m))) :
    (o = some j ∧ m = .own ∧ ∃ m', env[j]? = some (some (d, m'))) ∨ (o ≠ some j ∧ env[j]? = some (some (d, m))) := by
  cases o with
  | none => exact .inr ⟨by simp, g⟩
  | some i =>
    simp only [unlock] at g
    split at g
    · rename_i d' m' q
      rcases set_get g with ⟨rfl, z, _⟩ | ⟨n, g⟩
      · cases z
        exact .inl ⟨rfl, rfl, m', q⟩
      · exact .inr ⟨fun z => n (Option.some.inj z), g⟩
    · rename_i q
      refine .inr ⟨fun z => ?_, g⟩
      cases z
      exact q _ _ g
/-- behind the loop the list is owned again -/
theorem unlock_ok {o : Option Nat} (e : EnvOk K M H σ env) (h : OwnO env o) (e2 : EnvOk K M2 H2 σ2 env2) (s : Stp pin M H σ (Z.lock o env) M2 H2 σ2 env2) :
    EnvOk K M2 H2 σ2 (unlock o env2) ∧ Stp pin M H σ env M2 H2 σ2 (unlock o env2) := by
  have keyL : ∀ i, o = some i → ∃ d d2 a, env[i]? = some (some (d, .own)) ∧ env2[i]? = some (some (d2, .lck)) ∧ σ[i]? = some (some (.ref a)) ∧ σ2[i]? = some (some (.ref a)) := fun i z => by
    subst z
    have l1 : IsL (Z.lock (some i) env) i := (isl_lock h i).mpr (.inl rfl)
    obtain ⟨d2, g2⟩ := (s.lck i).mpr l1
    obtain ⟨d, g⟩ := h
    obtain ⟨v, h1, ds, a, xs, _, rfl, _⟩ := e.slot i d .own g
    exact ⟨d, d2, a, g, g2, h1, by rw [s.lkσ i l1, h1]⟩
  have ownU : ∀ {j a}, OwnAt σ2 (unlock o env2) j a → (o = some j ∧ OwnAt σ env j a) ∨ (o ≠ some j ∧ OwnAt σ2 env2 j a) := fun {j a} g => by
    obtain ⟨d, g1, g2⟩ := g
    rcases unlock_get g1 with ⟨z, _, m', g1⟩ | ⟨n, g1⟩
    · obtain ⟨d0, d2, b, k1, k2, k3, k4⟩ := keyL j z
      rw [k4] at g2
      cases g2
      exact .inl ⟨z, d0, k1, k3⟩
    · exact .inr ⟨n, d, g1, g2⟩
  have heldU : ∀ {j a}, Held σ2 (unlock o env2) j a → Held σ2 env2 j a := fun {j a} g => by
    obtain ⟨d, m, hm, g1, g2⟩ := g
    rcases unlock_get g1 with ⟨z, _, m', g1⟩ | ⟨n, g1⟩
    · obtain ⟨d0, d2, b, k1, k2, k3, k4⟩ := keyL j z
      exact ⟨d2, .lck, by decide, k2, g2⟩
    · exact ⟨d, m, hm, g1, g2⟩
  refine ⟨⟨by rw [unlock_len]; exact e2.len, fun i d m g => ?_, fun i j a n g1 g2 => ?_, e2.mok⟩, ⟨fun a u g n => s.heap a u g fun w => n (lock_wr h w), s.dom, s.mold, fun a m n => s.mkeep a m fun w => n (lock_wr h w), fun j a g => ?_, fun j => ?_, fun j l => s.lkσ j ((isl_lock h j).mpr (.inr l)), s.pinσ, fun j p q => ?_⟩⟩
  · rcases unlock_get g with ⟨z, rfl, m', g⟩ | ⟨n, g⟩
    · obtain ⟨d0, d2, b, k1, k2, k3, k4⟩ := keyL i z
      rw [k2] at g
      cases g
      exact e2.slot i _ .lck k2
    · exact e2.slot i d m g
  · rcases ownU g1 with ⟨z, g1⟩ | ⟨n1, g1⟩
    · -- the unlocked one
      have g2' := heldU g2
      obtain ⟨d0, d2, b, k1, k2, k3, k4⟩ := keyL i z
      obtain ⟨d1, g11, g12⟩ := g1
      rw [k3] at g12
      cases g12
      obtain ⟨d3, m3, hm3, g3, g4⟩ := g2'
      cases m3 with
      | frz => exact hm3 rfl
      | own => exact e2.apart j i _ (Ne.symm n) ⟨d3, g3, g4⟩ ⟨d2, .lck, by decide, k2, k4⟩
      | lck =>
        have l2 := (s.lck j).mp ⟨d3, g3⟩
        have sj := s.lkσ j l2
        rcases (isl_lock h j).mp l2 with z2 | ⟨d4, l3⟩
        · rw [z] at z2
          exact n (Option.some.inj z2)
        · exact e.apart i j _ n ⟨d0, k1, k3⟩ ⟨d4, .lck, by decide, l3, by rw [← sj]; exact g4⟩
    · exact e2.apart i j a n g1 (heldU g2)
  · rcases ownU g with ⟨_, g⟩ | ⟨_, g⟩
    · exact .inl g
    · exact (s.wr j a g).imp (fun x => (lock_own h x).1) id
  · constructor
    · rintro ⟨d, g⟩
      rcases unlock_get g with ⟨_, z, _⟩ | ⟨n, g⟩
      · cases z
      · rcases (isl_lock h j).mp ((s.lck j).mp ⟨d, g⟩) with z | z
        · exact absurd z n
        · exact z
    · rintro l
      obtain ⟨d, g⟩ := (s.lck j).mpr ((isl_lock h j).mpr (.inr l))
      refine ⟨d, ?_⟩
      cases o with
      | none => exact g
      | some i =>
        obtain ⟨d0, d2, b, k1, k2, k3, k4⟩ := keyL i rfl
        obtain ⟨d5, l⟩ := l
        simp only [unlock, k2]
        rw [List.getElem?_set_ne (fun z => by subst z; rw [k1] at l; cases l)]
        exact g
  · have q2 : ∃ t, (Z.lock o env)[j]? = some (some t) := by
      obtain ⟨t, q⟩ := q
      cases o with
      | none => exact ⟨t, q⟩
      | some i =>
        obtain ⟨d', h⟩ := h
        simp only [Z.lock, h]
        by_cases z : i = j
        · subst z
          exact ⟨_, List.getElem?_set_self (lt_of_get h)⟩
        · exact ⟨t, by rw [List.getElem?_set_ne z]; exact q⟩
    obtain ⟨t, g⟩ := s.pinS j p q2
    cases o with
    | none => exact ⟨t, g⟩
    | some i =>
      obtain ⟨d0, d2, b, k1, k2, k3, k4⟩ := keyL i rfl
      simp only [unlock, k2]
      by_cases z : i = j
      · subst z
        exact ⟨_, List.getElem?_set_self (lt_of_get k2)⟩
      · exact ⟨t, by rw [List.getElem?_set_ne z]; exact g⟩
end
end Z
namespace Z
open PySem PySem.Spec PyProof.Rows L2
structure Tab where
  names : List Str
  fns : Nat → Option Fn
  gls : List (Str × D)
  gcd : Bool
  cmb : Bool
  /-- own exceptions: the class, the field that its __init__ stores -/
  exs : List (Str × Option Str) := []
  /-- isinstance of an own exception, by a class -/
  sub : List (Str × Str × Bool) := []
  /-- which clause holds which own exception -/
  exc : List (Str × Str) := []
/-- the defs that are values: their indexes -/
def fnTb (T : Tab) : List (Str × Nat) := T.gls.filterMap fun p => match p.2 with
  | .fn y => (T.names.findIdx? (fun z => decide (z = y))).map fun j => (y, j)
  | _ => none
def slotOf (N : List Str) (x : Str) : Option Nat := N.findIdx? (fun y => decide (y = x))
def visB (sc : Scope) (x : Str) : Bool := (match sc.names.lookup x with | some .local => true | some .cell => true | some .free => true | _ => false) && !(x == ("__debug__" : Str)) && !(x == ("__classdict__" : Str))
def glB (sc : Scope) (x : Str) : Bool := (match sc.names.lookup x with | some .globalImplicit => true | _ => false) && !(x == ("__debug__" : Str)) && !(x == ("__name__" : Str))
def binP : Operator → Option Pr
  | .Add => some .add | .Sub => some .sub | .Mult => some .mul | .FloorDiv => some .fdiv | .Mod => some .mod | .Pow => some .pow | _ => none
def cmpP : CmpOp → Option Pr
  | .Eq => some .eq | .NotEq => some .ne | .Lt => some .lt | .LtE => some .le | .Gt => some .gt | .GtE => some .ge | .In => some .inn | .NotIn => some .notin | .Is => some .isb | .IsNot => some .nisb
def tyP (x : Str) : Option Ty5 :=
  if x = "tuple" then some .tuple else if x = "int" then some .int else if x = "bool" then some .bool else if x = "list" then some .list else if x = "str" then some .str else none
def allO {α : Type} : List (Option α) → Option (List α)
  | [] => some []
  | none :: _ => none
  | some a :: r => (allO r).map (a :: ·)
def isNone : Expr → Bool
  | .Constant .none _ _ => true
  | _ => false
/-- built-in functions of one argument -/
def prim1 (x : Str) : Option Pr := if x = "len" then some .len else if x = "abs" then some .abs else if x = "int" then some .int else if x = "list" then some .list else if x = "repr" then some .repr else none
def ownOf (N : List Str) (scope : Scope) : Option (List (Str × Nat)) :=
  allO ((scope.names.filter fun y => match y.2 with | .local => true | .cell => true | _ => false).map fun y => (slotOf N y.1).map fun i => (y.1, i))
def nmOf (N : List Str) (sc : Scope) : Expr → Option Nat
  | .Name x _ => if visB sc x then (match sc.names.lookup x with | some .free => none | _ => slotOf N x) else none
  | _ => none
def tgOf (N : List Str) (sc : Scope) : Expr → Option IG
  | .Tuple es _ _ => (allO (es.map (nmOf N sc))).map .tp
  | e => (nmOf N sc e).map .nm
variable (T : Tab) (N : List Str)
def callV : Expr → Option (Str × List Expr)
  | .Call fn as kw _ => match fn, kw with
    | .Name f _, [] => some (f, as)
    | _, _ => none
  | _ => none
def isTup : Expr → Bool
  | .Tuple _ _ _ => true
  | _ => false
def nameV : Expr → Option Str
  | .Name x _ => some x
  | _ => none
def intV : Expr → Option Nat
  | .Constant (.int r) _ _ => if 0 ≤ r ∧ r ≤ 10 then some r.toNat else none
  | _ => none
/-- list(reversed(b)): the name of the inner call, b -/
def revV (f : Str) (a : Expr) : Option (Str × Expr) := if f = "list" then match callV a with
    | some (g, [b]) => if g = "reversed" then some (g, b) else none
    | _ => none
  else none
mutual
def cE : Nat → Scope → Expr → Option IE
  | 0, _, _ => none
  | n + 1, sc, e => match e with
    | .Name x _ => if visB sc x then (slotOf N x).map .var else if glB sc x then (T.gls.lookup x).map .cst else none
    | .Constant c _ _ => (match c with
      | .int i => some (.cst (.int i))
      | .bool i => some (.cst (.bl i))
      | .str i => some (.cst (.str i))
      | .none => some (.cst .non)
      | _ => none)
    | .BinOp a op b _ => (match binP op, cA n sc a, cA n sc b with
      | some p, some x, some y => some (.op p [x, y])
      | _, _, _ => none)
    | .UnaryOp op a _ => (match op with
      | .USub => (cA n sc a).map fun x => .op .neg [x]
      | .Not => (cE n sc a).map .not
      | _ => none)
    | .BoolOp op vs pos => (match vs with
      | [] => none
      | [a] => cE n sc a
      | a :: b :: r => match cE n sc a, cE n sc (.BoolOp op (b :: r) pos) with
        | some x, some y => some (match op with | .And => .and x y | .Or => .or x y)
        | _, _ => none)
    | .Compare a ops bs _ => (match ops, bs with
      | [op], [b] => match op with
        | .Is => if isNone b then (cA n sc a).map fun x => .op .isn [x] else match cA n sc a, cA n sc b with
          | some x, some y => some (.op .isb [x, y])
          | _, _ => none
        | .IsNot => if isNone b then (cA n sc a).map fun x => .op .notn [x] else match cA n sc a, cA n sc b with
          | some x, some y => some (.op .nisb [x, y])
          | _, _ => none
        | op => match cmpP op, cA n sc a, cA n sc b with
          | some p, some x, some y => some (.op p [x, y])
          | _, _, _ => none
      | [p, q], [b, c] => match cmpP p, cmpP q, cE n sc a, cE n sc b, cE n sc c with
        | some p, some q, some x, some y, some z => some (.chain p q x y z)
        | _, _, _, _, _ => none
      | _, _ => none)
    | .IfExp c a b _ => (match cT n sc c, cE n sc a, cE n sc b with
      | some x, some y, some z => some (.ife x y z)
      | _, _, _ => none)
    | .Call fn as kw _ => (match nameV fn, kw with
      | some f, [] => if glB sc f then match T.names.findIdx? (fun y => decide (y = f)) with
          | some j => (allO (as.map (cA n sc))).map (.call j)
          | none => match as with
            | [a] => match revV f a with
              | some (g, b) => if glB sc g then (cA n sc b).map fun x => .op .lrev [x] else none
              | none => match prim1 f, cA n sc a with
                | some p, some x => some (.op p [x])
                | _, _ => none
            | [a, b] => if f = "isinstance" then match nameV b with
                | some t => if glB sc t then match tyP t, cA n sc a with
                    | some ty, some x => some (.op (.isi ty) [x])
                    | _, _ => none
                  else none
                | none => none
              else if f = "gcd" ∧ T.gcd = true then match cA n sc a, cA n sc b with
                | some x, some y => some (.op .gcd [x, y])
                | _, _ => none
              else none
            | _ => none
        else if visB sc f then match slotOf N f, as with
          | some i, a :: r => (allO ((a :: r).map (cA n sc))).map (.callv i (fnTb T))
          | _, _ => none
        else none
      | _, _ => none)
    | .Tuple es _ _ => (allO (es.map (cE n sc))).map .tup
    | .List es _ => (allO (es.map (cE n sc))).map .lst
    | .Subscript a b _ => (match b with
      | .Slice lo hi st _ => match st with
        | some _ => none
        | none => match lo, hi with
          | some l, some h => match cA n sc a, cE n sc l, cE n sc h with
            | some x, some y, some z => some (.op (.sl true true) [x, .val y, .val z])
            | _, _, _ => none
          | some l, none => match cA n sc a, cE n sc l with
            | some x, some y => some (.op (.sl true false) [x, .val y])
            | _, _ => none
          | none, some h => match cA n sc a, cE n sc h with
            | some x, some y => some (.op (.sl false true) [x, .val y])
            | _, _ => none
          | none, none => (cA n sc a).map fun x => .op (.sl false false) [x]
      | b => match cA n sc a, cA n sc b with
        | some x, some y => some (.op .ix [x, y])
        | _, _ => none)
    | .ListComp elt gens scope _ => (match gens with
      | [g] => if g.is_async = 0 then match ownOf N scope, tgOf N scope g.target, cI n sc g.target g.iter, cE n (relS scope sc) elt with
          | some own, some gt, some src, some x => if blkC N sc scope own && tgIn (own.map (·.2)) gt then match g.ifs with
              | [] => some (.comp (own.map (·.2)) gt src [] x)
              | [c] => (cT n (relS scope sc) c).map fun y => .comp (own.map (·.2)) gt src [y] x
              | _ => none
            else none
          | _, _, _, _ => none
        else none
      | _ => none)
    | _ => none
def cA : Nat → Scope → Expr → Option IA
  | 0, _, _ => none
  | n + 1, sc, e => match nameV e with
    | some x => if visB sc x then (slotOf N x).map .at else (cE n sc e).map .val
    | none => (cE n sc e).map .val
def cT : Nat → Scope → Expr → Option IT
  | 0, _, _ => none
  | n + 1, sc, e => match e with
    | .UnaryOp op a _ => (match op with
      | .Not => (cT n sc a).map .not
      | _ => none)
    | .BoolOp op vs pos => (match vs with
      | [] => none
      | [a] => cT n sc a
      | a :: b :: r => match cT n sc a, cT n sc (.BoolOp op (b :: r) pos) with
        | some x, some y => some (match op with | .And => .and x y | .Or => .or x y)
        | _, _ => none)
    | .IfExp _ _ _ _ => none
    | e => (cA n sc e).map .val
def cI : Nat → Scope → Expr → Expr → Option II
  | 0, _, _, _ => none
  | n + 1, sc, tg, e => match callV e with
    | some (f, as) => if glB sc f ∧ f = "range" then
        match as with
        | [a] => (cE n sc a).map fun y => .range (.cst (.int 0)) y
        | [a, b] => match cE n sc a, cE n sc b with
          | some x, some y => some (.range x y)
          | _, _ => none
        | _ => none
      else if glB sc f ∧ f = "enumerate" then
        match as with
        | [a] => if isTup tg then (cA n sc a).map .enum else none
        | _ => none
      else if glB sc f ∧ f = "combinations" ∧ T.cmb = true then
        match as with
        | [a, b] => match intV b with
          | some r => match callV a with
            | some (g, [c]) => if glB sc g ∧ g = "range" then (cE n sc c).map fun y => .cmbR y r else none
            | some _ => none
            | none => (cA n sc a).map fun y => .cmb y r
          | none => none
        | _ => none
      else if glB sc f ∧ f = "reversed" then
        match as with
        | [a] => (cA n sc a).map .rev
        | _ => none
      else if glB sc f ∧ f = "zip" then
        match as with
        | [a, b] => if isTup tg then match cA n sc a, cA n sc b with
            | some x, some y => some (.zipt x y)
            | _, _ => none
          else none
        | _ => none
      else (cA n sc e).map .over
    | none => (cA n sc e).map .over
end
end Z
namespace Z
open PySem PySem.Spec PyProof.Rows L2
section
variable {K : PySem.W.Frag} {W : XW} {C : Cl} {pin : Nat → Bool} {M M' M1 M2 : Mk} {H H' H1 H2 : Hp} {σ σ' σ1 σ2 : L2.St} {env env' env1 env2 : En} {d d1 d2 : D} {v v1 v2 : V} {fr : Bool} {Q : VK}
theorem op1 {p : Pr} {x : IA} {R : V → Hp → VK → Prop}
    (pr : ∀ {M : Mk} {H : Hp} {σ : L2.St} {env : En} {d1 d : D} {fr : Bool} {v1 : V} {Q : VK}, EnvOk K M H σ env → prB p [d1] = some (d, fr) → AnyR K M H d1 v1 → Kont K M H σ env d fr Q → R v1 H Q)
    (h : tZ K W (evE C (.op p [x])) σ H Q) : tP K W (evA C x) σ H (fun v H1 => R v H1 Q) := by
  obtain ⟨M, env, e, h⟩ := h
  refine ⟨M, env, e, ?_⟩
  unfold RP
  cases hx : evA C x env with
  | bad => simp [evE, evAs, hx, RZ] at h
  | ex => simp only [evE, evAs, hx, Out.bind_ex] at h; rcases slx_ex p _ _ with q | q <;> rw [q] at h; exact h; exact h.elim
  | ok p1 env1 =>
    intro M1 H1 v1 e1 s1 f1
    simp only [evE, evAs, hx, Out.bind_ok, slx_ok] at h
    cases hf : fill env1 [p1] with
    | none => rw [hf] at h; exact h.elim
    | some l =>
      rw [hf] at h
      have fa := fill_any e1 (.cons f1 .nil) hf
      cases fa with
      | cons a1 r =>
        cases r
        rename_i d1
        simp only at h
        cases hp : prB p [d1] with
        | none => rw [hp] at h; exact h.elim
        | some z =>
          obtain ⟨d, fr⟩ := z
          rw [hp] at h
          exact pr e1 hp a1 fun M' H' v e' s' r' => h M' H' v e' (s1.trans e.mok s') (r'.back s1)
theorem op2 {p : Pr} {x y : IA} {r : R2} (pr : P2T K (fun a b => prB p [a, b]) r) (h : tZ K W (evE C (.op p [x, y])) σ H Q) : tOp r (tP K W (evA C x)) (tP K W (evA C y)) σ H Q := by
  obtain ⟨M, env, e, h⟩ := h
  refine ⟨M, env, e, ?_⟩
  unfold RP
  cases hx : evA C x env with
  | bad => simp [evE, evAs, hx, RZ] at h
  | ex => simp only [evE, evAs, hx, Out.bind_ex] at h; rcases slx_ex p _ _ with q | q <;> rw [q] at h; exact h; exact h.elim
  | ok p1 env1 =>
    intro M1 H1 v1 e1 s1 f1
    refine ⟨M1, env1, e1, ?_⟩
    unfold RP
    cases hy : evA C y env1 with
    | bad => simp [evE, evAs, hx, hy, RZ] at h
    | ex => simp only [evE, evAs, hx, hy, Out.bind_ok, Out.bind_ex] at h; rcases slx_ex p _ _ with q | q <;> rw [q] at h; exact h.back e s1; exact h.elim
    | ok p2 env2 =>
      intro M2 H2 v2 e2 s2 f2
      simp only [evE, evAs, hx, hy, Out.bind_ok, slx_ok] at h
      have f1' := f1.keeps e1.mok (s2.keeps e1)
      have s12 := s1.trans e.mok s2
      cases hf : fill env2 [p1, p2] with
      | none => rw [hf] at h; exact h.elim
      | some l =>
        rw [hf] at h
        have fa := fill_any e2 (.cons f1' (.cons f2 .nil)) hf
        cases fa with
        | cons a1 r =>
          cases r with
          | cons a2 r =>
            cases r
            rename_i d1 d2
            simp only at h
            cases hp : prB p [d1, d2] with
            | none => rw [hp] at h; exact h.elim
            | some z =>
              obtain ⟨d, fr⟩ := z
              rw [hp] at h
              exact pr e2 hp a1 a2 fun M' H' v e' s' r' => h M' H' v e' (s12.trans e.mok s') (r'.back s12)
/-- an operand from an expression -/
theorem p_of_z {x : IE} (h : tP K W (evA C (.val x)) σ H Q) : tZ K W (evE C x) σ H Q := by
  obtain ⟨M, env, e, h⟩ := h
  refine ⟨M, env, e, ?_⟩
  unfold RZ
  simp only [evA] at h
  cases hx : evE C x env with
  | bad => rw [hx] at h; exact h.elim
  | ex => rw [hx] at h; exact h
  | ok z env1 =>
    rw [hx] at h
    intro M1 H1 v1 e1 s1 r1
    obtain ⟨M2, e2, s2, r2⟩ := r1.freeze e e1 s1
    exact h M2 H1 v1 e2 s2 r2
theorem p_of_at {i : Nat} (h : tP K W (evA C (.at i)) σ H Q) : tVar i σ H Q := by
  obtain ⟨M, env, e, h⟩ := h
  simp only [evA, peek] at h
  split at h
  · rename_i t q
    obtain ⟨d, m⟩ := t
    obtain ⟨v, h1, _⟩ := e.slot i d m q
    exact ⟨v, h1, h M H v e .refl h1⟩
  · exact h.elim
theorem z_of_var {i : Nat} (h : tZ K W (evE C (.var i)) σ H Q) : tVar i σ H Q := by
  obtain ⟨M, env, e, h⟩ := h
  simp only [evE] at h
  cases hx : getV i env with
  | bad => rw [hx] at h; exact h.elim
  | ex => unfold getV at hx; split at hx <;> cases hx
  | ok z env1 =>
    obtain ⟨d, fr⟩ := z
    obtain ⟨v, h1, rfl, M', h2, h3, h4⟩ := getV_ok e hx
    rw [hx] at h
    exact ⟨v, h1, h M' H v h2 h3 h4⟩
theorem es_tcons {x : IE} {xs : List IE} {Q : List V → Hp → Prop} (h : tDs K W (evEs C (x :: xs)) σ H Q) : tCons (tZ K W (evE C x)) (tDs K W (evEs C xs)) σ H Q := by
  obtain ⟨M, env, e, h⟩ := h
  refine ⟨M, env, e, ?_⟩
  unfold RZ
  simp only [evEs] at h
  cases hx : evE C x env with
  | bad => rw [hx] at h; exact h.elim
  | ex => rw [hx] at h; exact h
  | ok z env1 =>
    rw [hx] at h
    simp only [Out.bind_ok] at h
    intro M1 H1 v1 e1 s1 r1
    obtain ⟨M2, e2, s2, r2⟩ := r1.freeze e e1 s1
    refine ⟨M2, env1, e2, ?_⟩
    cases hy : evEs C xs env1 with
    | bad => rw [hy] at h; exact h.elim
    | ex => rw [hy] at h; exact h.back e s2
    | ok l env2 =>
      rw [hy] at h
      intro M3 H3 vs e3 s3 r3
      exact h M3 H3 (v1 :: vs) e3 (s2.trans e.mok s3) (.cons (r2.keeps e2.mok (s3.keeps e2)) r3)
theorem es_tnil {Q : List V → Hp → Prop} (h : tDs K W (evEs C []) σ H Q) : tNil σ H Q := by
  obtain ⟨M, env, e, h⟩ := h
  simp only [evEs] at h
  exact h M H [] e .refl .nil
theorem as_tcons {x : IA} {xs : List IA} {Q : List V → Hp → Prop} (h : tPs K W (evAs C (x :: xs)) σ H Q) : tCons (tP K W (evA C x)) (tPs K W (evAs C xs)) σ H Q := by
  obtain ⟨M, env, e, h⟩ := h
  refine ⟨M, env, e, ?_⟩
  unfold RP
  simp only [evAs] at h
  cases hx : evA C x env with
  | bad => rw [hx] at h; exact h.elim
  | ex => rw [hx] at h; exact h
  | ok z env1 =>
    rw [hx] at h
    simp only [Out.bind_ok] at h
    intro M1 H1 v1 e1 s1 r1
    refine ⟨M1, env1, e1, ?_⟩
    cases hy : evAs C xs env1 with
    | bad => rw [hy] at h; exact h.elim
    | ex => rw [hy] at h; exact h.back e s1
    | ok l env2 =>
      rw [hy] at h
      intro M3 H3 vs e3 s3 r3
      exact h M3 H3 (v1 :: vs) e3 (s1.trans e.mok s3) (.cons (r1.keeps e1.mok (s3.keeps e1)) r3)
theorem as_tnil {Q : List V → Hp → Prop} (h : tPs K W (evAs C []) σ H Q) : tNil σ H Q := by
  obtain ⟨M, env, e, h⟩ := h
  simp only [evAs] at h
  exact h M H [] e .refl .nil
theorem z_tup {xs : List IE} (h : tZ K W (evE C (.tup xs)) σ H Q) : tTup (tDs K W (evEs C xs)) σ H Q := by
  obtain ⟨M, env, e, h⟩ := h
  refine ⟨M, env, e, ?_⟩
  simp only [evE] at h
  cases hx : evEs C xs env with
  | bad => rw [hx] at h; exact h.elim
  | ex => rw [hx] at h; exact h
  | ok l env1 =>
    rw [hx] at h
    simp only [Out.bind_ok] at h
    intro M1 H1 vs e1 s1 r1
    split at h
    · rename_i hl
      refine ⟨by rw [← r1.length]; exact hl, fun p hp => ?_⟩
      obtain ⟨g1, g2, g3⟩ := alloc_tup e1 hp r1
      exact h _ _ _ g1 (s1.trans e.mok g2) g3
    · exact h.elim
theorem z_lst {xs : List IE} (h : tZ K W (evE C (.lst xs)) σ H Q) : tLst (tDs K W (evEs C xs)) σ H Q := by
  obtain ⟨M, env, e, h⟩ := h
  refine ⟨M, env, e, ?_⟩
  simp only [evE] at h
  cases hx : evEs C xs env with
  | bad => rw [hx] at h; exact h.elim
  | ex => rw [hx] at h; exact h
  | ok l env1 =>
    rw [hx] at h
    simp only [Out.bind_ok] at h
    intro M1 H1 vs e1 s1 r1
    split at h
    · rename_i hl
      refine ⟨by rw [← r1.length]; exact hl, fun p hp => ?_⟩
      obtain ⟨g1, g2, g3⟩ := alloc_lst e1 hp r1
      exact h _ _ _ g1 (s1.trans e.mok g2) (Res.back s1 g3)
    · exact h.elim
theorem z_and {x y : IE} (h : tZ K W (evE C (.and x y)) σ H Q) : tAndV (tZ K W (evE C x)) (tZ K W (evE C y)) σ H Q := by
  obtain ⟨M, env, e, h⟩ := h
  refine ⟨M, env, e, ?_⟩
  unfold RZ
  simp only [evE] at h
  cases hx : evE C x env with
  | bad => rw [hx] at h; exact h.elim
  | ex => rw [hx] at h; exact h
  | ok z env1 =>
    rw [hx] at h
    simp only [Out.bind_ok] at h
    intro M1 H1 v1 e1 s1 r1
    split at h
    · rename_i fr
      obtain ⟨M2, e2, s2, r2⟩ := r1.freeze e e1 s1
      refine ⟨true, (AnyR.of r2).bl, ?_⟩
      rw [if_pos rfl]
      refine ⟨M2, env1, e2, ?_⟩
      unfold RZ
      cases hy : evE C y env1 with
      | bad => rw [hy] at h; exact h.elim
      | ex => rw [hy] at h; exact h.back e s2
      | ok z2 env2 =>
        rw [hy] at h
        exact fun M3 H3 v3 e3 s3 r3 => h M3 H3 v3 e3 (s2.trans e.mok s3) (r3.back s2)
    · rename_i fr
      obtain ⟨M2, e2, s2, r2⟩ := r1.freeze e e1 s1
      refine ⟨false, (AnyR.of r2).bl, ?_⟩
      rw [if_neg Bool.false_ne_true]
      exact h M2 H1 _ e2 s2 (.bl false)
    · exact h.elim
theorem z_or {x y : IE} (h : tZ K W (evE C (.or x y)) σ H Q) : tOrV (tZ K W (evE C x)) (tZ K W (evE C y)) σ H Q := by
  obtain ⟨M, env, e, h⟩ := h
  refine ⟨M, env, e, ?_⟩
  unfold RZ
  simp only [evE] at h
  cases hx : evE C x env with
  | bad => rw [hx] at h; exact h.elim
  | ex => rw [hx] at h; exact h
  | ok z env1 =>
    rw [hx] at h
    simp only [Out.bind_ok] at h
    intro M1 H1 v1 e1 s1 r1
    split at h
    · rename_i fr
      obtain ⟨M2, e2, s2, r2⟩ := r1.freeze e e1 s1
      refine ⟨false, (AnyR.of r2).bl, ?_⟩
      rw [if_neg Bool.false_ne_true]
      refine ⟨M2, env1, e2, ?_⟩
      unfold RZ
      cases hy : evE C y env1 with
      | bad => rw [hy] at h; exact h.elim
      | ex => rw [hy] at h; exact h.back e s2
      | ok z2 env2 =>
        rw [hy] at h
        exact fun M3 H3 v3 e3 s3 r3 => h M3 H3 v3 e3 (s2.trans e.mok s3) (r3.back s2)
    · rename_i fr
      obtain ⟨M2, e2, s2, r2⟩ := r1.freeze e e1 s1
      refine ⟨true, (AnyR.of r2).bl, ?_⟩
      rw [if_pos rfl]
      exact h M2 H1 _ e2 s2 (.bl true)
    · exact h.elim
theorem z_not {x : IE} (h : tZ K W (evE C (.not x)) σ H Q) : tNotV (tZ K W (evE C x)) σ H Q := by
  obtain ⟨M, env, e, h⟩ := h
  refine ⟨M, env, e, ?_⟩
  unfold RZ
  simp only [evE] at h
  cases hx : evE C x env with
  | bad => rw [hx] at h; exact h.elim
  | ex => rw [hx] at h; exact h
  | ok z env1 =>
    rw [hx] at h
    simp only [Out.bind_ok] at h
    intro M1 H1 v1 e1 s1 r1
    split at h
    · rename_i b fr
      obtain ⟨M2, e2, s2, r2⟩ := r1.freeze e e1 s1
      exact ⟨b, (AnyR.of r2).bl, h M2 H1 _ e2 s2 (.bl _)⟩
    · exact h.elim
theorem z_ife {c : IT} {x y : IE} (h : tZ K W (evE C (.ife c x y)) σ H Q) : tIf (tB K W (evT C c)) (tZ K W (evE C x)) (tZ K W (evE C y)) σ H Q := by
  obtain ⟨M, env, e, h⟩ := h
  refine ⟨M, env, e, ?_⟩
  simp only [evE] at h
  cases hx : evT C c env with
  | bad => rw [hx] at h; exact h.elim
  | ex => rw [hx] at h; exact h
  | ok z env1 =>
    rw [hx] at h
    simp only [Out.bind_ok] at h
    intro M1 H1 e1 s1
    cases z with
    | true =>
      rw [if_pos rfl] at h ⊢
      refine ⟨M1, env1, e1, ?_⟩
      unfold RZ at h ⊢
      cases hy : evE C x env1 with
      | bad => rw [hy] at h; exact h.elim
      | ex => rw [hy] at h; exact h.back e s1
      | ok z2 env2 =>
        rw [hy] at h
        exact fun M3 H3 v3 e3 s3 r3 => h M3 H3 v3 e3 (s1.trans e.mok s3) (r3.back s1)
    | false =>
      rw [if_neg Bool.false_ne_true] at h ⊢
      refine ⟨M1, env1, e1, ?_⟩
      unfold RZ at h ⊢
      cases hy : evE C y env1 with
      | bad => rw [hy] at h; exact h.elim
      | ex => rw [hy] at h; exact h.back e s1
      | ok z2 env2 =>
        rw [hy] at h
        exact fun M3 H3 v3 e3 s3 r3 => h M3 H3 v3 e3 (s1.trans e.mok s3) (r3.back s1)
theorem z_chain {p q : Pr} {x y z : IE} {r r' : R2} (pr : P2T K (fun a b => prB p [a, b]) r) (pr' : P2T K (fun a b => prB q [a, b]) r') (h : tZ K W (evE C (.chain p q x y z)) σ H Q) :
    tChain r r' (tZ K W (evE C x)) (tZ K W (evE C y)) (tZ K W (evE C z)) σ H Q := by
  obtain ⟨M, env, e, h⟩ := h
  refine ⟨M, env, e, ?_⟩
  unfold RZ
  simp only [evE] at h
  cases hx : evE C x env with
  | bad => rw [hx] at h; exact h.elim
  | ex => rw [hx] at h; exact h
  | ok z1 env1 =>
    rw [hx] at h
    simp only [Out.bind_ok] at h
    intro M1 H1 v1 e1 s1 r1
    obtain ⟨M1', e1', s1', r1'⟩ := r1.freeze e e1 s1
    refine ⟨M1', env1, e1', ?_⟩
    unfold RZ
    cases hy : evE C y env1 with
    | bad => rw [hy] at h; exact h.elim
    | ex => rw [hy] at h; exact h.back e s1'
    | ok z2 env2 =>
      rw [hy] at h
      simp only [Out.bind_ok] at h
      intro M2 H2 v2 e2 s2 r2
      obtain ⟨M2', e2', s2', r2'⟩ := r2.freeze e1' e2 s2
      have s12 := s1'.trans e.mok s2'
      have a1 := AnyR.of (r1'.keeps e1'.mok (s2'.keeps e1'))
      split at h
      · rename_i fr hp
        refine pr e2' hp a1 (.of r2') fun M3 H3 v3 e3 s3 r3 => ?_
        obtain ⟨M3', e3', s3', r3'⟩ := r3.freeze e2' e3 s3
        refine ⟨true, (AnyR.of r3').bl, ?_⟩
        rw [if_pos rfl]
        refine ⟨M3', env2, e3', ?_⟩
        unfold RZ
        cases hz : evE C z env2 with
        | bad => rw [hz] at h; exact h.elim
        | ex => rw [hz] at h; exact h.back e (s12.trans e.mok s3')
        | ok z3 env3 =>
          rw [hz] at h
          simp only [Out.bind_ok] at h
          intro M4 H4 v4 e4 s4 r4
          obtain ⟨M4', e4', s4', r4'⟩ := r4.freeze e3' e4 s4
          have s34 := s3'.trans e2'.mok s4'
          have s1234 := s12.trans e.mok s34
          have a2 := AnyR.of (r2'.keeps e2'.mok (s34.keeps e2'))
          cases hq : prB q [z2.1, z3.1] with
          | none => rw [hq] at h; exact h.elim
          | some w =>
            rw [hq] at h
            exact pr' e4' hq a2 (.of r4') fun M5 H5 v5 e5 s5 r5 => h M5 H5 v5 e5 (s1234.trans e.mok s5) (r5.back s1234)
      · rename_i fr hp
        refine pr e2' hp a1 (.of r2') fun M3 H3 v3 e3 s3 r3 => ?_
        obtain ⟨M3', e3', s3', r3'⟩ := r3.freeze e2' e3 s3
        refine ⟨false, (AnyR.of r3').bl, ?_⟩
        rw [if_neg Bool.false_ne_true]
        exact h M3' H3 _ e3' (s12.trans e.mok s3') (.bl false)
      · exact h.elim
theorem t_val {x : IA} {Q : Bool → Hp → Prop} (h : tB K W (evT C (.val x)) σ H Q) : tP K W (evA C x) σ H fun v H1 => ∃ k, TruV K v H1 k ∧ (v = .bl k ∨ ∀ b, v ≠ .bl b) ∧ Q k H1 := by
  obtain ⟨M, env, e, h⟩ := h
  refine ⟨M, env, e, ?_⟩
  unfold RP
  simp only [evT] at h
  cases hx : evA C x env with
  | bad => rw [hx] at h; exact h.elim
  | ex => rw [hx] at h; exact h
  | ok z env1 =>
    rw [hx] at h
    simp only [Out.bind_ok] at h
    intro M1 H1 v1 e1 s1 f1
    cases hf : fill1 env1 z with
    | none => rw [hf] at h; exact h.elim
    | some d =>
      rw [hf] at h
      have a1 := fill1_any e1 f1 hf
      cases d with
      | non => rw [a1.non]; exact ⟨false, rfl, .inr (fun _ z => nomatch z), h M1 H1 e1 s1⟩
      | bl b => rw [a1.bl]; exact ⟨b, rfl, .inl rfl, h M1 H1 e1 s1⟩
      | int i =>
        rw [a1.int]
        refine ⟨i != 0, rfl, .inr (fun _ z => nomatch z), ?_⟩
        have q := h M1 H1 e1 s1
        have : (decide (i ≠ 0)) = (i != 0) := by by_cases z : i = 0 <;> simp [z]
        rw [this] at q
        exact q
      | fn x => exact h.elim
      | str s => exact h.elim
      | tup ds =>
        obtain ⟨a, us, rfl, q1, q2⟩ := a1.tup
        refine ⟨!us.isEmpty, .inr (.inl ⟨us, q1, rfl⟩), .inr (fun _ z => nomatch z), ?_⟩
        have q := h M1 H1 e1 s1
        have : ds.isEmpty = us.isEmpty := by cases q2 <;> rfl
        rw [this] at q
        exact q
      | lst ds =>
        obtain ⟨a, us, rfl, q1, q2⟩ := a1.lst
        refine ⟨!us.isEmpty, .inl ⟨us, .inl (.inl q1), rfl⟩, .inr (fun _ z => nomatch z), ?_⟩
        have q := h M1 H1 e1 s1
        have : ds.isEmpty = us.isEmpty := by cases q2 <;> rfl
        rw [this] at q
        exact q
      | rol ds => exact h.elim
theorem t_and {x y : IT} {Q : Bool → Hp → Prop} (h : tB K W (evT C (.and x y)) σ H Q) : tAnd (tB K W (evT C x)) (tB K W (evT C y)) σ H Q := by
  obtain ⟨M, env, e, h⟩ := h
  refine ⟨M, env, e, ?_⟩
  simp only [evT] at h
  cases hx : evT C x env with
  | bad => rw [hx] at h; exact h.elim
  | ex => rw [hx] at h; exact h
  | ok z env1 =>
    rw [hx] at h
    simp only [Out.bind_ok] at h
    intro M1 H1 e1 s1
    cases z with
    | true =>
      rw [if_pos rfl] at h ⊢
      refine ⟨M1, env1, e1, ?_⟩
      cases hy : evT C y env1 with
      | bad => rw [hy] at h; exact h.elim
      | ex => rw [hy] at h; exact h.back e s1
      | ok z2 env2 =>
        rw [hy] at h
        exact fun M3 H3 e3 s3 => h M3 H3 e3 (s1.trans e.mok s3)
    | false =>
      rw [if_neg Bool.false_ne_true] at h ⊢
      exact h M1 H1 e1 s1
theorem t_or {x y : IT} {Q : Bool → Hp → Prop} (h : tB K W (evT C (.or x y)) σ H Q) : tOr (tB K W (evT C x)) (tB K W (evT C y)) σ H Q := by
  obtain ⟨M, env, e, h⟩ := h
  refine ⟨M, env, e, ?_⟩
  simp only [evT] at h
  cases hx : evT C x env with
  | bad => rw [hx] at h; exact h.elim
  | ex => rw [hx] at h; exact h
  | ok z env1 =>
    rw [hx] at h
    simp only [Out.bind_ok] at h
    intro M1 H1 e1 s1
    cases z with
    | false =>
      rw [if_neg Bool.false_ne_true] at h ⊢
      refine ⟨M1, env1, e1, ?_⟩
      cases hy : evT C y env1 with
      | bad => rw [hy] at h; exact h.elim
      | ex => rw [hy] at h; exact h.back e s1
      | ok z2 env2 =>
        rw [hy] at h
        exact fun M3 H3 e3 s3 => h M3 H3 e3 (s1.trans e.mok s3)
    | true =>
      rw [if_pos rfl] at h ⊢
      exact h M1 H1 e1 s1
theorem t_not {x : IT} {Q : Bool → Hp → Prop} (h : tB K W (evT C (.not x)) σ H Q) : tNot (tB K W (evT C x)) σ H Q := by
  obtain ⟨M, env, e, h⟩ := h
  refine ⟨M, env, e, ?_⟩
  simp only [evT] at h
  cases hx : evT C x env with
  | bad => rw [hx] at h; exact h.elim
  | ex => rw [hx] at h; exact h
  | ok z env1 =>
    rw [hx] at h
    exact fun M1 H1 e1 s1 => h M1 H1 e1 s1
end
end Z
namespace Z
open PySem PySem.Spec PyProof.Rows L2
structure CStp (K : PySem.W.Frag) (M : Mk) (H : Hp) (as : List (D × Mo)) (vs : List V) (outs : List (D × Mo)) (M' : Mk) (H' : Hp) : Prop where
  heap : ∀ a o, H a = some o → ¬ Wr (vs.map some) (as.map some) a → H' a = some o
  dom : ∀ a, H a ≠ none → H' a ≠ none
  mold : ∀ a, H a ≠ none → M' a → M a
  mkeep : ∀ a, M a → ¬ Wr (vs.map some) (as.map some) a → M' a
  mok : ∀ a, M' a → ∃ xs, H' a = some (.lst xs)
  outs : ∀ (i : Nat) (d : D) (v : V), as[i]? = some (d, .own) → vs[i]? = some v → ∃ d' m', outs[i]? = some (d', m') ∧ m' ≠ Mo.lck ∧ SlotRep K M' H' d' m' v
def ResC (K : PySem.W.Frag) (M' : Mk) (H' : Hp) (H : Hp) (d : D) (fr : Bool) (v : V) : Prop := match fr with
  | false => Rep K M' H' d v
  | true => ∃ ds a xs, d = .lst ds ∧ v = .ref a ∧ H a = none ∧ M' a ∧ H' a = some (.lst xs) ∧ Reps K M' H' ds xs
def fullK (T : Nat → Option Fn) (k : Nat) (F : Fn) (bs : List (D × Mo)) : CR := match k with
  | 0 => .bad
  | k + 1 => runFull (callK T k) F bs
theorem callK_eq (T : Nat → Option Fn) (k f : Nat) (as : List (D × Mo)) : callK T k f as = match T f with | some F => fullK T k F (withDv F as) | none => .bad := by
  cases k with
  | zero => unfold callK fullK; cases T f <;> rfl
  | succ k => rfl
/-- how an exception stands in the heap: its class, its dict -/
abbrev XV := Ex → Value → Option Addr → Hp → Prop
/-- what a def promises: what its body does, at this depth -/
def spZ (K : PySem.W.Frag) (xv : XV) (T : Nat → Option Fn) (k : Nat) (F : Fn) : Sp := fun vs H Q E => vs.length = F.np ∧ ∃ M as, EnvOk K M H (vs.map some) (as.map some) ∧ match fullK T k F as with
  | .ok d fr outs => ∀ M' H' v, CStp K M H as vs outs M' H' → ResC K M' H' H d fr v → Q v H'
  | .ex x outs => ∀ M' H', CStp K M H as vs outs M' H' → ∀ cls d, xv x cls d H' → E cls d H'
  | .bad => False
section
variable {K : PySem.W.Frag} {M M' M1 M2 : Mk} {H H' H1 H2 : Hp} {σ σ' σ1 σ2 : L2.St} {env env' env1 env2 : En} {Q : VK}
theorem Fils.length : ∀ {l : List PV} {vs : List V}, Fils K M H σ l vs → l.length = vs.length
  | _, _, .nil => rfl
  | _, _, .cons _ r => congrArg (· + 1) r.length
theorem Fils.get : ∀ {l : List PV} {vs : List V} {i : Nat} {p : PV}, Fils K M H σ l vs → l[i]? = some p → ∃ v, vs[i]? = some v ∧ Fil1 K M H σ p v
  | _, _, _, _, .nil, e => by simp at e
  | _, _, 0, _, .cons h _, e => by simp at e; subst e; exact ⟨_, rfl, h⟩
  | _, _, i + 1, p, .cons _ r, e => by
    obtain ⟨v, h1, h2⟩ := Fils.get (i := i) (p := p) r (by simpa using e)
    exact ⟨v, by simpa using h1, h2⟩
theorem argv_len : ∀ {l : List PV} {as : List (D × Mo)}, argv env l = some as → as.length = l.length
  | [], as, h => by cases h; rfl
  | p :: ps, as, h => by
    simp only [argv] at h
    split at h
    · rename_i x xs h1 h2
      cases h
      exact congrArg (· + 1) (argv_len h2)
    · cases h
theorem argv_get : ∀ {l : List PV} {as : List (D × Mo)} {i : Nat} {x : D × Mo}, argv env l = some as → as[i]? = some x → ∃ p, l[i]? = some p ∧ argv1 env p = some x
  | [], as, i, x, h, g => by cases h; simp at g
  | p :: ps, as, i, x, h, g => by
    simp only [argv] at h
    split at h
    · rename_i y ys h1 h2
      cases h
      cases i with
      | zero => simp at g; subst g; exact ⟨p, rfl, h1⟩
      | succ i =>
        obtain ⟨q, g1, g2⟩ := argv_get (i := i) h2 (by simpa using g)
        exact ⟨q, by simpa using g1, g2⟩
    · cases h
/-- i is an owned name among the arguments, at the place j -/
def OwnArg (env : En) (l : List PV) (i j : Nat) : Prop := l[j]? = some (.at i) ∧ ∃ d, env[i]? = some (some (d, .own))
theorem ownIx_mem : ∀ {l : List PV} {i j : Nat}, OwnArg env l i j → i ∈ ownIx env l
  | [], i, j, h => by simp [OwnArg] at h
  | p :: ps, i, 0, ⟨h, d, g⟩ => by
    simp at h
    subst h
    simp [ownIx, g]
  | p :: ps, i, j + 1, ⟨h, d, g⟩ => by
    have ih := ownIx_mem (l := ps) (i := i) (j := j) ⟨by simpa using h, d, g⟩
    cases p with
    | val x => exact ih
    | «at» m =>
      simp only [ownIx]
      split
      · exact List.mem_cons_of_mem _ ih
      · exact ih
theorem own_once : ∀ {l : List PV} {i j k : Nat}, (ownIx env l).Nodup → OwnArg env l i j → OwnArg env l i k → j = k
  | [], i, j, k, _, h, _ => by simp [OwnArg] at h
  | p :: ps, i, 0, 0, _, _, _ => rfl
  | p :: ps, i, 0, k + 1, nd, ⟨h, d, g⟩, ⟨h2, g2⟩ => by
    simp at h
    subst h
    have m := ownIx_mem (l := ps) (i := i) (j := k) (env := env) ⟨by simpa using h2, g2⟩
    simp only [ownIx, g] at nd
    exact absurd m (List.nodup_cons.mp nd).1
  | p :: ps, i, j + 1, 0, nd, ⟨h2, g2⟩, ⟨h, d, g⟩ => by
    simp at h
    subst h
    have m := ownIx_mem (l := ps) (i := i) (j := j) (env := env) ⟨by simpa using h2, g2⟩
    simp only [ownIx, g] at nd
    exact absurd m (List.nodup_cons.mp nd).1
  | p :: ps, i, j + 1, k + 1, nd, ⟨h1, g1⟩, ⟨h2, g2⟩ => by
    refine congrArg (· + 1) (own_once (l := ps) ?_ ⟨by simpa using h1, g1⟩ ⟨by simpa using h2, g2⟩)
    cases p with
    | val x => exact nd
    | «at» m =>
      simp only [ownIx] at nd
      split at nd
      · exact (List.nodup_cons.mp nd).2
      · exact nd
theorem wb_len {env0 : En} : ∀ {l : List PV} {outs : List (D × Mo)} {env : En}, (wb env0 l outs env).length = env.length
  | [], _, _ => by simp [wb]
  | .val _ :: ps, [], _ => by simp [wb]
  | .at _ :: ps, [], _ => by simp [wb]
  | .val _ :: ps, o :: os, env => by simp only [wb]; exact wb_len
  | .at i :: ps, o :: os, env => by
    simp only [wb]
    split
    · rw [wb_len, List.length_set]
    · exact wb_len
/-- a name that is no owned argument stays -/
theorem wb_out {env0 : En} {i : Nat} : ∀ {l : List PV} {outs : List (D × Mo)} {env : En}, (∀ j, ¬ OwnArg env0 l i j) → (wb env0 l outs env)[i]? = env[i]?
  | [], _, _, _ => by simp [wb]
  | .val _ :: ps, [], _, _ => by simp [wb]
  | .at _ :: ps, [], _, _ => by simp [wb]
  | .val x :: ps, o :: os, env, h => by
    simp only [wb]
    exact wb_out fun j g => h (j + 1) ⟨by simpa using g.1, g.2⟩
  | .at m :: ps, o :: os, env, h => by
    have h' : ∀ j, ¬ OwnArg env0 ps i j := fun j g => h (j + 1) ⟨by simpa using g.1, g.2⟩
    simp only [wb]
    split
    · rename_i d q
      rw [wb_out h', List.getElem?_set_ne]
      intro z
      subst z
      exact h 0 ⟨rfl, d, q⟩
    · exact wb_out h'
/-- an owned argument's new value -/
theorem wb_in {env0 : En} {i : Nat} : ∀ {l : List PV} {outs : List (D × Mo)} {env : En} {j : Nat} {o : D × Mo}, OwnArg env0 l i j → outs[j]? = some o → i < env.length →
    ∃ j' o', OwnArg env0 l i j' ∧ outs[j']? = some o' ∧ (wb env0 l outs env)[i]? = some (some o')
  | [], _, _, _, _, h, _, _ => by simp [OwnArg] at h
  | p :: ps, [], env, j, o, h, g, _ => by simp at g
  | .val x :: ps, o1 :: os, env, 0, o, h, g, hl => by simp [OwnArg] at h
  | .val x :: ps, o1 :: os, env, j + 1, o, h, g, hl => by
    obtain ⟨j', o', h1, h2, h3⟩ := wb_in (l := ps) (outs := os) (env := env) (j := j) (o := o) ⟨by simpa using h.1, h.2⟩ (by simpa using g) hl
    exact ⟨j' + 1, o', ⟨by simpa using h1.1, h1.2⟩, by simpa using h2, by simpa only [wb] using h3⟩
  | .at m :: ps, o1 :: os, env, j, o, h, g, hl => by
    by_cases hr : ∃ j2, OwnArg env0 ps i j2 ∧ ∃ o2, os[j2]? = some o2
    · obtain ⟨j2, h2, o2, g2⟩ := hr
      simp only [wb]
      split
      · obtain ⟨j', o', k1, k2, k3⟩ := wb_in (l := ps) (outs := os) (env := env.set m (some o1)) h2 g2 (by rw [List.length_set]; exact hl)
        exact ⟨j' + 1, o', ⟨by simpa using k1.1, k1.2⟩, by simpa using k2, k3⟩
      · obtain ⟨j', o', k1, k2, k3⟩ := wb_in (l := ps) (outs := os) (env := env) h2 g2 hl
        exact ⟨j' + 1, o', ⟨by simpa using k1.1, k1.2⟩, by simpa using k2, k3⟩
    · cases j with
      | succ j => exact absurd ⟨j, ⟨by simpa using h.1, h.2⟩, o, by simpa using g⟩ hr
      | zero =>
        obtain ⟨h1, d, q⟩ := h
        simp at h1
        subst h1
        simp at g
        subst g
        simp only [wb, q]
        refine ⟨0, o1, ⟨rfl, d, q⟩, rfl, ?_⟩
        have key : ∀ (ps : List PV) (os : List (D × Mo)) (env : En), (¬ ∃ j2, OwnArg env0 ps m j2 ∧ ∃ o2, os[j2]? = some o2) → (wb env0 ps os env)[m]? = env[m]? := by
          intro ps
          induction ps with
          | nil => intro os env _; simp [wb]
          | cons p ps ih =>
            intro os env hn
            cases os with
            | nil => cases p <;> simp [wb]
            | cons o os =>
              have hn' : ¬ ∃ j2, OwnArg env0 ps m j2 ∧ ∃ o2, os[j2]? = some o2 := fun ⟨j2, a, o2, b⟩ => hn ⟨j2 + 1, ⟨by simpa using a.1, a.2⟩, o2, by simpa using b⟩
              cases p with
              | val x => simp only [wb]; exact ih _ _ hn'
              | «at» n =>
                simp only [wb]
                split
                · rename_i d' q'
                  rw [ih _ _ hn', List.getElem?_set_ne]
                  intro z
                  subst z
                  exact hn ⟨0, ⟨rfl, d', q'⟩, o, rfl⟩
                · exact ih _ _ hn'
        rw [key ps os _ hr]
        exact List.getElem?_set_self hl
/-- a call, seen from the caller -/
theorem call_ok {T : Nat → Option Fn} {k f : Nat} {F : Fn} {l : List PV} {vs dvs : List V} {E : XK} {W : XW} {xv : XV} (hE : ∀ x H' cls d, W x σ H' → xv x cls d H' → E cls d H') (hT : T f = some F) (e : EnvOk K M H σ env) (fl : Fils K M H σ l vs) (dv : ∀ M H, Reps K M H F.dv dvs)
    (h : RZ K W M H σ env (doCall (callK T k) f l env) Q) : spZ K xv T k F (vs ++ dvs.drop (dvs.length - (F.np - vs.length))) H Q E := by
  unfold doCall at h
  split at h
  case isFalse => exact h.elim
  case isTrue nd =>
  split at h
  case h_2 => exact h.elim
  case h_1 as has =>
  rw [callK_eq, hT] at h
  simp only at h
  have la := argv_len has
  have lf := fl.length
  have ldv := (dv M H).length
  generalize hn : dvs.length - (F.np - vs.length) = n at *
  have hbs : withDv F as = as ++ (F.dv.drop n).map fun d => (d, Mo.frz) := by
    unfold withDv
    rw [ldv, la, lf, hn]
  rw [hbs] at h
  generalize hb : as ++ (F.dv.drop n).map (fun d => (d, Mo.frz)) = bs at *
  by_cases hnb : fullK T k F bs = .bad
  · rw [hnb] at h; exact h.elim
  have hlen : bs.length = F.np := by
    cases k with
    | zero => exact absurd rfl hnb
    | succ k =>
      simp only [fullK, runFull] at hnb
      by_cases q : bs.length = F.np
      · exact q
      · rw [if_neg q] at hnb
        exact absurd rfl hnb
  have lw : (vs ++ dvs.drop n).length = bs.length := by
    rw [← hb, List.length_append, List.length_append, List.length_map, List.length_drop, List.length_drop, ldv, la, lf]
  -- an argument
  have argAt : ∀ (i : Nat) (d : D) (m : Mo), bs[i]? = some (d, m) → ∃ v, (vs ++ dvs.drop n)[i]? = some v ∧ SlotRep K M H d m v ∧ (m ≠ .frz → ∃ j, l[i]? = some (.at j) ∧ env[j]? = some (some (d, m)) ∧ σ[j]? = some (some v) ∧ vs[i]? = some v) := by
    intro i d m g
    rw [← hb] at g
    by_cases hi : i < as.length
    · rw [List.getElem?_append_left hi] at g
      obtain ⟨p, g1, g2⟩ := argv_get has g
      obtain ⟨v, g3, g4⟩ := fl.get g1
      refine ⟨v, by rw [List.getElem?_append_left (by omega)]; exact g3, ?_⟩
      cases p with
      | val x =>
        cases g2
        exact ⟨g4, fun z => absurd rfl z⟩
      | «at» j =>
        simp only [argv1] at g2
        split at g2
        · rename_i d' m' q
          cases g2
          obtain ⟨w, h1, h2⟩ := e.slot j _ _ q
          have g4 : σ[j]? = some (some v) := g4
          rw [g4] at h1
          cases h1
          exact ⟨h2, fun _ => ⟨j, g1, q, g4, g3⟩⟩
        · cases g2
    · rw [List.getElem?_append_right (by omega), List.getElem?_map, List.getElem?_drop] at g
      cases q : F.dv[n + (i - as.length)]? with
      | none => rw [q] at g; cases g
      | some x =>
        rw [q] at g
        cases g
        obtain ⟨v, g1, g2⟩ := (dv M H).get q
        refine ⟨v, ?_, g2, fun z => absurd rfl z⟩
        rw [List.getElem?_append_right (by omega), List.getElem?_drop]
        rw [la, lf] at g1
        exact g1
  have getS : ∀ (i : Nat) (v : V), ((vs ++ dvs.drop n).map some)[i]? = some (some v) → (vs ++ dvs.drop n)[i]? = some v := fun i v g => by
    rw [List.getElem?_map] at g
    obtain ⟨w, g1, g2⟩ := map_some g
    cases g2
    exact g1
  have getB : ∀ (i : Nat) (x : D × Mo), (bs.map some)[i]? = some (some x) → bs[i]? = some x := fun i v g => by
    rw [List.getElem?_map] at g
    obtain ⟨w, g1, g2⟩ := map_some g
    cases g2
    exact g1
  have heldA : ∀ i a, Held ((vs ++ dvs.drop n).map some) (bs.map some) i a → ∃ j d m, m ≠ Mo.frz ∧ l[i]? = some (.at j) ∧ bs[i]? = some (d, m) ∧ env[j]? = some (some (d, m)) ∧ σ[j]? = some (some (.ref a)) := by
    rintro i a ⟨d, m, hm, g1, g2⟩
    have g1' := getB _ _ g1
    obtain ⟨v, h1, _, h3⟩ := argAt i d m g1'
    rw [getS _ _ g2] at h1
    cases h1
    obtain ⟨j, k1, k2, k3, _⟩ := h3 hm
    exact ⟨j, d, m, hm, k1, g1', k2, k3⟩
  have ownA : ∀ i a, OwnAt ((vs ++ dvs.drop n).map some) (bs.map some) i a → ∃ j, OwnArg env l j i ∧ OwnAt σ env j a := by
    rintro i a g
    have g' := g
    obtain ⟨d0, g1, _⟩ := g'
    obtain ⟨j, d, m, hm, k1, k2, k3, k4⟩ := heldA i a g.held
    rw [getB _ _ g1] at k2
    cases k2
    exact ⟨j, ⟨k1, _, k3⟩, _, k3, k4⟩
  have wrA : ∀ a, Wr ((vs ++ dvs.drop n).map some) (bs.map some) a → ∃ j i, OwnArg env l j i ∧ OwnAt σ env j a := fun a ⟨i, g⟩ => by
    obtain ⟨j, g1, g2⟩ := ownA i a g
    exact ⟨j, i, g1, g2⟩
  refine ⟨lw.trans hlen, M, bs, ⟨by rw [List.length_map, List.length_map, lw], fun i d m g => ?_, fun i j a n1 g1 g2 => ?_, e.mok⟩, ?_⟩
  · obtain ⟨v, h1, h2, _⟩ := argAt i d m (getB _ _ g)
    exact ⟨v, by rw [List.getElem?_map, h1]; rfl, h2⟩
  · obtain ⟨x, h1, h2⟩ := ownA i a g1
    obtain ⟨y, d, m, hm, k1, k2, k3, k4⟩ := heldA j a g2
    by_cases z : x = y
    · subst z
      obtain ⟨d0, k5⟩ := h1.2
      exact n1 (own_once nd h1 ⟨k1, _, k5⟩)
    · exact e.apart x y a z h2 ⟨d, m, hm, k3, k4⟩
  -- the caller's names behind the call
  have key : ∀ outs M' H', CStp K M H bs (vs ++ dvs.drop n) outs M' H' → EnvOk K M' H' σ (wb env l outs env) ∧ Stp allP M H σ env M' H' σ (wb env l outs env) ∧ ∀ i a, Held σ (wb env l outs env) i a → Held σ env i a := by
   intro outs M' H' cs
   have wrS : ∀ a, Wr ((vs ++ dvs.drop n).map some) (bs.map some) a → Wr σ env a := fun a g => by
     obtain ⟨j, i, _, g2⟩ := wrA a g
     exact ⟨j, g2⟩
   have kp : Keeps M H M' H' := ⟨fun a o g hm => cs.heap a o g fun w => hm (e.wr_m (wrS a w)), cs.mold⟩
   have own_or : ∀ i, (∃ j, OwnArg env l i j) ∨ ∀ j, ¬ OwnArg env l i j := fun i => by
     by_cases q : ∃ j, OwnArg env l i j
     · exact .inl q
     · exact .inr fun j z => q ⟨j, z⟩
   have inA : ∀ i j, OwnArg env l i j → ∃ v d' m', σ[i]? = some (some v) ∧ m' ≠ Mo.lck ∧ SlotRep K M' H' d' m' v ∧ (wb env l outs env)[i]? = some (some (d', m')) := by
     intro i j q
     have outAt : ∀ j, OwnArg env l i j → ∃ v d' m', σ[i]? = some (some v) ∧ outs[j]? = some (d', m') ∧ m' ≠ Mo.lck ∧ SlotRep K M' H' d' m' v := by
       rintro j ⟨q1, d0, q2⟩
       have hj : j < l.length := lt_of_get q1
       have ha : as[j]? = some (d0, .own) := by
         have hj' : j < as.length := by omega
         obtain ⟨p, g1, g2⟩ := argv_get has (List.getElem?_eq_getElem hj')
         rw [q1] at g1
         cases g1
         simp only [argv1, q2] at g2
         rw [List.getElem?_eq_getElem hj', ← Option.some.inj g2]
       have hbj : bs[j]? = some (d0, .own) := by
         rw [← hb, List.getElem?_append_left (by omega)]
         exact ha
       obtain ⟨v, h1, _, h3⟩ := argAt j d0 .own hbj
       obtain ⟨x, k1, k2, k3, _⟩ := h3 (by decide)
       rw [q1] at k1
       cases k1
       obtain ⟨d', m', k4, k5, k6⟩ := cs.outs j d0 v hbj h1
       exact ⟨v, d', m', k3, k4, k5, k6⟩
     obtain ⟨v, d', m', k1, k2, _⟩ := outAt j q
     obtain ⟨j', o', k3, k4, k5⟩ := wb_in q k2 (lt_of_get (Classical.choose_spec q.2))
     obtain ⟨v2, d2, m2, k6, k7, k8, k9⟩ := outAt j' k3
     rw [k4] at k7
     cases k7
     exact ⟨v2, d2, m2, k6, k8, k9, k5⟩
   have ownB : ∀ i a, OwnAt σ (wb env l outs env) i a → OwnAt σ env i a := by
     rintro i a ⟨d, g1, g2⟩
     rcases own_or i with ⟨j, q⟩ | q
     · obtain ⟨d0, q2⟩ := q.2
       exact ⟨d0, q2, g2⟩
     · rw [wb_out q] at g1
       exact ⟨d, g1, g2⟩
   have heldB : ∀ i a, Held σ (wb env l outs env) i a → Held σ env i a := by
     rintro i a ⟨d, m, hm, g1, g2⟩
     rcases own_or i with ⟨j, q⟩ | q
     · obtain ⟨d0, q2⟩ := q.2
       exact ⟨d0, .own, by decide, q2, g2⟩
     · rw [wb_out q] at g1
       exact ⟨d, m, hm, g1, g2⟩
   have e' : EnvOk K M' H' σ (wb env l outs env) := by
     refine ⟨by rw [wb_len]; exact e.len, fun i d m g => ?_, fun i j a n1 g1 g2 => e.apart i j a n1 (ownB i a g1) (heldB j a g2), cs.mok⟩
     rcases own_or i with ⟨j, q⟩ | q
     · obtain ⟨w, d', m', k1, k2, k3, k4⟩ := inA i j q
       rw [g] at k4
       cases k4
       exact ⟨w, k1, k3⟩
     · rw [wb_out q] at g
       obtain ⟨w, k1, k2⟩ := e.slot i d m g
       refine ⟨w, k1, k2.keeps e.mok kp fun hm a ea => ?_⟩
       have nw : ¬ Wr ((vs ++ dvs.drop n).map some) (bs.map some) a := fun w' => by
         obtain ⟨x, y, g1, g2⟩ := wrA a w'
         by_cases z : x = i
         · subst z
           exact q y g1
         · exact e.apart x i a z g2 ⟨d, m, hm, g, by rw [k1, ea]⟩
       exact ⟨cs.mkeep a (e.held_m ⟨d, m, hm, g, by rw [k1, ea]⟩) nw, fun o g => cs.heap a o g nw⟩
   have s' : Stp allP M H σ env M' H' σ (wb env l outs env) := by
     refine ⟨fun a o g hn => cs.heap a o g fun w => hn (wrS a w), cs.dom, cs.mold, fun a g hn => cs.mkeep a g fun w => hn (wrS a w), fun i a g => .inl (ownB i a g), fun i => ?_, fun _ _ => rfl, fun _ _ => rfl, fun i _ g => ?_⟩
     · rcases own_or i with ⟨j, q⟩ | q
       · obtain ⟨w, d', m', k1, k2, k3, k4⟩ := inA i j q
         obtain ⟨d0, q2⟩ := q.2
         constructor
         · rintro ⟨d, g⟩
           rw [k4] at g
           cases g
           exact absurd rfl k2
         · rintro ⟨d, g⟩
           rw [q2] at g
           cases g
       · unfold IsL
         rw [wb_out q]
     · rcases own_or i with ⟨j, q⟩ | q
       · obtain ⟨w, d', m', k1, k2, k3, k4⟩ := inA i j q
         exact ⟨_, k4⟩
       · rw [wb_out q]
         exact g
   exact ⟨e', s', heldB⟩
  cases hr : fullK T k F bs with
  | bad => exact absurd hr hnb
  | ex x outs =>
    rw [hr] at h
    intro M' H' cs cls d hx
    obtain ⟨e', s', _⟩ := key outs M' H' cs
    exact hE x H' cls d (h M' H' e' s') hx
  | ok d fr outs =>
   rw [hr] at h
   intro M' H' v cs rc
   obtain ⟨e', s', heldB⟩ := key outs M' H' cs
   refine h M' H' v e' s' ?_
   cases fr with
   | false => exact rc
   | true =>
     obtain ⟨ds, a, xs, k1, k2, k3, k4, k5, k6⟩ := rc
     refine ⟨ds, a, xs, k1, k2, k3, k4, k5, k6, fun i g => ?_⟩
     obtain ⟨ys, q⟩ := e.mok a (e.held_m (heldB i a g))
     rw [k3] at q
     cases q
end
end Z
namespace Z
open PySem PySem.Spec PyProof.Rows L2
section
variable {K : PySem.W.Frag} {W : XW} {C : Cl} {pin : Nat → Bool} {M M' M0 M1 M2 : Mk} {H H' H0 H1 H2 : Hp} {σ σ' σ1 σ2 : L2.St} {env env' env0 env1 env2 : En} {d d1 d2 : D} {v v1 v2 : V} {fr : Bool} {Q : VK}
theorem setS_ok {i : Nat} {u : Unit} (s : Stp pin M0 H0 σ' env0 M H σ env) (e : EnvOk K M H σ env) (r : Res K M H σ env H0 d fr v) (h : setS pin i d fr env = .ok u env') :
    EnvOk K M H (σ.set i (some v)) env' ∧ Stp pin M0 H0 σ' env0 M H (σ.set i (some v)) env' := by
  unfold setS at h
  split at h
  · cases h
  · rename_i t nl q
    split at h
    · cases h
    · rename_i np
      cases h
      have hl : i < env.length := lt_of_get q
      have hσ : i < σ.length := by rw [e.len]; exact hl
      have nL : ¬ IsL env i := fun ⟨d', g⟩ => nl d' (by rw [q] at g; cases g; rfl)
      have oth : ∀ j a, OwnAt (σ.set i (some v)) (env.set i (some (d, if fr = true then Mo.own else Mo.frz))) j a → (j = i ∧ fr = true ∧ v = .ref a) ∨ (j ≠ i ∧ OwnAt σ env j a) := by
        rintro j a ⟨d', g1, g2⟩
        rcases set_get g1 with ⟨rfl, z, _⟩ | ⟨n, g1⟩
        · rw [List.getElem?_set_self hσ] at g2
          cases fr with
          | true => exact .inl ⟨rfl, rfl, Option.some.inj (Option.some.inj g2)⟩
          | false => cases z
        · rw [List.getElem?_set_ne n] at g2
          exact .inr ⟨Ne.symm n, d', g1, g2⟩
      have hld : ∀ j a, Held (σ.set i (some v)) (env.set i (some (d, if fr = true then Mo.own else Mo.frz))) j a → (j = i ∧ fr = true ∧ v = .ref a) ∨ (j ≠ i ∧ Held σ env j a) := by
        rintro j a ⟨d', m', hm, g1, g2⟩
        rcases set_get g1 with ⟨rfl, z, _⟩ | ⟨n, g1⟩
        · rw [List.getElem?_set_self hσ] at g2
          cases fr with
          | true => exact .inl ⟨rfl, rfl, Option.some.inj (Option.some.inj g2)⟩
          | false => cases z; exact absurd rfl hm
        · rw [List.getElem?_set_ne n] at g2
          exact .inr ⟨Ne.symm n, d', m', hm, g1, g2⟩
      have nheld : fr = true → ∀ a, v = .ref a → ∀ j, ¬ Held σ env j a := fun hf a ea j g => by
        subst hf
        obtain ⟨ds, b, xs, _, e2, _, _, _, _, h6⟩ := r
        rw [ea] at e2
        cases e2
        exact h6 j g
      refine ⟨⟨by rw [List.length_set, List.length_set]; exact e.len, fun j d' m' g => ?_, fun j k a n g1 g2 => ?_, e.mok⟩, ⟨s.heap, s.dom, s.mold, s.mkeep, fun j a g => ?_, fun j => ?_, fun j l => ?_, fun j p => ?_, fun j p g => ?_⟩⟩
      · rcases set_get g with ⟨rfl, z, _⟩ | ⟨n, g⟩
        · refine ⟨v, List.getElem?_set_self hσ, ?_⟩
          cases fr with
          | false => cases z; exact r
          | true =>
            cases z
            obtain ⟨ds, b, xs, e1, e2, _, h3, h4, h5, _⟩ := r
            exact ⟨ds, b, xs, e1, e2, h3, h4, h5⟩
        · rw [List.getElem?_set_ne n]
          exact e.slot j d' m' g
      · rcases oth j a g1 with ⟨rfl, hf, ea⟩ | ⟨n1, g1'⟩
        · rcases hld k a g2 with ⟨rfl, _, _⟩ | ⟨n2, g2'⟩
          · exact n rfl
          · exact nheld hf a ea k g2'
        · rcases hld k a g2 with ⟨rfl, hf, ea⟩ | ⟨n2, g2'⟩
          · exact nheld hf a ea j g1'.held
          · exact e.apart j k a n g1' g2'
      · rcases oth j a g with ⟨rfl, hf, ea⟩ | ⟨n1, g1⟩
        · subst hf
          obtain ⟨ds, b, xs, _, e2, h3, _⟩ := r
          rw [ea] at e2
          cases e2
          exact .inr h3
        · exact s.wr j a g1
      · rw [← s.lck j]
        constructor
        · rintro ⟨d', g⟩
          rcases set_get g with ⟨rfl, z, _⟩ | ⟨n, g⟩
          · cases fr <;> cases z
          · exact ⟨d', g⟩
        · rintro ⟨d', g⟩
          refine ⟨d', ?_⟩
          rw [List.getElem?_set_ne (fun z => by subst z; exact nL ⟨d', g⟩)]
          exact g
      · rw [List.getElem?_set_ne (fun z => by subst z; exact nL ((s.lck i).mpr l))]
        exact s.lkσ j l
      · rw [List.getElem?_set_ne (fun z => by subst z; exact np p)]
        exact s.pinσ j p
      · obtain ⟨t', g'⟩ := s.pinS j p g
        by_cases z : i = j
        · subst z
          exact ⟨_, List.getElem?_set_self hl⟩
        · exact ⟨t', by rw [List.getElem?_set_ne z]; exact g'⟩
  · cases h
/-- stores of frozen values, from the left -/
def setAllσ : L2.St → List Nat → List V → L2.St
  | σ, i :: is, v :: vs => setAllσ (σ.set i (some v)) is vs
  | σ, _, _ => σ
theorem setAll_ok : ∀ {is : List Nat} {ds : List D} {vs : List V} {σ : L2.St} {env env' : En} {u : Unit}, Stp pin M0 H0 σ' env0 M H σ env → EnvOk K M H σ env → Reps K M H ds vs → setAll pin is ds env = .ok u env' →
    EnvOk K M H (setAllσ σ is vs) env' ∧ Stp pin M0 H0 σ' env0 M H (setAllσ σ is vs) env' ∧ is.length = ds.length
  | [], [], _, σ, env, env', u, s, e, r, h => by
    simp only [setAll] at h
    cases h
    exact ⟨by simpa [setAllσ] using e, by simpa [setAllσ] using s, rfl⟩
  | [], _ :: _, _, _, _, _, _, _, _, _, h => by simp [setAll] at h
  | _ :: _, [], _, _, _, _, _, _, _, _, h => by simp [setAll] at h
  | i :: is, d :: ds, _, σ, env, env', u, s, e, .cons r rs, h => by
    simp only [setAll] at h
    cases hx : setS pin i d false env with
    | bad => rw [hx] at h; cases h
    | ex => rw [hx] at h; cases h
    | ok u1 env1 =>
      rw [hx] at h
      obtain ⟨e1, s1⟩ := setS_ok (fr := false) s e r hx
      obtain ⟨e2, s2, l⟩ := setAll_ok s1 e1 rs h
      exact ⟨e2, s2, congrArg (· + 1) l⟩
/-- a target's reading -/
def tGt (K : PySem.W.Frag) (pin : Nat → Bool) (g : IG) : TG := fun v σ H Q => ∃ M0 H0 σ0 env0 M env d, EnvOk K M H σ env ∧ Stp pin M0 H0 σ0 env0 M H σ env ∧ Rep K M H d v ∧ match setG pin g d env with
  | .ok _ env' => ∀ σ', EnvOk K M H σ' env' → Stp pin M0 H0 σ0 env0 M H σ' env' → Q σ' H
  | _ => False
theorem g_nm {i : Nat} {Q : L2.St → Hp → Prop} (h : tGt K pin (.nm i) v σ H Q) : gName i v σ H Q := by
  obtain ⟨M0, H0, σ0, env0, M, env, d, e, s, r, h⟩ := h
  simp only [setG] at h
  cases hx : setS pin i d false env with
  | bad => rw [hx] at h; exact h.elim
  | ex => rw [hx] at h; exact h.elim
  | ok u env1 =>
    rw [hx] at h
    obtain ⟨e1, s1⟩ := setS_ok (fr := false) s e r hx
    exact h _ e1 s1
def gNms : List Nat → TGs
  | [] => gNil
  | i :: is => gCons (gName i) (gNms is)
theorem gNms_ok {Q : L2.St → Hp → Prop} : ∀ {is : List Nat} {vs : List V} {σ : L2.St}, is.length = vs.length → Q (setAllσ σ is vs) H → gNms is vs σ H Q
  | [], [], σ, _, h => ⟨rfl, h⟩
  | i :: is, v :: vs, σ, l, h => ⟨v, vs, rfl, gNms_ok (is := is) (by simpa using l) h⟩
  | [], _ :: _, _, l, _ => by simp at l
  | _ :: _, [], _, l, _ => by simp at l
theorem g_tp {is : List Nat} {Q : L2.St → Hp → Prop} (h : tGt K pin (.tp is) v σ H Q) : gTup K is.length (gNms is) v σ H Q := by
  obtain ⟨M0, H0, σ0, env0, M, env, d, e, s, r, h⟩ := h
  cases d with
  | tup ds =>
    simp only [setG] at h
    cases hx : setAll pin is ds env with
    | bad => rw [hx] at h; exact h.elim
    | ex => rw [hx] at h; exact h.elim
    | ok u env1 =>
      rw [hx] at h
      cases r with
      | tup h1 h2 =>
        obtain ⟨e1, s1, l⟩ := setAll_ok s e h2 hx
        have l2 := h2.length
        exact ⟨_, _, rfl, h1, by omega, gNms_ok (by omega) (h _ e1 s1)⟩
  | _ => simp only [setG] at h
def ItOk (K : PySem.W.Frag) (M : Mk) (H : Hp) (σ : L2.St) (env : En) (ds : List D) (J : It) : Prop :=
  ∀ (pin : Nat → Bool) (M2 : Mk) (H2 : Hp) (σ2 : L2.St) (env2 : En), EnvOk K M2 H2 σ2 env2 → Stp pin M H σ env M2 H2 σ2 env2 → ∀ i,
    (∀ d, ds[i]? = some d → J.go i H2 ∧ ∀ x H3, J.yld i H2 x H3 → EnvOk K M2 H3 σ2 env2 ∧ Stp allP M2 H2 σ2 env2 M2 H3 σ2 env2 ∧ Rep K M2 H3 d x) ∧ (ds.length ≤ i → J.stop i H2)
def tI (K : PySem.W.Frag) (W : XW) (f : Zm (List D × Option Nat)) : TI := fun σ H R => ∃ M env, EnvOk K M H σ env ∧ match f env with
  | .ok x env' => ∀ M' H' J, EnvOk K M' H' σ env' → OwnO env' x.2 → Stp allP M H σ env M' H' σ env' → ItOk K M' H' σ (lock x.2 env') x.1 J → R J H'
  | .ex x env' => ExK K W M H σ env x env'
  | .bad => False
theorem lockOf_ok {p : PV} : OwnO env (lockOf env p) := by
  cases h : lockOf env p with
  | none => trivial
  | some i => obtain ⟨d, h1, _⟩ := lockOf_own h; exact ⟨d, h1⟩
/-- what is walked is not written -/
theorem src_lst {p : PV} {ds : List D} (e : EnvOk K M H σ env) (f : Fil1 K M H σ p v) (g : fill1 env p = some (.lst ds)) :
    ∃ a xs, v = .ref a ∧ H a = some (.lst xs) ∧ Reps K M H ds xs ∧ ¬ Wr σ (lock (lockOf env p) env) a := by
  have e' := e.lock (o := lockOf env p) lockOf_ok
  cases p with
  | val x =>
    cases g
    cases (show Rep K M H (.lst ds) v from f) with
    | lst h1 h2 h3 => exact ⟨_, _, rfl, h1, h3, fun w => h2 (e'.wr_m w)⟩
  | «at» i =>
    simp only [fill1] at g
    split at g
    · rename_i d' m q
      cases g
      obtain ⟨w, h1, h2⟩ := e.slot i _ m q
      have f : σ[i]? = some (some v) := f
      rw [f] at h1
      cases h1
      cases m with
      | frz =>
        cases (show Rep K M H (.lst ds) v from h2) with
        | lst k1 k2 k3 => exact ⟨_, _, rfl, k1, k3, fun w => k2 (e'.wr_m w)⟩
      | own =>
        obtain ⟨_, a, xs, z, rfl, h3, h4, h5⟩ := h2
        cases z
        have : lockOf env (.at i) = some i := by simp only [lockOf, q]
        rw [this]
        exact ⟨a, xs, rfl, h4, h5, lock_nowr e q f⟩
      | lck =>
        obtain ⟨_, a, xs, z, rfl, h3, h4, h5⟩ := h2
        cases z
        refine ⟨a, xs, rfl, h4, h5, fun ⟨j, w⟩ => ?_⟩
        have w2 := (lock_own lockOf_ok w).1
        obtain ⟨d0, w3, _⟩ := id w2
        exact e.apart j i a (fun z => by subst z; rw [q] at w3; cases w3) w2 ⟨_, .lck, by decide, q, f⟩
    · cases g
theorem it_lst {a : Addr} {xs : List V} {ds : List D} (e : EnvOk K M H σ env) (h : H a = some (.lst xs)) (r : Reps K M H ds xs) (n : ¬ Wr σ env a) : ItOk K M H σ env ds (Itl K a) := by
  intro pin M2 H2 σ2 env2 e2 s i
  have h2 : H2 a = some (.lst xs) := s.heap a _ h n
  have r2 := r.keeps e.mok (s.keeps e)
  refine ⟨fun d g => ?_, fun l => ⟨xs, .inl (.inl h2), by rw [← r.length]; exact l⟩⟩
  obtain ⟨x, g1, g2⟩ := r2.get g
  refine ⟨⟨xs, x, .inl (.inl h2), g1⟩, fun y H3 hy => ?_⟩
  obtain ⟨rfl, hy⟩ := hy
  have := hy xs (.inl (.inl h2))
  rw [g1] at this
  cases this
  exact ⟨e2, .refl, g2⟩
theorem it_rol {a : Addr} {xs : List V} {ds : List D} (e : EnvOk K M H σ env) (h : RolL K M H a xs) (r : Reps K M H ds xs) : ItOk K M H σ env ds (Itl K a) := by
  intro pin M2 H2 σ2 env2 e2 s i
  have h2 := (h.keeps e.mok (s.keeps e)).sq
  have r2 := r.keeps e.mok (s.keeps e)
  refine ⟨fun d g => ?_, fun l => ⟨xs, h2, by rw [← r.length]; exact l⟩⟩
  obtain ⟨x, g1, g2⟩ := r2.get g
  refine ⟨⟨xs, x, h2, g1⟩, fun y H3 hy => ?_⟩
  obtain ⟨rfl, hy⟩ := hy
  have := hy xs h2
  rw [g1] at this
  cases this
  exact ⟨e2, .refl, g2⟩
theorem it_tup {a : Addr} {xs : List V} {ds : List D} (e : EnvOk K M H σ env) (h : SqT K H a xs) (r : Reps K M H ds xs) : ItOk K M H σ env ds (Itt K a) := by
  intro pin M2 H2 σ2 env2 e2 s i
  have h2 := SqT.keeps e.mok (s.keeps e) h
  have r2 := r.keeps e.mok (s.keeps e)
  refine ⟨fun d g => ?_, fun l => ⟨xs, h2, by rw [← r.length]; exact l⟩⟩
  obtain ⟨x, g1, g2⟩ := r2.get g
  refine ⟨⟨xs, x, h2, g1⟩, fun y H3 hy => ?_⟩
  obtain ⟨rfl, hy⟩ := hy
  have := hy xs h2
  rw [g1] at this
  cases this
  exact ⟨e2, .refl, g2⟩
theorem rangeD_get : ∀ {n : Nat} {lo : Int} {i : Nat} {d : D}, (rangeD lo n)[i]? = some d → i < n ∧ d = .int (lo + i)
  | 0, _, _, _, h => by simp [rangeD] at h
  | n + 1, lo, 0, d, h => by simp [rangeD] at h; subst h; simp
  | n + 1, lo, i + 1, d, h => by
    simp only [rangeD, List.getElem?_cons_succ] at h
    obtain ⟨h1, h2⟩ := rangeD_get h
    refine ⟨by omega, ?_⟩
    rw [h2]
    congr 1
    push_cast
    omega
theorem rangeD_len : ∀ (n : Nat) (lo : Int), (rangeD lo n).length = n
  | 0, _ => rfl
  | n + 1, lo => by simp [rangeD, rangeD_len n]
theorem it_rng {lo : Int} {n : Nat} : ItOk K M H σ env (rangeD lo n) (Itr lo n) := by
  intro pin M2 H2 σ2 env2 e2 s i
  refine ⟨fun d g => ?_, fun l => ?_⟩
  · obtain ⟨h1, rfl⟩ := rangeD_get g
    refine ⟨h1, fun y H3 hy => ?_⟩
    obtain ⟨rfl, rfl⟩ := hy
    exact ⟨e2, .refl, .int _⟩
  · rw [rangeD_len] at l
    exact l
theorem enum_get : ∀ {ds : List D} {k i : Nat} {d : D}, ((List.range' k ds.length).zipWith (fun (k : Nat) d => D.tup [.int (k : Int), d]) ds)[i]? = some d → ∃ x, ds[i]? = some x ∧ d = .tup [.int ((k + i : Nat) : Int), x]
  | [], _, _, _, h => by simp at h
  | x :: ds, k, 0, d, h => by
    simp [List.range'_succ] at h
    exact ⟨x, rfl, by rw [← h]; simp⟩
  | x :: ds, k, i + 1, d, h => by
    simp only [List.length_cons, List.range'_succ, List.zipWith_cons_cons, List.getElem?_cons_succ] at h
    obtain ⟨y, h1, h2⟩ := enum_get h
    exact ⟨y, by simpa using h1, by rw [h2]; congr 4; omega⟩
theorem it_enum {a : Addr} {ds : List D} (i1 : ItOk K M H σ env ds (Itl K a)) : ItOk K M H σ env ((List.range ds.length).zipWith (fun (k : Nat) d => D.tup [.int (k : Int), d]) ds) (Ite K a) := by
  intro pin M2 H2 σ2 env2 e2 s i
  obtain ⟨h1, h2⟩ := i1 pin M2 H2 σ2 env2 e2 s i
  refine ⟨fun d g => ?_, fun l => h2 (by simpa using l)⟩
  rw [List.range_eq_range'] at g
  obtain ⟨x, g1, rfl⟩ := enum_get g
  obtain ⟨⟨xs, y, k1, k2⟩, k3⟩ := h1 x g1
  refine ⟨⟨xs, y, k1, k2⟩, fun z H3 hy => ?_⟩
  obtain ⟨T, w, rfl, hT, rfl, hw⟩ := hy
  obtain ⟨_, _, k4⟩ := k3 w H2 ⟨rfl, hw⟩
  have := alloc_tup (ds := [.int ((0 + i : Nat) : Int), x]) (xs := [.int (i : Nat), w]) e2 hT (.cons (by rw [Nat.zero_add]; exact .int _) (.cons k4 .nil))
  exact ⟨this.1, this.2.1, this.2.2⟩
theorem combAux_get {n : Nat} : ∀ {f : Nat} {o : Option (List Nat)} {L : List (List Nat)}, combAux n f o = some L → ∀ (s : Nat → Option (List Nat)), s 0 = o → (∀ i, s (i + 1) = (s i).bind (ZCmb.nxt n)) → ∀ i : Nat, L[i]? = s i := by
  have dead : ∀ (s : Nat → Option (List Nat)), s 0 = none → (∀ i, s (i + 1) = (s i).bind (ZCmb.nxt n)) → ∀ i, s i = none := fun s h0 hs i => by
    induction i with
    | zero => exact h0
    | succ i ih => rw [hs, ih]; rfl
  intro f
  induction f with
  | zero =>
    intro o L h s h0 hs i
    cases o with
    | none => simp only [combAux] at h; cases h; rw [dead s h0 hs i]; rfl
    | some a => simp only [combAux] at h; cases h
  | succ f ih =>
    intro o L h s h0 hs i
    cases o with
    | none => simp only [combAux] at h; cases h; rw [dead s h0 hs i]; rfl
    | some a =>
      simp only [combAux] at h
      obtain ⟨L', h1, rfl⟩ := map_some h
      cases i with
      | zero => rw [h0]; rfl
      | succ i =>
        rw [List.getElem?_cons_succ]
        exact ih h1 (fun j => s (j + 1)) (by rw [hs, h0]; rfl) (fun j => hs (j + 1)) i
theorem combs_get {n r : Nat} {L : List (List Nat)} (h : combs n r = some L) (i : Nat) : L[i]? = ZCmb.seqI n r i :=
  combAux_get h (ZCmb.seqI n r) rfl (fun _ => rfl) i
theorem reps_pick {ds : List D} {xs : List V} (r : Reps K M H ds xs) : ∀ idx : List Nat, Reps K M H (idx.map fun j => ds.getD j .non) (idx.map fun j => xs.getD j .non)
  | [] => .nil
  | j :: idx => by
    refine .cons ?_ (reps_pick r idx)
    show Rep K M H (ds.getD j .non) (xs.getD j .non)
    rw [List.getD_eq_getElem?_getD, List.getD_eq_getElem?_getD]
    cases hx : ds[j]? with
    | none =>
      have : xs[j]? = none := by
        rw [List.getElem?_eq_none_iff] at hx ⊢
        rw [← r.length]
        exact hx
      rw [this]
      exact .non
    | some d =>
      obtain ⟨v, h1, h2⟩ := r.get hx
      rw [h1]
      exact h2
theorem it_cmb {ds : List D} {xs : List V} {n : Nat} {L : List (List Nat)} (e : EnvOk K M H σ env) (r : Reps K M H ds xs) (hL : combs ds.length n = some L) : ItOk K M H σ env (L.map fun idx => D.tup (idx.map fun j => ds.getD j .non)) (ZCmb.Itcm xs n) := by
  intro pin M2 H2 σ2 env2 e2 s i
  have r2 := r.keeps e.mok (s.keeps e)
  have hg := combs_get hL i
  rw [r.length] at hg
  refine ⟨fun d g => ?_, fun l => ?_⟩
  · rw [List.getElem?_map] at g
    obtain ⟨a, h1, rfl⟩ := map_some g
    rw [hg] at h1
    refine ⟨by show (ZCmb.seqI xs.length n i).isSome = true; rw [h1]; rfl, fun x H3 hy => ?_⟩
    obtain ⟨T, a', rfl, hT, rfl, hs⟩ := hy
    rw [h1] at hs
    cases hs
    have := alloc_tup (ds := a.map fun j => ds.getD j .non) (xs := a.map fun j => xs.getD j .non) e2 hT (reps_pick r2 a)
    exact ⟨this.1, this.2.1, this.2.2⟩
  · rw [List.length_map] at l
    show ZCmb.seqI xs.length n i = none
    rw [← hg, List.getElem?_eq_none_iff]
    exact l
/-- a list or a tuple, walked -/
theorem pi_seq {X : Cx} {tg l : Expr} {tl : TE} (hl : PE X l tl) : PI X tg l (fun σ H R => tl σ H fun x H1 => ∃ a, x = .ref a ∧ (((∃ xs, SqL X.K H1 a xs) ∧ R (Itl X.K a) H1) ∨ ((∃ xs, SqT X.K H1 a xs) ∧ R (Itt X.K a) H1))) := by
  refine ⟨fun pins s σ H R I h => ?_⟩
  refine thn (hl.run pins s σ H _ I h) fun v s1 ⟨x, H1, I1, r1, q1⟩ => ?_
  obtain ⟨a, e, q1⟩ := q1
  subst e
  cases r1
  rcases q1 with ⟨⟨xs, hq⟩, q⟩ | ⟨⟨xs, hq⟩, q⟩
  · obtain ⟨its, rv, p, hz⟩ := I1.list hq
    refine wpAny_pyIter_list p.isList ?_
    refine ⟨s1.heap.objs.size, [s1.heap.objs.size], _, _, H1, rfl, I1.kept (t' := s1.toks) fun b o e => Heap.get?_push_of_some _ e, turn_list a _, ⟨_, Heap.get?_push_size _ rfl, rfl, rfl⟩, fun b hb => ?_, q⟩
    have e : b = s1.heap.objs.size := by simpa using hb
    subst e
    exact I1.fpOk (Nat.le_refl _) (I1.hok.fresh (Nat.le_refl _))
  · obtain ⟨its, rv, p, hz⟩ := I1.tuple hq
    refine wpAny_pyIter_tuple (show s1.heap.IsTuple a its.toArray from p) ?_
    refine ⟨s1.heap.objs.size, [s1.heap.objs.size], _, _, H1, rfl, I1.kept (t' := s1.toks) fun b o e => Heap.get?_push_of_some _ e, turn_tuple a _, ⟨_, Heap.get?_push_size _ rfl, rfl, rfl⟩, fun b hb => ?_, q⟩
    have e : b = s1.heap.objs.size := by simpa using hb
    subst e
    exact I1.fpOk (Nat.le_refl _) (I1.hok.fresh (Nat.le_refl _))
theorem i_over {x : IA} {R : It → Hp → Prop} (h : tI K W (evI C (.over x)) σ H R) :
    tP K W (evA C x) σ H fun v H1 => ∃ a, v = .ref a ∧ (((∃ xs, SqL K H1 a xs) ∧ R (Itl K a) H1) ∨ ((∃ xs, SqT K H1 a xs) ∧ R (Itt K a) H1)) := by
  obtain ⟨M, env, e, h⟩ := h
  refine ⟨M, env, e, ?_⟩
  unfold RP
  simp only [evI] at h
  cases hx : evA C x env with
  | bad => rw [hx] at h; exact h.elim
  | ex => rw [hx] at h; exact h
  | ok p env1 =>
    rw [hx] at h
    simp only [Out.bind_ok] at h
    intro M1 H1 v1 e1 s1 f1
    cases hf : fill1 env1 p with
    | none => rw [hf] at h; exact h.elim
    | some d =>
      rw [hf] at h
      have a1 := fill1_any e1 f1 hf
      have eL := e1.lock (o := lockOf env1 p) lockOf_ok
      cases d with
      | lst ds =>
        obtain ⟨a, xs, rfl, h1, h2, h3⟩ := src_lst e1 f1 hf
        exact ⟨a, rfl, .inl ⟨⟨xs, .inl (.inl h1)⟩, h M1 H1 _ e1 lockOf_ok s1 (it_lst eL h1 h2 h3)⟩⟩
      | tup ds =>
        obtain ⟨a, xs, rfl, h1, h2⟩ := a1.tup
        exact ⟨a, rfl, .inr ⟨⟨xs, h1⟩, h M1 H1 _ e1 lockOf_ok s1 (it_tup eL h1 h2)⟩⟩
      | rol ds =>
        have : ∃ a xs, v1 = .ref a ∧ RolL K M1 H1 a xs ∧ Reps K M1 H1 ds xs := by
          obtain ⟨m, a1⟩ := a1
          cases m with
          | frz => cases (show Rep K M1 H1 (.rol ds) v1 from a1) with | rol h1 h2 => exact ⟨_, _, rfl, h1, h2⟩
          | own => obtain ⟨_, _, _, z, _⟩ := a1; cases z
          | lck => obtain ⟨_, _, _, z, _⟩ := a1; cases z
        obtain ⟨a, xs, rfl, h1, h2⟩ := this
        exact ⟨a, rfl, .inl ⟨⟨xs, h1.sq⟩, h M1 H1 _ e1 lockOf_ok s1 (it_rol eL h1 h2)⟩⟩
      | _ => exact h.elim
theorem it_rev {a : Addr} {xs : List V} {ds : List D} (e : EnvOk K M H σ env) (h : H a = some (.lst xs)) (r : Reps K M H ds xs) (n : ¬ Wr σ env a) : ItOk K M H σ env ds.reverse (Itv K a xs.length) := by
  intro pin M2 H2 σ2 env2 e2 s i
  have h2 : H2 a = some (.lst xs) := s.heap a _ h n
  have r2 := (r.keeps e.mok (s.keeps e)).reverse
  have hl := r.length
  refine ⟨fun d g => ?_, fun l => by rw [List.length_reverse] at l; show xs.length ≤ i; omega⟩
  obtain ⟨x, g1, g2⟩ := r2.get g
  have hi : i < xs.length := by have := lt_of_get g1; rwa [List.length_reverse] at this
  rw [List.getElem?_reverse hi] at g1
  refine ⟨⟨hi, xs, x, .inl (.inl h2), g1⟩, fun y H3 hy => ?_⟩
  obtain ⟨rfl, hy⟩ := hy
  have := hy xs (.inl (.inl h2))
  rw [g1] at this
  cases this
  exact ⟨e2, .refl, g2⟩
theorem i_rev {x : IA} {R : It → Hp → Prop} (h : tI K W (evI C (.rev x)) σ H R) :
    tP K W (evA C x) σ H fun v H1 => ∃ (a : Addr) (xs : List V), v = .ref a ∧ ((SqL K H1 a xs ∧ R (Itv K a xs.length) H1) ∨ (SqT K H1 a xs ∧ R (RT.ItvT K a xs.length) H1)) := by
  obtain ⟨M, env, e, h⟩ := h
  refine ⟨M, env, e, ?_⟩
  unfold RP
  simp only [evI] at h
  cases hx : evA C x env with
  | bad => rw [hx] at h; exact h.elim
  | ex => rw [hx] at h; exact h
  | ok p env1 =>
    rw [hx] at h
    simp only [Out.bind_ok] at h
    intro M1 H1 v1 e1 s1 f1
    cases hf : fill1 env1 p with
    | none => rw [hf] at h; exact h.elim
    | some d =>
      rw [hf] at h
      have eL := e1.lock (o := lockOf env1 p) lockOf_ok
      cases d with
      | lst ds =>
        obtain ⟨a, xs, rfl, h1, h2, h3⟩ := src_lst e1 f1 hf
        exact ⟨a, xs, rfl, .inl ⟨.inl (.inl h1), h M1 H1 _ e1 lockOf_ok s1 (it_rev eL h1 h2 h3)⟩⟩
      | _ => exact h.elim
theorem zip_get : ∀ {xs ys : List D} {i : Nat} {d : D}, (List.zipWith (fun x y => D.tup [x, y]) xs ys)[i]? = some d → ∃ x y, xs[i]? = some x ∧ ys[i]? = some y ∧ d = .tup [x, y]
  | [], _, _, _, h => by simp at h
  | _ :: _, [], _, _, h => by simp at h
  | x :: xs, y :: ys, 0, d, h => by simp at h; exact ⟨x, y, rfl, rfl, h.symm⟩
  | x :: xs, y :: ys, i + 1, d, h => by
    simp only [List.zipWith_cons_cons, List.getElem?_cons_succ] at h
    obtain ⟨u, w, h1, h2, h3⟩ := zip_get h
    exact ⟨u, w, by simpa using h1, by simpa using h2, h3⟩
theorem it_zipt {a b : Addr} {us ws : List V} {xs ys : List D} (e : EnvOk K M H σ env) (h1 : SqT K H a us) (h2 : SqT K H b ws) (r1 : Reps K M H xs us) (r2 : Reps K M H ys ws) : ItOk K M H σ env (List.zipWith (fun x y => D.tup [x, y]) xs ys) (RZ.ItzT K a b) := by
  intro pin M2 H2 σ2 env2 e2 s i
  have k1 := SqT.keeps e.mok (s.keeps e) h1
  have k2 := SqT.keeps e.mok (s.keeps e) h2
  have q1 := r1.keeps e.mok (s.keeps e)
  have q2 := r2.keeps e.mok (s.keeps e)
  refine ⟨fun d g => ?_, fun l => ⟨us, ws, k1, k2, by rw [List.length_zipWith, r1.length, r2.length] at l; omega⟩⟩
  obtain ⟨x, y, g1, g2, rfl⟩ := zip_get g
  obtain ⟨u, g3, g4⟩ := q1.get g1
  obtain ⟨w, g5, g6⟩ := q2.get g2
  refine ⟨⟨us, ws, u, w, k1, k2, g3, g5⟩, fun z H3 hy => ?_⟩
  obtain ⟨T, u', w', rfl, hT, rfl, hu, hw⟩ := hy
  have e3 := hu us k1
  rw [g3] at e3
  cases e3
  have e4 := hw ws k2
  rw [g5] at e4
  cases e4
  have := alloc_tup (ds := [x, y]) (xs := [u, w]) e2 hT (.cons g4 (.cons g6 .nil))
  exact ⟨this.1, this.2.1, this.2.2⟩
theorem i_zipt {x y : IA} {R : It → Hp → Prop} (h : tI K W (evI C (.zipt x y)) σ H R) :
    tCons (tP K W (evA C x)) (tCons (tP K W (evA C y)) tNil) σ H fun vs H1 => ∃ a b xs ys, vs = [.ref a, .ref b] ∧ ((SqL K H1 a xs ∧ SqL K H1 b ys ∧ R (Itz K a b) H1) ∨ (SqT K H1 a xs ∧ SqT K H1 b ys ∧ R (RZ.ItzT K a b) H1)) := by
  obtain ⟨M, env, e, h⟩ := h
  refine ⟨M, env, e, ?_⟩
  unfold RP
  simp only [evI] at h
  cases hx : evA C x env with
  | bad => rw [hx] at h; exact h.elim
  | ex => rw [hx] at h; exact h
  | ok p1 env1 =>
    rw [hx] at h
    simp only [Out.bind_ok] at h
    intro M1 H1 v1 e1 s1 f1
    refine ⟨M1, env1, e1, ?_⟩
    unfold RP
    cases hy : evA C y env1 with
    | bad => rw [hy] at h; exact h.elim
    | ex => rw [hy] at h; exact h.back e s1
    | ok p2 env2 =>
      rw [hy] at h
      simp only [Out.bind_ok] at h
      intro M2 H2 v2 e2 s2 f2
      have f1' := f1.keeps e1.mok (s2.keeps e1)
      have s12 := s1.trans e.mok s2
      cases hf1 : fill1 env2 p1 with
      | none => rw [hf1] at h; exact h.elim
      | some d1 =>
      cases hf2 : fill1 env2 p2 with
      | none => rw [hf1, hf2] at h; cases d1 <;> exact h.elim
      | some d2 =>
      rw [hf1, hf2] at h
      have a1 := fill1_any e2 f1' hf1
      have a2 := fill1_any e2 f2 hf2
      cases d1 <;> cases d2 <;> first | exact h.elim | skip
      obtain ⟨a, us, rfl, h1, r1⟩ := a1.tup
      obtain ⟨b, ws, rfl, h2, r2⟩ := a2.tup
      exact ⟨a, b, us, ws, rfl, .inr ⟨h1, h2, h M2 H2 _ e2 trivial s12 (it_zipt e2 h1 h2 r1 r2)⟩⟩
theorem i_enum {x : IA} {R : It → Hp → Prop} (h : tI K W (evI C (.enum x)) σ H R) :
    tCons (tP K W (evA C x)) tNil σ H fun vs H1 => ∃ a xs, vs = [.ref a] ∧ SqL K H1 a xs ∧ R (Ite K a) H1 := by
  obtain ⟨M, env, e, h⟩ := h
  refine ⟨M, env, e, ?_⟩
  unfold RP
  simp only [evI] at h
  cases hx : evA C x env with
  | bad => rw [hx] at h; exact h.elim
  | ex => rw [hx] at h; exact h
  | ok p env1 =>
    rw [hx] at h
    simp only [Out.bind_ok] at h
    intro M1 H1 v1 e1 s1 f1
    cases hf : fill1 env1 p with
    | none => rw [hf] at h; exact h.elim
    | some d =>
      rw [hf] at h
      have a1 := fill1_any e1 f1 hf
      have eL := e1.lock (o := lockOf env1 p) lockOf_ok
      cases d with
      | lst ds =>
        obtain ⟨a, xs, rfl, h1, h2, h3⟩ := src_lst e1 f1 hf
        exact ⟨a, xs, rfl, .inl (.inl h1), h M1 H1 _ e1 lockOf_ok s1 (it_enum (it_lst eL h1 h2 h3))⟩
      | rol ds =>
        have : ∃ a xs, v1 = .ref a ∧ RolL K M1 H1 a xs ∧ Reps K M1 H1 ds xs := by
          obtain ⟨m, a1⟩ := a1
          cases m with
          | frz => cases (show Rep K M1 H1 (.rol ds) v1 from a1) with | rol h1 h2 => exact ⟨_, _, rfl, h1, h2⟩
          | own => obtain ⟨_, _, _, z, _⟩ := a1; cases z
          | lck => obtain ⟨_, _, _, z, _⟩ := a1; cases z
        obtain ⟨a, xs, rfl, h1, h2⟩ := this
        exact ⟨a, xs, rfl, h1.sq, h M1 H1 _ e1 lockOf_ok s1 (it_enum (it_rol eL h1 h2))⟩
      | _ => exact h.elim
theorem i_cmb {x : IA} {r : Nat} (hr : r ≤ 10) {R : It → Hp → Prop} (h : tI K W (evI C (.cmb x r)) σ H R) :
    tCons (tP K W (evA C x)) (tCons (tC (.int (r : Int))) tNil) σ H fun vs H1 => ∃ a xs, ∃ r : Nat, vs = [.ref a, .int (r : Int)] ∧ r ≤ 10 ∧ SqL K H1 a xs ∧ R (ZCmb.Itcm xs r) H1 := by
  obtain ⟨M, env, e, h⟩ := h
  refine ⟨M, env, e, ?_⟩
  unfold RP
  simp only [evI] at h
  cases hx : evA C x env with
  | bad => rw [hx] at h; exact h.elim
  | ex => rw [hx] at h; exact h
  | ok p env1 =>
    rw [hx] at h
    simp only [Out.bind_ok] at h
    intro M1 H1 v1 e1 s1 f1
    cases hf : fill1 env1 p with
    | none => rw [hf] at h; exact h.elim
    | some d =>
    rw [hf] at h
    cases d <;> first | exact h.elim | skip
    rename_i ds
    simp only at h
    cases hL : combs ds.length r with
    | none => rw [hL] at h; exact h.elim
    | some L =>
    rw [hL] at h
    obtain ⟨a, xs, rfl, h1, h2, h3⟩ := src_lst e1 f1 hf
    exact ⟨a, xs, r, rfl, hr, .inl (.inl h1), h M1 H1 _ e1 trivial s1 (it_cmb e1 h2 hL)⟩
theorem i_cmbR {x : IE} {r : Nat} {R : It → Hp → Prop} (h : tI K W (evI C (.cmbR x r)) σ H R) :
    tZ K W (evE C x) σ H fun v H1 => ∃ n, v = .int n ∧ RgOk 0 n ∧ R (ZCmb.Itcm (rgV 0 n) r) H1 := by
  obtain ⟨M, env, e, h⟩ := h
  refine ⟨M, env, e, ?_⟩
  unfold RZ
  simp only [evI] at h
  cases hx : evE C x env with
  | bad => rw [hx] at h; exact h.elim
  | ex => rw [hx] at h; exact h
  | ok z env1 =>
    rw [hx] at h
    simp only [Out.bind_ok] at h
    intro M1 H1 v1 e1 s1 r1
    obtain ⟨M1', e1', s1', r1'⟩ := r1.freeze e e1 s1
    obtain ⟨d, fr⟩ := z
    cases d with
    | int n =>
      simp only at h r1'
      by_cases hn : 0 ≤ n ∧ n ≤ 1000
      case neg => rw [if_neg hn] at h; exact h.elim
      rw [if_pos hn] at h
      cases hL : combs n.toNat r with
      | none => rw [hL] at h; exact h.elim
      | some L =>
      rw [hL] at h
      refine ⟨n, (AnyR.of r1').int, RgOk.of_le (by omega) (by omega) (by omega) (by omega), ?_⟩
      have hrep : Reps K M1' H1 ((List.range n.toNat).map fun (j : Nat) => D.int (j : Int)) (rgV 0 n) := by
        unfold rgV
        rw [Int.sub_zero]
        generalize List.range n.toNat = l
        induction l with
        | nil => exact .nil
        | cons j l ih => exact .cons (by show Rep K M1' H1 (.int (j : Int)) (.int (0 + (j : Nat))); rw [Int.zero_add]; exact .int _) ih
      have hL' : combs ((List.range n.toNat).map fun (j : Nat) => D.int (j : Int)).length r = some L := by rw [List.length_map, List.length_range]; exact hL
      have it := it_cmb e1' hrep hL'
      exact h M1' H1 _ e1' trivial s1' it
    | _ => exact h.elim
theorem i_range {x y : IE} {R : It → Hp → Prop} (h : tI K W (evI C (.range x y)) σ H R) :
    tCons (tZ K W (evE C x)) (tCons (tZ K W (evE C y)) tNil) σ H fun vs H1 => ∃ i j : Int, vs = [.int i, .int j] ∧ (-(2 ^ 62) ≤ i ∧ i < 2 ^ 62 ∧ -(2 ^ 62) ≤ j ∧ j < 2 ^ 62) ∧ R (Itr i (j - i).toNat) H1 := by
  obtain ⟨M, env, e, h⟩ := h
  refine ⟨M, env, e, ?_⟩
  unfold RZ
  simp only [evI] at h
  cases hx : evE C x env with
  | bad => rw [hx] at h; exact h.elim
  | ex => rw [hx] at h; exact h
  | ok z1 env1 =>
    rw [hx] at h
    simp only [Out.bind_ok] at h
    intro M1 H1 v1 e1 s1 r1
    obtain ⟨M1', e1', s1', r1'⟩ := r1.freeze e e1 s1
    refine ⟨M1', env1, e1', ?_⟩
    unfold RZ
    cases hy : evE C y env1 with
    | bad => rw [hy] at h; exact h.elim
    | ex => rw [hy] at h; exact h.back e s1'
    | ok z2 env2 =>
      rw [hy] at h
      simp only [Out.bind_ok] at h
      intro M2 H2 v2 e2 s2 r2
      obtain ⟨M2', e2', s2', r2'⟩ := r2.freeze e1' e2 s2
      have s12 := s1'.trans e.mok s2'
      obtain ⟨d1, f1⟩ := z1
      obtain ⟨d2, f2⟩ := z2
      cases d1 with
      | int i =>
        cases d2 with
        | int j =>
          simp only at h
          by_cases hc : -(2 ^ 62) ≤ i ∧ i < 2 ^ 62 ∧ -(2 ^ 62) ≤ j ∧ j < 2 ^ 62
          · rw [if_pos hc] at h
            refine ⟨i, j, ?_, hc, h M2' H2 _ e2' trivial s12 it_rng⟩
            rw [(AnyR.of r1').int, (AnyR.of r2').int]
          · rw [if_neg hc] at h
            exact h.elim
        | _ => exact h.elim
      | _ => exact h.elim
end
end Z
namespace Z
open PySem PySem.Spec PyProof.Rows L2
section
variable {K : PySem.W.Frag} {W W2 : XW} {C : Cl} {pin : Nat → Bool} {M M' M0 M1 M2 : Mk} {H H' H0 H1 H2 : Hp} {σ σ' σ1 σ2 : L2.St} {env env' env0 env1 env2 : En} {d d1 d2 : D} {v v1 v2 : V} {fr : Bool} {Q : VK}
abbrev outP (own : List Nat) : Nat → Bool := fun i => !own.contains i
theorem wipeE_len : ∀ {own : List Nat}, (wipeE env own).length = env.length
  | [] => rfl
  | v :: vs => by simp only [wipeE, List.length_set]; exact wipeE_len
theorem wipeE_in : ∀ {own : List Nat} {i : Nat} {s : D × Mo}, i ∈ own → (wipeE env own)[i]? ≠ some (some s)
  | v :: vs, i, s, h, g => by
    simp only [wipeE] at g
    rcases set_get g with ⟨_, z, _⟩ | ⟨n, g⟩
    · cases z
    · rcases List.mem_cons.mp h with z | h
      · exact n z.symm
      · exact wipeE_in h g
theorem wipeE_out : ∀ {own : List Nat} {i : Nat}, i ∉ own → (wipeE env own)[i]? = env[i]?
  | [], _, _ => rfl
  | v :: vs, i, h => by
    simp only [wipeE]
    rw [List.getElem?_set_ne (fun z => h (by rw [z]; exact List.mem_cons_self))]
    exact wipeE_out fun z => h (List.mem_cons_of_mem _ z)
theorem wipeσ_out : ∀ {own : List Nat} {i : Nat}, i ∉ own → (wipe σ own)[i]? = σ[i]?
  | [], _, _ => rfl
  | v :: vs, i, h => by
    unfold wipe
    rw [List.getElem?_set_ne (fun z => h (by rw [z]; exact List.mem_cons_self))]
    exact wipeσ_out fun z => h (List.mem_cons_of_mem _ z)
theorem wipeσ_in : ∀ {own : List Nat} {i : Nat}, i ∈ own → i < σ.length → (wipe σ own)[i]? = some none
  | v :: vs, i, h, l => by
    unfold wipe
    by_cases z : v = i
    · subst z
      exact List.getElem?_set_self (by rw [wipe_length]; exact l)
    · rw [List.getElem?_set_ne z]
      exact wipeσ_in ((List.mem_cons.mp h).resolve_left fun y => z y.symm) l
theorem wipe_same {own : List Nat} {σ3 : L2.St} (hl : σ3.length = σ.length) (h : ∀ i, i ∉ own → σ3[i]? = σ[i]?) : wipe σ3 own = wipe σ own := by
  refine List.ext_getElem? fun i => ?_
  by_cases hi : i ∈ own
  · by_cases hl2 : i < σ.length
    · rw [wipeσ_in hi hl2, wipeσ_in hi (by omega)]
    · rw [List.getElem?_eq_none (by rw [wipe_length]; omega), List.getElem?_eq_none (by rw [wipe_length]; omega)]
  · rw [wipeσ_out hi, wipeσ_out hi]
    exact h i hi
theorem wipe_get {own : List Nat} {i : Nat} {s : D × Mo} (g : (wipeE env own)[i]? = some (some s)) : i ∉ own ∧ env[i]? = some (some s) := by
  have n : i ∉ own := fun z => wipeE_in z g
  rw [wipeE_out n] at g
  exact ⟨n, g⟩
theorem wipe_own {own : List Nat} {i : Nat} {a : Addr} (g : OwnAt (wipe σ own) (wipeE env own) i a) : i ∉ own ∧ OwnAt σ env i a := by
  obtain ⟨d, g1, g2⟩ := g
  obtain ⟨n, g1⟩ := wipe_get g1
  rw [wipeσ_out n] at g2
  exact ⟨n, d, g1, g2⟩
theorem wipe_held {own : List Nat} {i : Nat} {a : Addr} (g : Held (wipe σ own) (wipeE env own) i a) : i ∉ own ∧ Held σ env i a := by
  obtain ⟨d, m, hm, g1, g2⟩ := g
  obtain ⟨n, g1⟩ := wipe_get g1
  rw [wipeσ_out n] at g2
  exact ⟨n, d, m, hm, g1, g2⟩
theorem EnvOk.wipe (e : EnvOk K M H σ env) (own : List Nat) : EnvOk K M H (L2.wipe σ own) (wipeE env own) :=
  ⟨by rw [wipe_length, wipeE_len]; exact e.len, fun i d m g => by
    obtain ⟨n, g⟩ := wipe_get g
    rw [wipeσ_out n]
    exact e.slot i d m g, fun i j a n g1 g2 => e.apart i j a n (wipe_own g1).2 (wipe_held g2).2, e.mok⟩
theorem plain_at {own : List Nat} (h : plainAt env own = true) {i : Nat} (hi : i ∈ own) : env[i]? = some none ∨ ∃ d, env[i]? = some (some (d, .frz)) := by
  unfold plainAt at h
  have := List.all_eq_true.mp h i hi
  split at this
  · left; assumption
  · right; exact ⟨_, by assumption⟩
  · cases this
theorem wipe_stp {own : List Nat} (h : plainAt env own = true) : Stp (outP own) M H σ env M H (L2.wipe σ own) (wipeE env own) := by
  have nin : ∀ i, outP own i = true → i ∉ own := fun i p z => by simp [outP, z] at p
  refine ⟨fun _ _ g _ => g, fun _ g => g, fun _ _ g => g, fun _ g _ => g, fun i a g => .inl (wipe_own g).2, fun i => ?_, fun i l => ?_, fun i p => wipeσ_out (nin i p), fun i p g => by rw [wipeE_out (nin i p)]; exact g⟩
  · constructor
    · rintro ⟨d, g⟩
      exact ⟨d, (wipe_get g).2⟩
    · rintro ⟨d, g⟩
      refine ⟨d, ?_⟩
      rw [wipeE_out]
      · exact g
      · intro z
        rcases plain_at h z with q | ⟨_, q⟩ <;> (rw [q] at g; cases g)
  · obtain ⟨d, g⟩ := l
    refine wipeσ_out fun z => ?_
    rcases plain_at h z with q | ⟨_, q⟩ <;> (rw [q] at g; cases g)
theorem restore_len : ∀ {own : List Nat}, (restore env0 env own).length = env.length
  | [] => rfl
  | v :: vs => by simp only [restore, List.length_set]; exact restore_len
theorem restore_out : ∀ {own : List Nat} {i : Nat}, i ∉ own → (restore env0 env own)[i]? = env[i]?
  | [], _, _ => rfl
  | v :: vs, i, h => by
    simp only [restore]
    rw [List.getElem?_set_ne (fun z => h (by rw [z]; exact List.mem_cons_self))]
    exact restore_out fun z => h (List.mem_cons_of_mem _ z)
theorem restore_in : ∀ {own : List Nat} {i : Nat}, i ∈ own → i < env.length → (restore env0 env own)[i]? = some ((env0[i]?).getD none)
  | v :: vs, i, h, l => by
    simp only [restore]
    by_cases z : v = i
    · subst z
      exact List.getElem?_set_self (by rw [restore_len]; exact l)
    · rw [List.getElem?_set_ne z]
      exact restore_in ((List.mem_cons.mp h).resolve_left fun y => z y.symm) l
theorem restore_get {own : List Nat} (hl : env.length = env0.length) (h : plainAt env0 own = true) {i : Nat} {d : D} {m : Mo} (g : (restore env0 env own)[i]? = some (some (d, m))) :
    (i ∈ own ∧ m = .frz ∧ env0[i]? = some (some (d, .frz))) ∨ (i ∉ own ∧ env[i]? = some (some (d, m))) := by
  by_cases hi : i ∈ own
  · have hl2 : i < env.length := by
      have := lt_of_get g
      rw [restore_len] at this
      exact this
    rw [restore_in hi hl2] at g
    rcases plain_at h hi with q | ⟨d0, q⟩
    · rw [q] at g; cases g
    · rw [q] at g
      cases g
      exact .inl ⟨hi, rfl, q⟩
  · rw [restore_out hi] at g
    exact .inr ⟨hi, g⟩
theorem restore_ok {own : List Nat} (e : EnvOk K M H σ env) (h : plainAt env own = true) (e2 : EnvOk K M2 H2 (L2.wipe σ own) env2) (s : Stp allP M H (L2.wipe σ own) (wipeE env own) M2 H2 (L2.wipe σ own) env2) :
    EnvOk K M2 H2 σ (restore env env2 own) ∧ Stp allP M H σ env M2 H2 σ (restore env env2 own) ∧ ∀ i a, Held σ (restore env env2 own) i a → Held (L2.wipe σ own) env2 i a := by
  have hl : env2.length = env.length := by rw [← e2.len, wipe_length, e.len]
  have kp : Keeps M H M2 H2 := s.keeps (e.wipe own)
  have ownR : ∀ {i a}, OwnAt σ (restore env env2 own) i a → OwnAt (L2.wipe σ own) env2 i a := by
    rintro i a ⟨d, g1, g2⟩
    rcases restore_get hl h g1 with ⟨_, z, _⟩ | ⟨n, g1⟩
    · cases z
    · exact ⟨d, g1, by rw [wipeσ_out n]; exact g2⟩
  have heldR : ∀ {i a}, Held σ (restore env env2 own) i a → Held (L2.wipe σ own) env2 i a := by
    rintro i a ⟨d, m, hm, g1, g2⟩
    rcases restore_get hl h g1 with ⟨_, z, _⟩ | ⟨n, g1⟩
    · exact absurd z hm
    · exact ⟨d, m, hm, g1, by rw [wipeσ_out n]; exact g2⟩
  have wrW : ∀ a, Wr (L2.wipe σ own) (wipeE env own) a → Wr σ env a := fun a ⟨i, g⟩ => ⟨i, (wipe_own g).2⟩
  refine ⟨⟨by rw [restore_len, hl]; exact e.len, fun i d m g => ?_, fun i j a n g1 g2 => e2.apart i j a n (ownR g1) (heldR g2), e2.mok⟩, ⟨fun a o g n => s.heap a o g fun w => n (wrW a w), s.dom, s.mold, fun a g n => s.mkeep a g fun w => n (wrW a w), fun i a g => ?_, fun i => ?_, fun _ _ => rfl, fun _ _ => rfl, fun i _ g => ?_⟩, fun i a g => heldR g⟩
  · rcases restore_get hl h g with ⟨hi, rfl, g'⟩ | ⟨n, g'⟩
    · obtain ⟨v, h1, h2⟩ := e.slot i d .frz g'
      exact ⟨v, h1, Rep.keeps e.mok kp h2⟩
    · obtain ⟨v, h1, h2⟩ := e2.slot i d m g'
      rw [wipeσ_out n] at h1
      exact ⟨v, h1, h2⟩
  · exact (s.wr i a (ownR g)).imp (fun x => (wipe_own x).2) id
  · by_cases hi : i ∈ own
    · constructor
      · rintro ⟨d, g⟩
        rcases restore_get hl h g with ⟨_, z, _⟩ | ⟨n, _⟩
        · cases z
        · exact absurd hi n
      · rintro ⟨d, g⟩
        rcases plain_at h hi with q | ⟨_, q⟩ <;> (rw [q] at g; cases g)
    · unfold IsL
      rw [restore_out hi, ← wipeE_out (env := env) hi]
      exact s.lck i
  · by_cases hi : i ∈ own
    · obtain ⟨t, g⟩ := g
      refine ⟨t, ?_⟩
      rw [restore_in hi (by rw [hl]; exact lt_of_get g), g]
      rfl
    · rw [restore_out hi]
      exact s.pinS i rfl (by rw [wipeE_out hi]; exact g)
theorem setS_pin {p q : Nat → Bool} {i : Nat} (h : p i = q i) : setS p i d fr env = setS q i d fr env := by
  unfold setS
  rw [h]
theorem setAll_pin {p q : Nat → Bool} : ∀ {l : List Nat} {ds : List D} {env : En}, (∀ i ∈ l, p i = q i) → setAll p l ds env = setAll q l ds env
  | [], [], _, _ => rfl
  | [], _ :: _, _, _ => rfl
  | _ :: _, [], _, _ => rfl
  | i :: is, d :: ds, env, h => by
    simp only [setAll]
    rw [setS_pin (h i List.mem_cons_self)]
    congr 1
    funext _ e
    exact setAll_pin fun j hj => h j (List.mem_cons_of_mem _ hj)
theorem setG_pin {own : List Nat} {g : IG} (h : tgIn own g = true) : setG (fun _ => false) g d env = setG (outP own) g d env := by
  cases g with
  | nm i =>
    simp only [tgIn] at h
    exact setS_pin (p := fun _ => false) (q := outP own) (show false = !own.contains i by rw [h]; rfl)
  | tp l =>
    cases d with
    | tup ds =>
      simp only [setG]
      refine setAll_pin fun i hi => ?_
      simp only [tgIn] at h
      have := List.all_eq_true.mp h i hi
      show false = !own.contains i
      rw [this]
      rfl
    | _ => rfl
theorem setS_len {i : Nat} {u : Unit} (h : setS pin i d fr env = .ok u env') : env'.length = env.length := by
  simp only [setS] at h
  split at h
  · cases h
  · split at h
    · cases h
    · cases h; exact List.length_set
  · cases h
theorem setAll_len : ∀ {l : List Nat} {ds : List D} {env env' : En} {u : Unit}, setAll pin l ds env = .ok u env' → env'.length = env.length
  | [], [], env, env', u, h => by simp only [setAll] at h; cases h; rfl
  | [], _ :: _, _, _, _, h => by simp [setAll] at h
  | _ :: _, [], _, _, _, h => by simp [setAll] at h
  | i :: is, d :: ds, env, env', u, h => by
    simp only [setAll] at h
    cases hq : setS pin i d false env with
    | bad => rw [hq] at h; cases h
    | ex => rw [hq] at h; cases h
    | ok u1 env1 =>
      rw [hq] at h
      rw [setAll_len h, setS_len hq]
theorem setG_len {g : IG} {u : Unit} (h : setG pin g d env = .ok u env') : env'.length = env.length := by
  cases g with
  | nm i => exact setS_len h
  | tp l =>
    cases d with
    | tup ds => exact setAll_len h
    | _ => simp [setG] at h
theorem Stp.noheld {a : Addr} (s : Stp pin M H σ env M' H' σ' env') (h : ∀ i, ¬ Held σ env i a) (n : H a ≠ none) : ∀ i, ¬ Held σ' env' i a := by
  rintro i ⟨d, m, hm, g1, g2⟩
  cases m with
  | frz => exact hm rfl
  | own =>
    rcases s.wr i a ⟨d, g1, g2⟩ with w | w
    · exact h i w.held
    · exact n w
  | lck =>
    have l := (s.lck i).mp ⟨d, g1⟩
    obtain ⟨d0, l0⟩ := id l
    exact h i ⟨d0, .lck, by decide, l0, by rw [← s.lkσ i l]; exact g2⟩
/-- a list that nobody holds grows -/
theorem EnvOk.grow {a : Addr} {xs : List V} (e : EnvOk K M H σ env) (hm : M a) (h : ∀ i, ¬ Held σ env i a) : EnvOk K M (upd H a (.lst xs)) σ env := by
  refine ⟨e.len, fun i d m g => ?_, e.apart, fun b hb => ?_⟩
  · obtain ⟨v, h1, h2⟩ := e.slot i d m g
    refine ⟨v, h1, h2.keeps e.mok ⟨fun b o q n => ?_, fun _ _ z => z⟩ fun hm' b eb => ⟨e.held_m ⟨d, m, hm', g, by rw [h1, eb]⟩, fun o q => ?_⟩⟩
    · rw [upd_ne (fun z => by subst z; exact n hm)]
      exact q
    · rw [upd_ne]
      · exact q
      · intro z
        subst z
        exact h i ⟨d, m, hm', g, by rw [h1, eb]⟩
  · by_cases z : b = a
    · subst z
      exact ⟨xs, upd_same⟩
    · obtain ⟨ys, q⟩ := e.mok b hb
      exact ⟨ys, by rw [upd_ne z]; exact q⟩
/-- a turn of a comprehension -/
def lcTurn (C : Cl) (own : List Nat) (tg : IG) (cond : List IT) (elt : IE) (d : D) : Zm (Option D) := fun env => (setG (fun _ => false) tg d env).bind fun _ env => (evTs C cond env).bind (fun b env =>
  if b then (evE C elt env).bind (fun x env => .ok (some x.1) (wipeE env own)) else .ok none (wipeE env own))
theorem z_comp {own : List Nat} {tg : IG} {src : II} {cond : List IT} {elt : IE} (ht : tgIn own tg = true) (h : tZ K W (evE C (.comp own tg src cond elt)) σ H Q) :
    tLc (tI K W (evI C src)) (tGt K (outP own) tg) (tB K W2 (evTs C cond)) (tZ K W2 (evE C elt)) own σ H Q := by
  obtain ⟨M, env, e, h⟩ := h
  refine ⟨M, env, e, ?_⟩
  simp only [evE] at h
  cases hx : evI C src env with
  | bad => rw [hx] at h; exact h.elim
  | ex => rw [hx] at h; exact h
  | ok x env0 =>
    rw [hx] at h
    simp only [Out.bind_ok] at h
    intro M1 H1 J e1 o1 s1 it1 D hD
    have e1L := e1.lock o1
    by_cases hp : plainAt (lock x.2 env0) own = true
    case neg => rw [if_neg hp] at h; exact h.elim
    rw [if_pos hp] at h
    generalize hE1 : lock x.2 env0 = envL at *
    have hdef : (fun d env => (setG (fun _ => false) tg d env).bind fun _ env => (evTs C cond env).bind (fun b env =>
        if b then (evE C elt env).bind (fun x env => .ok (some x.1) (wipeE env own)) else .ok none (wipeE env own))) = lcTurn C own tg cond elt := rfl
    rw [hdef] at h
    cases hL : loopLc (lcTurn C own tg cond elt) x.1 [] (wipeE envL own) with
    | bad => rw [hL] at h; exact h.elim
    | ex => rw [hL] at h; exact h.elim
    | ok ds envF =>
      rw [hL] at h
      simp only [Out.bind_ok, Out.mapEn, Out.noEx] at h
      have eW := e1L.wipe own
      have nD : ∀ i, ¬ Held (L2.wipe σ own) (wipeE envL own) i D := fun i g => by
        obtain ⟨ys, q⟩ := eW.mok D (eW.held_m g)
        rw [hD] at q
        cases q
      refine ⟨fun i m Hc => m = x.1.length - i ∧ i ≤ x.1.length ∧ ∃ M2 env2 acc accV, EnvOk K M2 Hc (L2.wipe σ own) env2 ∧ Stp allP M1 H1 (L2.wipe σ own) (wipeE envL own) M2 Hc (L2.wipe σ own) env2 ∧
        Hc D = some (.lst accV) ∧ M2 D ∧ Reps K M2 Hc acc accV ∧ (∀ i, ¬ Held (L2.wipe σ own) env2 i D) ∧ (∀ i ∈ own, ∀ s, env2[i]? ≠ some (some s)) ∧ loopLc (lcTurn C own tg cond elt) (x.1.drop i) acc env2 = .ok ds envF,
        ⟨x.1.length, by simp, Nat.zero_le _, fun b => M1 b ∨ b = D, wipeE envL own, [], [], ?_⟩, ?_⟩
      · obtain ⟨a1, a2, a3⟩ := alloc_lst (ds := []) (xs := []) eW hD .nil
        exact ⟨a1, a2, upd_same, .inr rfl, .nil, nD, fun i hi s => wipeE_in hi, hL⟩
      · rintro i m Hc ⟨rfl, hi, M2, env2, acc, accV, e2, s2, hc, hm, hr, hn, hw, hl⟩
        have sP : Stp (outP own) M1 H1 σ envL M2 Hc (L2.wipe σ own) env2 := (wipe_stp hp).trans e1L.mok (s2.weak fun _ _ => rfl)
        obtain ⟨itg, its⟩ := it1 _ M2 Hc _ env2 e2 sP i
        by_cases hlt : i < x.1.length
        · -- a turn
          have hg : x.1[i]? = some x.1[i] := List.getElem?_eq_getElem hlt
          obtain ⟨go, yl⟩ := itg _ hg
          refine .inr ⟨go, fun H' => ∃ m', m' < x.1.length - i ∧ m' = x.1.length - (i + 1) ∧ i + 1 ≤ x.1.length ∧ ∃ M2 env2 acc accV, EnvOk K M2 H' (L2.wipe σ own) env2 ∧ Stp allP M1 H1 (L2.wipe σ own) (wipeE envL own) M2 H' (L2.wipe σ own) env2 ∧
            H' D = some (.lst accV) ∧ M2 D ∧ Reps K M2 H' acc accV ∧ (∀ i, ¬ Held (L2.wipe σ own) env2 i D) ∧ (∀ i ∈ own, ∀ s, env2[i]? ≠ some (some s)) ∧ loopLc (lcTurn C own tg cond elt) (x.1.drop (i + 1)) acc env2 = .ok ds envF, fun H' hN => hN, fun xv H' hy => ?_⟩
          obtain ⟨e3, s3, r3⟩ := yl xv H' hy
          rw [List.drop_eq_getElem_cons hlt] at hl
          simp only [loopLc] at hl
          generalize hd : x.1[i] = dd at *
          refine ⟨M2, H', L2.wipe σ own, env2, M2, env2, dd, e3, .refl, r3, ?_⟩
          have hset := setG_pin (d := dd) (env := env2) ht
          unfold lcTurn at hl
          cases hs : setG (fun _ => false) tg dd env2 with
          | bad => rw [hs] at hl; cases hl
          | ex => rw [hs] at hl; cases hl
          | ok u env3 =>
            rw [← hset, hs]
            rw [hs] at hl
            simp only [Out.bind_ok] at hl
            intro σ3 e4 s4
            have out : ∀ j, j ∉ own → σ3[j]? = (L2.wipe σ own)[j]? := fun j hj => s4.pinσ j (by simp [outP, hj])
            have wS : L2.wipe σ3 own = L2.wipe σ own := by
              have k1 := e4.len
              have k2 := e3.len
              have k3 := setG_len hs
              rw [wipe_length] at k2
              exact wipe_same (by omega) fun j hj => by rw [out j hj, wipeσ_out hj]
            refine ⟨wS, M2, env3, e4, ?_⟩
            cases hq : evTs C cond env3 with
            | bad => rw [hq] at hl; cases hl
            | ex => rw [hq] at hl; cases hl
            | ok b env4 =>
              rw [hq] at hl
              simp only [Out.bind_ok] at hl
              intro M4 H4 e5 s5
              -- from the turn's start to here
              have sA : Stp (outP own) M2 Hc (L2.wipe σ own) env2 M4 H4 σ3 env4 := (s3.weak fun _ _ => rfl).trans e2.mok (s4.trans e3.mok (s5.weak fun _ _ => rfl))
              -- the block's end
              have close : ∀ {M5 : Mk} {H5 : Hp} {env5 : En}, EnvOk K M5 H5 σ3 env5 → Stp (outP own) M2 Hc (L2.wipe σ own) env2 M5 H5 σ3 env5 →
                  EnvOk K M5 H5 (L2.wipe σ own) (wipeE env5 own) ∧ Stp allP M1 H1 (L2.wipe σ own) (wipeE envL own) M5 H5 (L2.wipe σ own) (wipeE env5 own) ∧ H5 D = some (.lst accV) ∧ M5 D ∧ (∀ i, ¬ Held (L2.wipe σ own) (wipeE env5 own) i D) ∧ (∀ i ∈ own, ∀ s, (wipeE env5 own)[i]? ≠ some (some s)) ∧ Reps K M5 H5 acc accV := by
                intro M5 H5 env5 e6 s6
                have e7 := e6.wipe own
                rw [wS] at e7
                have nw : ¬ Wr (L2.wipe σ own) env2 D := fun ⟨j, w⟩ => hn j w.held
                have ownW : ∀ {j a}, OwnAt (L2.wipe σ own) (wipeE env5 own) j a → OwnAt σ3 env5 j a := fun {j a} g => by
                  rw [← wS] at g
                  exact (wipe_own g).2
                have s7 : Stp allP M2 Hc (L2.wipe σ own) env2 M5 H5 (L2.wipe σ own) (wipeE env5 own) := by
                  refine ⟨s6.heap, s6.dom, s6.mold, s6.mkeep, fun j a g => s6.wr j a (ownW g), fun j => ?_, fun _ _ => rfl, fun _ _ => rfl, fun j _ g => ?_⟩
                  · by_cases hj : j ∈ own
                    · constructor
                      · rintro ⟨d, g⟩
                        exact absurd g (wipeE_in hj)
                      · rintro ⟨d, g⟩
                        exact absurd g (hw j hj _)
                    · unfold IsL
                      rw [wipeE_out hj]
                      exact s6.lck j
                  · obtain ⟨t, g⟩ := g
                    have hj : j ∉ own := fun z => hw j z _ g
                    rw [wipeE_out hj]
                    exact s6.pinS j (by simp [outP, hj]) ⟨t, g⟩
                exact ⟨e7, s2.trans eW.mok s7, s6.heap D _ hc nw, s6.mkeep D hm nw, s7.noheld hn (by rw [hc]; simp), fun j hj s => wipeE_in hj, hr.keeps e2.mok (s6.keeps e2)⟩
              cases b with
              | false =>
                rw [if_neg Bool.false_ne_true] at hl ⊢
                simp only [Out.bind_ok] at hl
                obtain ⟨c1, c2, c3, c4, c5, c6, c7⟩ := close e5 sA
                exact ⟨_, by omega, rfl, by omega, M4, _, acc, accV, c1, c2, c3, c4, c7, c5, c6, hl⟩
              | true =>
                rw [if_pos rfl] at hl ⊢
                refine ⟨M4, env4, e5, ?_⟩
                unfold RZ
                cases hz : evE C elt env4 with
                | bad => rw [hz] at hl; cases hl
                | ex => rw [hz] at hl; cases hl
                | ok z env5 =>
                  rw [hz] at hl
                  simp only [Out.bind_ok] at hl
                  intro M5 H5 v5 e6 s6 r6
                  obtain ⟨M6, e7, s7, r7⟩ := r6.freeze e5 e6 s6
                  have sB : Stp (outP own) M2 Hc (L2.wipe σ own) env2 M6 H5 σ3 env5 := sA.trans e2.mok (s7.weak fun _ _ => rfl)
                  obtain ⟨c1, c2, c3, c4, c5, c6, c7⟩ := close e7 sB
                  split at hl
                  case isFalse => cases hl
                  rename_i hsz
                  have kp : Keeps M6 H5 M6 (upd H5 D (.lst (accV ++ [v5]))) := ⟨fun b o q n => by rw [upd_ne (fun w => by subst w; exact n c4)]; exact q, fun _ _ w => w⟩
                  refine ⟨accV, c3, by rw [← hr.length]; exact hsz, _, by omega, rfl, by omega, M6, _, acc ++ [z.1], accV ++ [v5], c1.grow c4 c5, ?_, upd_same, c4, (c7.append (.cons r7 .nil)).keeps e7.mok kp, c5, c6, hl⟩
                  refine ⟨fun a o g n => ?_, fun a n => ?_, c2.mold, c2.mkeep, c2.wr, c2.lck, c2.lkσ, c2.pinσ, c2.pinS⟩
                  · rw [upd_ne (ne_of_none g hD)]
                    exact c2.heap a o g n
                  · unfold upd
                    split
                    · simp
                    · exact c2.dom a n
        · -- the end
          refine .inl ⟨its (by omega), ?_⟩
          rw [List.drop_eq_nil_of_le (by omega)] at hl
          simp only [loopLc] at hl
          cases hl
          obtain ⟨k1, k2, k3⟩ := restore_ok e1L hp e2 s2
          subst hE1
          obtain ⟨k4, k5⟩ := unlock_ok e1 o1 k1 k2
          refine h M2 Hc (.ref D) k4 (s1.trans e.mok k5) ⟨ds, D, accV, rfl, rfl, ?_, hm, hc, hr, fun j g => ?_⟩
          · cases q : H D with
            | none => rfl
            | some o => exact absurd hD (s1.dom D (by rw [q]; simp))
          · obtain ⟨d, m, hm', g1, g2⟩ := g
            rcases unlock_get g1 with ⟨z, rfl, m', g3⟩ | ⟨n, g3⟩
            · rw [z] at o1
              obtain ⟨d0, o2⟩ := o1
              obtain ⟨w, h1, ds', a', xs', _, rfl, _, h4, _⟩ := e1.slot j d0 .own o2
              rw [g2] at h1
              cases h1
              rw [hD] at h4
              cases h4
            · exact hn j (k3 j D ⟨d, m, hm', g3, g2⟩)
end
end Z
namespace Z
open PySem PySem.Spec PyProof.Rows L2
/-- room, and no list's text under way -/
structure RmG (k : Nat) (A : Around) : Prop where
  rm : Room k A
  no : A.guards = some []
theorem RmG.down {k : Nat} {A : Around} (g : RmG (k + 1) A) (en : PySem.Env) : RmG k (A.deeper en) where
  rm := g.rm.deeper en
  no := g.no
structure FnG (P : Program) (w : World) (K : PySem.W.Frag) (mg : Str → Option Value) (base : Heap) (C : CXT) (k : Nat) (f : Addr) (fd : FuncData) (ps : List Str) (sp : Sp) : Prop where
  ln : ∀ {vs : List V} {H : Hp} {Q : VK} {E : XK}, sp vs H Q E → vs.length = ps.length
  go : ∀ {A : Around} {out : List PySem.Env} {s : Shared} {H : Hp} {args : Args} {us : List Value} {vs : List V} {Q : VK} {E : XK},
    RmG k A → Env0 P w K mg base A out s H → BindsTo s fd args (ps.zip us) →
    Vals vs us → sp vs H Q E →
    codeAny (model P w) A (.call (.ref f) args) (L2.CR C out P w H s Q E) s
theorem FnG.weak {P : Program} {w : World} {K : PySem.W.Frag} {mg : Str → Option Value} {base : Heap} {C : CXT} {k : Nat} {f : Addr} {fd : FuncData} {ps : List Str} {sp sp2 : Sp} (F : FnG P w K mg base C k f fd ps sp)
    (h : ∀ vs H Q E, sp2 vs H Q E → sp vs H Q E) : FnG P w K mg base C k f fd ps sp2 where
  ln q := F.ln (h _ _ _ _ q)
  go g e b r q := F.go g e b r (h _ _ _ _ q)
/-- a def, by its body -/
theorem def_goG {P : Program} {w : World} {K : PySem.W.Frag} {mg : Str → Option Value} {base : Heap} {x qual : Str} {params : Arguments} {body : List Stmt} {scope : Scope} {dvs : List V} {kws : List (Str × V)} {f : Addr} {fd : FuncData}
    {C : CXT} {N ps : List Str} {k : Nat} {sp : Sp} (F : FunD K x qual params body scope dvs kws f fd) (S : FnScope N ps scope) (ln : ∀ vs H Q E, sp vs H Q E → vs.length = ps.length)
    (bo : ∀ (c : Value) (A : Around) (out : List PySem.Env) (s : Shared) (H : Hp) (vs : List V) (Q : VK) (E : XK), RmG k (A.deeper (envOfC qual scope s.heap.objs.size f c)) → sp vs H Q E →
      ∃ t, PSs (cxOf C P w K mg base N qual scope f c A out s H E) body t ∧ t { nx := fun _ H2 => Q .non H2, rt := Q } (start N vs) H) : FnG P w K mg base C (k + 1) f fd ps sp := by
  obtain ⟨_, _, dV, kV, doc, pm, an, c, ct, _, rfl, found, code, _, _⟩ := F.ex
  constructor
  · exact fun {vs H Q E} q => ln vs H Q E q
  intro A out s H args us vs Q E g e0 bd rv q
  have KX : K.In s.heap := e0.mod.kin.keeps fun b o z => (e0.bs b o z).1
  have free : s.heap.NoLimit := e0.mod.nolimit.keeps fun b o z => (e0.bs b o z).1
  apply codeAny_call_function g.rm.depth (KX _ _ found) rfl S.co S.gen rfl (PySem.W.codeRec_of KX code)
  apply bd
  refine wpAny_newFunctionEnv_cells S.kind ?_ ?_
  · rintro ⟨n, v⟩ hy
    rcases S.par n (List.of_mem_zip hy).1 with z | z
    · exact .inl z
    · exact .inr ⟨z, PySem.W.cellsFrom_some _ _ _ (.inl z)⟩
  · rintro en rfl s1 made
    refine ⟨free.keeps made.toInCall.keep, codeAny_func ?_⟩
    obtain ⟨t, pt, qt⟩ := bo c A out s H vs Q E (g.down _) q
    have I := inv_start (CX := C) (E := E) (mg := mg) (base := base) S g.rm.hd e0 (ln _ _ _ _ q) rv made
    refine wpAny_mono (pt.run [] s1 (start N vs) H _ I qt) ?_ (fun _ _ z => z)
    intro fl s2 z
    match fl, z with
    | .ret u, ⟨v, σ2, H2, J, r2, q2⟩ => exact ⟨v, H2, J.os, J.bare, J.base, J.hok, r2, q2⟩
    | .next, ⟨σ2, H2, J, q2⟩ => exact ⟨.non, H2, J.os, J.bare, J.base, J.hok, rfl, q2⟩
    | .brk, ⟨_, _, _, q2⟩ => exact q2.elim
    | .cont, ⟨_, _, _, q2⟩ => exact q2.elim
end Z
namespace Z
open PySem PySem.Spec PyProof.Rows L2
section
variable {P : Program} {w : World} {K : PySem.W.Frag} {mg mb : Str → Option Value} {C : CXT} {k : Nat} {fa a : Addr} {fd : FuncData} {x : Str} {sp : Sp} {s : Shared} {us : List Value} {ns : List Int}
/-- what is in front of the law's own frame -/
theorem front (KX : K.In s.heap) (G : s.heap.Ns mainGlobals mg) (B : s.heap.Ns builtinsNs mb) (bb : ∀ y : Str, y ≠ "__name__" → mb y = bootBuiltins y) (lim : s.heap.NoLimit) (gn : s.gens = #[])
    (at_a : s.heap.get? a = some { cls := .type "list", data := .seq us.toArray }) {H : Hp} (alone : ∀ b, H b ≠ none → b = a) (foreign : H a ≠ none → K.lookup a = none) (ok : HOk P w H s.heap) :
    Env0 P w K mg (hidT s.heap H) callerA [] s H := by
  have seen : ∀ {b : Addr} {o : Obj}, s.heap.get? b = some o → b ≠ a → (hidT s.heap H).get? b = some o := by
    intro b o z ne
    refine hidT_get z ?_
    rcases hb : H b with _ | u
    · rfl
    · exact absurd (alone b (by rw [hb]; exact Option.some_ne_none u)) ne
  have dicts : ∀ {b : Addr} {m : Str → Option Value}, s.heap.Ns b m → (hidT s.heap H).Ns b m := by
    rintro b m ⟨o, es, ep, z, d, r⟩
    refine ⟨o, es, ep, seen z ?_, d, r⟩
    rintro rfl
    rw [at_a] at z
    cases z
    have d2 : Data.seq us.toArray _ = Data.dict es ep := d
    cases d2
  have kin : K.In (hidT s.heap H) := by
    intro b o z
    refine hidT_get (KX b o z) ?_
    rcases hb : H b with _ | u
    · rfl
    · have e := alone b (by rw [hb]; exact Option.some_ne_none u)
      subst e
      rw [foreign (by rw [hb]; exact Option.some_ne_none u)] at z
      cases z
  obtain ⟨mc, l1, l2⟩ := lim
  exact {
    frames := rfl
    mod := ⟨kin, dicts G, ⟨mb, dicts B, bb⟩, mc, dicts l1, l2⟩
    bs := fun b o z => of_hidT z
    bsz := Nat.le_of_eq (hidT_size _ _)
    funs := trivial
    frf := fun b z => absurd z List.not_mem_nil
    hok := ok
    bare := .of_eq gn }
/-- the script, as it is known in front -/
theorem script_at (at_a : s.heap.get? a = some { cls := .type "list", data := .seq us.toArray }) (KX : K.In s.heap) (wh : IntsAre us ns) (short : ns.length ≤ sizeLine) :
    ∃ H : Hp, Only H ∧ SqL K H a (ns.map V.int) ∧ HOk P w H s.heap ∧ (∀ b, H b ≠ none → b = a) ∧ (H a ≠ none → K.lookup a = none) := by
  have rv := vals_ints wh
  rcases hk : K.lookup a with _ | o
  · have one : ∀ {b : Addr} {u : HO}, (if b = a then some (HO.frz { cls := .type "list", data := .seq us.toArray } (.lst (ns.map V.int))) else none) = some u → b = a ∧ u = .frz { cls := .type "list", data := .seq us.toArray } (.lst (ns.map V.int)) := by
      intro b u z
      split at z
      · cases z; exact ⟨by assumption, rfl⟩
      · cases z
    refine ⟨fun b => if b = a then some (.frz { cls := .type "list", data := .seq us.toArray } (.lst (ns.map V.int))) else none, fun b => ?_, .inl (.inr ⟨_, if_pos rfl⟩), fun b u z => ?_, fun b z => ?_, fun _ => rfl⟩
    · by_cases e : b = a
      · exact .inr ⟨_, _, if_pos e⟩
      · exact .inl (if_neg e)
    · obtain ⟨rfl, rfl⟩ := one z
      exact ⟨at_a, by rw [List.length_map]; exact short, us, _, rv, at_a⟩
    · by_cases e : b = a
      · exact e
      · exact absurd (if_neg e) z
  · have z := KX a o hk
    rw [at_a] at z
    cases z
    refine ⟨fun _ => none, fun _ => .inl rfl, .inr ⟨_, us.toArray, _, hk, rfl, rfl, rfl, ?_, by simpa using rv⟩, fun b u z => by simp at z, fun b z => absurd rfl z, fun z => absurd rfl z⟩
    rw [List.size_toArray, wh.length]
    exact short
theorem law_goG (KX : K.In s.heap) (G : s.heap.Ns mainGlobals mg) (B : s.heap.Ns builtinsNs mb) (bb : ∀ y : Str, y ≠ "__name__" → mb y = bootBuiltins y) (lim : s.heap.NoLimit) (gn : s.gens = #[])
    (at_a : s.heap.get? a = some { cls := .type "list", data := .seq us.toArray }) (wh : IntsAre us ns) (short : ns.length ≤ sizeLine) (rm : Room k callerA)
    (F : ∀ base : Heap, K.In base → base.Ns mainGlobals mg → FnG P w K mg base C k fa fd [x] sp) (bd : ∀ (s : Shared) (u : Value), BindsTo s fd ⟨[u], []⟩ [(x, u)])
    (say : ∀ H : Hp, Only H → SqL K H a (ns.map V.int) → sp [.ref a] H (fun v _ => v = .bl true) fun _ _ _ => False)
    (none_out : ∀ H e s2, C [] H s (fun _ _ _ => False) e s2 → False) :
    codeAny (model P w) callerA (.call (.ref fa) ⟨[.ref a], []⟩)
      (fun r s2 => r = .ok (.ret (.bool true)) ∧ OldK s.heap s2.heap ∧ s2.os = s.os ∧ AllBare s2.gens) s := by
  obtain ⟨H, only, sq, ok, alone, foreign⟩ := script_at (P := P) (w := w) at_a KX wh short
  have e0 := front (K := K) (mg := mg) KX G B bb lim gn at_a alone foreign ok
  apply codeAny_mono ((F _ e0.mod.kin e0.mod.glob).go (args := ⟨[.ref a], []⟩) (us := [.ref a]) (vs := [.ref a]) ⟨rm, rfl⟩ e0 (bd s (.ref a)) (.cons rfl .nil) (say H only sq))
  intro r s2 z
  match r, z with
  | .error e, z => exact (none_out H e s2 z).elim
  | .ok .next, z => exact z.elim
  | .ok .brk, z => exact z.elim
  | .ok .cont, z => exact z.elim
  | .ok (.ret u), ⟨v, H2, os, bare, un, ok2, r2, q⟩ =>
    have q2 : v = .bl true := q
    subst q2
    have r3 : u = Value.bool true := r2
    subst r3
    refine ⟨rfl, OldK.of_keep ?_, os, bare⟩
    intro b o z
    rcases hb : H b with _ | y
    · exact un.keep b o z hb (fun m => absurd m List.not_mem_nil) (by simp)
    · rcases only b with m | ⟨ob, xs, m⟩
      · rw [hb] at m; cases m
      · obtain ⟨g1, _⟩ := ok b _ m
        obtain ⟨g2, _⟩ := ok2 b _ (un.frzs b ob _ m)
        rw [z] at g1
        cases g1
        exact g2
end
end Z
namespace Z
open PySem PySem.Spec PyProof.Rows L2
section
variable {X : Cx} {e : Expr} {es : List Expr} {ta : TA} {p p1 p2 pos : Pos} {x : Str} {R : Addr} {mc : Value}
/-- R.__init__(self, ..), R an own class that has ValueError's -/
theorem pe_ovinit {pl : Sem Bool} (hg : Gl X x) (hm : X.mg x = some (.ref R)) (hdb : (x == ("__debug__" : Str)) = false) (r : ClX.CRead X.K R mc) (at_ : PySem.W.findCls X.K (.ref R) mc "__init__" = some (.val (.builtin "ValueError.__init__"))) (ha : PA X (e :: es) ta)
    (hc : eval (.Call (.Attribute (.Name x p1) "__init__" p2) (e :: es) [] pos) X.env = (do
      let ov ← eval (.Name x p1) X.env
      standAt p2.atName
      let (f, first) ← holding [ov] (getMethod ov "__init__" pl)
      callWith pos f first (backTo pos (starEach (e :: es) X.env)) (backToKw pos (keywordEach [] X.env))) := by rfl)
    (he : starEach (e :: es) X.env = (false, eval e X.env) :: starEach es X.env := by rfl) (hpl : (backTo pos (starEach es X.env)).any (·.1) = false := by rfl) :
    PE X (.Call (.Attribute (.Name x p1) "__init__" p2) (e :: es) [] pos) (tVeI X.K ta) := by
  refine ⟨fun pins s σ H Q I h => ?_⟩
  refine PySem.W.methodCall_KW (ld_glob I hg hm ?_ hdb) hc
  refine PySem.W.method_cls I.kIn r.ga (PySem.W.cls_value I.kIn r.rd at_ (by decide +kernel) ?_)
  show wpAny _ _ (callWith pos (Value.builtin "ValueError.__init__") [] (backTo pos (starEach (e :: es) X.env)) []) _ _ _
  refine PyProof.Rows.callWith_method1 (thn (ha.run pos pins _ σ H _ (I.tok _) h) fun us s1 ⟨vs, H1, I1, r1, a, C, ws, ev, hl, T, ea, q⟩ => ?_) he hpl
  subst ev
  cases r1 with
  | @cons _ u0 _ ur ra rw' =>
    obtain rfl : u0 = Value.ref a := ra
    have hlen : ur.length ≤ sizeLine := by
      rw [← Paired.length rw', sizeLine_eq]
      omega
    exact oinit_ok T I1 ea hlen fun s' J => ⟨.non, H1, J, rfl, q⟩
end
/-- the end of C(), C's own __init__ laying no field: the exception is let go -/
theorem mk_endN {X : Cx} {pins : List (Addr × Obj)} {σ : L2.St} {H1 : Hp} {hp hp2 h2 : Heap} {g1 g2 : Array GenState} {d1 d2 : Drawn} {t1 t2 : Nat} {os1 os2 : OsState} {a C : Addr} (I1 : Inv X pins σ H1 ⟨hp, g1, d1, t1, os1⟩)
    (ha : hp.objs.size ≤ a) (k : ∀ b o, hp.get? b = some o → hp2.get? b = some o) (un : Un (frs X.stack) [] (upd H1 a (exo a C none)) (upd H1 a (exo a C none)) hp2 h2) (hok : HOk X.prog X.w (upd H1 a (exo a C none)) h2) (ho : os2 = os1) (hb : AllBare g2) :
    ∃ (t0 : Addr) (G : Heap), Inv X pins σ H1 ⟨G, g2, d2, t2, os2⟩ ∧ (∀ b o, G.get? b = some o → h2.get? b = some o) ∧ G.get? a = none ∧
      h2.get? a = some ({ cls := .ref C, data := .fields #[.ref t0, .none, .none, .none, .bool false, .none] } : Obj) ∧ H1 a = none := by
  have ea : upd H1 a (exo a C none) a = some (exo a C none) := upd_same
  obtain ⟨t0, hoe⟩ := exo_at hok ea
  have hn : H1 a = none := I1.hok.fresh ha
  obtain ⟨G, g1', g2'⟩ := restrict h2 fun b => decide (b ≠ a)
  have gk : ∀ b, b ≠ a → G.get? b = h2.get? b := fun b hb => g1' b (decide_eq_true hb)
  have ge : G.get? a = none := g2' a (by simp)
  have nha : ∀ {b : Addr} {o : Obj}, hp.get? b = some o → b ≠ a := fun {b o} z => Nat.ne_of_lt (Nat.lt_of_lt_of_le (Heap.lt_size z) ha)
  have up : ∀ {b : Addr}, b ≠ a → H1 b = none → upd H1 a (exo a C none) b = none := fun {b} hb n => by rw [upd_ne hb]; exact n
  have U : Un (frs X.stack) [] H1 H1 hp G := {
    keep := fun b o z n hf hx => by
      rw [gk b (nha z)]
      exact un.keep b o (k b o z) (up (nha z) n) hf hx
    slot := fun b o z n hf hx => by
      rw [gk b (nha z)]
      exact un.slot b o (k b o z) (up (nha z) n) hf hx
    free := fun b o z n hx => n
    there := fun b o z hx => by
      rw [gk b (nha z)]
      exact un.there b o (k b o z) hx
    tups := fun b xs z => z
    frzs := fun b o v z => z
    tbls := fun b ps z => ⟨#[], by simpa using z⟩ }
  have hok3 : HOk X.prog X.w H1 G := fun b o z => by
    have hba : b ≠ a := fun e => by
      rw [e, hn] at z
      cases z
    have noa : ∀ {c : Addr}, upd H1 a (exo a C none) c = some (.own b) → c ≠ a := fun {c} hc => at_ne ea hc exo_own
    exact (hok b o (by rw [upd_ne hba]; exact z)).stay (fun c v hc y => by
        have hca : c ≠ a := by
          rcases hc with hc | hc
          · rw [hc]
            exact hba
          · exact noa hc
        rw [gk c hca]
        exact y)
      (fun c hc => by have n := noa hc; rw [upd_ne n] at hc; exact hc) (fun c xs hc => by have n := at_ne ea hc exo_tup; rw [upd_ne n] at hc; exact hc)
  have J : Inv X pins σ H1 ⟨G, g2, d2, t2, os2⟩ := I1.call' (ch := []) ho U hok3 hb (fun b z => absurd z (by simp))
  refine ⟨t0, G, J, fun b o z => ?_, ge, hoe, hn⟩
  by_cases hba : b = a
  · rw [hba, ge] at z
    cases z
  · exact (gk b hba).symm.trans z
/-- what such an __init__ promises -/
def spI (K : PySem.W.Frag) : Sp := fun vs H Q _ => ∃ (a C : Addr), vs = [.ref a] ∧ OexC K C ∧ H a = some (exo a C none) ∧ Q .non H
/-- C(), C's own __init__ keeping spI -/
theorem pmk_oexN {X : Cx} {CX : CXT} {x : Str} {C fI : Addr} {k : Nat} {fd : FuncData} {ps : List Str} {p pos : Pos} (T : OexC X.K C) (iC : PySem.W.findIn X.K (.ref C) "__init__" = some (some (.ref fI))) (tI : PySem.W.typeIn X.K (.ref fI) = some (.type "function"))
    (F1 : FnG X.prog X.w X.K X.mg X.base CX k fI fd ps (spI X.K)) (hr : Room (k + 1) X.A) (hgd : X.A.guards = some []) (hb : Binds X.K fd ps []) (hx : Passes CX X (fun _ _ _ => False)) (hg : Gl X x) (hm : X.mg x = some (.ref C)) (hdb : (x == ("__debug__" : Str)) = false) :
    PMk X (.Call (.Name x p) [] [] pos) (fun _ H Q => Q (.ref C) none H) := by
  intro pins s σ H Q I h
  obtain ⟨nm, q, N, bs, bm, sn, sub, ab, col, dd, k0, k1, k2, k3, k5, hC, hbm⟩ := T.cls
  refine wpAny_Call_Name_kw (ld_glob I hg hm ?_ hdb)
  refine PySem.W.callWith_K0 I.kIn T.kC ?_
  show wpAny _ _ (call (.ref C) []) _ _ _
  obtain ⟨hp, g, dr, tk, os⟩ := s
  have hsz : hp.objs.size ≤ hp.objs.size + 1 := Nat.le_succ _
  have kk : ∀ b o, hp.get? b = some o → ((hp.push (PySem.W.kdv_tup [])).push (PySem.HandSPX.excO C hp.objs.size)).get? b = some o := fun b o e => Heap.get?_push_of_some _ (Heap.get?_push_of_some _ e)
  have hget : ((hp.push (PySem.W.kdv_tup [])).push (PySem.HandSPX.excO C hp.objs.size)).get? (hp.objs.size + 1) = some (PySem.HandSPX.excO C hp.objs.size) := by heap_get
  have I2 : Inv X pins σ (upd H (hp.objs.size + 1) (exo (hp.objs.size + 1) C none)) ⟨(hp.push (PySem.W.kdv_tup [])).push (PySem.HandSPX.excO C hp.objs.size), g, dr, tk, os⟩ :=
    I.laid (t' := tk) (a := hp.objs.size + 1) (o := exo (hp.objs.size + 1) C none) (h' := (hp.push (PySem.W.kdv_tup [])).push (PySem.HandSPX.excO C hp.objs.size)) kk hsz (exo_ok hget)
  have hq : spI X.K [V.ref (hp.objs.size + 1)] (upd H (hp.objs.size + 1) (exo (hp.objs.size + 1) C none)) (fun v H2 => v = .non ∧ H2 = upd H (hp.objs.size + 1) (exo (hp.objs.size + 1) C none)) (fun _ _ _ => False) := ⟨_, C, rfl, T, upd_same, rfl, rfl⟩
  have r2 : Vals [V.ref (hp.objs.size + 1)] [Value.ref (hp.objs.size + 1)] := .cons rfl .nil
  have hl : ([Value.ref (hp.objs.size + 1)] ++ []).length = ps.length := by
    have e := F1.ln hq
    exact e
  refine wpAny_call (PySem.HandSPX.call_own F.excBase_ValueError (fun Y => PySem.HandSPX.refsVE_contains Y bm hbm) (I.kIn _ _ hC) (PySem.W.looks_findIn I.kIn iC) (fun self => PySem.W.bind_fn I.kIn self tI) (Nat.zero_le _)
    (codeAny_mono (F1.go (args := ⟨[Value.ref (hp.objs.size + 1)], []⟩) (us := [Value.ref (hp.objs.size + 1)]) ⟨hr.make C [] [], hgd⟩ (I2.env0.make C [] []) (by simpa using hb _ [Value.ref (hp.objs.size + 1)] I2.kIn hl) r2 hq) fun r s' hq' => ?_))
  cases r with
  | error er => exact hx pins σ _ _ er s' I2 hq'
  | ok fl =>
    cases fl with
    | ret u =>
      obtain ⟨v, H2, os2, bare2, un2, hok2, rv, ev, e2⟩ := hq'
      subst ev
      subst e2
      obtain ⟨h2, g2, d2, t2, os'⟩ := s'
      obtain ⟨t0, G, J, kG, ge, hoe, na⟩ := mk_endN (d2 := d2) (t2 := t2) I hsz kk un2 hok2 os2 bare2
      exact ⟨rv, hp.objs.size + 1, _, _, ⟨G, g2, d2, t2, os'⟩, _, .ref C, none, rfl, J, kG, ge, hoe, ⟨rfl, rfl⟩, rfl, rfl, na, rfl, bare2, raises_own T.exC T.tyC, h⟩
    | next => exact False.elim hq'
    | brk => exact False.elim hq'
    | cont => exact False.elim hq'
end Z
namespace Z
open PySem PySem.Spec PyProof.Rows L2
def blts : List Str := ["len", "abs", "int", "list", "isinstance", "range", "enumerate", "tuple", "bool", "str", "repr", "min", "max", "sum", "any", "all", "zip", "reversed", "dict", "set"]
/-- an exception of the text, as it stands in the heap -/
def xvOf (T : Tab) (mg : Str → Option Value) : XV := fun x cls d H => ∃ nm fld, T.exs[x.cls]? = some (nm, fld) ∧ mg nm = some cls ∧
  ((fld = none ∧ x.args = [] ∧ d = none) ∨ ∃ f i dx, fld = some f ∧ x.args = [.int i] ∧ d = some dx ∧ H dx = some (.xd [(f, .int i)]))
def FnAt (T : Tab) (P : Program) (w : World) (K : PySem.W.Frag) (mg : Str → Option Value) (base : Heap) (k j : Nat) (f : Str) : Prop :=
  ∃ fa fd ps F dvs, T.fns j = some F ∧ mg f = some (.ref fa) ∧ PySem.W.keepIn K (.ref fa) = true ∧ FnG P w K mg base (L2.CX P w) (k + 2) fa fd ps (spZ K (xvOf T mg) T.fns k F) ∧
    (∀ M H, Reps K M H F.dv dvs) ∧ ∀ n, n ≤ dvs.length → ∃ ds, Vals (dvs.drop n) ds ∧ Binds K fd ps ds
/-- what the head says of the own exceptions -/
structure ExF (T : Tab) (P : Program) (w : World) (K : PySem.W.Frag) (mg : Str → Option Value) (base : Heap) : Prop where
  ms : ∀ (c : Nat) (nm : Str), T.exs[c]? = some (nm, none) → ∃ (C fI : Addr) (fd : FuncData) (ps : List Str), mg nm = some (.ref C) ∧ OexC K C ∧ L2.ExcC K C ∧ PySem.W.findIn K (.ref C) "__init__" = some (some (.ref fI)) ∧ PySem.W.typeIn K (.ref fI) = some (.type "function") ∧
    Binds K fd ps [] ∧ FnG P w K mg base (L2.CX P w) 1 fI fd ps (spI K)
  si : ∀ (nm c : Str) (b : Bool), (nm, c, b) ∈ T.sub → ∀ C, mg nm = some (.ref C) → ∃ cv : Value, ((∃ a, mg c = some (.ref a) ∧ cv = .ref a) ∨ (mg c = none ∧ bootBuiltins c = some cv ∧ ∃ t, cv = .type t)) ∧ PySem.W.kitOne K (.ref C) cv = some b
  cc : ∀ (nm c : Str), (nm, c) ∈ T.exc → ∃ a, mg c = some (.ref a)
  ec : ∀ (nm c : Str), (nm, c) ∈ T.exc → ∀ C, mg nm = some (.ref C) → ∃ a, mg c = some (.ref a) ∧ PySem.W.exmOne K (.ref C) (.ref a) = some true
structure Kn (T : Tab) (N : List Str) (X : Cx) (k : Nat) (W : XW) : Prop where
  tk : ∃ Wl : WX, Takes X Wl ∧ ∀ x σ H cls d, W x σ H → xvOf T X.mg x cls d H → Wl cls d σ H
  calm : X.calm = true
  room : Room (k + 2) X.A
  gd : X.A.guards = some []
  hN : X.N = N
  nd : N.Nodup
  fn : ∀ j f, T.names[j]? = some f → FnAt T X.prog X.w X.K X.mg X.base k j f
  gl : ∀ x d, T.gls.lookup x = some d → ∃ v u, X.mg x = some u ∧ RelV v u ∧ ∀ M H, Rep X.K M H d v
  bl : ∀ x ∈ blts, X.mg x = none
  gc : T.gcd = true → X.mg "gcd" = some (.builtin "math.gcd")
  cm : T.cmb = true → X.mg "combinations" = some (.type "itertools.combinations")
  xs : ExF T X.prog X.w X.K X.mg X.base
def noW : XW := fun _ _ _ => False
theorem takes_no {X : Cx} {xv : XV} : ∃ Wl : WX, Takes X Wl ∧ ∀ x σ H cls d, noW x σ H → xv x cls d H → Wl cls d σ H := ⟨fun _ _ _ _ => False, fun u s' ⟨_, _, _, _, _, _, _, _, _, _, _, _, _, _, _, _, w⟩ => w.elim, fun _ _ _ _ _ h _ => h.elim⟩
theorem Kn.blk {T : Tab} {N : List Str} {X : Cx} {k : Nat} {W : XW} (h : Kn T N X k W) {s : Shared} {H : Hp} {scope : Scope} {cenv : Env} {fp : List Addr} : Kn T N (X.blk s H scope cenv fp) k noW :=
  ⟨takes_no, h.calm, h.room, h.gd, h.hN, h.nd, h.fn, h.gl, h.bl, h.gc, h.cm, h.xs⟩
theorem slotOf_get {N : List Str} {x : Str} {i : Nat} (h : slotOf N x = some i) : N[i]? = some x := by
  unfold slotOf at h
  obtain ⟨h1, h2, _⟩ := List.findIdx?_eq_some_iff_getElem.mp h
  rw [List.getElem?_eq_getElem h1]
  exact congrArg some (of_decide_eq_true h2)
theorem vis_of {sc : Scope} {x : Str} (h : visB sc x = true) : Vis sc x ∧ (x == ("__debug__" : Str)) = false ∧ (x == ("__classdict__" : Str)) = false := by
  unfold visB at h
  rw [Bool.and_eq_true, Bool.and_eq_true] at h
  obtain ⟨⟨h1, h2⟩, h3⟩ := h
  refine ⟨?_, by simpa using h2, by simpa using h3⟩
  split at h1
  · exact .inl (by assumption)
  · exact .inr (.inl (by assumption))
  · exact .inr (.inr (by assumption))
  · cases h1
theorem gl_of {sc : Scope} {x : Str} (h : glB sc x = true) : sc.names.lookup x = some .globalImplicit ∧ (x == ("__debug__" : Str)) = false ∧ x ≠ "__name__" := by
  unfold glB at h
  rw [Bool.and_eq_true, Bool.and_eq_true] at h
  obtain ⟨⟨h1, h2⟩, h3⟩ := h
  refine ⟨?_, by simpa using h2, by simpa using h3⟩
  split at h1
  · assumption
  · cases h1
/-- an expression that is no star -/
def NoStar : Expr → Prop
  | .Starred _ _ => False
  | _ => True
theorem star_cons {e : Expr} {es : List Expr} {env : PySem.Env} (h : NoStar e) : starEach (e :: es) env = (false, eval e env) :: starEach es env := by
  cases e <;> first | rfl | exact h.elim
theorem star_plain {pos : Pos} {env : PySem.Env} : ∀ {es : List Expr}, (∀ e ∈ es, NoStar e) → (backTo pos (starEach es env)).any (·.1) = false
  | [], _ => rfl
  | e :: es, h => by
    rw [star_cons (h e List.mem_cons_self)]
    show (false || (backTo pos (starEach es env)).any (·.1)) = false
    rw [Bool.false_or]
    exact star_plain fun x hx => h x (List.mem_cons_of_mem _ hx)
section
variable {T : Tab} {N : List Str} {k : Nat} {X : Cx}
/-- operators -/
theorem bin_rule {op : Operator} {p : Pr} (h : binP op = some p) : ∃ r, OpR X (binaryOp op) r ∧ P2T X.K (fun a b => prB p [a, b]) r := by
  cases op <;> cases h
  · exact ⟨_, OpR.or op_add (OpR.or op_cat (OpR.or op_catA op_add_str)), p_add⟩
  · exact ⟨_, op_sub, p_sub⟩
  · exact ⟨_, OpR.or op_mulZ op_rep, p_mul⟩
  · exact ⟨_, op_mod, p_mod⟩
  · exact ⟨_, op_pow, p_pow⟩
  · exact ⟨_, op_fdivZ, p_fdiv⟩
theorem cmp_rule {W : XW} (kn : Kn T N X k W) {op : CmpOp} {p : Pr} (h : cmpP op = some p) : ∃ r, OpR X (compareOp op) r ∧ P2T X.K (fun a b => prB p [a, b]) r := by
  have hu : X.A.units + 65 < cLine := by have := kn.room.un; omega
  have hu2 : X.A.units + 64 < cLine := by omega
  cases op <;> cases h
  · exact ⟨_, OpR.or (op_eqD hu2) op_eq, p_eq⟩
  · exact ⟨_, OpR.or (op_neD hu2) op_ne, p_ne⟩
  · exact ⟨_, op_lt, p_cmp _⟩
  · exact ⟨_, op_le, p_cmp _⟩
  · exact ⟨_, op_gt, p_cmp _⟩
  · exact ⟨_, op_ge, p_cmp _⟩
  · first | exact ⟨_, op_isBl, p_isb⟩ | exact ⟨_, op_notBl, p_nisb⟩ | exact ⟨_, OpR.or (op_inD hu) (op_inTD hu), p_in⟩ | exact ⟨_, OpR.or (op_notInD hu) (op_notInTD hu), p_notin⟩
  · first | exact ⟨_, op_isBl, p_isb⟩ | exact ⟨_, op_notBl, p_nisb⟩ | exact ⟨_, OpR.or (op_inD hu) (op_inTD hu), p_in⟩ | exact ⟨_, OpR.or (op_notInD hu) (op_notInTD hu), p_notin⟩
  · first | exact ⟨_, op_isBl, p_isb⟩ | exact ⟨_, op_notBl, p_nisb⟩ | exact ⟨_, OpR.or (op_inD hu) (op_inTD hu), p_in⟩ | exact ⟨_, OpR.or (op_notInD hu) (op_notInTD hu), p_notin⟩
  · first | exact ⟨_, op_isBl, p_isb⟩ | exact ⟨_, op_notBl, p_nisb⟩ | exact ⟨_, OpR.or (op_inD hu) (op_inTD hu), p_in⟩ | exact ⟨_, OpR.or (op_notInD hu) (op_notInTD hu), p_notin⟩
def NoSet : Expr → Prop
  | .Set _ _ _ => False
  | _ => True
theorem behind_no {b : Expr} {op : CmpOp} (h : NoSet b) : behindInMarks op b = false := by
  cases b <;> first | rfl | exact h.elim
/-- what the four say at a depth of the text -/
def SE (T : Tab) (N : List Str) (k n : Nat) : Prop := ∀ sc e ie, cE T N n sc e = some ie → NoStar e ∧ NoSet e ∧ (∀ lo hi st pos, e ≠ .Slice lo hi st pos) ∧ ∀ X W, Kn T N X k W → X.env.scope = sc → PE X e (tZ X.K W (evE (callK T.fns k) ie))
def SA (T : Tab) (N : List Str) (k n : Nat) : Prop := ∀ sc e ia, cA T N n sc e = some ia → NoStar e ∧ NoSet e ∧ (∀ lo hi st pos, e ≠ .Slice lo hi st pos) ∧ ∀ X W, Kn T N X k W → X.env.scope = sc → PE X e (tP X.K W (evA (callK T.fns k) ia))
def ST (T : Tab) (N : List Str) (k n : Nat) : Prop := ∀ sc e it, cT T N n sc e = some it → ∀ X W, Kn T N X k W → X.env.scope = sc → PT X e (tB X.K W (evT (callK T.fns k) it)) ∧ (∀ op vs pos, e = .BoolOp op vs pos → PW X e (tB X.K W (evT (callK T.fns k) it)))
def SI (T : Tab) (N : List Str) (k n : Nat) : Prop := ∀ sc tg e ii, cI T N n sc tg e = some ii → (∀ elts kk pos, e ≠ .Set elts kk pos) ∧ ∀ X W, Kn T N X k W → X.env.scope = sc → PI X tg e (tI X.K W (evI (callK T.fns k) ii))
theorem ST.pt {n : Nat} (h : ST T N k n) {sc : Scope} {e : Expr} {it : IT} (c : cT T N n sc e = some it) {X : Cx} {W : XW} (kn : Kn T N X k W) (hs : X.env.scope = sc) : PT X e (tB X.K W (evT (callK T.fns k) it)) := (h sc e it c X W kn hs).1
theorem z_cst {K : PySem.W.Frag} {W : XW} {C : Cl} {d : D} {v : V} {σ : L2.St} {H : Hp} {Q : VK} (r : ∀ M H, Rep K M H d v) (h : tZ K W (evE C (.cst d)) σ H Q) : Q v H := by
  obtain ⟨M, env, e, h⟩ := h
  simp only [evE] at h
  exact h M H v e .refl (r M H)
theorem allO_map {α β : Type} {f : α → Option β} : ∀ {l : List α} {r : List β}, allO (l.map f) = some r → ∀ a ∈ l, ∃ b, f a = some b
  | [], _, _, a, h => by simp at h
  | x :: l, r, h, a, ha => by
    simp only [List.map_cons] at h
    cases hx : f x with
    | none => rw [hx] at h; cases h
    | some b =>
      rw [hx] at h
      simp only [allO] at h
      obtain ⟨r', h1, _⟩ := map_some h
      rcases List.mem_cons.mp ha with rfl | ha
      · exact ⟨b, hx⟩
      · exact allO_map h1 a ha
theorem allO_cons {α β : Type} {f : α → Option β} {x : α} {l : List α} {r : List β} (h : allO ((x :: l).map f) = some r) : ∃ b r', f x = some b ∧ allO (l.map f) = some r' ∧ r = b :: r' := by
  simp only [List.map_cons] at h
  cases hx : f x with
  | none => rw [hx] at h; cases h
  | some b =>
    rw [hx] at h
    simp only [allO] at h
    obtain ⟨r', h1, h2⟩ := map_some h
    exact ⟨b, r', rfl, h1, h2.symm⟩
theorem pa_es {n : Nat} {W : XW} (ih : SE T N k n) {sc : Scope} (kn : Kn T N X k W) (hs : X.env.scope = sc) : ∀ {es : List Expr} {ies : List IE}, allO (es.map (cE T N n sc)) = some ies → PA X es (tDs X.K W (evEs (callK T.fns k) ies))
  | [], ies, h => by
    cases h
    exact PA.imp pa_nil fun _ _ _ => es_tnil
  | e :: es, ies, h => by
    obtain ⟨b, r', h1, h2, rfl⟩ := allO_cons h
    obtain ⟨s1, _, _, p1⟩ := ih sc e b h1
    exact PA.imp (pa_cons (p1 X W kn hs) (pa_es ih kn hs h2) (star_cons s1)) fun _ _ _ => es_tcons
theorem pa_as {n : Nat} {W : XW} (ih : SA T N k n) {sc : Scope} (kn : Kn T N X k W) (hs : X.env.scope = sc) : ∀ {es : List Expr} {ies : List IA}, allO (es.map (cA T N n sc)) = some ies → PA X es (tPs X.K W (evAs (callK T.fns k) ies))
  | [], ies, h => by
    cases h
    exact PA.imp pa_nil fun _ _ _ => as_tnil
  | e :: es, ies, h => by
    obtain ⟨b, r', h1, h2, rfl⟩ := allO_cons h
    obtain ⟨s1, _, _, p1⟩ := ih sc e b h1
    exact PA.imp (pa_cons (p1 X W kn hs) (pa_as ih kn hs h2) (star_cons s1)) fun _ _ _ => as_tcons
theorem plain_ix {b : Expr} (h : ∀ lo hi st pos, b ≠ .Slice lo hi st pos) : PlainIx b := by
  intro o i
  cases b <;> first | rfl | exact absurd rfl (h _ _ _ _)
theorem evAs_len {C : Cl} : ∀ {as : List IA} {env env' : En} {l : List PV}, evAs C as env = .ok l env' → l.length = as.length
  | [], env, env', l, h => by simp only [evAs] at h; cases h; rfl
  | a :: as, env, env', l, h => by
    simp only [evAs] at h
    cases hx : evA C a env with
    | bad => rw [hx] at h; cases h
    | ex => rw [hx] at h; cases h
    | ok p env1 =>
      rw [hx] at h
      simp only [Out.bind_ok] at h
      cases hy : evAs C as env1 with
      | bad => rw [hy] at h; cases h
      | ex => rw [hy] at h; cases h
      | ok ps env2 =>
        rw [hy] at h
        cases h
        exact congrArg (· + 1) (evAs_len hy)
/-- a call's reading -/
theorem z_call {K : PySem.W.Frag} {W : XW} {xv : XV} {Wl : WX} {F : Fn} {f : Nat} {as : List IA} {dvs : List V} {σ : L2.St} {H : Hp} {Q : VK} (hW : ∀ x σ H cls d, W x σ H → xv x cls d H → Wl cls d σ H) (hT : T.fns f = some F) (dv : ∀ M H, Reps K M H F.dv dvs)
    (h : tZ K W (evE (callK T.fns k) (.call f as)) σ H Q) : tPs K W (evAs (callK T.fns k) as) σ H fun vs H1 => ∃ E : XK, spZ K xv T.fns k F (vs ++ dvs.drop (dvs.length - (F.np - as.length))) H1 Q E ∧ ∀ cls d H', E cls d H' → Wl cls d σ H' := by
  obtain ⟨M, env, e, h⟩ := h
  refine ⟨M, env, e, ?_⟩
  simp only [evE] at h
  cases hx : evAs (callK T.fns k) as env with
  | bad => rw [hx] at h; exact h.elim
  | ex => rw [hx] at h; exact h
  | ok l env1 =>
    rw [hx] at h
    simp only [Out.bind_ok] at h
    intro M1 H1 vs e1 s1 f1
    rw [← evAs_len hx, f1.length]
    refine ⟨fun cls d H' => Wl cls d σ H', call_ok (fun x H' cls d h hx => hW x σ H' cls d h hx) hT e1 f1 dv ?_, fun _ _ _ h => h⟩
    unfold RZ at h ⊢
    cases hy : doCall (callK T.fns k) f l env1 with
    | bad => rw [hy] at h; exact h.elim
    | ex => rw [hy] at h; exact h.back e s1
    | ok z env2 =>
      rw [hy] at h
      exact fun M' H' v e' s' r' => h M' H' v e' (s1.trans e.mok s') (r'.back s1)
theorem each_no {env : PySem.Env} {x : Str} {p : Pos} {es : List Expr} : assignEach (.Name x p :: es) env = (false, assign (.Name x p) env) :: assignEach es env := rfl
theorem nm_inv {sc : Scope} {e : Expr} {i : Nat} (h : nmOf N sc e = some i) : ∃ x p, e = .Name x p ∧ N[i]? = some x ∧ (sc.names.lookup x = some .local ∨ sc.names.lookup x = some .cell) := by
  cases e <;> simp only [nmOf] at h <;> try (cases h; done)
  rename_i x p
  split at h
  case isFalse => cases h
  rename_i hv
  obtain ⟨v, _, _⟩ := vis_of hv
  refine ⟨x, p, rfl, ?_⟩
  split at h
  · cases h
  · rename_i nf
    refine ⟨slotOf_get h, ?_⟩
    rcases v with v | v | v
    · exact .inl v
    · exact .inr v
    · exact absurd v nf
/-- the block's or the def's own names may be stored -/
structure Sto (sc : Scope) (X : Cx) : Prop where
  keep : ∀ x k, k ≠ NameKind.free → sc.names.lookup x = some k → X.env.scope.names.lookup x = some k
  fn : ∀ x, sc.names.lookup x = some .cell → X.fn x = true
theorem pg_nm {W : XW} (kn : Kn T N X k W) {sc : Scope} (st : Sto sc X) {e : Expr} {i : Nat} (h : nmOf N sc e = some i) : PG X e (gName i) := by
  obtain ⟨x, p, rfl, h1, h2⟩ := nm_inv h
  have hN : X.N.Nodup := by rw [kn.hN]; exact kn.nd
  have hi : X.N[i]? = some x := by rw [kn.hN]; exact h1
  rcases h2 with h2 | h2
  · have q := st.keep x _ (by decide) h2
    exact pg_name hN hi (.inl q) (.inr q)
  · exact pg_name hN hi (.inr (st.keep x _ (by decide) h2)) (.inl (st.fn x h2))
theorem pgs_nms {W : XW} (kn : Kn T N X k W) {sc : Scope} (st : Sto sc X) : ∀ {es : List Expr} {is : List Nat}, allO (es.map (nmOf N sc)) = some is → PGs X es (gNms is)
  | [], is, h => by cases h; exact pgs_nil
  | e :: es, is, h => by
    obtain ⟨b, r', h1, h2, rfl⟩ := allO_cons h
    obtain ⟨x, p, rfl, _⟩ := nm_inv h1
    exact pgs_cons (pg_nm kn st h1) (pgs_nms kn st h2) rfl
theorem nms_len {sc : Scope} : ∀ {es : List Expr} {is : List Nat} {E : Env}, allO (es.map (nmOf N sc)) = some is → (assignEach es E).length = is.length ∧ (assignEach es E).findIdx? (·.1) = none := by
  intro es
  induction es with
  | nil => intro is E h; cases h; exact ⟨rfl, rfl⟩
  | cons e es ih =>
    intro is E h
    obtain ⟨b, r', h1, h2, rfl⟩ := allO_cons h
    obtain ⟨x, p, rfl, _⟩ := nm_inv h1
    obtain ⟨g1, g2⟩ := ih (E := E) h2
    rw [each_no]
    refine ⟨congrArg (· + 1) g1, ?_⟩
    rw [List.findIdx?_cons]
    simp only [g2]
    rfl
theorem PG.imp {e : Expr} {t t' : TG} (h : PG X e t) (i : ∀ v σ H Q, t' v σ H Q → t v σ H Q) : PG X e t' := ⟨fun pins s σ H v u Q I r hw => h.run pins s σ H v u Q I r (i v σ H Q hw)⟩
theorem pg_tg {W : XW} (kn : Kn T N X k W) {sc : Scope} (st : Sto sc X) {e : Expr} {g : IG} (pin : Nat → Bool) (h : tgOf N sc e = some g) : PG X e (tGt X.K pin g) := by
  have nm : (nmOf N sc e).map IG.nm = some g → PG X e (tGt X.K pin g) := fun h => by
    obtain ⟨i, h1, rfl⟩ := map_some h
    exact PG.imp (pg_nm kn st h1) fun _ _ _ _ => g_nm
  cases e <;> first | exact nm h | skip
  rename_i es kk pos
  simp only [tgOf] at h
  obtain ⟨is, h1, rfl⟩ := map_some h
  have hl : ∀ {es : List Expr} {is : List Nat}, allO (es.map (nmOf N sc)) = some is → (assignEach es X.env).length = is.length ∧ (assignEach es X.env).findIdx? (·.1) = none := by
    intro es
    induction es with
    | nil => intro is h; cases h; exact ⟨rfl, rfl⟩
    | cons e es ih =>
      intro is h
      obtain ⟨b, r', h1, h2, rfl⟩ := allO_cons h
      obtain ⟨x, p, rfl, _⟩ := nm_inv h1
      obtain ⟨g1, g2⟩ := ih h2
      rw [each_no]
      refine ⟨congrArg (· + 1) g1, ?_⟩
      rw [List.findIdx?_cons]
      simp only [g2]
      rfl
  obtain ⟨g1, g2⟩ := hl h1
  exact PG.imp (pg_tup kn.calm (pgs_nms kn st h1) g1 g2) fun _ _ _ _ => g_tp
theorem sto_blk {scope : Scope} {s : Shared} {H : Hp} {C : Addr} {cl : List (Str × Addr)} {fp : List Addr} : Sto scope (X.blk s H scope (compEnvC scope cl C X.env) fp) :=
  ⟨fun x k hk h => lookup_relS_keep hk h, fun x h => by show (scope.names.lookup x == some .cell) = true; rw [h]; rfl⟩
variable {n : Nat}
end
end Z
namespace Z
open PySem PySem.Spec PyProof.Rows L2
section
variable {T : Tab} {N : List Str} {k n : Nat}
theorem nameV_some {e : Expr} {x : Str} (h : nameV e = some x) : ∃ p, e = .Name x p := by
  cases e <;> simp [nameV] at h
  subst h
  exact ⟨_, rfl⟩
theorem callV_some {e : Expr} {f : Str} {as : List Expr} (h : callV e = some (f, as)) : ∃ p pos, e = .Call (.Name f p) as [] pos := by
  cases e <;> simp only [callV] at h <;> try (cases h; done)
  split at h
  · cases h
    exact ⟨_, _, rfl⟩
  · cases h
theorem isTup_some {e : Expr} (h : isTup e = true) : ∃ es kk pos, e = .Tuple es kk pos := by
  cases e <;> simp [isTup] at h
  exact ⟨_, _, _, rfl⟩
theorem sa_succ (ih : SE T N k n) : SA T N k (n + 1) := by
  intro sc e ia h
  have val : (cE T N n sc e).map IA.val = some ia → NoStar e ∧ NoSet e ∧ (∀ lo hi st pos, e ≠ .Slice lo hi st pos) ∧ ∀ X W, Kn T N X k W → X.env.scope = sc → PE X e (tP X.K W (evA (callK T.fns k) ia)) := fun h => by
    obtain ⟨ie, h1, rfl⟩ := map_some h
    obtain ⟨s1, s2, s3, p⟩ := ih sc e ie h1
    exact ⟨s1, s2, s3, fun X W kn hs => PE.imp (p X W kn hs) fun _ _ _ => p_of_z⟩
  simp only [cA] at h
  split at h
  · rename_i x hn
    obtain ⟨pos, rfl⟩ := nameV_some hn
    split at h
    · rename_i hv
      obtain ⟨i, h1, rfl⟩ := map_some h
      obtain ⟨v, d1, d2⟩ := vis_of hv
      exact ⟨trivial, trivial, (fun _ _ _ _ z => nomatch z), fun X W kn hs => PE.imp (pe_var (by rw [kn.hN]; exact slotOf_get h1) (by rw [hs]; exact v) d1 d2) fun _ _ _ => p_of_at⟩
    · exact val h
  · exact val h
theorem names_get {l : List Str} {f : Str} {j : Nat} (h : l.findIdx? (fun y => decide (y = f)) = some j) : l[j]? = some f := slotOf_get (N := l) h
section
variable {X : Cx} {k : Nat} {f : Addr} {fd : FuncData} {ps : List Str} {sp : Sp} {ds : List Value} {dvs : List V} {x : Str} {p pos : Pos} {e : Expr} {es : List Expr} {t : TA} {Wl : WX}
def tCallX (Wl : WX) (sp : Sp) (dvs : List V) (t : TA) : TE := fun σ H Q => t σ H fun vs H1 => ∃ E : XK, sp (vs ++ dvs) H1 Q E ∧ ∀ cls d H', E cls d H' → Wl cls d σ H'
theorem goX {pins : List (Addr × Obj)} {σ : L2.St} {H : Hp} {s : Shared} {Q : VK} {us : List Value} {vs : List V} {E : XK} (F : FnG X.prog X.w X.K X.mg X.base (L2.CX X.prog X.w) k f fd ps sp) (g : RmG k X.A) (bd : Binds X.K fd ps ds) (dv : Vals dvs ds) (tk : Takes X Wl)
    (I : Inv X pins σ H s) (rv : Vals vs us) (q : sp (vs ++ dvs) H Q E) (hE : ∀ cls d H', E cls d H' → Wl cls d σ H') : wpAny (model X.prog X.w) X.A (call (.ref f) us) (EP X pins σ Q) X.xe s := by
  have both : Vals (vs ++ dvs) (us ++ ds) := rv.append dv
  have cnt : (us ++ ds).length = ps.length := both.length.symm.trans (F.ln q)
  apply wpAny_call
  apply codeAny_mono (F.go (args := ⟨us, []⟩) g I.env0 (bd s us I.kIn cnt) both q)
  intro r s2 z
  match r, z with
  | .error er, z => exact tk er s2 (XE.of_call I hE z)
  | .ok (.ret _), z => exact I.after z
  | .ok .next, z => exact z.elim
  | .ok .brk, z => exact z.elim
  | .ok .cont, z => exact z.elim
theorem pe_callX (F : FnG X.prog X.w X.K X.mg X.base (L2.CX X.prog X.w) k f fd ps sp) (g : RmG k X.A) (gx : Gl X x) (mx : X.mg x = some (.ref f)) (kp : PySem.W.keepIn X.K (.ref f) = true) (bd : Binds X.K fd ps ds) (dv : Vals dvs ds) (tk : Takes X Wl)
    (pa : PA X (e :: es) t) (nd : (x == ("__debug__" : Str)) = false) (st : starEach (e :: es) X.env = (false, eval e X.env) :: starEach es X.env)
    (pl : (backTo pos (starEach es X.env)).any (·.1) = false) : PE X (.Call (.Name x p) (e :: es) [] pos) (tCallX Wl sp dvs t) := by
  constructor
  intro pins s σ H Q I h
  apply wpAny_Call_Name_kw
  apply ld_glob I gx mx _ nd
  apply PySem.W.callWith_K (h₀ := X.base) I.ok.mod.kin kp _ st pl
  apply thn (pa.run pos pins s σ H _ I h)
  rintro us s2 ⟨vs, H2, J, rv, E, q, hE⟩
  exact ⟨J.kIn, goX F g bd dv tk J rv q hE⟩
theorem pe_callX0 (F : FnG X.prog X.w X.K X.mg X.base (L2.CX X.prog X.w) k f fd ps sp) (g : RmG k X.A) (gx : Gl X x) (mx : X.mg x = some (.ref f)) (kp : PySem.W.keepIn X.K (.ref f) = true) (bd : Binds X.K fd ps ds) (dv : Vals dvs ds) (tk : Takes X Wl)
    (nd : (x == ("__debug__" : Str)) = false) : PE X (.Call (.Name x p) [] [] pos) (tCallX Wl sp dvs tNil) := by
  constructor
  intro pins s σ H Q I h
  apply wpAny_Call_Name_kw
  apply ld_glob I gx mx _ nd
  apply PySem.W.callWith_K0 I.kIn kp
  obtain ⟨E, q, hE⟩ := h
  exact goX (us := []) F g bd dv tk I .nil q hE
end
/-- a call of a def of the text -/
theorem se_call (iA : SA T N k n) {sc : Scope} {f : Str} {p pos : Pos} {as : List Expr} {ias : List IA} {j : Nat} (hg : glB sc f = true) (hj : T.names.findIdx? (fun y => decide (y = f)) = some j) (has : allO (as.map (cA T N n sc)) = some ias)
    {X : Cx} {W : XW} (kn : Kn T N X k W) (hs : X.env.scope = sc) : PE X (.Call (.Name f p) as [] pos) (tZ X.K W (evE (callK T.fns k) (.call j ias))) := by
  obtain ⟨g1, g2, _⟩ := gl_of hg
  obtain ⟨fa, fd, ps, F, dvs, hT, hm, hk, hF, hdv, hb⟩ := kn.fn j f (names_get hj)
  have hN := Nat.sub_le dvs.length (F.np - ias.length)
  obtain ⟨ds, hV, hB⟩ := hb _ hN
  have hGl : Gl X f := by show X.env.scope.names.lookup f = _; rw [hs]; exact g1
  have hA := pa_as iA kn hs has
  obtain ⟨Wl, tk, hW⟩ := kn.tk
  cases as with
  | nil =>
    cases has
    exact PE.imp (pe_callX0 (Wl := Wl) hF ⟨kn.room, kn.gd⟩ hGl hm hk hB hV tk g2) fun σ H Q h => by
      have h2 := z_call hW hT hdv h
      exact as_tnil h2
  | cons a as =>
    obtain ⟨b, r', h1, h2, rfl⟩ := allO_cons has
    have ns : ∀ e ∈ a :: as, NoStar e := fun e he => by
      obtain ⟨y, hy⟩ := allO_map has e he
      exact (iA sc e y hy).1
    exact PE.imp (pe_callX (Wl := Wl) hF ⟨kn.room, kn.gd⟩ hGl hm hk hB hV tk hA g2 (star_cons (ns a List.mem_cons_self)) (star_plain fun e he => ns e (List.mem_cons_of_mem _ he))) fun σ H Q h => z_call hW hT hdv h
theorem fnTb_get {x : Str} {j : Nat} (h : (fnTb T).lookup x = some j) : T.names[j]? = some x := by
  have h1 : (x, j) ∈ fnTb T := by
    generalize fnTb T = l at h
    induction l with
    | nil => cases h
    | cons p l ih =>
      obtain ⟨y, i⟩ := p
      rw [List.lookup_cons] at h
      by_cases e : x = y
      · subst e
        simp at h
        subst h
        exact List.mem_cons_self
      · have : (x == y) = false := by simpa using e
        rw [this] at h
        exact List.mem_cons_of_mem _ (ih h)
  unfold fnTb at h1
  obtain ⟨p, _, h2⟩ := List.mem_filterMap.mp h1
  split at h2
  · rename_i y e
    obtain ⟨i, h3, h4⟩ := map_some h2
    cases h4
    exact names_get h3
  · cases h2
theorem callv_un {C : Cl} {i : Nat} {tb : List (Str × Nat)} {as : List IA} {env : En} {o : Out (D × Bool)} (h : evE C (.callv i tb as) env = o) (n : o ≠ .bad) : ∃ x j, env[i]? = some (some (.fn x, .frz)) ∧ tb.lookup x = some j ∧ evE C (.call j as) env = o := by
  simp only [evE] at h
  split at h
  case h_2 => exact absurd h.symm n
  rename_i x hx
  split at h
  case h_2 => exact absurd h.symm n
  rename_i j hj
  exact ⟨x, j, hx, hj, by simp only [evE]; exact h⟩
/-- a call of a local name that holds a def -/
theorem se_callv (iA : SA T N k n) {sc : Scope} {f : Str} {p pos : Pos} {a : Expr} {as : List Expr} {ias : List IA} {i : Nat} (hv : visB sc f = true) (hi : slotOf N f = some i) (has : allO ((a :: as).map (cA T N n sc)) = some ias)
    {X : Cx} {W : XW} (kn : Kn T N X k W) (hs : X.env.scope = sc) : PE X (.Call (.Name f p) (a :: as) [] pos) (tZ X.K W (evE (callK T.fns k) (.callv i (fnTb T) ias))) := by
  obtain ⟨v, d1, d2⟩ := vis_of hv
  have hA := pa_as iA kn hs has
  have ns : ∀ e ∈ a :: as, NoStar e := fun e he => by
    obtain ⟨y, hy⟩ := allO_map has e he
    exact (iA sc e y hy).1
  constructor
  intro pins s σ H Q I h
  obtain ⟨M, env, e, h⟩ := h
  obtain ⟨x, j, hx, hj, hq⟩ := callv_un (o := evE (callK T.fns k) (.callv i (fnTb T) ias) env) rfl (fun z => by unfold RZ at h; rw [z] at h; exact h)
  obtain ⟨u, h1, h2⟩ := e.slot i _ .frz hx
  obtain ⟨fa2, rfl, h3⟩ := AnyR.fn (.of h2)
  obtain ⟨fa, fd, ps, F, dvs, hT, hm, hk, hF, hdv, hb⟩ := kn.fn j x (fnTb_get hj)
  have hm2 := PySem.W.mg_of I.ok.mod.kin I.ok.mod.glob h3
  have ef : fa2 = fa := by
    rw [hm] at hm2
    cases hm2
    rfl
  subst ef
  have hN := Nat.sub_le dvs.length (F.np - ias.length)
  obtain ⟨ds, hV, hB⟩ := hb _ hN
  have q : tZ X.K W (evE (callK T.fns k) (.call j ias)) σ H Q := ⟨M, env, e, by rw [hq]; exact h⟩
  obtain ⟨Wl, tk, hW⟩ := kn.tk
  have q2 := z_call hW hT hdv q
  refine wpAny_Call_Name_kw (thn ((pe_var (pos := p) (by rw [kn.hN]; exact slotOf_get hi) (by rw [hs]; exact v) d1 d2).run pins s σ H (fun v H1 => v = .ref fa2 ∧ H1 = H) I ⟨.ref fa2, h1, rfl, rfl⟩) fun u s1 ⟨v, H1, I1, r1, q1⟩ => ?_)
  obtain ⟨rfl, rfl⟩ := q1
  cases r1
  refine PySem.W.callWith_K (h₀ := X.base) I1.ok.mod.kin hk (thn (hA.run pos pins s1 σ _ _ I1 q2) fun us s2 ⟨vs, H2, I2, r, E, q, hE⟩ => ⟨I2.kIn, ?_⟩) (star_cons (ns a List.mem_cons_self)) (star_plain fun e he => ns e (List.mem_cons_of_mem _ he))
  exact goX hF ⟨kn.room, kn.gd⟩ hB hV tk I2 r q hE
/-- a built-in function of one argument -/
theorem se_prim1 (iA : SA T N k n) {sc : Scope} {f : Str} {p pos : Pos} {a : Expr} {x : IA} {q : Pr} (hg : glB sc f = true) (hp : prim1 f = some q) (ha : cA T N n sc a = some x)
    {X : Cx} {W : XW} (kn : Kn T N X k W) (hs : X.env.scope = sc) : PE X (.Call (.Name f p) [a] [] pos) (tZ X.K W (evE (callK T.fns k) (.op q [x]))) := by
  obtain ⟨g1, g2, g3⟩ := gl_of hg
  have hGl : Gl X f := by show X.env.scope.names.lookup f = _; rw [hs]; exact g1
  obtain ⟨ns, _, _, pa⟩ := iA sc a x ha
  have hA := pa_cons (pa X W kn hs) pa_nil (star_cons ns)
  have hS := star_cons (es := []) (env := X.env) ns
  unfold prim1 at hp
  split at hp
  · rename_i e; subst e; cases hp
    exact PE.imp (pe_callB call_len_seq hGl (kn.bl _ (by decide)) PySem.boot_len hA g3 g2 hS rfl) fun σ H Q h => op1 (p := .len) (R := fun v H Q => ∃ p ys, [v] = [.ref p] ∧ (SqL X.K H p ys ∨ SqT X.K H p ys) ∧ Q (.int ys.length) H) (fun e h a k => p_len e h a k) h
  split at hp
  · rename_i e; subst e; cases hp
    exact PE.imp (pe_callB call_abs hGl (kn.bl _ (by decide)) (by decide +kernel) hA g3 g2 hS rfl) fun σ H Q h => op1 (p := .abs) (R := fun v H Q => ∃ i, [v] = [.int i] ∧ Q (.int (if i < 0 then -i else i)) H) (fun e h a k => p_abs e h a k) h
  split at hp
  · rename_i e; subst e; cases hp
    exact PE.imp (pe_callTy call_int1 hGl (kn.bl _ (by decide)) (by decide +kernel) hA g3 g2 hS rfl) fun σ H Q h => op1 (p := .int) (R := fun v H Q => (∃ i, [v] = [.int i] ∧ Q (.int i) H) ∨ ∃ k, [v] = [.bl k] ∧ Q (.int (if k then 1 else 0)) H) (fun e h a k => p_int e h a k) h
  split at hp
  · rename_i e; subst e; cases hp
    exact PE.imp (pe_callTy call_list_of hGl (kn.bl _ (by decide)) (by decide +kernel) hA g3 g2 hS rfl) fun σ H Q h => op1 (p := .list) (R := fun v H Q => ∃ p ys, [v] = [.ref p] ∧ (SqL X.K H p ys ∨ SqT X.K H p ys) ∧ ∀ l, H l = none → Q (.ref l) (upd H l (.lst ys))) (fun e h a k => p_list e h a k) h
  split at hp
  · rename_i e; subst e; cases hp
    have hu : X.A.units + 64 < cLine := by have := kn.room.un; omega
    exact PE.imp (pe_callB (call_reprD kn.gd hu) hGl (kn.bl _ (by decide)) (by decide +kernel) hA g3 g2 hS rfl) fun σ H Q h => op1 (p := .repr) (R := fun v H Q => rRepr X.K [v] H Q) (fun e h a k => p_repr e h a k) h
  · cases hp
/-- list(reversed(x)) -/
theorem revV_some {f : Str} {a : Expr} {g : Str} {b : Expr} (h : revV f a = some (g, b)) : f = "list" ∧ g = "reversed" ∧ ∃ p pos, a = .Call (.Name g p) [b] [] pos := by
  unfold revV at h
  split at h
  case isFalse => cases h
  rename_i hf
  split at h
  case h_2 => cases h
  rename_i g' b' hv
  split at h
  case isFalse => cases h
  rename_i hg
  cases h
  obtain ⟨p, pos, e⟩ := callV_some hv
  exact ⟨hf, hg, p, pos, e⟩
theorem se_lrev (iA : SA T N k n) {sc : Scope} {p p2 pos pos2 : Pos} {b : Expr} {x : IA} (hg : glB sc "list" = true) (hg2 : glB sc "reversed" = true) (ha : cA T N n sc b = some x)
    {X : Cx} {W : XW} (kn : Kn T N X k W) (hs : X.env.scope = sc) : PE X (.Call (.Name "list" p) [.Call (.Name "reversed" p2) [b] [] pos2] [] pos) (tZ X.K W (evE (callK T.fns k) (.op .lrev [x]))) := by
  obtain ⟨g1, g2, g3⟩ := gl_of hg
  obtain ⟨q1, q2, q3⟩ := gl_of hg2
  have hGl : Gl X "list" := by show X.env.scope.names.lookup _ = _; rw [hs]; exact g1
  have hGl2 : Gl X "reversed" := by show X.env.scope.names.lookup _ = _; rw [hs]; exact q1
  obtain ⟨ns, _, _, pa⟩ := iA sc b x ha
  exact PE.imp (ZRev.pe_lstRev kn.calm hGl (kn.bl _ (by decide)) hGl2 (kn.bl _ (by decide)) (pa X W kn hs) (star_cons ns)) fun σ H Q h => op1 (p := .lrev) (R := fun v H Q => ∃ (a : Addr) (xs : List V), v = .ref a ∧ SqL X.K H a xs ∧ ∀ q, H q = none → Q (.ref q) (upd H q (.lst xs.reverse))) (fun e h a k => p_lrev e h a k) h
/-- isinstance -/
theorem se_isi (iA : SA T N k n) {sc : Scope} {p pos tp : Pos} {a : Expr} {t : Str} {x : IA} {ty : Ty5} (hg : glB sc "isinstance" = true) (ht : glB sc t = true) (hty : tyP t = some ty) (ha : cA T N n sc a = some x)
    {X : Cx} {W : XW} (kn : Kn T N X k W) (hs : X.env.scope = sc) : PE X (.Call (.Name "isinstance" p) [a, .Name t tp] [] pos) (tZ X.K W (evE (callK T.fns k) (.op (.isi ty) [x]))) := by
  obtain ⟨g1, g2, g3⟩ := gl_of hg
  obtain ⟨t1, t2, t3⟩ := gl_of ht
  have hGl : Gl X "isinstance" := by show X.env.scope.names.lookup _ = _; rw [hs]; exact g1
  have hGt : Gl X t := by show X.env.scope.names.lookup _ = _; rw [hs]; exact t1
  obtain ⟨ns, _, _, pa⟩ := iA sc a x ha
  have htn : t ∈ blts ∧ bootBuiltins t = some (.type ty.nm) := by
    unfold tyP at hty
    split at hty
    · rename_i e; subst e; cases hty; exact ⟨by decide, by decide +kernel⟩
    split at hty
    · rename_i e; subst e; cases hty; exact ⟨by decide, by decide +kernel⟩
    split at hty
    · rename_i e; subst e; cases hty; exact ⟨by decide, by decide +kernel⟩
    split at hty
    · rename_i e; subst e; cases hty; exact ⟨by decide, by decide +kernel⟩
    split at hty
    · rename_i e; subst e; cases hty; exact ⟨by decide, by decide +kernel⟩
    · cases hty
  have hT : PE X (.Name t tp) (tC (.ty ty.nm)) := pe_bltn hGt (kn.bl _ htn.1) htn.2 rfl t3 t2
  have hA := pa_cons (pa X W kn hs) (pa_cons hT pa_nil rfl) (star_cons ns)
  have hS := star_cons (es := [.Name t tp]) (env := X.env) ns
  exact PE.imp (pe_callB call_isi hGl (kn.bl _ (by decide)) (by decide +kernel) hA g3 g2 hS rfl) fun σ H Q h => op1 (p := .isi ty) (R := fun v H Q => rIsi X.K [v, .ty ty.nm] H Q) (fun e h a k => p_isi e h a k) h
/-- math.gcd -/
theorem se_gcd (iA : SA T N k n) {sc : Scope} {p pos : Pos} {a b : Expr} {x y : IA} (hg : glB sc "gcd" = true) (hG : T.gcd = true) (ha : cA T N n sc a = some x) (hb : cA T N n sc b = some y)
    {X : Cx} {W : XW} (kn : Kn T N X k W) (hs : X.env.scope = sc) : PE X (.Call (.Name "gcd" p) [a, b] [] pos) (tZ X.K W (evE (callK T.fns k) (.op .gcd [x, y]))) := by
  obtain ⟨g1, g2, g3⟩ := gl_of hg
  have hGl : Gl X "gcd" := by show X.env.scope.names.lookup _ = _; rw [hs]; exact g1
  obtain ⟨ns, _, _, pa⟩ := iA sc a x ha
  obtain ⟨ns2, _, _, pb⟩ := iA sc b y hb
  have hA := pa_cons (pa X W kn hs) (pa_cons (pb X W kn hs) pa_nil (star_cons ns2)) (star_cons ns)
  have hS := star_cons (es := [b]) (env := X.env) ns
  exact PE.imp (pe_callBfun cr_gcd hGl (kn.gc hG) hA g2 hS (star_plain fun e he => by rw [List.mem_singleton.mp he]; exact ns2)) fun σ H Q h => op2 (p := .gcd) (r := fun v w H Q => rGcd [v, w] H Q) (fun e h a b k => p_gcd e h a b k) h
theorem pts_of {X : Cx} {K : PySem.W.Frag} {W : XW} {C : Cl} {c : Expr} {y : IT} (h : PT X c (tB K W (evT C y))) : PTs X [c] (tB K W (evTs C [y])) := by
  refine ⟨fun pins s σ H Q I hw => (pts_one h).run pins s σ H Q I ?_⟩
  obtain ⟨M, env, e, q⟩ := hw
  refine ⟨M, env, e, ?_⟩
  simp only [evTs] at q
  cases hx : evT C y env with
  | bad => rw [hx] at q; exact q.elim
  | ex => rw [hx] at q; exact q
  | ok b env1 =>
    rw [hx] at q
    simp only [Out.bind_ok] at q
    cases b with
    | true => exact q
    | false => exact q
theorem pts_of0 {X : Cx} {K : PySem.W.Frag} {W : XW} {C : Cl} : PTs X [] (tB K W (evTs C [])) := by
  refine ⟨fun pins s σ H Q I hw => pts_nil.run pins s σ H Q I ?_⟩
  obtain ⟨M, env, e, q⟩ := hw
  simp only [evTs] at q
  exact q M H e .refl
/-- a list comprehension -/
theorem se_comp (iE : SE T N k n) (iT : ST T N k n) (iI : SI T N k n) {sc scope : Scope} {elt tg iter : Expr} {ifs : List Expr} {pos : Pos} {own : List (Str × Nat)} {g : IG} {src : II} {cs : List IT} {x : IE}
    (hg : tgOf N scope tg = some g) (hsrc : cI T N n sc tg iter = some src) (helt : cE T N n (relS scope sc) elt = some x) (hb : blkC N sc scope own = true) (ht : tgIn (own.map (·.2)) g = true)
    (hcs : (ifs = [] ∧ cs = []) ∨ ∃ c y, ifs = [c] ∧ cT T N n (relS scope sc) c = some y ∧ cs = [y])
    {X : Cx} {W : XW} (kn : Kn T N X k W) (hs : X.env.scope = sc) : PE X (.ListComp elt [⟨tg, iter, ifs, 0⟩] scope pos) (tZ X.K W (evE (callK T.fns k) (.comp (own.map (·.2)) g src cs x))) := by
  obtain ⟨ns, pi⟩ := iI sc tg iter src hsrc
  obtain ⟨_, _, _, pe⟩ := iE _ elt x helt
  have hr : ∀ (C : Addr) (cl : List (Str × Addr)), (compEnvC scope cl C X.env).scope = relS scope sc := fun C cl => by rw [← hs]; rfl
  refine PE.imp (pe_lc (own := own) (g := tGt X.K (outP (own.map (·.2))) g) (tt := tB X.K noW (evTs (callK T.fns k) cs)) (te := tZ X.K noW (evE (callK T.fns k) x)) kn.calm (by rw [kn.hN]; exact kn.nd) (pi X W kn hs) (blkOk_by (by rw [kn.hN, hs]; exact hb))
    (fun s H C cl fp => pg_tg kn.blk sto_blk _ hg) (fun s H C cl fp => ?_) (fun s H C cl fp => pe _ _ kn.blk (hr C cl)) (fun y => ?_)) fun σ H Q h => z_comp ht h
  · rcases hcs with ⟨rfl, rfl⟩ | ⟨c, y, rfl, h1, rfl⟩
    · exact pts_of0
    · exact pts_of (iT.pt h1 kn.blk (hr C cl))
  · cases iter <;> first | rfl | exact absurd rfl (ns _ _ _)
theorem intV_some {e : Expr} {r : Nat} (h : intV e = some r) : ∃ i kk p, e = .Constant (.int i) kk p ∧ ((r : Nat) : Int) = i ∧ r ≤ 10 ∧ r = i.toNat := by
  cases e <;> simp only [intV] at h <;> try (cases h; done)
  rename_i c kk p
  cases c <;> simp only [intV] at h <;> try (cases h; done)
  rename_i i
  split at h
  · cases h
    exact ⟨i, kk, p, rfl, by omega, by omega, rfl⟩
  · cases h
theorem si_succ (iE : SE T N k n) (iA : SA T N k n) (hNS : ∀ sc e x, cA T N n sc e = some x → ∀ elts kk pos, e ≠ .Set elts kk pos) : SI T N k (n + 1) := by
  intro sc tg e ii h
  have over : (cA T N n sc e).map II.over = some ii → (∀ elts kk pos, e ≠ .Set elts kk pos) ∧ ∀ X W, Kn T N X k W → X.env.scope = sc → PI X tg e (tI X.K W (evI (callK T.fns k) ii)) := fun h => by
    obtain ⟨x, h1, rfl⟩ := map_some h
    obtain ⟨s1, s2, s3, p⟩ := iA sc e x h1
    exact ⟨hNS sc e x h1, fun X W kn hs => PI.imp (pi_seq (p X W kn hs)) fun _ _ _ => i_over⟩
  simp only [cI] at h
  split at h
  case h_2 => exact over h
  rename_i f as hv
  obtain ⟨p, pos, rfl⟩ := callV_some hv
  refine ⟨(fun _ _ _ z => nomatch z), ?_⟩
  split at h
  · rename_i hc
    obtain ⟨hg, rfl⟩ := hc
    obtain ⟨g1, g2, g3⟩ := gl_of hg
    split at h
    · rename_i a
      obtain ⟨y, h1, rfl⟩ := map_some h
      obtain ⟨s1, _, _, pa⟩ := iE sc a y h1
      intro X W kn hs
      have hGl : Gl X "range" := by show X.env.scope.names.lookup _ = _; rw [hs]; exact g1
      refine PI.imp (pi_range1 hGl (kn.bl _ (by decide)) (pa_cons (pa X W kn hs) pa_nil (star_cons s1)) (by rw [star_cons s1]; rfl)) fun σ H Q hq => ?_
      have q := i_range hq
      obtain ⟨M, env, e, q⟩ := q
      simp only [RZ, evE] at q
      have q2 := q M H (.int 0) e .refl (.int 0)
      obtain ⟨M1, env1, e1, q2⟩ := q2
      refine ⟨M1, env1, e1, ?_⟩
      unfold RZ at q2 ⊢
      cases hx : evE (callK T.fns k) y env1 with
      | bad => rw [hx] at q2; exact q2.elim
      | ex => rw [hx] at q2; exact q2
      | ok z env2 =>
        rw [hx] at q2
        intro M' H' v e' s' r'
        obtain ⟨i, j, z1, z2, z3⟩ := q2 M' H' v e' s' r'
        cases z1
        exact ⟨j, rfl, z2.2.2.1, z2.2.2.2, by rw [Int.sub_zero] at z3; exact z3⟩
    · rename_i a b
      split at h
      · rename_i x y h1 h2
        cases h
        obtain ⟨s1, _, _, pa⟩ := iE sc a x h1
        obtain ⟨s2, _, _, pb⟩ := iE sc b y h2
        intro X W kn hs
        have hGl : Gl X "range" := by show X.env.scope.names.lookup _ = _; rw [hs]; exact g1
        exact PI.imp (pi_range2 hGl (kn.bl _ (by decide)) (pa_cons (pa X W kn hs) (pa_cons (pb X W kn hs) pa_nil (star_cons s2)) (star_cons s1)) (by rw [star_cons s1, star_cons s2]; rfl) (by rw [star_cons s2]; rfl)) fun σ H Q hq => i_range hq
      · cases h
    · cases h
  · split at h
    · rename_i hc
      obtain ⟨hg, rfl⟩ := hc
      obtain ⟨g1, g2, g3⟩ := gl_of hg
      split at h
      · rename_i a
        split at h
        · rename_i ht
          obtain ⟨es, kk, tpos, rfl⟩ := isTup_some ht
          obtain ⟨y, h1, rfl⟩ := map_some h
          obtain ⟨s1, _, _, pa⟩ := iA sc a y h1
          intro X W kn hs
          have hGl : Gl X "enumerate" := by show X.env.scope.names.lookup _ = _; rw [hs]; exact g1
          exact PI.imp (pi_enum hGl (kn.bl _ (by decide)) (pa_cons (pa X W kn hs) pa_nil (star_cons s1)) (by rw [star_cons s1]; rfl)) fun σ H Q hq => i_enum hq
        · cases h
      · cases h
    · split at h
      · rename_i hc
        obtain ⟨hg, rfl, hcm⟩ := hc
        obtain ⟨g1, g2, g3⟩ := gl_of hg
        split at h
        case h_2 => cases h
        rename_i a b
        split at h
        case h_2 => cases h
        rename_i r hr
        obtain ⟨i, kk, p2, rfl, hi, hr10, rfl⟩ := intV_some hr
        split at h
        · rename_i g c hv2
          obtain ⟨p3, pos3, rfl⟩ := callV_some hv2
          split at h
          case isFalse => cases h
          rename_i hc2
          obtain ⟨hg2, rfl⟩ := hc2
          obtain ⟨q1, q2, q3⟩ := gl_of hg2
          obtain ⟨y, h1, rfl⟩ := map_some h
          obtain ⟨s1, _, _, pa⟩ := iE sc c y h1
          intro X W kn hs
          have hGl : Gl X "combinations" := by show X.env.scope.names.lookup _ = _; rw [hs]; exact g1
          have hGl2 : Gl X "range" := by show X.env.scope.names.lookup _ = _; rw [hs]; exact q1
          rw [← hi]
          exact PI.imp (ZCmb.pi_cmbR kn.calm hr10 hGl (kn.cm hcm) (prg_1 hGl2 (kn.bl _ (by decide)) (pa X W kn hs) (star_cons s1)) (by rfl)) fun σ H Q hq => i_cmbR hq
        · cases h
        · obtain ⟨y, h1, rfl⟩ := map_some h
          obtain ⟨s1, _, _, pa⟩ := iA sc a y h1
          intro X W kn hs
          have hGl : Gl X "combinations" := by show X.env.scope.names.lookup _ = _; rw [hs]; exact g1
          rw [← hi]
          exact PI.imp (ZCmb.pi_cmb hGl (kn.cm hcm) (pa_cons (pa X W kn hs) (pa_cons pe_int pa_nil (by rfl)) (star_cons s1)) (star_cons s1) (by rfl)) fun σ H Q hq => i_cmb hr10 hq
      · split at h
        · rename_i hc
          obtain ⟨hg, rfl⟩ := hc
          obtain ⟨g1, g2, g3⟩ := gl_of hg
          split at h
          · rename_i a
            obtain ⟨y, h1, rfl⟩ := map_some h
            obtain ⟨s1, _, _, pa⟩ := iA sc a y h1
            intro X W kn hs
            have hGl : Gl X "reversed" := by show X.env.scope.names.lookup _ = _; rw [hs]; exact g1
            exact PI.imp (RT.pi_revA hGl (kn.bl _ (by decide)) (pa X W kn hs) (star_cons s1)) fun σ H Q hq => i_rev hq
          · cases h
        · split at h
          · rename_i hc
            obtain ⟨hg, rfl⟩ := hc
            obtain ⟨g1, g2, g3⟩ := gl_of hg
            split at h
            · rename_i a b
              split at h
              · rename_i ht
                obtain ⟨es, kk, tpos, rfl⟩ := isTup_some ht
                split at h
                · rename_i x y h1 h2
                  cases h
                  obtain ⟨s1, _, _, pa⟩ := iA sc a x h1
                  obtain ⟨s2, _, _, pb⟩ := iA sc b y h2
                  intro X W kn hs
                  have hGl : Gl X "zip" := by show X.env.scope.names.lookup _ = _; rw [hs]; exact g1
                  exact PI.imp (RZ.pi_zipA hGl (kn.bl _ (by decide)) (pa_cons (pa X W kn hs) (pa_cons (pb X W kn hs) pa_nil (star_cons s2)) (star_cons s1)) (star_cons s1) (by rw [star_cons s2]; rfl)) fun σ H Q hq => i_zipt hq
                · cases h
              · cases h
            · cases h
          · exact (over h).2
end
end Z
namespace Z
open PySem PySem.Spec PyProof.Rows L2
section
variable {T : Tab} {N : List Str} {k n : Nat}
theorem evA_val {C : Cl} {y : IE} {env env' : En} {p : PV} (h : evA C (.val y) env = .ok p env') : ∃ z, evE C y env = .ok z env' ∧ p = .val z.1 := by
  simp only [evA] at h
  cases hx : evE C y env with
  | bad => rw [hx] at h; cases h
  | ex => rw [hx] at h; cases h
  | ok z e => rw [hx] at h; cases h; exact ⟨z, rfl, rfl⟩
theorem sl_Z {X : Cx} : SlR X (rSlZ X.K) := SlR.or sl_list sl_tupA
theorem op_sl2 {K : PySem.W.Frag} {W : XW} {C : Cl} {x : IA} {y z : IE} {σ : L2.St} {H : Hp} {Q : VK} (h : tZ K W (evE C (.op (.sl true true) [x, .val y, .val z])) σ H Q) : tSl (rSlZ K) (tP K W (evA C x)) (tPart (tZ K W (evE C y))) (tPart (tZ K W (evE C z))) σ H Q := by
  obtain ⟨M, env, e, h⟩ := h
  refine ⟨M, env, e, ?_⟩
  unfold RP
  simp only [evE, evAs] at h
  cases hx : evA C x env with
  | bad => rw [hx] at h; exact h.elim
  | ex => rw [hx] at h; exact h.elim
  | ok p1 env1 =>
    rw [hx] at h
    simp only [Out.bind_ok] at h
    intro M1 H1 v1 e1 s1 f1
    refine ⟨M1, env1, e1, ?_⟩
    unfold RZ
    cases hy : evA C (.val y) env1 with
    | bad => rw [hy] at h; exact h.elim
    | ex => rw [hy] at h; exact h.elim
    | ok p2 env2 =>
      rw [hy] at h
      simp only [Out.bind_ok] at h
      obtain ⟨z2, hy2, rfl⟩ := evA_val hy
      rw [hy2]
      intro M2 H2 v2 e2 s2 r2
      obtain ⟨M2', e2', s2', r2'⟩ := r2.freeze e1 e2 s2
      cases hz : evA C (.val z) env2 with
      | bad => rw [hz] at h; exact h.elim
      | ex => rw [hz] at h; exact h.elim
      | ok p3 env3 =>
        rw [hz] at h
        simp only [Out.bind_ok] at h
        obtain ⟨z3, hz2, rfl⟩ := evA_val hz
        simp only [slx_ok, Out.bind_ok] at h
        cases hf : fill env3 [p1, .val z2.1, .val z3.1] with
        | none => rw [hf] at h; exact h.elim
        | some l =>
          rw [hf] at h
          simp only [fill, fill1] at hf
          split at hf
          case h_2 => cases hf
          rename_i d1 ds hd1 hds
          cases hf
          cases hds
          obtain ⟨d2, fr2⟩ := z2
          obtain ⟨d3, fr3⟩ := z3
          simp only at h r2' hd1
          cases d2 with
          | int i =>
            cases d3 with
            | int j =>
              refine ⟨i, (AnyR.of r2').int, M2', env2, e2', ?_⟩
              unfold RZ
              rw [hz2]
              intro M3 H3 v3 e3 s3 r3
              obtain ⟨M3', e3', s3', r3'⟩ := r3.freeze e2' e3 s3
              refine ⟨j, (AnyR.of r3').int, ?_⟩
              have s23 := s2'.trans e1.mok s3'
              have s123 := s1.trans e.mok s23
              have a1 := fill1_any e3' (f1.keeps e1.mok (s23.keeps e1)) hd1
              simp only [prB] at h
              cases hp : pSl (some i) (some j) d1 with
              | none => rw [hp] at h; exact h.elim
              | some w =>
                obtain ⟨d, fr⟩ := w
                rw [hp] at h
                exact p_sl e3' hp a1 fun M' H' v e' s' r' => h M' H' v e' (s123.trans e.mok s') (r'.back s123)
            | _ => exact h.elim
          | _ => exact h.elim
theorem op_sl1 {K : PySem.W.Frag} {W : XW} {C : Cl} {x : IA} {y : IE} {σ : L2.St} {H : Hp} {Q : VK} {b c : Bool} (hpr : ∀ d i, prB (.sl b c) [d, .int i] = if b then pSl (some i) none d else pSl none (some i) d) (hno : ∀ d e, (∀ i, e ≠ .int i) → prB (.sl b c) [d, e] = none)
    (h : tZ K W (evE C (.op (.sl b c) [x, .val y])) σ H Q) : tP K W (evA C x) σ H fun v H1 => tZ K W (evE C y) σ H1 fun w H2 => ∃ i, w = .int i ∧ rSlZ K v (if b then some i else none) (if b then none else some i) H2 Q := by
  obtain ⟨M, env, e, h⟩ := h
  refine ⟨M, env, e, ?_⟩
  unfold RP
  simp only [evE, evAs] at h
  cases hx : evA C x env with
  | bad => rw [hx] at h; exact h.elim
  | ex => rw [hx] at h; exact h.elim
  | ok p1 env1 =>
    rw [hx] at h
    simp only [Out.bind_ok] at h
    intro M1 H1 v1 e1 s1 f1
    refine ⟨M1, env1, e1, ?_⟩
    unfold RZ
    cases hy : evA C (.val y) env1 with
    | bad => rw [hy] at h; exact h.elim
    | ex => rw [hy] at h; exact h.elim
    | ok p2 env2 =>
      rw [hy] at h
      simp only [Out.bind_ok] at h
      obtain ⟨z2, hy2, rfl⟩ := evA_val hy
      rw [hy2]
      intro M2 H2 v2 e2 s2 r2
      obtain ⟨M2', e2', s2', r2'⟩ := r2.freeze e1 e2 s2
      simp only [slx_ok, Out.bind_ok] at h
      cases hf : fill env2 [p1, .val z2.1] with
      | none => rw [hf] at h; exact h.elim
      | some l =>
        rw [hf] at h
        simp only [fill, fill1] at hf
        split at hf
        case h_2 => cases hf
        rename_i d1 ds hd1 hds
        cases hf
        cases hds
        obtain ⟨d2, fr2⟩ := z2
        simp only at h r2' hd1
        have s12 := s1.trans e.mok s2'
        have a1 := fill1_any e2' (f1.keeps e1.mok (s2'.keeps e1)) hd1
        by_cases hi : ∃ i, d2 = .int i
        · obtain ⟨i, rfl⟩ := hi
          refine ⟨i, (AnyR.of r2').int, ?_⟩
          rw [hpr] at h
          cases b with
          | true =>
            rw [if_pos rfl] at h ⊢
            rw [if_pos rfl]
            cases hp : pSl (some i) none d1 with
            | none => rw [hp] at h; exact h.elim
            | some w =>
              obtain ⟨d, fr⟩ := w
              rw [hp] at h
              exact p_sl e2' hp a1 fun M' H' v e' s' r' => h M' H' v e' (s12.trans e.mok s') (r'.back s12)
          | false =>
            rw [if_neg Bool.false_ne_true] at h ⊢
            rw [if_neg Bool.false_ne_true]
            cases hp : pSl none (some i) d1 with
            | none => rw [hp] at h; exact h.elim
            | some w =>
              obtain ⟨d, fr⟩ := w
              rw [hp] at h
              exact p_sl e2' hp a1 fun M' H' v e' s' r' => h M' H' v e' (s12.trans e.mok s') (r'.back s12)
        · rw [hno d1 d2 fun i z => hi ⟨i, z⟩] at h
          exact h.elim
theorem NoSet.ne {e : Expr} (h : NoSet e) : ∀ x p q, e ≠ .Set x p q := fun x p q z => by subst z; exact h
/-- a value that is always a bool, as a test -/
theorem t_bool {K : PySem.W.Frag} {W : XW} {C : Cl} {x : IE} (hb : ∀ env z env', evE C x env = .ok z env' → ∃ b, z.1 = .bl b) {σ : L2.St} {H : Hp} {Q : Bool → Hp → Prop} (h : tB K W (evT C (.val (.val x))) σ H Q) : tZ K W (evE C x) σ H fun v H' => ∃ k, v = .bl k ∧ Q k H' := by
  have q := p_of_z (t_val h)
  obtain ⟨M, env, e, q⟩ := q
  refine ⟨M, env, e, ?_⟩
  unfold RZ at q ⊢
  cases hx : evE C x env with
  | bad => rw [hx] at q; exact q.elim
  | ex => rw [hx] at q; exact q
  | ok z env1 =>
    rw [hx] at q
    intro M1 H1 v1 e1 s1 r1
    obtain ⟨k, h1, h2, h3⟩ := q M1 H1 v1 e1 s1 r1
    obtain ⟨b, hz⟩ := hb env z env1 hx
    have hv : v1 = .bl b := by
      obtain ⟨d, fr⟩ := z
      cases hz
      cases fr with
      | false => exact (AnyR.of (show Rep K M1 H1 (.bl b) v1 from r1)).bl
      | true => obtain ⟨_, _, _, z, _⟩ := r1; cases z
    rcases h2 with h2 | h2
    · exact ⟨k, h2, h3⟩
    · exact absurd hv (h2 b)
theorem op_bool {C : Cl} {p : Pr} {as : List IA} (hp : ∀ ds d fr, prB p ds = some (d, fr) → ∃ b, d = .bl b) : ∀ env z env', evE C (.op p as) env = .ok z env' → ∃ b, z.1 = .bl b := by
  intro env z env' h
  simp only [evE] at h
  cases hx : evAs C as env with
  | bad => rw [hx, slx_bad] at h; cases h
  | ex => rw [hx] at h; rcases slx_ex p _ _ with q | q <;> rw [q] at h <;> cases h
  | ok l env1 =>
    rw [hx, slx_ok] at h
    simp only [Out.bind_ok] at h
    split at h
    · rename_i ds hf
      cases hq : prB p ds with
      | none => rw [hq] at h; cases h
      | some w =>
        rw [hq] at h
        obtain ⟨d, fr⟩ := w
        cases h
        exact hp ds d fr hq
    · cases h
theorem prB_two {p : Pr} {op : CmpOp} (hp : cmpP op = some p) (ds : List D) (d : D) (fr : Bool) (h : prB p ds = some (d, fr)) : ∃ b, d = .bl b := by
  have two : ∀ (f : D → D → Option (D × Bool)), (∀ a b, prB p [a, b] = f a b) → (∀ ds, (∀ a b, ds ≠ [a, b]) → prB p ds = none) → (∀ a b d fr, f a b = some (d, fr) → ∃ b, d = .bl b) → ∃ b, d = .bl b := by
    intro f h1 h2 h3
    match ds, h with
    | [a, b], h => rw [h1] at h; exact h3 a b d fr h
    | [], h => rw [h2 [] (fun _ _ z => nomatch z)] at h; cases h
    | [a], h => rw [h2 [a] (fun _ _ z => nomatch z)] at h; cases h
    | a :: b :: c :: r, h => rw [h2 (a :: b :: c :: r) (fun _ _ z => nomatch z)] at h; cases h
  have no : ∀ (p : Pr), (∀ a b, prB p [a, b] = prB p [a, b]) → True := fun _ _ => trivial
  have cm : ∀ (f : Int → Int → Bool) a b d fr, pCmp f a b = some (d, fr) → ∃ b, d = .bl b := by
    intro f a b d fr h
    cases a <;> cases b <;> try (simp [pCmp] at h; done)
    cases h
    exact ⟨_, rfl⟩
  have inn : ∀ (g : Bool) a b d fr, pIn g a b = some (d, fr) → ∃ b, d = .bl b := by
    intro g a b d fr h
    cases b <;> try (simp [pIn] at h; done)
    all_goals (obtain ⟨_, z⟩ := ite_some h; cases z; exact ⟨_, rfl⟩)
  have nn : ∀ ds, (∀ a b, ds ≠ [a, b]) → prB p ds = none := by
    intro ds hds
    cases ds with
    | nil => cases op <;> cases hp <;> rfl
    | cons a r =>
      cases r with
      | nil => cases op <;> cases hp <;> rfl
      | cons b r =>
        cases r with
        | nil => exact absurd rfl (hds a b)
        | cons c r => cases op <;> cases hp <;> rfl
  cases op <;> cases hp
  · refine two _ (fun _ _ => rfl) nn fun a b d fr h => ?_
    replace h : (if a.ok && b.ok then some (D.bl (a.eqv b), false) else pEqS a b) = some (d, fr) := h
    split at h
    · cases h; exact ⟨_, rfl⟩
    · cases a <;> cases b <;> first | (simp [pEqS] at h; done) | (cases h; exact ⟨_, rfl⟩)
  · refine two _ (fun _ _ => rfl) nn fun a b d fr h => ?_
    replace h : (if a.ok && b.ok then some (D.bl (!a.eqv b), false) else pNeS a b) = some (d, fr) := h
    split at h
    · cases h; exact ⟨_, rfl⟩
    · cases a <;> cases b <;> first | (simp [pNeS] at h; done) | (cases h; exact ⟨_, rfl⟩)
  · exact two _ (fun _ _ => rfl) nn (cm _)
  · exact two _ (fun _ _ => rfl) nn (cm _)
  · exact two _ (fun _ _ => rfl) nn (cm _)
  · exact two _ (fun _ _ => rfl) nn (cm _)
  · exact two _ (fun _ _ => rfl) nn fun a b d fr h => by cases a <;> cases b <;> (first | cases h | skip) <;> exact ⟨_, rfl⟩
  · exact two _ (fun _ _ => rfl) nn fun a b d fr h => by cases a <;> cases b <;> (first | cases h | skip) <;> exact ⟨_, rfl⟩
  · exact two _ (fun _ _ => rfl) nn (inn _)
  · exact two _ (fun _ _ => rfl) nn (inn _)
theorem chain_bool {C : Cl} {p q : Pr} {op op' : CmpOp} (hp : cmpP op = some p) (hq : cmpP op' = some q) {a b c : IE} : ∀ env z env', evE C (.chain p q a b c) env = .ok z env' → ∃ b, z.1 = .bl b := by
  intro env z env' h
  simp only [evE] at h
  cases hx : evE C a env with
  | bad => rw [hx] at h; cases h
  | ex => rw [hx] at h; cases h
  | ok x env1 =>
    rw [hx] at h
    simp only [Out.bind_ok] at h
    cases hy : evE C b env1 with
    | bad => rw [hy] at h; cases h
    | ex => rw [hy] at h; cases h
    | ok y env2 =>
      rw [hy] at h
      simp only [Out.bind_ok] at h
      split at h
      · cases hz : evE C c env2 with
        | bad => rw [hz] at h; cases h
        | ex => rw [hz] at h; cases h
        | ok w env3 =>
          rw [hz] at h
          simp only [Out.bind_ok] at h
          cases hw : prB q [y.1, w.1] with
          | none => rw [hw] at h; cases h
          | some u =>
            rw [hw] at h
            obtain ⟨d, fr⟩ := u
            cases h
            exact prB_two hq _ d fr hw
      · cases h
        exact ⟨_, rfl⟩
      · cases h
/-- a comparison: as a value, as a test -/
theorem se_cmp (iA : SA T N k n) {sc : Scope} {op : CmpOp} {a b : Expr} {pos : Pos} {p : Pr} {x y : IA} (hp : cmpP op = some p) (ha : cA T N n sc a = some x) (hb : cA T N n sc b = some y) {X : Cx} {W : XW} (kn : Kn T N X k W) (hs : X.env.scope = sc) :
    PE X (.Compare a [op] [b] pos) (tZ X.K W (evE (callK T.fns k) (.op p [x, y]))) ∧ PT X (.Compare a [op] [b] pos) (tB X.K W (evT (callK T.fns k) (.val (.val (.op p [x, y]))))) := by
  obtain ⟨_, _, _, pa⟩ := iA sc a x ha
  obtain ⟨_, ns, _, pb⟩ := iA sc b y hb
  obtain ⟨r, h1, h2⟩ := cmp_rule (X := X) kn hp
  exact ⟨PE.imp (pe_cmpR h1 (pa X W kn hs) (pb X W kn hs) (behind_no ns)) fun σ H Q h => op2 h2 h, PT.imp (pt_cmpR h1 (pa X W kn hs) (pb X W kn hs) (behind_no ns)) fun σ H Q h => op2 h2 (t_bool (op_bool (prB_two hp)) h)⟩
theorem isNone_some {b : Expr} (h : isNone b = true) : ∃ j p, b = .Constant .none j p := by
  cases b <;> simp [isNone] at h
  rename_i c j p
  cases c <;> simp at h
  exact ⟨j, p, rfl⟩
theorem isn_bool (ds : List D) (d : D) (fr : Bool) (h : prB .isn ds = some (d, fr)) : ∃ b, d = .bl b := by
  match ds, h with
  | [a], h => cases h; exact ⟨_, rfl⟩
  | [], h => cases h
  | a :: b :: r, h => cases h
theorem notn_bool (ds : List D) (d : D) (fr : Bool) (h : prB .notn ds = some (d, fr)) : ∃ b, d = .bl b := by
  match ds, h with
  | [a], h => cases h; exact ⟨_, rfl⟩
  | [], h => cases h
  | a :: b :: r, h => cases h
theorem se_isn (iA : SA T N k n) {sc : Scope} {a : Expr} {j : Nat} {p' pos : Pos} {x : IA} (ha : cA T N n sc a = some x) {X : Cx} {W : XW} (kn : Kn T N X k W) (hs : X.env.scope = sc) :
    PE X (.Compare a [.Is] [.Constant .none j p'] pos) (tZ X.K W (evE (callK T.fns k) (.op .isn [x]))) ∧ PT X (.Compare a [.Is] [.Constant .none j p'] pos) (tB X.K W (evT (callK T.fns k) (.val (.val (.op .isn [x]))))) := by
  obtain ⟨_, _, _, pa⟩ := iA sc a x ha
  have key : ∀ {σ H Q}, tZ X.K W (evE (callK T.fns k) (.op .isn [x])) σ H Q → tIsN (tP X.K W (evA (callK T.fns k) x)) σ H Q := fun {σ H Q} h => op1 (p := .isn) (R := fun v H Q => Q (.bl (decide (v = .non))) H) (fun e h a k => p_isn e h a k) h
  exact ⟨PE.imp (pe_cmp (pc_isN (pa X W kn hs)) rfl) fun σ H Q h => key h, PT.imp (pt_cmp (pc_isN (pa X W kn hs)) rfl) fun σ H Q h => key (t_bool (op_bool isn_bool) h)⟩
theorem se_notn (iA : SA T N k n) {sc : Scope} {a : Expr} {j : Nat} {p' pos : Pos} {x : IA} (ha : cA T N n sc a = some x) {X : Cx} {W : XW} (kn : Kn T N X k W) (hs : X.env.scope = sc) :
    PE X (.Compare a [.IsNot] [.Constant .none j p'] pos) (tZ X.K W (evE (callK T.fns k) (.op .notn [x]))) ∧ PT X (.Compare a [.IsNot] [.Constant .none j p'] pos) (tB X.K W (evT (callK T.fns k) (.val (.val (.op .notn [x]))))) := by
  obtain ⟨_, _, _, pa⟩ := iA sc a x ha
  have key : ∀ {σ H Q}, tZ X.K W (evE (callK T.fns k) (.op .notn [x])) σ H Q → tNotN (tP X.K W (evA (callK T.fns k) x)) σ H Q := fun {σ H Q} h => op1 (p := .notn) (R := fun v H Q => Q (.bl (!decide (v = .non))) H) (fun e h a k => p_notn e h a k) h
  exact ⟨PE.imp (pe_cmp (pc_notN (pa X W kn hs)) rfl) fun σ H Q h => key h, PT.imp (pt_cmp (pc_notN (pa X W kn hs)) rfl) fun σ H Q h => key (t_bool (op_bool notn_bool) h)⟩
theorem se_chain (iE : SE T N k n) {sc : Scope} {op op' : CmpOp} {a b c : Expr} {pos : Pos} {p q : Pr} {x y z : IE} (hp : cmpP op = some p) (hq : cmpP op' = some q) (ha : cE T N n sc a = some x) (hb : cE T N n sc b = some y) (hc : cE T N n sc c = some z)
    {X : Cx} {W : XW} (kn : Kn T N X k W) (hs : X.env.scope = sc) :
    PE X (.Compare a [op, op'] [b, c] pos) (tZ X.K W (evE (callK T.fns k) (.chain p q x y z))) ∧ PT X (.Compare a [op, op'] [b, c] pos) (tB X.K W (evT (callK T.fns k) (.val (.val (.chain p q x y z))))) := by
  obtain ⟨_, _, _, pa⟩ := iE sc a x ha
  obtain ⟨_, _, _, pb⟩ := iE sc b y hb
  obtain ⟨_, ns, _, pc⟩ := iE sc c z hc
  obtain ⟨r, h1, h2⟩ := cmp_rule (X := X) kn hp
  obtain ⟨r', h3, h4⟩ := cmp_rule (X := X) kn hq
  have hm : lastMarks [op, op'] [b, c] = false := behind_no ns
  exact ⟨PE.imp (pe_chain h1 h3 (pa X W kn hs) (pb X W kn hs) (pc X W kn hs) hm) fun σ H Q h => z_chain h2 h4 h, PT.imp (pt_chain h1 h3 (pa X W kn hs) (pb X W kn hs) (pc X W kn hs) hm) fun σ H Q h => z_chain h2 h4 (t_bool (chain_bool hp hq) h)⟩
theorem se_succ (iE : SE T N k n) (iA : SA T N k n) (iT : ST T N k n) (iI : SI T N k n) : SE T N k (n + 1) := by
  intro sc e ie h
  have nosl : ∀ {e : Expr}, (match e with | .Slice _ _ _ _ => False | _ => True) → ∀ lo hi st pos, e ≠ .Slice lo hi st pos := fun {e} h lo hi st pos z => by subst z; exact h
  cases e <;> simp only [cE] at h <;> try (cases h; done)
  case Name x pos =>
    refine ⟨trivial, trivial, nosl trivial, ?_⟩
    split at h
    · rename_i hv
      obtain ⟨i, h1, rfl⟩ := map_some h
      obtain ⟨v, d1, d2⟩ := vis_of hv
      exact fun X W kn hs => PE.imp (pe_var (by rw [kn.hN]; exact slotOf_get h1) (by rw [hs]; exact v) d1 d2) fun _ _ _ => z_of_var
    · split at h
      · rename_i hg
        obtain ⟨d, h1, rfl⟩ := map_some h
        obtain ⟨g1, g2, g3⟩ := gl_of hg
        intro X W kn hs
        obtain ⟨v, u, k1, k2, k3⟩ := kn.gl x d h1
        exact PE.imp (pe_glob (by show X.env.scope.names.lookup _ = _; rw [hs]; exact g1) k1 k2 g2) fun _ _ _ => z_cst k3
      · cases h
  case Constant c j pos =>
    refine ⟨trivial, trivial, nosl trivial, ?_⟩
    cases c <;> simp only at h <;> try (cases h; done)
    · cases h
      exact fun X W kn hs => PE.imp pe_non fun _ _ _ => z_cst fun _ _ => .non
    · cases h
      exact fun X W kn hs => PE.imp pe_bl fun _ _ _ => z_cst fun _ _ => .bl _
    · cases h
      exact fun X W kn hs => PE.imp pe_int fun _ _ _ => z_cst fun _ _ => .int _
    · cases h
      exact fun X W kn hs => PE.imp pe_str fun _ _ _ => z_cst fun _ _ => .str _
  case BinOp a op b pos =>
    refine ⟨trivial, trivial, nosl trivial, ?_⟩
    split at h
    · rename_i p x y h1 h2 h3
      cases h
      intro X W kn hs
      obtain ⟨_, _, _, pa⟩ := iA sc a x h2
      obtain ⟨_, _, _, pb⟩ := iA sc b y h3
      obtain ⟨r, g1, g2⟩ := bin_rule (X := X) h1
      exact PE.imp (pe_op g1 (pa X W kn hs) (pb X W kn hs)) fun σ H Q h => op2 g2 h
    · cases h
  case UnaryOp op a pos =>
    refine ⟨trivial, trivial, nosl trivial, ?_⟩
    cases op <;> simp only at h <;> try (cases h; done)
    · obtain ⟨x, h1, rfl⟩ := map_some h
      obtain ⟨_, _, _, pa⟩ := iE sc a x h1
      exact fun X W kn hs => PE.imp (pe_not (pa X W kn hs)) fun _ _ _ => z_not
    · obtain ⟨x, h1, rfl⟩ := map_some h
      obtain ⟨_, _, _, pa⟩ := iA sc a x h1
      exact fun X W kn hs => PE.imp (pe_un un_neg (pa X W kn hs)) fun σ H Q h => op1 (p := .neg) (R := fun v H Q => rU (fun i => .int (-i)) v H Q) (fun e h a k => p_neg e h a k) h
  case BoolOp op vs pos =>
    refine ⟨trivial, trivial, nosl trivial, ?_⟩
    match vs, h with
    | [], h => cases h
    | [a], h =>
      obtain ⟨_, _, _, pa⟩ := iE sc a ie h
      exact fun X W kn hs => pe_one (pa X W kn hs)
    | a :: b :: r, h =>
      simp only at h
      split at h
      · rename_i x y h1 h2
        obtain ⟨_, _, _, pa⟩ := iE sc a x h1
        obtain ⟨_, _, _, pb⟩ := iE sc _ y h2
        cases op <;> cases h
        · exact fun X W kn hs => PE.imp (pe_and (pa X W kn hs) (pb X W kn hs)) fun _ _ _ => z_and
        · exact fun X W kn hs => PE.imp (pe_or (pa X W kn hs) (pb X W kn hs)) fun _ _ _ => z_or
      · cases h
  case Compare a ops bs pos =>
    refine ⟨trivial, trivial, nosl trivial, ?_⟩
    match ops, bs, h with
    | [], _, h => cases h
    | [op], [], h => cases h
    | [op], _ :: _ :: _, h => cases h
    | [p, q], [], h => cases h
    | [p, q], [_], h => cases h
    | [p, q], _ :: _ :: _ :: _, h => cases h
    | _ :: _ :: _ :: _, _, h => cases h
    | [op], [b], h =>
      by_cases o1 : op = .Is
      · subst o1
        simp only at h
        split at h
        · rename_i hb
          obtain ⟨j, p', rfl⟩ := isNone_some hb
          obtain ⟨x, h1, rfl⟩ := map_some h
          exact fun X W kn hs => (se_isn iA h1 kn hs).1
        · split at h
          · rename_i x y h2 h3
            cases h
            exact fun X W kn hs => (se_cmp iA (op := .Is) rfl h2 h3 kn hs).1
          · cases h
      · by_cases o2 : op = .IsNot
        · subst o2
          simp only at h
          split at h
          · rename_i hb
            obtain ⟨j, p', rfl⟩ := isNone_some hb
            obtain ⟨x, h1, rfl⟩ := map_some h
            exact fun X W kn hs => (se_notn iA h1 kn hs).1
          · split at h
            · rename_i x y h2 h3
              cases h
              exact fun X W kn hs => (se_cmp iA (op := .IsNot) rfl h2 h3 kn hs).1
            · cases h
        · have h' : (match cmpP op, cA T N n sc a, cA T N n sc b with
              | some p, some x, some y => some (IE.op p [x, y])
              | _, _, _ => none) = some ie := by
            cases op <;> first | exact h | exact absurd rfl o1 | exact absurd rfl o2
          split at h'
          · rename_i p x y h1 h2 h3
            cases h'
            exact fun X W kn hs => (se_cmp iA h1 h2 h3 kn hs).1
          · cases h'
    | [p, q], [b, c], h =>
      simp only at h
      split at h
      · rename_i p' q' x y z h1 h2 h3 h4 h5
        cases h
        exact fun X W kn hs => (se_chain iE h1 h2 h3 h4 h5 kn hs).1
      · cases h
  case IfExp c a b pos =>
    refine ⟨trivial, trivial, nosl trivial, ?_⟩
    split at h
    · rename_i x y z h1 h2 h3
      cases h
      obtain ⟨_, _, _, pa⟩ := iE sc a y h2
      obtain ⟨_, _, _, pb⟩ := iE sc b z h3
      exact fun X W kn hs => PE.imp (pe_ifExp (iT.pt h1 kn hs) (pa X W kn hs) (pb X W kn hs)) fun _ _ _ => z_ife
    · cases h
  case Call fn as kw pos =>
    refine ⟨trivial, trivial, nosl trivial, ?_⟩
    split at h
    case h_2 => cases h
    rename_i f hn
    obtain ⟨p, rfl⟩ := nameV_some hn
    split at h
    case isFalse =>
      split at h
      case isFalse => cases h
      rename_i hv
      split at h
      case h_2 => cases h
      rename_i i a r hi
      obtain ⟨ias, h1, rfl⟩ := map_some h
      exact fun X W kn hs => se_callv iA hv hi h1 kn hs
    rename_i hg
    split at h
    · rename_i j hj
      obtain ⟨ias, h1, rfl⟩ := map_some h
      exact fun X W kn hs => se_call iA hg hj h1 kn hs
    · rename_i hj
      cases as with
      | nil => cases h
      | cons a as =>
        cases as with
        | nil =>
          simp only at h
          split at h
          · rename_i g b hr
            obtain ⟨rfl, rfl, p2, pos2, rfl⟩ := revV_some hr
            split at h
            · rename_i hg2
              obtain ⟨x, h1, rfl⟩ := map_some h
              exact fun X W kn hs => se_lrev iA hg hg2 h1 kn hs
            · cases h
          split at h
          · rename_i q x h1 h2
            cases h
            exact fun X W kn hs => se_prim1 iA hg h1 h2 kn hs
          · cases h
        | cons b as =>
          cases as with
          | cons _ _ => cases h
          | nil =>
            simp only at h
            by_cases hf : f = "isinstance"
            · rw [if_pos hf] at h
              subst hf
              cases hn2 : nameV b with
              | none => rw [hn2] at h; cases h
              | some t =>
                obtain ⟨tp, rfl⟩ := nameV_some hn2
                rw [hn2] at h
                simp only at h
                by_cases ht : glB sc t = true
                · rw [if_pos ht] at h
                  split at h
                  · rename_i ty x h1 h2
                    cases h
                    exact fun X W kn hs => se_isi iA hg ht h1 h2 kn hs
                  · cases h
                · rw [if_neg ht] at h
                  cases h
            · rw [if_neg hf] at h
              by_cases hc : f = "gcd" ∧ T.gcd = true
              · rw [if_pos hc] at h
                obtain ⟨rfl, hG⟩ := hc
                split at h
                · rename_i x y h1 h2
                  cases h
                  exact fun X W kn hs => se_gcd iA hg hG h1 h2 kn hs
                · cases h
              · rw [if_neg hc] at h
                cases h
  case Tuple es kk pos =>
    refine ⟨trivial, trivial, nosl trivial, ?_⟩
    obtain ⟨ies, h1, rfl⟩ := map_some h
    exact fun X W kn hs => PE.imp (pe_tup (pa_es iE kn hs h1)) fun _ _ _ => z_tup
  case List es pos =>
    refine ⟨trivial, trivial, nosl trivial, ?_⟩
    obtain ⟨ies, h1, rfl⟩ := map_some h
    exact fun X W kn hs => PE.imp (pe_lst (pa_es iE kn hs h1)) fun _ _ _ => z_lst
  case Subscript a b pos =>
    refine ⟨trivial, trivial, nosl trivial, ?_⟩
    split at h
    · rename_i lo hi st p2
      cases st with
      | some _ => cases h
      | none =>
        cases lo with
        | some l =>
          cases hi with
          | some u =>
            simp only at h
            split at h
            · rename_i x y z h1 h2 h3
              cases h
              obtain ⟨_, _, _, pa⟩ := iA sc a x h1
              obtain ⟨_, _, _, pl⟩ := iE sc l y h2
              obtain ⟨_, _, _, pu⟩ := iE sc u z h3
              exact fun X W kn hs => PE.imp (pe_slice sl_Z (pa X W kn hs) (po_some (pl X W kn hs)) (po_some (pu X W kn hs))) fun _ _ _ => op_sl2
            · cases h
          | none =>
            simp only at h
            split at h
            · rename_i x y h1 h2
              cases h
              obtain ⟨_, _, _, pa⟩ := iA sc a x h1
              obtain ⟨_, _, _, pl⟩ := iE sc l y h2
              exact fun X W kn hs => PE.imp (pe_slice sl_Z (pa X W kn hs) (po_some (pl X W kn hs)) po_none) fun σ H Q h => op_sl1 (b := true) (c := false) (fun _ _ => rfl) (fun d e he => by cases e <;> first | rfl | exact absurd rfl (he _)) h
            · cases h
        | none =>
          cases hi with
          | some u =>
            simp only at h
            split at h
            · rename_i x y h1 h2
              cases h
              obtain ⟨_, _, _, pa⟩ := iA sc a x h1
              obtain ⟨_, _, _, pl⟩ := iE sc u y h2
              exact fun X W kn hs => PE.imp (pe_slice sl_Z (pa X W kn hs) po_none (po_some (pl X W kn hs))) fun σ H Q h => op_sl1 (b := false) (c := true) (fun _ _ => rfl) (fun d e he => by cases e <;> first | rfl | exact absurd rfl (he _)) h
            · cases h
          | none =>
            simp only at h
            obtain ⟨x, h1, rfl⟩ := map_some h
            obtain ⟨_, _, _, pa⟩ := iA sc a x h1
            exact fun X W kn hs => PE.imp (pe_slice sl_Z (pa X W kn hs) po_none po_none) fun σ H Q h => op1 (p := .sl false false) (R := fun v H Q => rSlZ X.K v none none H Q) (fun e h a k => p_sl e h a k) h
    · split at h
      · rename_i x y h1 h2
        cases h
        obtain ⟨_, _, _, pa⟩ := iA sc a x h1
        obtain ⟨_, _, ns, pb⟩ := iA sc b y h2
        exact fun X W kn hs => PE.imp (pe_ix (IxR.or ix_list ix_tup) (pa X W kn hs) (pb X W kn hs) (plain_ix ns)) fun σ H Q h => op2 (p := .ix) p_ix h
      · cases h
  case ListComp elt gens scope pos =>
    refine ⟨trivial, trivial, nosl trivial, ?_⟩
    match gens, h with
    | [], h => cases h
    | _ :: _ :: _, h => cases h
    | [⟨tg, iter, ifs, as⟩], h =>
      simp only at h
      split at h
      case isFalse => cases h
      rename_i has
      subst has
      split at h
      case h_2 => cases h
      rename_i own g src x h1 h2 h3 h4
      split at h
      case isFalse => cases h
      rename_i hb
      rw [Bool.and_eq_true] at hb
      match ifs, h with
      | [], h =>
        cases h
        exact fun X W kn hs => se_comp iE iT iI h2 h3 h4 hb.1 hb.2 (.inl ⟨rfl, rfl⟩) kn hs
      | [c], h =>
        obtain ⟨y, h5, rfl⟩ := map_some h
        exact fun X W kn hs => se_comp iE iT iI h2 h3 h4 hb.1 hb.2 (.inr ⟨c, y, rfl, h5, rfl⟩) kn hs
      | _ :: _ :: _, h => cases h
end
end Z
namespace Z
open PySem PySem.Spec PyProof.Rows L2
section
variable {T : Tab} {N : List Str} {k n : Nat}
theorem tP.mono {K : PySem.W.Frag} {W : XW} {f : Zm PV} {σ : L2.St} {H : Hp} {Q Q' : VK} (h : tP K W f σ H Q) (i : ∀ v H, Q v H → Q' v H) : tP K W f σ H Q' := by
  obtain ⟨M, env, e, h⟩ := h
  refine ⟨M, env, e, ?_⟩
  unfold RP at h ⊢
  cases hx : f env with
  | bad => rw [hx] at h; exact h.elim
  | ex => rw [hx] at h; exact h
  | ok p env1 =>
    rw [hx] at h
    exact fun M' H' v e' s' f' => i v H' (h M' H' v e' s' f')
theorem cA_not {sc : Scope} {e : Expr} {x : IA} (hn : nameV e = none) (h : cA T N n sc e = some x) : ∃ m y, n = m + 1 ∧ cE T N m sc e = some y ∧ x = .val y := by
  cases n with
  | zero => simp [cA] at h
  | succ m =>
    simp only [cA] at h
    rw [hn] at h
    obtain ⟨y, h1, h2⟩ := map_some h
    exact ⟨m, y, rfl, h1, h2.symm⟩
/-- a comparison as a test -/
theorem st_cmp (iE : ∀ m, m ≤ n → SE T N k m) (iA : ∀ m, m ≤ n → SA T N k m) {sc : Scope} {a : Expr} {ops : List CmpOp} {bs : List Expr} {pos : Pos} {m : Nat} {y : IE} (hm : m ≤ n) (h : cE T N m sc (.Compare a ops bs pos) = some y) {X : Cx} {W : XW} (kn : Kn T N X k W) (hs : X.env.scope = sc) :
    PT X (.Compare a ops bs pos) (tB X.K W (evT (callK T.fns k) (.val (.val y)))) := by
  cases m with
  | zero => simp [cE] at h
  | succ m =>
    simp only [cE] at h
    match ops, bs, h with
    | [], _, h => cases h
    | [op], [], h => cases h
    | [op], _ :: _ :: _, h => cases h
    | [p, q], [], h => cases h
    | [p, q], [_], h => cases h
    | [p, q], _ :: _ :: _ :: _, h => cases h
    | _ :: _ :: _ :: _, _, h => cases h
    | [op], [b], h =>
      by_cases o1 : op = .Is
      · subst o1
        simp only at h
        split at h
        · rename_i hb
          obtain ⟨j, p', rfl⟩ := isNone_some hb
          obtain ⟨x, h1, rfl⟩ := map_some h
          exact (se_isn (iA m (by omega)) h1 kn hs).2
        · split at h
          · rename_i x y h2 h3
            cases h
            exact (se_cmp (iA m (by omega)) (op := .Is) rfl h2 h3 kn hs).2
          · cases h
      · by_cases o2 : op = .IsNot
        · subst o2
          simp only at h
          split at h
          · rename_i hb
            obtain ⟨j, p', rfl⟩ := isNone_some hb
            obtain ⟨x, h1, rfl⟩ := map_some h
            exact (se_notn (iA m (by omega)) h1 kn hs).2
          · split at h
            · rename_i x y h2 h3
              cases h
              exact (se_cmp (iA m (by omega)) (op := .IsNot) rfl h2 h3 kn hs).2
            · cases h
        · have h' : (match cmpP op, cA T N m sc a, cA T N m sc b with
              | some p, some x, some y => some (IE.op p [x, y])
              | _, _, _ => none) = some y := by
            cases op <;> first | exact h | exact absurd rfl o1 | exact absurd rfl o2
          split at h'
          · rename_i p x y h1 h2 h3
            cases h'
            exact (se_cmp (iA m (by omega)) h1 h2 h3 kn hs).2
          · cases h'
    | [p, q], [b, c], h =>
      simp only at h
      split at h
      · rename_i p' q' x y z h1 h2 h3 h4 h5
        cases h
        exact (se_chain (iE m (by omega)) h1 h2 h3 h4 h5 kn hs).2
      · cases h
theorem st_succ (iE : ∀ m, m ≤ n → SE T N k m) (iA : ∀ m, m ≤ n → SA T N k m) (iT : ST T N k n) : ST T N k (n + 1) := by
  intro sc e it h X W kn hs
  have val : ∀ (x : IA), cA T N n sc e = some x → (∀ whole, isTrue e X.env whole = (do let v ← whole; standAt e.pos; holding [v] (PySem.truthy v))) → (∀ op vs pos, e ≠ .BoolOp op vs pos) → it = .val x →
      PT X e (tB X.K W (evT (callK T.fns k) it)) ∧ (∀ op vs pos, e = .BoolOp op vs pos → PW X e (tB X.K W (evT (callK T.fns k) it))) := by
    rintro x h1 h2 h3 rfl
    obtain ⟨_, _, _, pa⟩ := iA n (Nat.le_refl _) sc e x h1
    exact ⟨PT.imp (pt_truth (pa X W kn hs) h2) fun σ H Q h => (t_val h).mono fun v H ⟨k, q1, _, q3⟩ => ⟨k, q1, q3⟩, fun op vs pos z => absurd z (h3 op vs pos)⟩
  have go : ∀ (hn : ∀ whole, isTrue e X.env whole = (do let v ← whole; standAt e.pos; holding [v] (PySem.truthy v))), (∀ op vs pos, e ≠ .BoolOp op vs pos) → (cA T N n sc e).map IT.val = some it →
      PT X e (tB X.K W (evT (callK T.fns k) it)) ∧ (∀ op vs pos, e = .BoolOp op vs pos → PW X e (tB X.K W (evT (callK T.fns k) it))) := by
    intro h2 h3 h
    obtain ⟨x, h1, h4⟩ := map_some h
    exact val x h1 h2 h3 h4.symm
  cases e <;> simp only [cT] at h <;> try (exact go (fun _ => rfl) (fun _ _ _ z => Expr.noConfusion z) h)
  case IfExp => cases h
  case UnaryOp op a pos =>
    refine ⟨?_, (fun _ _ _ z => Expr.noConfusion z)⟩
    cases op <;> simp only at h <;> try (cases h; done)
    obtain ⟨x, h1, rfl⟩ := map_some h
    exact PT.imp (pt_not (iT.pt h1 kn hs)) fun _ _ _ => t_not
  case BoolOp op vs pos =>
    have key : PW X (.BoolOp op vs pos) (tB X.K W (evT (callK T.fns k) it)) := by
      cases vs with
      | nil => cases h
      | cons a vs =>
        cases vs with
        | nil =>
          have q := iT.pt (e := a) h kn hs
          cases op with
          | And => exact pw_and1 q
          | Or => exact pw_or1 q
        | cons b r =>
          simp only at h
          split at h
          · rename_i x y h1 h2
            have qa := iT.pt h1 kn hs
            have qb := (iT sc _ y h2 X W kn hs).2 op (b :: r) pos rfl
            cases op with
            | And => cases h; exact PW.imp (pw_and qa qb) fun _ _ _ => t_and
            | Or => cases h; exact PW.imp (pw_or qa qb) fun _ _ _ => t_or
          · cases h
    exact ⟨key.pt, fun _ _ _ _ => key⟩
  case Compare a ops bs pos =>
    obtain ⟨x, h1, rfl⟩ := map_some h
    obtain ⟨m, y, rfl, h2, rfl⟩ := cA_not rfl h1
    exact ⟨st_cmp iE iA (by omega) h2 kn hs, (fun _ _ _ z => Expr.noConfusion z)⟩
theorem snd_all (T : Tab) (N : List Str) (k : Nat) : ∀ n, (∀ m, m ≤ n → SE T N k m) ∧ (∀ m, m ≤ n → SA T N k m) ∧ (∀ m, m ≤ n → ST T N k m) ∧ (∀ m, m ≤ n → SI T N k m) := by
  intro n
  induction n with
  | zero =>
    refine ⟨fun m hm => ?_, fun m hm => ?_, fun m hm => ?_, fun m hm => ?_⟩ <;> (obtain rfl : m = 0 := by omega)
    · intro sc e ie h; simp [cE] at h
    · intro sc e ie h; simp [cA] at h
    · intro sc e ie h; simp [cT] at h
    · intro sc tg e ie h; simp [cI] at h
  | succ n ih =>
    obtain ⟨hE, hA, hT, hI⟩ := ih
    have eE := hE n (Nat.le_refl _)
    have eA := hA n (Nat.le_refl _)
    have eT := hT n (Nat.le_refl _)
    have eI := hI n (Nat.le_refl _)
    have ext : ∀ {P : Nat → Prop}, (∀ m, m ≤ n → P m) → P (n + 1) → ∀ m, m ≤ n + 1 → P m := fun {P} h1 h2 m hm => by
      by_cases z : m = n + 1
      · subst z; exact h2
      · exact h1 m (by omega)
    exact ⟨ext hE (se_succ eE eA eT eI), ext hA (sa_succ eE), ext hT (st_succ hE hA eT), ext hI (si_succ eE eA fun sc e x h => (eA sc e x h).2.1.ne)⟩
theorem snd_E (n : Nat) : SE T N k n := (snd_all T N k n).1 n (Nat.le_refl _)
theorem snd_T (n : Nat) : ST T N k n := (snd_all T N k n).2.2.1 n (Nat.le_refl _)
theorem snd_I (n : Nat) : SI T N k n := (snd_all T N k n).2.2.2 n (Nat.le_refl _)
end
end Z
namespace Z
open PySem PySem.Spec PyProof.Rows L2
def ResF (K : PySem.W.Frag) (pin : Nat → Bool) (H : Hp) (σ : L2.St) (env : En) (M' : Mk) (H' : Hp) (d : D) (fr : Bool) (v : V) : Prop := match fr with
  | false => Rep K M' H' d v
  | true => ∃ ds a xs, d = .lst ds ∧ v = .ref a ∧ (H a = none ∨ ∃ i, pin i = false ∧ OwnAt σ env i a) ∧ M' a ∧ H' a = some (.lst xs) ∧ Reps K M' H' ds xs
def FlP (K : PySem.W.Frag) (W : XW) (pin : Nat → Bool) (M : Mk) (H : Hp) (σ : L2.St) (env : En) (D : Ends) : Out Fl → Prop
  | .ok .nx env' => ∀ M' H' σ', EnvOk K M' H' σ' env' → Stp pin M H σ env M' H' σ' env' → D.nx σ' H'
  | .ok .bk env' => ∀ M' H' σ', EnvOk K M' H' σ' env' → Stp pin M H σ env M' H' σ' env' → D.bk σ' H'
  | .ok .ct env' => ∀ M' H' σ', EnvOk K M' H' σ' env' → Stp pin M H σ env M' H' σ' env' → D.ct σ' H'
  | .ok (.rt d fr) env' => ∀ M' H' σ' v, EnvOk K M' H' σ' env' → Stp pin M H σ env M' H' σ' env' → ResF K pin H σ env M' H' d fr v → D.rt v H'
  | .ex x env' => ∀ M' H' σ', EnvOk K M' H' σ' env' → Stp pin M H σ env M' H' σ' env' → W x σ' H'
  | .bad => False
def tS (K : PySem.W.Frag) (W : XW) (pin : Nat → Bool) (f : Zm Fl) : TS := fun D σ H => ∃ M env, EnvOk K M H σ env ∧ FlP K W pin M H σ env D (f env)
section
variable {K : PySem.W.Frag} {W : XW} {C : Cl} {pin : Nat → Bool} {M M' M1 M2 : Mk} {H H' H1 H2 : Hp} {σ σ' σ1 σ2 : L2.St} {env env' env1 env2 : En} {D : Ends}
theorem Res.toF {d : Z.D} {fr : Bool} {v : V} (r : Res K M' H' σ' env' H d fr v) : ResF K pin H σ env M' H' d fr v := by
  cases fr with
  | false => exact r
  | true =>
    obtain ⟨ds, a, xs, h1, h2, h3, h4, h5, h6, _⟩ := r
    exact ⟨ds, a, xs, h1, h2, .inl h3, h4, h5, h6⟩
theorem none_back (s : Stp pin M H σ env M1 H1 σ1 env1) {a : Addr} (h : H1 a = none) : H a = none := by
  cases q : H a with
  | none => rfl
  | some o => exact absurd h (s.dom a (by rw [q]; simp))
theorem FlP.back (e : EnvOk K M H σ env) (s : Stp pin M H σ env M1 H1 σ1 env1) {o : Out Fl} (h : FlP K W pin M H σ env D o) : FlP K W pin M1 H1 σ1 env1 D o := by
  cases o with
  | bad => exact h
  | ex => exact fun M' H' σ' e' s' => h M' H' σ' e' (s.trans e.mok s')
  | ok fl env' =>
    cases fl with
    | nx => exact fun M' H' σ' e' s' => h M' H' σ' e' (s.trans e.mok s')
    | bk => exact fun M' H' σ' e' s' => h M' H' σ' e' (s.trans e.mok s')
    | ct => exact fun M' H' σ' e' s' => h M' H' σ' e' (s.trans e.mok s')
    | rt d fr =>
      refine fun M' H' σ' v e' s' r => h M' H' σ' v e' (s.trans e.mok s') ?_
      cases fr with
      | false => exact r
      | true =>
        obtain ⟨ds, a, xs, h1, h2, h3, hr⟩ := r
        refine ⟨ds, a, xs, h1, h2, ?_, hr⟩
        rcases h3 with h3 | ⟨i, p, h3⟩
        · exact .inl (none_back s h3)
        · rcases s.wr i a h3 with w | w
          · exact .inr ⟨i, p, w⟩
          · exact .inl w
theorem setS_nex {pin : Nat → Bool} {i : Nat} {d : Z.D} {fr : Bool} {env e : En} {x : Ex} (h : setS pin i d fr env = .ex x e) : False := by
  unfold setS at h
  split at h
  · cases h
  · split at h <;> cases h
  · cases h
theorem setAll_nex {pin : Nat → Bool} {x : Ex} : ∀ {l : List Nat} {ds : List Z.D} {env e : En}, setAll pin l ds env = .ex x e → False
  | [], [], _, _, h => by simp [setAll] at h
  | [], _ :: _, _, _, h => by simp [setAll] at h
  | _ :: _, [], _, _, h => by simp [setAll] at h
  | i :: l, d :: ds, env, e, h => by
    simp only [setAll] at h
    cases q : setS pin i d false env with
    | bad => rw [q] at h; cases h
    | ex => exact setS_nex q
    | ok u e1 => rw [q] at h; exact setAll_nex h
theorem setG_nex {pin : Nat → Bool} {g : IG} {d : Z.D} {env e : En} {x : Ex} (h : setG pin g d env = .ex x e) : False := by
  cases g with
  | nm i => exact setS_nex h
  | tp l => cases d <;> first | exact setAll_nex h | cases h
theorem peek_nex {i : Nat} {env e : En} {x : Ex} (h : peek i env = .ex x e) : False := by
  unfold peek at h
  split at h <;> cases h
theorem getV_nex {i : Nat} {env e : En} {x : Ex} (h : getV i env = .ex x e) : False := by
  unfold getV at h
  split at h <;> cases h
theorem xk0 {x : Ex} {ee : En} (h : ∀ M' H' σ', EnvOk K M' H' σ' ee → Stp pin M H σ env M' H' σ' ee → W x σ' H') : ExK K W M H σ env x ee :=
  fun M' H' e' s' => h M' H' σ e' (s'.weak fun _ _ => rfl)
theorem xk1 {x : Ex} {ee : En} (h : ∀ M' H' σ', EnvOk K M' H' σ' ee → Stp pin M H σ env M' H' σ' ee → W x σ' H') (e : EnvOk K M H σ env) (s : Stp pin M H σ env M1 H1 σ1 env1) : ExK K W M1 H1 σ1 env1 x ee :=
  fun M' H' e' s' => h M' H' σ1 e' (s.trans e.mok (s'.weak fun _ _ => rfl))
theorem s_nil (h : tS K W pin (evSs C pin []) D σ H) : tNext D σ H := by
  obtain ⟨M, env, e, h⟩ := h
  simp only [evSs] at h
  exact h M H σ e .refl
theorem s_cons {s : IS} {ss : List IS} (h : tS K W pin (evSs C pin (s :: ss)) D σ H) : tSeq (tS K W pin (evS C pin s)) (tS K W pin (evSs C pin ss)) D σ H := by
  obtain ⟨M, env, e, h⟩ := h
  refine ⟨M, env, e, ?_⟩
  simp only [evSs] at h
  cases hx : evS C pin s env with
  | bad => rw [hx] at h; exact h.elim
  | ex => rw [hx] at h; exact h
  | ok fl env1 =>
    rw [hx] at h
    simp only [Out.bind_ok] at h
    cases fl with
    | nx => exact fun M' H' σ' e' s' => ⟨M', env1, e', h.back e s'⟩
    | bk => exact h
    | ct => exact h
    | rt d fr => exact h
theorem s_set {i : Nat} {x : IE} (h : tS K W pin (evS C pin (.set i x)) D σ H) : tAsg (tZ K W (evE C x)) (gName i) D σ H := by
  obtain ⟨M, env, e, h⟩ := h
  refine ⟨M, env, e, ?_⟩
  unfold RZ
  simp only [evS] at h
  cases hx : evE C x env with
  | bad => rw [hx] at h; exact h.elim
  | ex => rw [hx] at h; exact xk0 h
  | ok z env1 =>
    rw [hx] at h
    simp only [Out.bind_ok] at h
    intro M1 H1 v e1 s1 r1
    cases hy : setS pin i z.1 z.2 env1 with
    | bad => rw [hy] at h; exact h.elim
    | ex => exact (setS_nex hy).elim
    | ok u env2 =>
      rw [hy] at h
      obtain ⟨e2, s2⟩ := setS_ok (s1.weak (pin' := pin) fun _ _ => rfl) e1 r1 hy
      exact h M1 H1 _ e2 s2
theorem s_unp {l : List Nat} {x : IE} (h : tS K W pin (evS C pin (.unp l x)) D σ H) : tAsg (tZ K W (evE C x)) (tGt K pin (.tp l)) D σ H := by
  obtain ⟨M, env, e, h⟩ := h
  refine ⟨M, env, e, ?_⟩
  unfold RZ
  simp only [evS] at h
  cases hx : evE C x env with
  | bad => rw [hx] at h; exact h.elim
  | ex => rw [hx] at h; exact xk0 h
  | ok z env1 =>
    rw [hx] at h
    simp only [Out.bind_ok] at h
    intro M1 H1 v e1 s1 r1
    obtain ⟨M2, e2, s2, r2⟩ := r1.freeze e e1 s1
    refine ⟨M, H, σ, env, M2, env1, z.1, e2, s2.weak fun _ _ => rfl, r2, ?_⟩
    cases hy : setG pin (.tp l) z.1 env1 with
    | bad => rw [hy] at h; exact h.elim
    | ex => exact (setG_nex hy).elim
    | ok u env2 =>
      rw [hy] at h
      exact fun σ' e' s' => h M2 H1 σ' e' s'
theorem s_par {l : List Nat} {xs : List IE} (h : tS K W pin (evS C pin (.par l xs)) D σ H) : tDs K W (evEs C xs) σ H fun vs H1 => l.length = vs.length ∧ D.nx (setAllσ σ l vs) H1 := by
  obtain ⟨M, env, e, h⟩ := h
  refine ⟨M, env, e, ?_⟩
  simp only [evS] at h
  cases hx : evEs C xs env with
  | bad => rw [hx] at h; exact h.elim
  | ex => rw [hx] at h; exact xk0 h
  | ok ds env1 =>
    rw [hx] at h
    simp only [Out.bind_ok] at h
    intro M1 H1 vs e1 s1 r1
    cases hy : setAll pin l ds env1 with
    | bad => rw [hy] at h; exact h.elim
    | ex => exact (setAll_nex hy).elim
    | ok u env2 =>
      rw [hy] at h
      obtain ⟨e2, s2, l2⟩ := setAll_ok (s1.weak (pin' := pin) fun _ _ => rfl) e1 r1 hy
      exact ⟨l2.trans r1.length, h M1 H1 _ e2 s2⟩
/-- an owned list is written -/
theorem own_write {i : Nat} {ds ds' : List Z.D} {a : Addr} {xs : List V} (e : EnvOk K M H σ env) (h : env[i]? = some (some (.lst ds, .own))) (hs : σ[i]? = some (some (.ref a))) (r : Reps K M H ds' xs) :
    EnvOk K M (upd H a (.lst xs)) σ (env.set i (some (.lst ds', .own))) ∧ Stp pin M H σ env M (upd H a (.lst xs)) σ (env.set i (some (.lst ds', .own))) := by
  have hO : OwnAt σ env i a := ⟨_, h, hs⟩
  have hm := e.held_m hO.held
  have hl := lt_of_get h
  have kp : Keeps M H M (upd H a (.lst xs)) := ⟨fun b o q n => by rw [upd_ne (fun z => by subst z; exact n hm)]; exact q, fun _ _ z => z⟩
  have ownS : ∀ {j b}, OwnAt σ (env.set i (some (.lst ds', .own))) j b → OwnAt σ env j b := by
    rintro j b ⟨d, g1, g2⟩
    rcases set_get g1 with ⟨rfl, _, _⟩ | ⟨n, g1⟩
    · rw [hs] at g2; cases g2; exact hO
    · exact ⟨d, g1, g2⟩
  have heldS : ∀ {j b}, Held σ (env.set i (some (.lst ds', .own))) j b → Held σ env j b := by
    rintro j b ⟨d, m, hm, g1, g2⟩
    rcases set_get g1 with ⟨rfl, _, _⟩ | ⟨n, g1⟩
    · rw [hs] at g2; cases g2; exact hO.held
    · exact ⟨d, m, hm, g1, g2⟩
  refine ⟨⟨by rw [List.length_set]; exact e.len, fun j d m g => ?_, fun j l b n g1 g2 => e.apart j l b n (ownS g1) (heldS g2), fun b hb => ?_⟩, ⟨fun b o g n => ?_, fun b n => ?_, fun _ _ z => z, fun _ z _ => z, fun j b w => .inl (ownS w), fun j => ⟨?_, ?_⟩, fun _ _ => rfl, fun _ _ => rfl, fun j _ g => ?_⟩⟩
  · rcases set_get g with ⟨rfl, z, _⟩ | ⟨n, g⟩
    · cases z
      exact ⟨_, hs, ds', a, xs, rfl, rfl, hm, upd_same, r.keeps e.mok kp⟩
    · obtain ⟨v, h1, h2⟩ := e.slot j d m g
      refine ⟨v, h1, h2.keeps e.mok kp fun hm' b eb => ⟨e.held_m ⟨d, m, hm', g, by rw [h1, eb]⟩, fun o q => ?_⟩⟩
      rw [upd_ne]
      · exact q
      · intro z
        subst eb
        subst z
        exact e.apart i j b n hO ⟨d, m, hm', g, h1⟩
  · by_cases z : b = a
    · subst z; exact ⟨xs, upd_same⟩
    · obtain ⟨ys, q⟩ := e.mok b hb
      exact ⟨ys, by rw [upd_ne z]; exact q⟩
  · rw [upd_ne (fun z => by subst z; exact n ⟨i, hO⟩)]
    exact g
  · unfold upd
    split
    · simp
    · exact n
  · rintro ⟨d, g⟩
    rcases set_get g with ⟨rfl, z, _⟩ | ⟨n, g⟩
    · cases z
    · exact ⟨d, g⟩
  · rintro ⟨d, g⟩
    refine ⟨d, ?_⟩
    rw [List.getElem?_set_ne (fun z => by subst z; rw [h] at g; cases g)]
    exact g
  · obtain ⟨t, g⟩ := g
    by_cases z : i = j
    · subst z; exact ⟨_, List.getElem?_set_self hl⟩
    · exact ⟨t, by rw [List.getElem?_set_ne z]; exact g⟩
theorem s_setix {i : Nat} {k x : IE} (h : tS K W pin (evS C pin (.setix i k x)) D σ H) : tAsg (tZ K W (evE C x)) (gSub (tVar i) (tZ K W (evE C k)) rSetL) D σ H := by
  obtain ⟨M, env, e, h⟩ := h
  refine ⟨M, env, e, ?_⟩
  unfold RZ
  simp only [evS] at h
  cases hx : evE C x env with
  | bad => rw [hx] at h; exact h.elim
  | ex => rw [hx] at h; exact xk0 h
  | ok z env1 =>
    rw [hx] at h
    simp only [Out.bind_ok] at h
    intro M1 H1 v e1 s1 r1
    obtain ⟨M2, e2, s2, r2⟩ := r1.freeze e e1 s1
    cases hp : peek i env1 with
    | bad => rw [hp] at h; exact h.elim
    | ex => exact (peek_nex hp).elim
    | ok p env1' =>
      rw [hp] at h
      simp only [Out.bind_ok] at h
      unfold peek at hp
      split at hp
      case h_2 => cases hp
      rename_i t hi1
      cases hp
      obtain ⟨d1, m1⟩ := t
      obtain ⟨w, hσ, _⟩ := e2.slot i d1 m1 hi1
      refine ⟨w, hσ, M2, env1, e2, ?_⟩
      unfold RZ
      cases hy : evE C k env1 with
      | bad => rw [hy] at h; exact h.elim
      | ex => rw [hy] at h; exact xk1 h e (s2.weak fun _ _ => rfl)
      | ok y env2 =>
        rw [hy] at h
        simp only [Out.bind_ok] at h
        intro M3 H3 v3 e3 s3 r3
        obtain ⟨M4, e4, s4, r4⟩ := r3.freeze e2 e3 s3
        split at h
        case h_2 => exact h.elim
        rename_i ds hi2
        obtain ⟨yd, yf⟩ := y
        cases yd with
        | int j =>
          simp only at h
          cases hj : ixN ds.length j with
          | none => rw [hj] at h; exact h.elim
          | some n =>
            rw [hj] at h
            simp only at h
            obtain ⟨w2, k1, ds', a, xs, k2, rfl, k3, k4, k5⟩ := e4.slot i _ .own hi2
            cases k2
            rw [hσ] at k1
            cases k1
            have s24 := s2.trans e.mok s4
            have rr := (Reps.set (r2.keeps e2.mok (s4.keeps e2)) n k5)
            obtain ⟨e5, s5⟩ := own_write (pin := pin) e4 hi2 hσ rr
            exact ⟨a, xs, j, n, rfl, (AnyR.of r4).int, k4, by rw [← k5.length]; exact hj, h M4 _ σ e5 ((s24.weak fun _ _ => rfl).trans e.mok s5)⟩
        | _ => exact h.elim
theorem g_sub {i : Nat} {k : IE} {d : Z.D} {v : V} {Q : L2.St → Hp → Prop} (e : EnvOk K M H σ env) (r : Rep K M H d v) {env2 : En} (h : wrI C i k d env = .ok () env2) (q : ∀ M' H', EnvOk K M' H' σ env2 → Stp pin M H σ env M' H' σ env2 → Q σ H') :
    gSub (tVar i) (tZ K W (evE C k)) rSetL v σ H Q := by
  unfold wrI at h
  cases hp : peek i env with
  | bad => rw [hp] at h; cases h
  | ex => rw [hp] at h; cases h
  | ok p env1' =>
    rw [hp] at h
    simp only [Out.bind_ok] at h
    unfold peek at hp
    split at hp
    case h_2 => cases hp
    rename_i t hi1
    cases hp
    obtain ⟨d1, m1⟩ := t
    obtain ⟨w, hσ, _⟩ := e.slot i d1 m1 hi1
    refine ⟨w, hσ, M, env, e, ?_⟩
    unfold RZ
    cases hy : evE C k env with
    | bad => rw [hy] at h; cases h
    | ex => rw [hy] at h; cases h
    | ok y env1 =>
      rw [hy] at h
      simp only [Out.bind_ok] at h
      intro M3 H3 v3 e3 s3 r3
      obtain ⟨M4, e4, s4, r4⟩ := r3.freeze e e3 s3
      split at h
      case h_2 => cases h
      rename_i ds hi2
      obtain ⟨yd, yf⟩ := y
      cases yd with
      | int j =>
        simp only at h
        cases hj : ixN ds.length j with
        | none => rw [hj] at h; cases h
        | some n =>
          rw [hj] at h
          cases h
          obtain ⟨w2, k1, ds', a, xs, k2, rfl, k3, k4, k5⟩ := e4.slot i _ .own hi2
          cases k2
          rw [hσ] at k1
          cases k1
          have rr := (Reps.set (r.keeps e.mok (s4.keeps e)) n k5)
          obtain ⟨e5, s5⟩ := own_write (pin := pin) e4 hi2 hσ rr
          exact ⟨a, xs, j, n, rfl, (AnyR.of r4).int, k4, by rw [← k5.length]; exact hj, q M4 _ e5 ((s4.weak fun _ _ => rfl).trans e.mok s5)⟩
      | _ => cases h
theorem s_parix {i : Nat} {k l x : IE} (h : tS K W pin (evS C pin (.parix i k l x)) D σ H) :
    tAsg (tZ K W (evE C x)) (gTup K 2 (gCons (gSub (tVar i) (tZ K W (evE C k)) rSetL) (gCons (gSub (tVar i) (tZ K W (evE C l)) rSetL) gNil))) D σ H := by
  obtain ⟨M, env, e, h⟩ := h
  refine ⟨M, env, e, ?_⟩
  unfold RZ
  simp only [evS] at h
  cases hx : evE C x env with
  | bad => rw [hx] at h; exact h.elim
  | ex => rw [hx] at h; exact xk0 h
  | ok z env1 =>
    rw [hx] at h
    simp only [Out.bind_ok] at h
    intro M1 H1 v e1 s1 r1
    obtain ⟨M2, e2, s2, r2⟩ := r1.freeze e e1 s1
    split at h
    case h_2 => exact h.elim
    rename_i a b hz
    rw [hz] at r2
    obtain ⟨p, us, rfl, sq, rs⟩ := (AnyR.of r2).tup
    cases rs with
    | cons ra rs =>
      cases rs with
      | cons rb rs =>
        cases rs
        cases h1 : wrI C i k a env1 with
        | bad => rw [h1] at h; exact h.elim
        | ex => rw [h1] at h; exact h.elim
        | ok u1 env3 =>
          rw [h1] at h
          simp only [Out.noEx, Out.bind_ok] at h
          cases h2 : wrI C i l b env3 with
          | bad => rw [h2] at h; exact h.elim
          | ex => rw [h2] at h; exact h.elim
          | ok u2 env4 =>
            rw [h2] at h
            refine ⟨p, _, rfl, sq, rfl, _, _, rfl, g_sub (pin := pin) e2 ra h1 fun M5 H5 e5 s5 => ?_⟩
            refine ⟨_, _, rfl, g_sub (pin := pin) e5 (rb.keeps e2.mok (s5.keeps e2)) h2 fun M6 H6 e6 s6 => ⟨rfl, ?_⟩⟩
            exact h M6 H6 σ e6 (((s2.weak fun _ _ => rfl).trans e.mok s5).trans e.mok s6)
theorem s_rz {c : Nat} (h : tS K W pin (evS C pin (.rz c)) D σ H) : W ⟨c, []⟩ σ H := by
  obtain ⟨M, env, e, h⟩ := h
  simp only [evS] at h
  exact h M H σ e .refl
theorem s_tr {i : Nat} {body : List IS} {hs : List (Option Z.D)} {W' : XW} (hW : ∀ x σ' H' d M' env', hs.getD x.cls none = some d → x.args = [] → EnvOk K M' H' σ' env' → env'[i]? = some none → (∀ v, Rep K M' H' d v → D.rt v H') → W' x σ' H')
    (h : tS K W pin (evS C pin (.tr i body hs)) D σ H) : tS K W' pin (evSs C pin body) D σ H := by
  obtain ⟨M, env, e, h⟩ := h
  refine ⟨M, env, e, ?_⟩
  simp only [evS] at h
  cases hx : evSs C pin body env with
  | bad => rw [hx] at h; exact h.elim
  | ok fl e2 =>
    rw [hx] at h
    cases fl <;> exact h
  | ex x e2 =>
    rw [hx] at h
    simp only at h
    cases hd : hs.getD x.cls none with
    | none => rw [hd] at h; exact h.elim
    | some d =>
      rw [hd] at h
      simp only at h
      split at h
      · rename_i hi ha
        exact fun M' H' σ' e' s' => hW x σ' H' d M' e2 hd ha e' hi fun v r => h M' H' σ' v e' s' r
      · exact h.elim
theorem s_unpl {l : List Nat} {x : IE} (h : tS K W pin (evS C pin (.unpl l x)) D σ H) : tAsg (tZ K W (evE C x)) (gUnl K l.length (gNms l)) D σ H := by
  obtain ⟨M, env, e, h⟩ := h
  refine ⟨M, env, e, ?_⟩
  unfold RZ
  simp only [evS] at h
  cases hx : evE C x env with
  | bad => rw [hx] at h; exact h.elim
  | ex => rw [hx] at h; exact xk0 h
  | ok z env1 =>
    rw [hx] at h
    simp only [Out.bind_ok] at h
    intro M1 H1 v e1 s1 r1
    obtain ⟨M2, e2, s2, r2⟩ := r1.freeze e e1 s1
    split at h
    case h_2 => exact h.elim
    rename_i ds hz
    rw [hz] at r2
    obtain ⟨a, xs, rfl, q1, rs⟩ := (AnyR.of r2).lst
    cases hy : setAll pin l ds env1 with
    | bad => rw [hy] at h; exact h.elim
    | ex => exact (setAll_nex hy).elim
    | ok u env2 =>
      rw [hy] at h
      obtain ⟨e3, s3, l3⟩ := setAll_ok (s2.weak (pin' := pin) fun _ _ => rfl) e2 rs hy
      have l2 := rs.length
      exact ⟨a, xs, rfl, .inl (.inl q1), by omega, gNms_ok (by omega) (h M2 H1 _ e3 s3)⟩
theorem s_app {i : Nat} {x : IE} (h : tS K W pin (evS C pin (.app i x)) D σ H) : tDrop (tBM K "list" rAppend (tVar i) (tCons (tZ K W (evE C x)) tNil)) D σ H := by
  obtain ⟨M, env, e, h⟩ := h
  simp only [evS] at h
  split at h
  case h_2 => exact h.elim
  rename_i ds0 m0 hi0
  obtain ⟨w, hσ, hw⟩ := e.slot i _ m0 hi0
  obtain ⟨a0, xs0, rfl, q1, q2⟩ := AnyR.lst ⟨m0, hw⟩
  refine ⟨_, hσ, .inl ⟨rfl, xs0, .inl (.inl q1)⟩, M, env, e, ?_⟩
  unfold RZ
  cases hx : evE C x env with
  | bad => rw [hx] at h; exact h.elim
  | ex => rw [hx] at h; exact xk0 h
  | ok z env1 =>
    rw [hx] at h
    simp only [Out.bind_ok] at h
    intro M1 H1 v e1 s1 r1
    obtain ⟨M2, e2, s2, r2⟩ := r1.freeze e e1 s1
    split at h
    case h_2 => exact h.elim
    rename_i ds hi2
    split at h
    case isFalse => exact h.elim
    rename_i hsz
    obtain ⟨w2, k1, ds', a, xs, k2, rfl, k3, k4, k5⟩ := e2.slot i _ .own hi2
    cases k2
    rw [hσ] at k1
    cases k1
    obtain ⟨e5, s5⟩ := own_write (pin := pin) e2 hi2 hσ (k5.append (.cons r2 .nil))
    exact ⟨_, xs, v, rfl, rfl, k4, by rw [← k5.length]; exact hsz, h M2 _ σ e5 ((s2.weak fun _ _ => rfl).trans e.mok s5)⟩
def rIns : V → List V → Hp → VK → Prop := fun x vs H Q => ∃ (l : Addr) (xs : List V) (i : Int) (y : V), x = .ref l ∧ vs = [.int i, y] ∧ H l = some (.lst xs) ∧ xs.length < sizeLine ∧ 0 ≤ i ∧ i < 2 ^ 63 ∧
    Q .non (upd H l (.lst (xs.take i.toNat ++ [y] ++ xs.drop i.toNat)))
theorem mt_ins {X : Cx} : MtR X "list.insert" rIns := mt_insert
theorem s_ins {i : Nat} {kx x : IE} (h : tS K W pin (evS C pin (.ins i kx x)) D σ H) : tDrop (tBM K "list" rIns (tVar i) (tCons (tZ K W (evE C kx)) (tCons (tZ K W (evE C x)) tNil))) D σ H := by
  obtain ⟨M, env, e, h⟩ := h
  simp only [evS] at h
  split at h
  case h_2 => exact h.elim
  rename_i ds0 m0 hi0
  obtain ⟨w, hσ, hw⟩ := e.slot i _ m0 hi0
  obtain ⟨a0, xs0, rfl, q1, q2⟩ := AnyR.lst ⟨m0, hw⟩
  refine ⟨_, hσ, .inl ⟨rfl, xs0, .inl (.inl q1)⟩, M, env, e, ?_⟩
  unfold RZ
  cases hx : evE C kx env with
  | bad => rw [hx] at h; exact h.elim
  | ex => rw [hx] at h; exact xk0 h
  | ok z env1 =>
    rw [hx] at h
    simp only [Out.bind_ok] at h
    intro M1 H1 v e1 s1 r1
    obtain ⟨M2, e2, s2, r2⟩ := r1.freeze e e1 s1
    refine ⟨M2, env1, e2, ?_⟩
    unfold RZ
    cases hy : evE C x env1 with
    | bad => rw [hy] at h; exact h.elim
    | ex => rw [hy] at h; exact xk1 h e (s2.weak fun _ _ => rfl)
    | ok y env2 =>
      rw [hy] at h
      simp only [Out.bind_ok] at h
      intro M3 H3 v3 e3 s3 r3
      obtain ⟨M4, e4, s4, r4⟩ := r3.freeze e2 e3 s3
      split at h
      case h_2 => exact h.elim
      rename_i ds hi2
      obtain ⟨zd, zf⟩ := z
      cases zd with
      | int j =>
        simp only at h
        split at h
        case isFalse => exact h.elim
        rename_i hsz
        obtain ⟨w2, k1, ds', a, xs, k2, rfl, k3, k4, k5⟩ := e4.slot i _ .own hi2
        cases k2
        rw [hσ] at k1
        cases k1
        have s24 := s2.trans e.mok s4
        obtain ⟨e5, s5⟩ := own_write (pin := pin) e4 hi2 hσ (((k5.take j.toNat).append (.cons r4 .nil)).append (k5.drop j.toNat))
        have hj := (AnyR.of r2).int
        exact ⟨_, xs, j, v3, rfl, by rw [hj], k4, by rw [← k5.length]; exact hsz.2.2, hsz.1, hsz.2.1, h M4 _ σ e5 ((s24.weak fun _ _ => rfl).trans e.mok s5)⟩
      | _ => exact h.elim
theorem toPs_get : ∀ {ds : List Z.D} {j : Nat}, (toPs ds)[j]? = (ds[j]?).map toP
  | [], j => by simp [toPs]
  | d :: ds, 0 => by simp [toPs]
  | d :: ds, j + 1 => by simp [toPs, toPs_get (ds := ds) (j := j)]
theorem Reps.eraseIdx {M : Mk} {H : Hp} : ∀ {ds : List Z.D} {vs : List V} (j : Nat), Reps K M H ds vs → Reps K M H (ds.eraseIdx j) (vs.eraseIdx j)
  | _, _, j, .nil => by simpa using Reps.nil
  | _, _, 0, .cons r t => t
  | _, _, j + 1, .cons r t => .cons r (Reps.eraseIdx j t)
theorem s_rem {i : Nat} {x : IE} (h : tS K W pin (evS C pin (.rem i x)) D σ H) : tDrop (tBM K "list" (rRemD K) (tVar i) (tCons (tZ K W (evE C x)) tNil)) D σ H := by
  obtain ⟨M, env, e, h⟩ := h
  simp only [evS] at h
  split at h
  case h_2 => exact h.elim
  rename_i ds0 m0 hi0
  obtain ⟨w, hσ, hw⟩ := e.slot i _ m0 hi0
  obtain ⟨a0, xs0, rfl, q1, q2⟩ := AnyR.lst ⟨m0, hw⟩
  refine ⟨_, hσ, .inl ⟨rfl, xs0, .inl (.inl q1)⟩, M, env, e, ?_⟩
  unfold RZ
  cases hx : evE C x env with
  | bad => rw [hx] at h; exact h.elim
  | ex => rw [hx] at h; exact xk0 h
  | ok z env1 =>
    rw [hx] at h
    simp only [Out.bind_ok] at h
    intro M1 H1 v e1 s1 r1
    obtain ⟨M2, e2, s2, r2⟩ := r1.freeze e e1 s1
    split at h
    case h_2 => exact h.elim
    rename_i ds hi2
    split at h
    case isFalse => exact h.elim
    rename_i hok
    rw [Bool.and_eq_true] at hok
    split at h
    case h_2 => exact h.elim
    rename_i j hj
    obtain ⟨w2, k1, ds', a, xs, k2, rfl, k3, k4, k5⟩ := e2.slot i _ .own hi2
    cases k2
    rw [hσ] at k1
    cases k1
    obtain ⟨j1, j2, j3⟩ := List.findIdx?_eq_some_iff_getElem.mp hj
    obtain ⟨e5, s5⟩ := own_write (pin := pin) e2 hi2 hσ (k5.eraseIdx j)
    have cl : PyData.canLayAll0 (toPs ds) = true := by simpa [toP, PyData.canLay0] using Z.D.ok_can hok.2
    refine ⟨_, v, toP z.1, toPs ds, xs, j, toP ds[j], rfl, rfl, k4, Reps.dp k5 cl, (AnyR.of r2).dp hok.1, hok.2, hok.1, ?_, j2, ?_, h M2 _ σ e5 ((s2.weak fun _ _ => rfl).trans e.mok s5)⟩
    · rw [toPs_get, List.getElem?_eq_getElem j1]
      rfl
    · intro m z' hm hz'
      rw [toPs_get, List.getElem?_eq_getElem (by omega)] at hz'
      cases hz'
      simpa [Z.D.eqv] using j3 m hm
theorem s_no (h : tS K W pin (evS C pin .no) D σ H) : False := by
  obtain ⟨M, env, e, h⟩ := h
  simp only [evS] at h
  exact h
theorem s_ext {i : Nat} {x : IE} (h : tS K W pin (evS C pin (.ext i x)) D σ H) : tDrop (tBM K "list" rExtend (tVar i) (tCons (tZ K W (evE C x)) tNil)) D σ H := by
  obtain ⟨M, env, e, h⟩ := h
  simp only [evS] at h
  split at h
  case h_2 => exact h.elim
  rename_i ds0 m0 hi0
  obtain ⟨w, hσ, hw⟩ := e.slot i _ m0 hi0
  obtain ⟨a0, xs0, rfl, q1, q2⟩ := AnyR.lst ⟨m0, hw⟩
  refine ⟨_, hσ, .inl ⟨rfl, xs0, .inl (.inl q1)⟩, M, env, e, ?_⟩
  unfold RZ
  cases hx : evE C x env with
  | bad => rw [hx] at h; exact h.elim
  | ex => rw [hx] at h; exact xk0 h
  | ok z env1 =>
    rw [hx] at h
    simp only [Out.bind_ok] at h
    intro M1 H1 v e1 s1 r1
    obtain ⟨M2, e2, s2, r2⟩ := r1.freeze e e1 s1
    split at h
    case h_2 => exact h.elim
    rename_i zs hz1
    rw [hz1] at r2
    split at h
    case h_2 => exact h.elim
    rename_i ds hi2
    split at h
    case isFalse => exact h.elim
    rename_i hsz
    obtain ⟨w2, k1, ds', a, xs, k2, rfl, k3, k4, k5⟩ := e2.slot i _ .own hi2
    cases k2
    rw [hσ] at k1
    cases k1
    obtain ⟨b, ys, rfl, l1, l2⟩ := (AnyR.of r2).lst
    obtain ⟨e5, s5⟩ := own_write (pin := pin) e2 hi2 hσ (k5.append l2)
    exact ⟨_, b, xs, ys, rfl, rfl, k4, l1, by rw [← k5.length, ← l2.length]; exact hsz, h M2 _ σ e5 ((s2.weak fun _ _ => rfl).trans e.mok s5)⟩
theorem Reps.rev {M : Mk} {H : Hp} : ∀ {ds : List Z.D} {vs : List V}, Reps K M H ds vs → Reps K M H ds.reverse vs.reverse
  | _, _, .nil => .nil
  | _, _, .cons r t => by
    rw [List.reverse_cons, List.reverse_cons]
    exact (Reps.rev t).append (.cons r .nil)
theorem s_rev {i : Nat} (h : tS K W pin (evS C pin (.rev i)) D σ H) : tDrop (tBM0 K "list" rReverse (tVar i)) D σ H := by
  obtain ⟨M, env, e, h⟩ := h
  simp only [evS] at h
  split at h
  case h_2 => exact h.elim
  rename_i ds hi
  obtain ⟨w, hσ, hw⟩ := e.slot i _ .own hi
  obtain ⟨a0, xs0, rfl, q1, q2⟩ := AnyR.lst ⟨.own, hw⟩
  obtain ⟨w2, k1, ds', a, xs, k2, k2', k3, k4, k5⟩ := e.slot i _ .own hi
  cases k2
  rw [hσ] at k1
  cases k1
  cases k2'
  obtain ⟨e5, s5⟩ := own_write (pin := pin) e hi hσ k5.rev
  exact ⟨_, hσ, .inl ⟨rfl, xs0, .inl (.inl q1)⟩, a0, xs, rfl, rfl, k4, h M _ σ e5 s5⟩
theorem s_ife {c : IT} {a b : List IS} (h : tS K W pin (evS C pin (.ife c a b)) D σ H) : tIfS (tB K W (evT C c)) (tS K W pin (evSs C pin a)) (tS K W pin (evSs C pin b)) D σ H := by
  obtain ⟨M, env, e, h⟩ := h
  refine ⟨M, env, e, ?_⟩
  simp only [evS] at h
  cases hx : evT C c env with
  | bad => rw [hx] at h; exact h.elim
  | ex => rw [hx] at h; exact xk0 h
  | ok z env1 =>
    rw [hx] at h
    simp only [Out.bind_ok] at h
    intro M1 H1 e1 s1
    cases z with
    | true =>
      rw [if_pos rfl] at h ⊢
      exact ⟨M1, env1, e1, h.back e (s1.weak fun _ _ => rfl)⟩
    | false =>
      rw [if_neg Bool.false_ne_true] at h ⊢
      exact ⟨M1, env1, e1, h.back e (s1.weak fun _ _ => rfl)⟩
theorem s_ret {x : IE} (h : tS K W pin (evS C pin (.ret x)) D σ H) : tRet (tZ K W (evE C x)) D σ H := by
  obtain ⟨M, env, e, h⟩ := h
  refine ⟨M, env, e, ?_⟩
  unfold RZ
  simp only [evS] at h
  cases hx : evE C x env with
  | bad => rw [hx] at h; exact h.elim
  | ex => rw [hx] at h; exact xk0 h
  | ok z env1 =>
    rw [hx] at h
    exact fun M1 H1 v e1 s1 r1 => h M1 H1 σ v e1 (s1.weak fun _ _ => rfl) r1.toF
theorem s_retv {i : Nat} (h : tS K W pin (evS C pin (.retv i)) D σ H) : tRet (tVar i) D σ H := by
  obtain ⟨M, env, e, h⟩ := h
  simp only [evS] at h
  split at h
  · rename_i d hi
    split at h
    · cases hx : getV i env with
      | bad => rw [hx] at h; exact h.elim
      | ex => exact (getV_nex hx).elim
      | ok z env1 =>
        rw [hx] at h
        obtain ⟨d', fr⟩ := z
        obtain ⟨v, h1, rfl, M', h2, h3, h4⟩ := getV_ok e hx
        exact ⟨v, h1, h M' H σ v h2 (h3.weak fun _ _ => rfl) h4⟩
    · rename_i hp
      have hp : pin i = false := by simpa using hp
      obtain ⟨v, h1, ds, a, xs, rfl, rfl, h2, h3, h4⟩ := e.slot i d .own hi
      have hO : OwnAt σ env i a := ⟨_, hi, h1⟩
      have gt : ∀ {j : Nat} {t : Z.D × Mo}, (env.set i none)[j]? = some (some t) → j ≠ i ∧ env[j]? = some (some t) := fun {j t} g => by
        rcases set_get g with ⟨_, z, _⟩ | ⟨n, g⟩
        · cases z
        · exact ⟨Ne.symm n, g⟩
      refine ⟨.ref a, h1, h M H σ (.ref a) ⟨by rw [List.length_set]; exact e.len, fun j d m g => e.slot j d m (gt g).2, fun j l b n ⟨d1, g1, g2⟩ ⟨d2, m2, g3, g4, g5⟩ => e.apart j l b n ⟨d1, (gt g1).2, g2⟩ ⟨d2, m2, g3, (gt g4).2, g5⟩, e.mok⟩
        ⟨fun _ _ g _ => g, fun _ g => g, fun _ _ g => g, fun _ g _ => g, fun j b ⟨d1, g1, g2⟩ => .inl ⟨d1, (gt g1).2, g2⟩, fun j => ⟨fun ⟨d1, g⟩ => ⟨d1, (gt g).2⟩, fun ⟨d1, g⟩ => ⟨d1, ?_⟩⟩, fun _ _ => rfl, fun _ _ => rfl, fun j p g => ?_⟩
        ⟨ds, a, xs, rfl, rfl, .inr ⟨i, hp, hO⟩, h2, h3, h4⟩⟩
      · rw [List.getElem?_set_ne (fun z => by subst z; rw [hi] at g; cases g)]
        exact g
      · rw [List.getElem?_set_ne (fun z => by subst z; rw [hp] at p; cases p)]
        exact g
  · rename_i d hi
    obtain ⟨v, h1, h2⟩ := e.slot i d .frz hi
    exact ⟨v, h1, h M H σ v e .refl h2⟩
  · exact h.elim
theorem s_retn (h : tS K W pin (evS C pin .retn) D σ H) : tRetN D σ H := by
  obtain ⟨M, env, e, h⟩ := h
  simp only [evS] at h
  exact h M H σ .non e .refl .non
theorem s_brk (h : tS K W pin (evS C pin .brk) D σ H) : tBreak D σ H := by
  obtain ⟨M, env, e, h⟩ := h
  simp only [evS] at h
  exact h M H σ e .refl
theorem s_cont (h : tS K W pin (evS C pin .cont) D σ H) : tCont D σ H := by
  obtain ⟨M, env, e, h⟩ := h
  simp only [evS] at h
  exact h M H σ e .refl
theorem s_pass (h : tS K W pin (evS C pin .pass) D σ H) : tNext D σ H := by
  obtain ⟨M, env, e, h⟩ := h
  simp only [evS] at h
  exact h M H σ e .refl
theorem s_while {c : IT} {body : List IS} (h : tS K W pin (evS C pin (.whil c body)) D σ H) : tWhile (tB K W (evT C c)) (tS K W pin (evSs C pin body)) D σ H := by
  obtain ⟨M, env, e, h⟩ := h
  simp only [evS] at h
  generalize ho : loopWhile (evT C c) (evSs C pin body) WF env = o at h
  refine ⟨fun m σc Hc => ∃ M2 env2, EnvOk K M2 Hc σc env2 ∧ Stp pin M H σ env M2 Hc σc env2 ∧ loopWhile (evT C c) (evSs C pin body) m env2 = o, ⟨WF, M, env, e, .refl, ho⟩, ?_⟩
  rintro m σc Hc ⟨M2, env2, e2, s2, hl⟩
  cases m with
  | zero =>
    simp only [loopWhile] at hl
    rw [← hl] at h
    exact h.elim
  | succ m =>
    simp only [loopWhile] at hl
    refine ⟨M2, env2, e2, ?_⟩
    cases hx : evT C c env2 with
    | bad => rw [hx] at hl; rw [← hl] at h; exact h.elim
    | ex => rw [hx] at hl; rw [← hl] at h; exact xk1 h e s2
    | ok b env3 =>
      rw [hx] at hl
      simp only [Out.bind_ok] at hl
      intro M3 H3 e3 s3
      have s23 := s2.trans e.mok (s3.weak (pin' := pin) fun _ _ => rfl)
      cases b with
      | false =>
        rw [if_neg Bool.false_ne_true] at hl ⊢
        rw [← hl] at h
        exact h M3 H3 σc e3 s23
      | true =>
        rw [if_pos rfl] at hl ⊢
        refine ⟨fun σ' H' => ∃ m', m' < m + 1 ∧ ∃ M2 env2, EnvOk K M2 H' σ' env2 ∧ Stp pin M H σ env M2 H' σ' env2 ∧ loopWhile (evT C c) (evSs C pin body) m' env2 = o, fun σ' H' q => q, M3, env3, e3, ?_⟩
        cases hy : evSs C pin body env3 with
        | bad => rw [hy] at hl; rw [← hl] at h; exact h.elim
        | ex => rw [hy] at hl; rw [← hl] at h; exact fun M' H' σ' e' s' => h M' H' σ' e' (s23.trans e.mok s')
        | ok fl env4 =>
          rw [hy] at hl
          simp only [Out.bind_ok] at hl
          cases fl with
          | nx => exact fun M4 H4 σ4 e4 s4 => ⟨m, Nat.lt_succ_self m, M4, env4, e4, s23.trans e.mok s4, hl⟩
          | ct => exact fun M4 H4 σ4 e4 s4 => ⟨m, Nat.lt_succ_self m, M4, env4, e4, s23.trans e.mok s4, hl⟩
          | bk =>
            rw [← hl] at h
            exact fun M4 H4 σ4 e4 s4 => h M4 H4 σ4 e4 (s23.trans e.mok s4)
          | rt d fr =>
            rw [← hl] at h
            exact h.back e s23
/-- the outcome of a loop over a locked name, seen from before the lock -/
theorem FlP.unlock {o : Option Nat} (e : EnvOk K M H σ env) (ho : OwnO env o) {r : Out Fl} (hn : ∀ env', r ≠ .ok .bk env' ∧ r ≠ .ok .ct env') (h : FlP K W pin M H σ env D (r.mapEn (unlock o))) : FlP K W pin M H σ (lock o env) D r := by
  cases r with
  | bad => exact h
  | ex =>
    intro M' H' σ' e' s'
    obtain ⟨e2, s2⟩ := unlock_ok e ho e' s'
    exact h M' H' σ' e2 s2
  | ok fl env' =>
    cases fl with
    | nx =>
      intro M' H' σ' e' s'
      obtain ⟨e2, s2⟩ := unlock_ok e ho e' s'
      exact h M' H' σ' e2 s2
    | bk => exact absurd rfl (hn env').1
    | ct => exact absurd rfl (hn env').2
    | rt d fr =>
      intro M' H' σ' v e' s' r'
      obtain ⟨e2, s2⟩ := unlock_ok e ho e' s'
      refine h M' H' σ' v e2 s2 ?_
      cases fr with
      | false => exact r'
      | true =>
        obtain ⟨ds, a, xs, h1, h2, h3, hr⟩ := r'
        exact ⟨ds, a, xs, h1, h2, h3.imp id fun ⟨i, p, w⟩ => ⟨i, p, (lock_own ho w).1⟩, hr⟩
theorem loopFor_fl {f : Z.D → Zm Fl} : ∀ {ds : List Z.D} {env : En} (env' : En), loopFor f ds env ≠ .ok .bk env' ∧ loopFor f ds env ≠ .ok .ct env'
  | [], env, env' => by simp [loopFor]
  | d :: ds, env, env' => by
    simp only [loopFor]
    cases f d env with
    | bad => simp
    | ex => simp
    | ok fl e =>
      simp only [Out.bind_ok]
      cases fl with
      | nx => exact loopFor_fl env'
      | ct => exact loopFor_fl env'
      | bk => simp
      | rt d fr => simp
theorem s_for {tg : IG} {src : II} {body : List IS} (h : tS K W pin (evS C pin (.forr tg src body)) D σ H) : tFor (tI K W (evI C src)) (tGt K pin tg) (tS K W pin (evSs C pin body)) D σ H := by
  obtain ⟨M, env, e, h⟩ := h
  refine ⟨M, env, e, ?_⟩
  simp only [evS] at h
  cases hx : evI C src env with
  | bad => rw [hx] at h; exact h.elim
  | ex => rw [hx] at h; exact xk0 h
  | ok x env0 =>
    rw [hx] at h
    simp only [Out.bind_ok] at h
    intro M1 H1 J e1 o1 s1 it1
    have h := h.back e (s1.weak (pin' := pin) fun _ _ => rfl)
    have h := FlP.unlock e1 o1 (fun env' => loopFor_fl env') h
    have e1L := e1.lock o1
    generalize hf : (fun d env => (setG pin tg d env).bind fun _ env => evSs C pin body env) = f at h
    generalize ho : loopFor f x.1 (lock x.2 env0) = o at h
    refine ⟨fun i m σc Hc => m = x.1.length - i ∧ i ≤ x.1.length ∧ ∃ M2 env2, EnvOk K M2 Hc σc env2 ∧ Stp pin M1 H1 σ (lock x.2 env0) M2 Hc σc env2 ∧ loopFor f (x.1.drop i) env2 = o, ⟨x.1.length, by simp, Nat.zero_le _, M1, _, e1L, .refl, ho⟩, ?_⟩
    rintro i m σc Hc ⟨rfl, hi, M2, env2, e2, s2, hl⟩
    obtain ⟨itg, its⟩ := it1 _ M2 Hc σc env2 e2 s2 i
    by_cases hlt : i < x.1.length
    · have hg : x.1[i]? = some x.1[i] := List.getElem?_eq_getElem hlt
      obtain ⟨go, yl⟩ := itg _ hg
      refine .inr ⟨go, fun σ' H' => ∃ m', m' < x.1.length - i ∧ m' = x.1.length - (i + 1) ∧ i + 1 ≤ x.1.length ∧ ∃ M2 env2, EnvOk K M2 H' σ' env2 ∧ Stp pin M1 H1 σ (lock x.2 env0) M2 H' σ' env2 ∧ loopFor f (x.1.drop (i + 1)) env2 = o, fun σ' H' q => q, fun xv H' hy => ?_⟩
      obtain ⟨e3, s3, r3⟩ := yl xv H' hy
      rw [List.drop_eq_getElem_cons hlt] at hl
      simp only [loopFor] at hl
      have s23 := s2.trans e1L.mok (s3.weak (pin' := pin) fun _ _ => rfl)
      refine ⟨M2, H', σc, env2, M2, env2, x.1[i], e3, .refl, r3, ?_⟩
      subst hf
      simp only at hl
      cases hs : setG pin tg x.1[i] env2 with
      | bad => rw [hs] at hl; rw [← hl] at h; exact h.elim
      | ex => exact (setG_nex hs).elim
      | ok u env3 =>
        rw [hs] at hl
        simp only [Out.bind_ok] at hl
        intro σ3 e4 s4
        have s234 := s23.trans e1L.mok s4
        refine ⟨M2, env3, e4, ?_⟩
        cases hq : evSs C pin body env3 with
        | bad => rw [hq] at hl; rw [← hl] at h; exact h.elim
        | ex => rw [hq] at hl; rw [← hl] at h; exact fun M' H' σ' e' s' => h M' H' σ' e' (s234.trans e1L.mok s')
        | ok fl env4 =>
          rw [hq] at hl
          simp only [Out.bind_ok] at hl
          cases fl with
          | nx => exact fun M4 H4 σ4 e5 s5 => ⟨_, by omega, rfl, by omega, M4, env4, e5, s234.trans e1L.mok s5, hl⟩
          | ct => exact fun M4 H4 σ4 e5 s5 => ⟨_, by omega, rfl, by omega, M4, env4, e5, s234.trans e1L.mok s5, hl⟩
          | bk =>
            rw [← hl] at h
            exact fun M4 H4 σ4 e5 s5 => h M4 H4 σ4 e5 (s234.trans e1L.mok s5)
          | rt d fr =>
            rw [← hl] at h
            exact h.back e1L s234
    · refine .inl ⟨its (by omega), ?_⟩
      rw [List.drop_eq_nil_of_le (by omega)] at hl
      simp only [loopFor] at hl
      rw [← hl] at h
      exact h M2 Hc σc e2 s2
end
end Z
namespace Z
open PySem PySem.Spec PyProof.Rows L2
def swapNames (sc : Scope) (ts vs : List Expr) : Option (List Str) :=
  if !(ts.length == 2 || ts.length == 3) || vs.length != ts.length then none
  else if vs.any (fun | .Starred .. => true | _ => false) then none
  else
    let line := (ts.head?.map (·.pos.line)).getD 0
    let names := ts.filterMap fun
      | .Name id pos => if sc.names.lookup id == some .local && pos.line == line then some id else none
      | _ => none
    if names.length != ts.length || names.eraseDups.length != names.length then none
    else if vs.all (foldedForSure 8) then none
    else if vs.all (constantsAlone 8) then none
    else some names
theorem swap_ok {env : PySem.Env} {ts vs : List Expr} {names : List Str} {k k2 : Nat} {p p2 : Pos} (hb : env.blockKind = .function) (h : swapNames env.scope ts vs = some names) :
    swappedStores [.Tuple ts k p] (.Tuple vs k2 p2) env = pure (some names) := by
  unfold swapNames at h
  unfold swappedStores
  split at h
  · cases h
  rename_i h1
  split at h
  · cases h
  rename_i h2
  simp only at h
  split at h
  · cases h
  rename_i h3
  split at h
  · cases h
  rename_i h4
  split at h
  · cases h
  rename_i h5
  have hn := Option.some.inj h
  have e1 : (!(ts.length == 2 || ts.length == 3) || vs.length != ts.length || env.blockKind != .function) = false := by
    rw [hb]
    simp only [Bool.not_eq_true] at h1
    rw [h1]
    rfl
  have hk : ∀ id, env.kindOf id = env.scope.names.lookup id := fun _ => rfl
  refine (if_neg (by rw [e1]; exact Bool.false_ne_true)).trans ?_
  refine (if_neg h2).trans ?_
  refine (if_neg h3).trans ?_
  refine (if_neg h4).trans ?_
  refine (if_neg h5).trans ?_
  exact congrArg (fun x => pure (some x)) hn
def methV : Expr → Option (Str × Str × Expr × Bool)
  | .Call fn as kw cpos => match fn, as, kw with
    | .Attribute o m apos, [a], [] => match o with
      | .Name x _ => some (x, m, a, apos.endLine == cpos.line)
      | _ => none
    | _, _, _ => none
  | _ => none
def meth0V : Expr → Option (Str × Str × Bool)
  | .Call fn as kw cpos => match fn, as, kw with
    | .Attribute o m apos, [], [] => match o with
      | .Name x _ => some (x, m, apos.endLine == cpos.line)
      | _ => none
    | _, _, _ => none
  | _ => none
def meth2V : Expr → Option (Str × Str × Expr × Expr × Bool)
  | .Call fn as kw cpos => match fn, as, kw with
    | .Attribute o m apos, [a, b], [] => match o with
      | .Name x _ => some (x, m, a, b, apos.endLine == cpos.line)
      | _ => none
    | _, _, _ => none
  | _ => none
/-- x[k], x[l] -/
def subV : Expr → Option (Str × Expr)
  | .Subscript o k _ => (nameV o).map (·, k)
  | _ => none
def sub2V : List Expr → Option (Str × Expr × Expr)
  | [a, b] => match subV a, subV b with
    | some p, some q => if p.1 = q.1 then some (p.1, p.2, q.2) else none
    | _, _ => none
  | _ => none
def tupV : Expr → Option (List Expr)
  | .Tuple es _ _ => some es
  | _ => none
def isStr : Expr → Bool
  | .Constant (.str _) _ _ => true
  | _ => false
variable (T : Tab) (N : List Str)
def nmS (sc : Scope) (x : Str) : Option Nat := nmOf N sc (.Name x ⟨0, 0, 0, 0⟩)
def cP0 (N : List Str) (sc : Scope) : Pattern → Option IP0
  | .MatchAs none none _ => some .wild
  | .MatchAs none (some x) _ => (nmS N sc x).map .cap
  | .MatchValue (.Constant (.str s) _ _) _ => some (.lit s)
  | _ => none
def wildB : IP0 → Bool
  | .wild => true
  | _ => false
def cPt (N : List Str) (sc : Scope) : Pattern → Option IP
  | .MatchAs none none _ => some .wild
  | .MatchValue (.Constant (.str s) _ _) _ => some (.lit s)
  | .MatchSequence ps _ => (match allO (ps.map (cP0 N sc)) with
    | some l => if l.any (fun p => !wildB p) then some (.seq l) else none
    | none => none)
  | _ => none
def cM (f : Stmt → Option IS) (N : List Str) (sc : Scope) (i : Nat) : List MatchCase → Option (List IS)
  | [] => some []
  | c :: rest => match c.guard, cPt N sc c.pattern, allO (c.body.map f), cM f N sc i rest with
    | none, some ip, some b, some m => some [.mt i ip b m]
    | _, _, _, _ => none
def isLC : Expr → Bool
  | .ListComp .. => true
  | _ => false
/-- raise C() -/
def exV (sc : Scope) : Option Expr → Option Expr → Option Str
  | some (.Call (.Name x _) [] [] _), none => if glB sc x then some x else none
  | _, _ => none
/-- isinstance(n, C) -/
def callIs (n : Str) (sc : Scope) : Expr → Option Str
  | .Call fn as kw _ => match fn, as, kw with
    | .Name f _, [.Name x _, .Name c _], [] => if decide (f = "isinstance") && decide (x = n) && glB sc "isinstance" && glB sc c && visB sc n then some c else none
    | _, _, _ => none
  | _ => none
def subL (T : Tab) (nm c : Str) : Option Bool := (T.sub.find? fun q => decide (q.1 = nm) && decide (q.2.1 = c)).map (·.2.2)
def cstD : Expr → Option D
  | .Constant c _ _ => match c with
    | .none => some .non
    | .bool k => some (.bl k)
    | .int i => some (.int i)
    | .str z => some (.str z)
    | _ => none
  | _ => none
/-- what an except suite gives, held by an own exception of the class nm -/
def suiteV (T : Tab) (n : Str) (sc : Scope) (nm : Str) : Nat → List Stmt → Option D
  | 0, _ => none
  | f + 1, ss => match ss with
    | .Return (some e) _ :: _ => cstD e
    | .If t b [] _ :: rest => match (callIs n sc t).bind (subL T nm) with
      | some true => suiteV T n sc nm f b
      | some false => suiteV T n sc nm f rest
      | none => none
    | _ => none
def excB (T : Tab) (nm c : Str) : Bool := T.exc.any fun q => decide (q.1 = nm) && decide (q.2 = c)
def trHs (T : Tab) (c n : Str) (sc : Scope) (suite : List Stmt) : List (Option D) := T.exs.map fun q => if q.2.isNone && excB T q.1 c then suiteV T n sc q.1 20 suite else none
def cS : Nat → Scope → Stmt → Option IS
  | 0, _, _ => none
  | n + 1, sc, st => match st with
    | .Assign ts e _ => (match ts with
      | [t] => match t with
        | .Name x _ => match nmS N sc x, cE T N n sc e with
          | some i, some ie => some (.set i ie)
          | _, _ => none
        | .Tuple es _ _ => match tupV e with
          | some vs => match swapNames sc es vs, allO (es.map (nmOf N sc)), allO (vs.map (cE T N n sc)) with
            | some _, some is, some ies => if decide is.Nodup then some (.par is ies) else none
            | _, _, _ => match sub2V es with
              | some (x, k, l) => match nmS N sc x, cE T N n sc k, cE T N n sc l, cE T N n sc e with
                | some i, some ik, some il, some ie => some (.parix i ik il ie)
                | _, _, _, _ => none
              | none => none
          | none => match isLC e with
            | true => match allO (es.map (nmOf N sc)), cE T N n sc e with
              | some is, some ie => some (.unpl is ie)
              | _, _ => none
            | false => match allO (es.map (nmOf N sc)), cE T N n sc e with
              | some is, some ie => some (.unp is ie)
              | _, _ => none
        | .Subscript o k _ => match nameV o, cE T N n sc k, cE T N n sc e with
          | some x, some ik, some ie => (nmS N sc x).map fun i => .setix i ik ie
          | _, _, _ => none
        | _ => none
      | _ => none)
    | .Expr e _ => if isStr e then some .pass else match methV e with
      | some (x, m, a, ln) => if m = "append" ∧ ln = true then match nmS N sc x, cE T N n sc a with
          | some i, some ia => some (.app i ia)
          | _, _ => none
        else if m = "extend" ∧ ln = true then match nmS N sc x, cE T N n sc a with
          | some i, some ia => some (.ext i ia)
          | _, _ => none
        else if m = "remove" ∧ ln = true then match nmS N sc x, cE T N n sc a with
          | some i, some ia => some (.rem i ia)
          | _, _ => none
        else none
      | none => match meth0V e with
        | some (x, m, ln) => if m = "reverse" ∧ ln = true then (nmS N sc x).map IS.rev else none
        | none => match meth2V e with
          | some (x, m, a, b, ln) => if m = "insert" ∧ ln = true then match nmS N sc x, cE T N n sc a, cE T N n sc b with
              | some i, some ia, some ib => some (.ins i ia ib)
              | _, _, _ => none
            else none
          | none => none
    | .If c a b _ => (match cT T N n sc c, allO (a.map (cS n sc)), allO (b.map (cS n sc)) with
      | some x, some y, some z => some (.ife x y z)
      | _, _, _ => none)
    | .For tg it body orelse _ => (match orelse, tgOf N sc tg, cI T N n sc tg it, allO (body.map (cS n sc)) with
      | [], some g, some src, some b => some (.forr g src b)
      | _, _, _, _ => none)
    | .While c body orelse _ => (match orelse, cT T N n sc c, allO (body.map (cS n sc)) with
      | [], some x, some b => some (.whil x b)
      | _, _, _ => none)
    | .Match e cases _ => (match (nameV e).bind (nmS N sc) with
      | some i => (match cM (cS n sc) N sc i cases with
        | some [x] => some x
        | _ => none)
      | none => none)
    | .Return (some e) _ => (match (nameV e).bind (nmS N sc) with
      | some i => some (.retv i)
      | none => (cE T N n sc e).map .ret)
    | .Return none _ => some .retn
    | .Break _ => some .brk
    | .Continue _ => some .cont
    | .Pass _ => some .pass
    | .Raise e c _ => (match (exV sc e c).bind fun x => T.exs.findIdx? fun q => decide (q.1 = x) && q.2.isNone with
      | some j => some (.rz j)
      | none => some .no)
    | .Try body hs orelse fin _ => (match hs, orelse, fin with
      | [.ExceptHandler (some (.Name c _)) (some y) suite _], [], [] => match suite, nmS N sc y, allO (body.map (cS n sc)) with
        | _ :: _, some i, some b => if glB sc c && (T.exc.any fun q => decide (q.2 = c)) && decide (sc.names.lookup y = some .local) then some (.tr i b (trHs T c y sc suite)) else none
        | _, _, _ => none
      | _, _, _ => none)
    | _ => none
structure KnS (X : Cx) (k : Nat) (W : XW) : Prop where
  kn : Kn T N X k W
  fnT : ∀ x, X.fn x = true
  kind : X.env.scope.kind = .function
  po : PassesOwn (model X.prog X.w) X.A X.env X.xe
  stk : X.stack = X.env :: X.outer
  frm : X.env.frame = some X.env.locals
section
variable {T : Tab} {N : List Str} {k n : Nat} {X : Cx} {W : XW}
theorem KnS.sto (kn : KnS T N X k W) : Sto X.env.scope X := ⟨fun _ _ _ h => h, fun x _ => kn.fnT x⟩
theorem KnS.blk (kn : KnS T N X k W) : X.env.blockKind = .function := by unfold Env.blockKind; rw [kn.kind]; rfl
theorem nmS_get {sc : Scope} {x : Str} {i : Nat} (h : nmS N sc x = some i) : N[i]? = some x ∧ (sc.names.lookup x = some .local ∨ sc.names.lookup x = some .cell) ∧ visB sc x = true := by
  unfold nmS at h
  obtain ⟨y, p, e, h1, h2⟩ := nm_inv h
  cases e
  refine ⟨h1, h2, ?_⟩
  simp only [nmOf] at h
  split at h
  · assumption
  · cases h
theorem pv_nm (kn : KnS T N X k W) {x : Str} {i : Nat} {pos : Pos} (h : nmS N X.env.scope x = some i) : PE X (.Name x pos) (tVar i) := by
  obtain ⟨h1, _, h3⟩ := nmS_get h
  obtain ⟨v, d1, d2⟩ := vis_of h3
  exact pe_var (by rw [kn.kn.hN]; exact h1) v d1 d2
def SS (T : Tab) (N : List Str) (k n : Nat) : Prop := ∀ sc st is, cS T N n sc st = some is → ∀ X W, KnS T N X k W → X.env.scope = sc → ∀ pin, PS X st (tS X.K W pin (evS (callK T.fns k) pin is))
theorem pss_all (ih : SS T N k n) {sc : Scope} (kn : KnS T N X k W) (hs : X.env.scope = sc) (pin : Nat → Bool) : ∀ {ss : List Stmt} {is : List IS}, allO (ss.map (cS T N n sc)) = some is → PSs X ss (tS X.K W pin (evSs (callK T.fns k) pin is))
  | [], is, h => by
    cases h
    exact PSs.imp pss_nil fun _ _ _ => s_nil
  | s :: ss, is, h => by
    obtain ⟨b, r', h1, h2, rfl⟩ := allO_cons h
    exact PSs.imp (pss_cons (ih sc s b h1 X W kn hs pin) (pss_all ih kn hs pin h2)) fun _ _ _ => s_cons
/-- the parts of a comprehension -/
theorem comp_inv {sc scope : Scope} {elt : Expr} {gens : List Comprehension} {pos : Pos} {ie : IE} (h : cE T N n sc (.ListComp elt gens scope pos) = some ie) :
    ∃ m tg iter ifs own g src x cs, n = m + 1 ∧ gens = [⟨tg, iter, ifs, 0⟩] ∧ tgOf N scope tg = some g ∧ cI T N m sc tg iter = some src ∧ cE T N m (relS scope sc) elt = some x ∧ blkC N sc scope own = true ∧ tgIn (own.map (·.2)) g = true ∧
      ((ifs = [] ∧ cs = []) ∨ ∃ c y, ifs = [c] ∧ cT T N m (relS scope sc) c = some y ∧ cs = [y]) ∧ ie = .comp (own.map (·.2)) g src cs x := by
  cases n with
  | zero => simp [cE] at h
  | succ m =>
    simp only [cE] at h
    cases gens with
    | nil => cases h
    | cons g gs =>
      cases gs with
      | cons _ _ => cases h
      | nil =>
        obtain ⟨tg, iter, ifs, as⟩ := g
        simp only at h
        split at h
        case isFalse => cases h
        rename_i has
        subst has
        split at h
        case h_2 => cases h
        rename_i own g src x h1 h2 h3 h4
        split at h
        case isFalse => cases h
        rename_i hb
        rw [Bool.and_eq_true] at hb
        cases ifs with
        | nil =>
          cases h
          exact ⟨m, tg, iter, [], own, g, src, x, [], rfl, rfl, h2, h3, h4, hb.1, hb.2, .inl ⟨rfl, rfl⟩, rfl⟩
        | cons c cs =>
          cases cs with
          | cons _ _ => cases h
          | nil =>
            obtain ⟨y, h5, rfl⟩ := map_some h
            exact ⟨m, tg, iter, [c], own, g, src, x, [y], rfl, rfl, h2, h3, h4, hb.1, hb.2, .inr ⟨c, y, rfl, h5, rfl⟩, rfl⟩
/-- name = e -/
theorem ss_set {x : Str} {i : Nat} {e : Expr} {ie : IE} {p pos : Pos} (hi : nmS N X.env.scope x = some i) (he : cE T N n X.env.scope e = some ie) (kn : KnS T N X k W) : PS X (.Assign [.Name x p] e pos) (tAsg (tZ X.K W (evE (callK T.fns k) ie)) (gName i)) := by
  obtain ⟨h1, h2, _⟩ := nmS_get hi
  have hN : X.N.Nodup := by rw [kn.kn.hN]; exact kn.kn.nd
  have hi' : X.N[i]? = some x := by rw [kn.kn.hN]; exact h1
  have hf : X.fn x = true ∨ X.env.scope.names.lookup x = some .local := .inl (kn.fnT x)
  obtain ⟨_, _, _, pe⟩ := snd_E (T := T) (N := N) (k := k) n _ e ie he
  have plain : (swapsWith e (some (.Name x p)) pos.line X.env = pure false) → PS X (.Assign [.Name x p] e pos) (tAsg (tZ X.K W (evE (callK T.fns k) ie)) (gName i)) := fun hs => ps_set hN hi' h2 (pe X W kn.kn rfl) hs hf
  have nosw : (∀ a b c d, e ≠ .ListComp a b c d) → swapsWith e (some (.Name x p)) pos.line X.env = pure false := fun hl => by
    cases e <;> first
      | rfl
      | exact absurd rfl (hl _ _ _ _)
      | (cases n <;> simp [cE] at he)
  by_cases hl : ∃ a b c d, e = .ListComp a b c d
  · obtain ⟨elt, gens, scope, lp, rfl⟩ := hl
    by_cases hsw : swapsWith (.ListComp elt gens scope lp) (some (.Name x p)) pos.line X.env = pure false
    · exact plain hsw
    · have hcond : (X.env.blockKind == .function && X.env.kindOf x == some .local && p.line == lp.line && !(scope.names.any fun (n, k) => n == x && (k == .local || k == .cell))) = true := by
        cases hc : (X.env.blockKind == .function && X.env.kindOf x == some .local && p.line == lp.line && !(scope.names.any fun (n, k) => n == x && (k == .local || k == .cell))) with
        | true => rfl
        | false => exact absurd (by unfold swapsWith; simp only [Expr.pos]; rw [hc]) hsw
      have hyl : X.env.scope.names.lookup x = some .local := by
        rw [Bool.and_eq_true, Bool.and_eq_true, Bool.and_eq_true] at hcond
        have q : X.env.kindOf x = some .local := by simpa using hcond.1.1.2
        exact q
      obtain ⟨m, tg, iter, ifs, own, g, src, y, cs, rfl, rfl, c1, c2, c3, c4, c5, c6, rfl⟩ := comp_inv he
      obtain ⟨ns, pi⟩ := snd_I (T := T) (N := N) (k := k) m _ tg iter src c2
      obtain ⟨_, _, _, pe2⟩ := snd_E (T := T) (N := N) (k := k) m _ elt y c3
      have hr : ∀ (C : Addr) (cl : List (Str × Addr)), (compEnvC scope cl C X.env).scope = relS scope X.env.scope := fun C cl => rfl
      refine PS.imp (ps_setLc (own := own) (g := tGt X.K (outP (own.map (fun q : Str × Nat => q.2))) g) (tt := tB X.K noW (evTs (callK T.fns k) cs)) (te := tZ X.K noW (evE (callK T.fns k) y)) kn.kn.calm hN hi' hyl (by unfold swapsWith; simp only [Expr.pos]; rw [hcond]) (pi X W kn.kn rfl) (blkOk_by (by rw [kn.kn.hN]; exact c4))
        (fun s H C cl fp => pg_tg kn.kn.blk sto_blk _ c1) (fun s H C cl fp => ?_) (fun s H C cl fp => pe2 _ noW kn.kn.blk (hr C cl)) (fun z => ?_)) fun D σ H h => z_comp c5 h
      · rcases c6 with ⟨rfl, rfl⟩ | ⟨c, w, rfl, h5, rfl⟩
        · exact pts_of0
        · exact pts_of ((snd_T (T := T) (N := N) (k := k) m).pt (W := noW) h5 kn.kn.blk (hr C cl))
      · cases iter <;> first | rfl | exact absurd rfl (ns _ _ _)
  · exact plain (nosw fun a b c d z => hl ⟨a, b, c, d, z⟩)
theorem sole_tup {es : List Expr} {kk : Nat} {tp : Pos} {e : Expr} {l : Nat} {env : PySem.Env} : swapsWithSole [.Tuple es kk tp] e l env = pure false := by
  cases e <;> rfl
theorem sole_sub {o i : Expr} {tp : Pos} {e : Expr} {l : Nat} {env : PySem.Env} : swapsWithSole [.Subscript o i tp] e l env = pure false := by
  cases e <;> rfl
theorem swapped_tup {es : List Expr} {kk : Nat} {tp : Pos} {e : Expr} {env : PySem.Env} (h : tupV e = none) : swappedStores [.Tuple es kk tp] e env = pure none := by
  cases e <;> first | rfl | (simp [tupV] at h)
theorem nms_inv {sc : Scope} : ∀ {es : List Expr} {is : List Nat}, allO (es.map (nmOf N sc)) = some is → ∃ xs : List (Str × Pos), es = xs.map (fun y => .Name y.1 y.2) ∧ is.length = xs.length ∧ ∀ i (h : i < xs.length) (h2 : i < is.length), N[is[i]]? = some xs[i].1
  | [], is, h => by cases h; exact ⟨[], rfl, rfl, fun i h => absurd h (by simp)⟩
  | e :: es, is, h => by
    obtain ⟨b, r', h1, h2, rfl⟩ := allO_cons h
    obtain ⟨x, p, rfl, h3, _⟩ := nm_inv h1
    obtain ⟨xs, h4, h5, h6⟩ := nms_inv h2
    refine ⟨(x, p) :: xs, by rw [h4]; rfl, by simp [h5], fun i hi hi2 => ?_⟩
    cases i with
    | zero => exact h3
    | succ i => exact h6 i (by simpa using hi) (by simpa using hi2)
theorem swap_shape {sc : Scope} {ts vs : List Expr} {names : List Str} (h : swapNames sc ts vs = some names) : (ts.length = 2 ∨ ts.length = 3) ∧ vs.length = ts.length ∧ names.length = ts.length ∧ names = ts.filterMap (fun
      | .Name id pos => if sc.names.lookup id == some .local && pos.line == (ts.head?.map (·.pos.line)).getD 0 then some id else none
      | _ => none) := by
  unfold swapNames at h
  split at h
  · cases h
  rename_i h1
  split at h
  · cases h
  simp only at h
  split at h
  · cases h
  rename_i h3
  split at h
  · cases h
  split at h
  · cases h
  have hn := Option.some.inj h
  have h1' := Bool.eq_false_iff.mpr h1
  have h3' := Bool.eq_false_iff.mpr h3
  rw [Bool.or_eq_false_iff] at h1' h3'
  have a1 : (ts.length == 2 || ts.length == 3) = true := by
    have q := h1'.1
    revert q
    cases (ts.length == 2 || ts.length == 3) <;> simp
  rw [Bool.or_eq_true, beq_iff_eq, beq_iff_eq] at a1
  have a2 : vs.length = ts.length := by simpa using h1'.2
  refine ⟨a1, a2, ?_, hn.symm⟩
  rw [← hn]
  simpa using h3'.1
theorem tDs_mono {K : PySem.W.Frag} {W : XW} {f : Zm (List Z.D)} {σ : L2.St} {H : Hp} {Q Q' : List V → Hp → Prop} (h : tDs K W f σ H Q) (i : ∀ v H, Q v H → Q' v H) : tDs K W f σ H Q' := by
  obtain ⟨M, env, e, h⟩ := h
  refine ⟨M, env, e, ?_⟩
  cases hx : f env with
  | bad => rw [hx] at h; exact h.elim
  | ex => rw [hx] at h; exact h
  | ok p env1 =>
    rw [hx] at h
    exact fun M' H' v e' s' f' => i v H' (h M' H' v e' s' f')
/-- a, b = x, y and three of them -/
theorem ss_par {es vs : List Expr} {is : List Nat} {ies : List IE} {names : List Str} {kk k2 : Nat} {tp vp pos : Pos} {pin : Nat → Bool} (hw : swapNames X.env.scope es vs = some names) (hi : allO (es.map (nmOf N X.env.scope)) = some is) (he : allO (vs.map (cE T N n X.env.scope)) = some ies) (nd : is.Nodup)
    (kn : KnS T N X k W) : PS X (.Assign [.Tuple es kk tp] (.Tuple vs k2 vp) pos) (tS X.K W pin (evS (callK T.fns k) pin (.par is ies))) := by
  obtain ⟨l1, l2, l3, hnm⟩ := swap_shape hw
  have hswap := swap_ok (k := kk) (k2 := k2) (p := tp) (p2 := vp) kn.blk hw
  have hA := pa_es (snd_E (T := T) (N := N) (k := k) n) kn.kn rfl he
  obtain ⟨xs, rfl, hl, hx⟩ := nms_inv hi
  have hN : X.N.Nodup := by rw [kn.kn.hN]; exact kn.kn.nd
  -- each name is a local
  have loc : ∀ i (h : i < xs.length), X.env.scope.names.lookup xs[i].1 = some .local := by
    have all : ∀ (xs : List (Str × Pos)) (L : Nat), ((xs.map (fun y => Expr.Name y.1 y.2)).filterMap (fun
        | .Name id pos => if X.env.scope.names.lookup id == some .local && pos.line == L then some id else none
        | _ => none)).length = xs.length → ∀ i (h : i < xs.length), X.env.scope.names.lookup xs[i].1 = some .local := by
      intro xs L
      induction xs with
      | nil => intro _ i h; simp at h
      | cons y xs ih =>
        intro h i hi
        have le := List.length_filterMap_le (fun
          | .Name id pos => if X.env.scope.names.lookup id == some .local && pos.line == L then some id else none
          | _ => none) (xs.map (fun y => Expr.Name y.1 y.2))
        rw [List.length_map] at le
        simp only [List.map_cons, List.filterMap_cons] at h
        split at h
        · rename_i q
          simp only [List.length_cons] at h
          omega
        · rename_i b q
          split at q
          · rename_i hc
            rw [Bool.and_eq_true] at hc
            cases i with
            | zero => simpa using hc.1
            | succ i => exact ih (by simpa using h) i (by simpa using hi)
          · cases q
    refine all xs (((xs.map (fun y => Expr.Name y.1 y.2)).head?.map (·.pos.line)).getD 0) ?_
    have e1 : (xs.map (fun y => Expr.Name y.1 y.2)).length = xs.length := List.length_map _
    rw [← e1, ← l3, hnm]
  have hnames : names = xs.map (·.1) := by
    have all : ∀ (xs : List (Str × Pos)) (L : Nat), ((xs.map (fun y => Expr.Name y.1 y.2)).filterMap (fun
        | .Name id pos => if X.env.scope.names.lookup id == some .local && pos.line == L then some id else none
        | _ => none)).length = xs.length → ((xs.map (fun y => Expr.Name y.1 y.2)).filterMap (fun
        | .Name id pos => if X.env.scope.names.lookup id == some .local && pos.line == L then some id else none
        | _ => none)) = xs.map (·.1) := by
      intro xs L
      induction xs with
      | nil => intro _; rfl
      | cons y xs ih =>
        intro h
        have le := List.length_filterMap_le (fun
          | .Name id pos => if X.env.scope.names.lookup id == some .local && pos.line == L then some id else none
          | _ => none) (xs.map (fun y => Expr.Name y.1 y.2))
        rw [List.length_map] at le
        simp only [List.map_cons, List.filterMap_cons] at h ⊢
        split at h
        · rename_i q
          simp only [List.length_cons] at h
          omega
        · rename_i b q
          split at q
          · rename_i hc
            cases q
            exact congrArg (y.1 :: ·) (ih (by simpa using h))
          · cases q
    have e1 : (xs.map (fun y => Expr.Name y.1 y.2)).length = xs.length := List.length_map _
    rw [hnm]
    refine all xs (((xs.map (fun y => Expr.Name y.1 y.2)).head?.map (·.pos.line)).getD 0) ?_
    rw [← e1, ← l3, hnm]
  have lx : xs.length = 2 ∨ xs.length = 3 := by rw [List.length_map] at l1; exact l1
  have lv : vs.length = xs.length := by rw [List.length_map] at l2; exact l2
  match xs, is, vs, lx, lv, hl, hx, loc, nd, hA, hswap, hnames with
  | [(x, px), (y, py)], [i, j], [a, b], _, _, _, hx, loc, nd, hA, hswap, hnames =>
    subst hnames
    have ij : i ≠ j := fun z => by subst z; simp at nd
    have hi' := hx 0 (by simp) (by simp)
    have hj' := hx 1 (by simp) (by simp)
    refine PS.imp (ps_par (i := i) (j := j) kn.kn.calm hN (by rw [kn.kn.hN]; exact hi') (by rw [kn.kn.hN]; exact hj') ij (loc 0 (by simp)) (loc 1 (by simp)) hA hswap) fun D σ H h => ?_
    have q := s_par h
    refine tDs_mono q fun vs H1 ⟨l, q⟩ => ?_
    match vs, l, q with
    | [v, w], _, q => exact ⟨v, w, rfl, q⟩
  | [(x, px), (y, py), (z, pz)], [i, j, l], [a, b, c], _, _, _, hx, loc, nd, hA, hswap, hnames =>
    subst hnames
    have ij : i ≠ j := fun z => by subst z; simp at nd
    have il : i ≠ l := fun z => by subst z; simp at nd
    have jl : j ≠ l := fun z => by subst z; simp at nd
    have hi' := hx 0 (by simp) (by simp)
    have hj' := hx 1 (by simp) (by simp)
    have hl' := hx 2 (by simp) (by simp)
    refine PS.imp (ps_par3 (i := i) (j := j) (l := l) kn.kn.calm hN (by rw [kn.kn.hN]; exact hi') (by rw [kn.kn.hN]; exact hj') (by rw [kn.kn.hN]; exact hl') ij il jl (loc 0 (by simp)) (loc 1 (by simp)) (loc 2 (by simp)) hA hswap) fun D σ H h => ?_
    have q := s_par h
    refine tDs_mono q fun vs H1 ⟨l, q⟩ => ?_
    match vs, l, q with
    | [v, w, u], _, q => exact ⟨v, w, u, rfl, q⟩
  | [(_, _), (_, _)], [], _, _, _, hl, _, _, _, _, _, _ => simp at hl
  | [(_, _), (_, _)], [_], _, _, _, hl, _, _, _, _, _, _ => simp at hl
  | [(_, _), (_, _)], _ :: _ :: _ :: _, _, _, _, hl, _, _, _, _, _, _ => simp at hl
end
end Z
namespace Z
open PySem PySem.Spec PyProof.Rows L2
section
variable {T : Tab} {N : List Str} {k n : Nat} {X : Cx} {W : XW}
inductive BR (X : Cx) : List Nat → List V → List (Str × Value) → Prop
  | nil : BR X [] [] []
  | cons {i : Nat} {is : List Nat} {x : Str} {v : V} {vs : List V} {u : Value} {bs : List (Str × Value)} : X.N[i]? = some x → Loc X.env.scope x → RelV v u → BR X is vs bs → BR X (i :: is) (v :: vs) ((x, u) :: bs)
theorem BR.append {is js : List Nat} {vs ws : List V} {bs cs : List (Str × Value)} (h : BR X is vs bs) (h2 : BR X js ws cs) : BR X (is ++ js) (vs ++ ws) (bs ++ cs) := by
  induction h with
  | nil => exact h2
  | cons a b c _ ih => exact .cons a b c ih
def BRes (X : Cx) (M : Mk) (H : Hp) : Option (List Nat × List D) → Option (List (Str × Value)) → Prop
  | none, none => True
  | some p, some bs => ∃ vs, Reps X.K M H p.2 vs ∧ BR X p.1 vs bs
  | _, _ => False
theorem m0_ok (kn : KnS T N X k W) {p : Pattern} {q : IP0} (hp : cP0 N X.env.scope p = some q) {pins : List (Addr × Obj)} {s : Shared} {σ : L2.St} {H : Hp} {M : Mk} {d : D} {v : V} {u : Value} {r : Option (List Nat × List D)}
    (I : Inv X pins σ H s) (rv : RelV v u) (rp : Rep X.K M H d v) (hm : m0 q d = some r) : wpAny (model X.prog X.w) X.A (matchPattern p X.env u) (fun r' s' => Inv X pins σ H s' ∧ BRes X M H r r') X.xe s := by
  have lit : ∀ {c : Str} {j pos pos2}, m0 (.lit c) d = some r → wpAny (model X.prog X.w) X.A (matchPattern (.MatchValue (.Constant (.str c) j pos) pos2) X.env u) (fun r' s' => Inv X pins σ H s' ∧ BRes X M H r r') X.xe s := by
    clear hm
    intro c j pos pos2 hm
    cases d <;> simp only [m0] at hm <;> try (cases hm; done)
    rename_i t
    cases rp
    refine wpAny_matchPattern_Value (thn (pe_str.run pins s σ H (fun v H' => v = .str c ∧ H' = H) I ⟨rfl, rfl⟩) fun u2 s1 ⟨v2, H1, I1, r2, e1, e2⟩ => ?_)
    subst e1
    subst e2
    refine thn (op_eq pins s1 σ H1 (.str t) (.str c) u u2 (fun v H' => v = .bl (decide (V.str t = V.str c)) ∧ H' = H1) I1 rv r2 ⟨rfl, rfl, rfl⟩) fun u3 s2 ⟨v3, H2, I2, r3, e1, e2⟩ => ?_
    subst e1
    subst e2
    cases r3
    refine wpAny_truthy_bool ?_
    by_cases h : t = c
    · rw [if_pos h] at hm
      cases hm
      rw [decide_eq_true (by rw [h])]
      exact ⟨I2, [], .nil, .nil⟩
    · rw [if_neg h] at hm
      cases hm
      rw [decide_eq_false (fun z => h (V.str.inj z))]
      exact ⟨I2, trivial⟩
  cases p <;> simp only [cP0] at hp <;> try (cases hp; done)
  case MatchValue e pos =>
    cases e <;> first | (cases hp; done) | skip
    rename_i c j pos2
    cases c <;> first | (cases hp; done) | skip
    cases hp
    exact lit hm
  case MatchAs op nm pos =>
    cases op with
    | some _ => simp only [cP0] at hp; cases hp
    | none =>
      cases nm with
      | none =>
        simp only [cP0] at hp
        cases hp
        simp only [m0] at hm
        cases hm
        exact wpAny_matchPattern_Capture ⟨I, [], .nil, .nil⟩
      | some x =>
        simp only [cP0] at hp
        obtain ⟨i, hi, rfl⟩ := map_some hp
        simp only [m0] at hm
        cases hm
        obtain ⟨h1, h2, _⟩ := nmS_get hi
        exact wpAny_matchPattern_Capture ⟨I, [v], .cons rp .nil, .cons (by rw [kn.kn.hN]; exact h1) h2 rv .nil⟩
theorem cP0_star {sc : Scope} {p : Pattern} {q : IP0} (hp : cP0 N sc p = some q) : p.isStar = false := by
  cases p <;> first | rfl | (simp only [cP0] at hp; cases hp)
theorem cP0_wild {sc : Scope} {p : Pattern} {q : IP0} (hp : cP0 N sc p = some q) (h : (!wildB q) = true) : p.isWildcard = false := by
  cases p <;> first | rfl | skip
  rename_i op nm pos
  cases op with
  | some _ => rfl
  | none =>
    cases nm with
    | some _ => rfl
    | none =>
      simp only [cP0] at hp
      cases hp
      simp [wildB] at h
theorem each_ok (kn : KnS T N X k W) {pins : List (Addr × Obj)} {σ : L2.St} {H : Hp} {M : Mk} : ∀ {ps : List Pattern} {qs : List IP0} {ds : List D} {vs : List V} {us : List Value} {r : Option (List Nat × List D)} {s : Shared}, allO (ps.map (cP0 N X.env.scope)) = some qs →
    Inv X pins σ H s → Vals vs us → Reps X.K M H ds vs → mEach qs ds = some r → wpAny (model X.prog X.w) X.A (matchEach ps X.env us) (fun r' s' => Inv X pins σ H s' ∧ BRes X M H r r') X.xe s
  | [], qs, ds, vs, us, r, s, hq, I, rv, rp, hm => by
    cases hq
    cases rp with
    | cons _ _ => simp only [mEach] at hm; cases hm
    | nil =>
      simp only [mEach] at hm
      cases hm
      exact wpAny_matchEach_nil ⟨I, [], .nil, .nil⟩
  | p :: ps, qs, ds, vs, us, r, s, hq, I, rv, rp, hm => by
    obtain ⟨q, qs', h1, h2, rfl⟩ := allO_cons hq
    cases rp with
    | nil => simp only [mEach] at hm; cases hm
    | cons r0 rr =>
      cases rv with
      | cons w0 ww =>
        rename_i d ds v vs u us
        simp only [mEach] at hm
        cases hx : m0 q d with
        | none => rw [hx] at hm; cases hm
        | some a =>
          rw [hx] at hm
          refine wpAny_matchEach_cons (thn (m0_ok kn h1 I w0 r0 hx) fun r' s1 ⟨I1, b1⟩ => ?_) (cP0_star h1)
          cases a with
          | none =>
            cases hm
            cases r' with
            | none => exact ⟨I1, trivial⟩
            | some _ => exact b1.elim
          | some a =>
            cases r' with
            | none => exact b1.elim
            | some bs =>
              obtain ⟨ws, g1, g2⟩ := b1
              simp only at hm
              cases hy : mEach qs' ds with
              | none => rw [hy] at hm; cases hm
              | some b =>
                rw [hy] at hm
                refine thn (each_ok kn h2 I1 ww rr hy) fun r2 s2 ⟨I2, b2⟩ => ?_
                cases b with
                | none =>
                  cases hm
                  cases r2 with
                  | none => exact ⟨I2, trivial⟩
                  | some _ => exact b2.elim
                | some b =>
                  cases hm
                  cases r2 with
                  | none => exact b2.elim
                  | some cs =>
                    obtain ⟨zs, g3, g4⟩ := b2
                    exact ⟨I2, ws ++ zs, g1.append g3, g2.append g4⟩
theorem mP_ok (kn : KnS T N X k W) {p : Pattern} {q : IP} (hp : cPt N X.env.scope p = some q) {pins : List (Addr × Obj)} {s : Shared} {σ : L2.St} {H : Hp} {M : Mk} {d : D} {v : V} {u : Value} {r : Option (List Nat × List D)}
    (I : Inv X pins σ H s) (rv : RelV v u) (rp : Rep X.K M H d v) (hm : mP q d = some r) : wpAny (model X.prog X.w) X.A (matchPattern p X.env u) (fun r' s' => Inv X pins σ H s' ∧ BRes X M H r r') X.xe s := by
  cases p <;> simp only [cPt] at hp <;> try (cases hp; done)
  case MatchValue e pos =>
    cases e <;> first | (cases hp; done) | skip
    rename_i c j pos2
    cases c <;> first | (cases hp; done) | skip
    cases hp
    exact m0_ok (q := .lit _) kn rfl I rv rp hm
  case MatchAs op nm pos =>
    cases op with
    | some _ => simp only [cPt] at hp; cases hp
    | none =>
      cases nm with
      | some _ => simp only [cPt] at hp; cases hp
      | none =>
        simp only [cPt] at hp
        cases hp
        simp only [mP] at hm
        cases hm
        exact wpAny_matchPattern_Capture ⟨I, [], .nil, .nil⟩
  case MatchSequence ps pos =>
    split at hp
    · rename_i l hl
      split at hp
      · rename_i hw
        cases hp
        cases d <;> simp only [mP] at hm <;> try (cases hm; done)
        rename_i ds
        cases rp with
        | tup hq rr =>
          cases rv
          obtain ⟨its, r1, ht, hz⟩ := I.tuple hq
          have hsz : its.length = ds.length := by rw [← r1.length, rr.length]
          have hfit : ((its.toArray.size : Nat) : Int) < 2 ^ 63 := by
            rw [List.size_toArray, ← r1.length]
            rw [sizeLine_eq] at hz
            omega
          have hlen : ∀ {ps : List Pattern} {l : List IP0}, allO (ps.map (cP0 N X.env.scope)) = some l → ps.length = l.length ∧ ps.findIdx? (·.isStar) = none ∧ (l.any (fun p => !wildB p) = true → (ps.all fun p => p.isWildcard || (p.isStar && p.names.isEmpty)) = false) := by
            intro ps
            induction ps with
            | nil => intro l h; cases h; exact ⟨rfl, rfl, fun z => by cases z⟩
            | cons p ps ih =>
              intro l h
              obtain ⟨b, r', h1, h2, rfl⟩ := allO_cons h
              obtain ⟨g1, g2, g3⟩ := ih h2
              have hs := cP0_star h1
              refine ⟨congrArg (· + 1) g1, ?_, fun z => ?_⟩
              · rw [List.findIdx?_cons, hs, g2]
                rfl
              · rw [List.all_cons]
                rw [List.any_cons, Bool.or_eq_true] at z
                rcases z with z | z
                · rw [cP0_wild h1 z, hs]
                  rfl
                · rw [g3 z, Bool.and_false]
          obtain ⟨hl1, hl2, hl3⟩ := hlen hl
          by_cases hn : ds.length = l.length
          · rw [if_pos hn] at hm
            refine matchSeq_tuple_hit ht hfit (by rw [List.size_toArray]; omega) ?_ hl2 (hl3 hw)
            have hps : ps.length = its.toArray.size := by rw [List.size_toArray]; omega
            rw [hps]
            have I0 := I.kept (h' := s.heap) (t' := s.toks + 1 + 1) fun b o e => e
            refine unpackItems_tuple (I.ok.hd kn.kn.calm) (s := { s with toks := s.toks + 1 + 1 }) ht fun h' hx => ?_
            have I1 := I0.kept (h' := h') (t' := s.toks + 1 + 1) fun b o e => hx b o (Nat.ne_of_lt (Heap.lt_size e)) e
            exact each_ok kn hl I1 (by simpa using r1) rr hm
          · rw [if_neg hn] at hm
            cases hm
            refine matchSeq_tuple_miss ht hfit (by rw [List.size_toArray]; omega) ?_ hl2 (hl3 hw)
            exact ⟨I.kept (h' := s.heap) (t' := s.toks + 1 + 1) fun b o e => e, trivial⟩
      · cases hp
    · cases hp
theorem binds_ok (kn : KnS T N X k W) {pins : List (Addr × Obj)} {H : Hp} : ∀ {is : List Nat} {vs : List V} {bs : List (Str × Value)} {σ : L2.St} {s : Shared}, BR X is vs bs → Inv X pins σ H s →
    wpAny (model X.prog X.w) X.A (assignInOrder (bs.map fun (n, _) => bindName X.env n) (bs.map (·.2))) (fun _ s' => Inv X pins (setAllσ σ is vs) H s') X.xe s
  | _, _, _, σ, s, .nil, I => wpAny_assignInOrder_none (by simpa [setAllσ] using I)
  | _, _, _, σ, s, .cons (i := i) (x := x) h1 h2 h3 h4, I => by
    refine wpAny_assignInOrder_more (wpAny_bindName (store_ok I (by rw [kn.kn.hN]; exact kn.kn.nd) h1 h2 h3 (fun s2 I2 => ?_) (.inl (kn.fnT x))))
    simp only [setAllσ]
    exact binds_ok kn h4 I2
theorem s_one {K : PySem.W.Frag} {W : XW} {C : Cl} {pin : Nat → Bool} {x : IS} {D : Ends} {σ : L2.St} {H : Hp} (h : tS K W pin (evSs C pin [x]) D σ H) : tS K W pin (evS C pin x) D σ H := by
  obtain ⟨M, env, e, h⟩ := h
  refine ⟨M, env, e, ?_⟩
  simp only [evSs] at h
  cases hx : evS C pin x env with
  | bad => rw [hx] at h; exact h
  | ex => rw [hx] at h; exact h
  | ok fl e2 =>
    rw [hx] at h
    cases fl <;> exact h
theorem s_two {K : PySem.W.Frag} {W : XW} {C : Cl} {pin : Nat → Bool} {x : IS} {D : Ends} {σ : L2.St} {H : Hp} (h : tS K W pin (evS C pin x) D σ H) : tS K W pin (evSs C pin [x]) D σ H := by
  obtain ⟨M, env, e, h⟩ := h
  refine ⟨M, env, e, ?_⟩
  simp only [evSs]
  cases hx : evS C pin x env with
  | bad => rw [hx] at h; exact h
  | ex => rw [hx] at h; exact h
  | ok fl e2 =>
    rw [hx] at h
    cases fl <;> exact h
theorem cases_ok (ih : SS T N k n) (kn : KnS T N X k W) (pin : Nat → Bool) {i : Nat} {pins : List (Addr × Obj)} {σ : L2.St} {H : Hp} {D : Ends} {v : V} {u : Value} : ∀ {cs : List MatchCase} {ms : List IS} {first : Bool} {s : Shared}, cM (cS T N n X.env.scope) N X.env.scope i cs = some ms →
    Inv X pins σ H s → RelV v u → σ[i]? = some (some v) → tS X.K W pin (evSs (callK T.fns k) pin ms) D σ H → wpAny (model X.prog X.w) X.A (matchCases cs X.env u first) (SP X pins D) X.xe s
  | [], ms, first, s, hc, I, rv, hv, h => by
    simp only [cM] at hc
    cases hc
    exact wpAny_matchCases_nil ⟨σ, H, I, s_nil h⟩
  | c :: cs, ms, first, s, hc, I, rv, hv, h => by
    obtain ⟨pt, gd, body⟩ := c
    simp only [cM] at hc
    split at hc
    case h_2 => cases hc
    rename_i ip b m h1 h2 h3
    cases hc
    obtain ⟨M, env, e, h⟩ := s_one h
    simp only [evS] at h
    split at h
    case h_2 => exact h.elim
    rename_i d hd
    obtain ⟨v', g1, g2⟩ := e.slot i d .frz hd
    rw [hv] at g1
    cases g1
    split at h
    case h_3 => exact h.elim
    · rename_i bs hm
      refine wpAny_matchCases_cons (thn (mP_ok kn h1 I rv g2 hm) fun r' s1 ⟨I1, br⟩ => ?_)
      cases r' with
      | none => exact br.elim
      | some bb =>
        obtain ⟨vs, r1, r2⟩ := br
        refine thn (binds_ok kn r2 I1) fun _ s2 I2 => ?_
        cases hy : setAll pin bs.1 bs.2 env with
        | bad => rw [hy] at h; exact h.elim
        | ex => exact (setAll_nex hy).elim
        | ok u2 env2 =>
          rw [hy] at h
          obtain ⟨e2, s2', _⟩ := setAll_ok (.refl (pin := pin)) e r1 hy
          exact (pss_all ih kn rfl pin h2).run pins s2 _ H D I2 ⟨M, env2, e2, FlP.back e s2' h⟩
    · rename_i hm
      refine wpAny_matchCases_cons (thn (mP_ok kn h1 I rv g2 hm) fun r' s1 ⟨I1, br⟩ => ?_)
      cases r' with
      | some _ => exact br.elim
      | none => exact cases_ok ih kn pin h3 I1 rv hv ⟨M, env, e, h⟩
theorem ps_match (ih : SS T N k n) (kn : KnS T N X k W) (pin : Nat → Bool) {i : Nat} {x : Str} {p pos : Pos} {cs : List MatchCase} {m : IS} (hi : nmS N X.env.scope x = some i) (hc : cM (cS T N n X.env.scope) N X.env.scope i cs = some [m]) :
    PS X (.Match (.Name x p) cs pos) (tS X.K W pin (evS (callK T.fns k) pin m)) := by
  refine ⟨fun pins s σ H D I h => ?_⟩
  have hv : ∃ v, σ[i]? = some (some v) := by
    cases cs with
    | nil => simp only [cM] at hc; cases hc
    | cons c cs =>
      simp only [cM] at hc
      split at hc
      case h_2 => cases hc
      cases hc
      obtain ⟨M, env, e, h⟩ := h
      simp only [evS] at h
      split at h
      case h_2 => exact h.elim
      rename_i d hd
      obtain ⟨v', g1, _⟩ := e.slot i d .frz hd
      exact ⟨v', g1⟩
  obtain ⟨v, hv⟩ := hv
  refine wpAny_Match (thn ((pv_nm kn hi).run pins s σ H (fun v' H' => v' = v ∧ H' = H) I ⟨v, hv, rfl, rfl⟩) fun u s1 ⟨v', H', I1, rv, e1, e2⟩ => ?_)
  subst e1
  subst e2
  exact cases_ok ih kn pin hc I1 rv hv (s_two h)
end
end Z
namespace Z
open PySem PySem.Spec PyProof.Rows L2
section
variable {T : Tab} {N : List Str} {k n : Nat}
theorem tupV_some {e : Expr} {vs : List Expr} (h : tupV e = some vs) : ∃ kk p, e = .Tuple vs kk p := by
  cases e <;> simp [tupV] at h
  subst h
  exact ⟨_, _, rfl⟩
theorem isStr_some {e : Expr} (h : isStr e = true) : ∃ x j p, e = .Constant (.str x) j p := by
  cases e <;> simp [isStr] at h
  rename_i c j p
  cases c <;> simp at h
  exact ⟨_, j, p, rfl⟩
theorem methV_some {e : Expr} {x m : Str} {a : Expr} {ln : Bool} (h : methV e = some (x, m, a, ln)) : ∃ p apos cpos, e = .Call (.Attribute (.Name x p) m apos) [a] [] cpos ∧ ln = (apos.endLine == cpos.line) := by
  cases e <;> simp only [methV] at h <;> try (cases h; done)
  rename_i fn as kw cpos
  split at h
  · rename_i o m' apos a'
    split at h
    · cases h
      exact ⟨_, apos, cpos, rfl, rfl⟩
    · cases h
  · cases h
theorem meth0V_some {e : Expr} {x m : Str} {ln : Bool} (h : meth0V e = some (x, m, ln)) : ∃ p apos cpos, e = .Call (.Attribute (.Name x p) m apos) [] [] cpos ∧ ln = (apos.endLine == cpos.line) := by
  cases e <;> simp only [meth0V] at h <;> try (cases h; done)
  rename_i fn as kw cpos
  split at h
  · rename_i o m' apos
    split at h
    · cases h
      exact ⟨_, apos, cpos, rfl, rfl⟩
    · cases h
  · cases h
theorem meth2V_some {e : Expr} {x m : Str} {a b : Expr} {ln : Bool} (h : meth2V e = some (x, m, a, b, ln)) : ∃ p apos cpos, e = .Call (.Attribute (.Name x p) m apos) [a, b] [] cpos ∧ ln = (apos.endLine == cpos.line) := by
  cases e <;> simp only [meth2V] at h <;> try (cases h; done)
  rename_i fn as kw cpos
  split at h
  · rename_i o m' apos a' b'
    split at h
    · cases h
      exact ⟨_, apos, cpos, rfl, rfl⟩
    · cases h
  · cases h
theorem subV_some {e : Expr} {p : Str × Expr} (h : subV e = some p) : ∃ p1 q1, e = .Subscript (.Name p.1 p1) p.2 q1 := by
  cases e <;> simp only [subV] at h <;> try (cases h; done)
  rename_i o k q
  obtain ⟨x, h1, h2⟩ := map_some h
  obtain ⟨p1, rfl⟩ := nameV_some h1
  subst h2
  exact ⟨p1, q, rfl⟩
theorem sub2V_some {es : List Expr} {x : Str} {k l : Expr} (h : sub2V es = some (x, k, l)) : ∃ p1 p2 q1 q2, es = [.Subscript (.Name x p1) k q1, .Subscript (.Name x p2) l q2] := by
  match es, h with
  | [], h => cases h
  | [_], h => cases h
  | _ :: _ :: _ :: _, h => cases h
  | [a, b], h =>
    simp only [sub2V] at h
    split at h
    · rename_i p q h1 h2
      split at h
      · rename_i e
        cases h
        obtain ⟨p1, q1, rfl⟩ := subV_some h1
        obtain ⟨p2, q2, rfl⟩ := subV_some h2
        rw [← e]
        exact ⟨p1, p2, q1, q2, rfl⟩
      · cases h
    · cases h
theorem swap_sub {env : PySem.Env} {o1 k1 o2 k2 : Expr} {p1 p2 p q : Pos} {vs : List Expr} {c d : Nat} : swappedStores [.Tuple [.Subscript o1 k1 p1, .Subscript o2 k2 p2] c p] (.Tuple vs d q) env = pure none := by
  unfold swappedStores
  refine (Classical.em _).elim (fun h => (if_pos h).trans rfl) (fun h => (if_neg h).trans ?_)
  refine (Classical.em _).elim (fun h => (if_pos h).trans rfl) (fun h => (if_neg h).trans ?_)
  exact (if_pos rfl).trans rfl
theorem takes_non {X : Cx} : Takes X fun _ _ _ _ => False := fun u s' ⟨_, _, _, _, _, _, _, _, _, _, _, _, _, _, _, _, w⟩ => w.elim
theorem callIs_some {y c : Str} {sc : Scope} {e : Expr} (h : callIs y sc e = some c) : ∃ p1 p2 p3 pos, e = .Call (.Name "isinstance" p1) [.Name y p2, .Name c p3] [] pos ∧ glB sc "isinstance" = true ∧ glB sc c = true ∧ visB sc y = true := by
  unfold callIs at h
  split at h
  case h_2 => cases h
  split at h
  case h_2 => cases h
  split at h
  case isFalse => cases h
  rename_i hc
  cases h
  simp only [Bool.and_eq_true, decide_eq_true_eq] at hc
  obtain ⟨⟨⟨⟨rfl, rfl⟩, h3⟩, h4⟩, h5⟩ := hc
  exact ⟨_, _, _, _, rfl, h3, h4, h5⟩
theorem subL_some {T : Tab} {nm c : Str} {b : Bool} (h : subL T nm c = some b) : (nm, c, b) ∈ T.sub := by
  unfold subL at h
  obtain ⟨q, hq, e⟩ := map_some h
  have h1 := List.find?_some hq
  have h2 := List.mem_of_find?_eq_some hq
  simp only [Bool.and_eq_true, decide_eq_true_eq] at h1
  obtain ⟨rfl, rfl⟩ := h1
  subst e
  exact h2
/-- a constant's value -/
def cvl : D → Option V
  | .non => some .non
  | .bl b => some (.bl b)
  | .int i => some (.int i)
  | .str s => some (.str s)
  | _ => none
theorem cvl_rep {K : PySem.W.Frag} {M : Mk} {H : Hp} {d : D} {v : V} (h : cvl d = some v) : Rep K M H d v := by
  cases d <;> cases h
  · exact .non
  · exact .bl _
  · exact .int _
  · exact .str _
theorem cst_pe {X : Cx} {e : Expr} {d : D} (h : cstD e = some d) : ∃ v, cvl d = some v ∧ PE X e (tC v) := by
  cases e <;> simp only [cstD] at h <;> try (cases h; done)
  rename_i c _ _
  cases c <;> simp only at h <;> cases h
  · exact ⟨_, rfl, pe_non⟩
  · exact ⟨_, rfl, pe_bl⟩
  · exact ⟨_, rfl, pe_int⟩
  · exact ⟨_, rfl, pe_str⟩
theorem cst_cvl {e : Expr} {d : D} (h : cstD e = some d) : ∃ v, cvl d = some v := by
  cases e <;> simp only [cstD] at h <;> try (cases h; done)
  rename_i c _ _
  cases c <;> simp only at h <;> cases h <;> exact ⟨_, rfl⟩
theorem suite_cvl {T : Tab} {y nm : Str} {sc : Scope} : ∀ (f : Nat) (ss : List Stmt) (d : D), suiteV T y sc nm f ss = some d → ∃ v, cvl d = some v
  | 0, ss, d, h => by cases h
  | f + 1, ss, d, h => by
    simp only [suiteV] at h
    split at h
    · exact cst_cvl h
    · split at h
      · exact suite_cvl f _ d h
      · exact suite_cvl f _ d h
      · cases h
    · cases h
theorem exV_some {sc : Scope} {e c : Option Expr} {x : Str} (h : exV sc e c = some x) : ∃ p pos, e = some (.Call (.Name x p) [] [] pos) ∧ c = none ∧ glB sc x = true := by
  unfold exV at h
  split at h
  · split at h
    · cases h
      exact ⟨_, _, rfl, rfl, by assumption⟩
    · cases h
  · cases h
theorem exs_at {T : Tab} {x : Str} {j : Nat} (h : T.exs.findIdx? (fun q => decide (q.1 = x) && q.2.isNone) = some j) : T.exs[j]? = some (x, none) := by
  obtain ⟨h1, h2, _⟩ := List.findIdx?_eq_some_iff_getElem.mp h
  rw [List.getElem?_eq_getElem h1]
  simp only [Bool.and_eq_true, decide_eq_true_eq] at h2
  obtain ⟨e1, e2⟩ := h2
  cases hq : T.exs[j] with
  | mk a b =>
    rw [hq] at e1 e2
    cases b with
    | none =>
      simp only at e1
      rw [e1]
    | some _ => cases e2
theorem excB_mem {T : Tab} {nm c : Str} (h : excB T nm c = true) : (nm, c) ∈ T.exc := by
  unfold excB at h
  obtain ⟨q, hq, e⟩ := List.any_eq_true.mp h
  simp only [Bool.and_eq_true, decide_eq_true_eq] at e
  obtain ⟨rfl, rfl⟩ := e
  exact hq
/-- the suite, held by an exception at a of the class at C -/
theorem suite_ok {T : Tab} {X : Cx} {y nm : Str} {i : Nat} {a C : Addr} {oe : Obj} {pn : List (Addr × Obj)} (xs : ExF T X.prog X.w X.K X.mg X.base) (bl : X.mg "isinstance" = none) (hi : X.N[i]? = some y) (hC : X.mg nm = some (.ref C)) (EC : L2.ExcC X.K C)
    (hz : Zc (.ref C) none oe) (hf : ∃ vs, oe.data = .fields vs) : ∀ (f : Nat) (ss : List Stmt) (d : D), suiteV T y X.env.scope nm f ss = some d → ∃ v, cvl d = some v ∧ PSs (X.suite a ((a, oe) :: pn)) ss (fun D σ H => σ[i]? = some (some (.ref a)) ∧ D.rt v H)
  | 0, ss, d, h => by cases h
  | f + 1, ss, d, h => by
    simp only [suiteV] at h
    split at h
    · rename_i e pos rest
      obtain ⟨v, h1, h2⟩ := cst_pe (X := X.suite a ((a, oe) :: pn)) h
      exact ⟨v, h1, PSs.imp (pss_cons (ps_ret h2) (t := tRet (tC v)) (u := fun _ _ _ => False) ⟨fun _ _ _ _ _ _ z => z.elim⟩) fun D σ H z => z.2⟩
    · rename_i t b pos rest
      cases hc : callIs y X.env.scope t with
      | none => rw [hc] at h; cases h
      | some c =>
        rw [hc, Option.bind_some] at h
        obtain ⟨p1, p2, p3, pos', rfl, g1, g2, g3⟩ := callIs_some hc
        cases hb : subL T nm c with
        | none => rw [hb] at h; cases h
        | some bb =>
          rw [hb] at h
          obtain ⟨cv, hcv, kit⟩ := xs.si nm c bb (subL_some hb) C hC
          obtain ⟨q1, q2, q3⟩ := gl_of g1
          obtain ⟨r1, r2, r3⟩ := gl_of g2
          obtain ⟨vv, d1, d2⟩ := vis_of g3
          obtain ⟨cV, hcV, hrel⟩ : ∃ cV : V, PE (X.suite a ((a, oe) :: pn)) (.Name c p3) (tC cV) ∧ ∀ u, RelV cV u → u = cv := by
            rcases hcv with ⟨ac, e1, rfl⟩ | ⟨e1, e2, t, rfl⟩
            · exact ⟨.ref ac, pe_glob (X := X.suite a ((a, oe) :: pn)) r1 e1 rfl r2, fun u hu => hu⟩
            · exact ⟨.ty t, pe_bltn (X := X.suite a ((a, oe) :: pn)) r1 e1 e2 rfl r3 r2, fun u hu => hu⟩
          have pe := pe_callB (X := X.suite a ((a, oe) :: pn)) (p := p1) (pos := pos') (call_isE EC hz hf) q1 bl (by decide +kernel) (pa_cons (pe_var (X := X.suite a ((a, oe) :: pn)) (pos := p2) hi vv d1 d2) (pa_cons hcV pa_nil rfl) rfl) q3 q2
          have pt := pt_val pe
          cases bb with
          | true =>
            obtain ⟨v, h1, h2⟩ := suite_ok (a := a) (pn := pn) xs bl hi hC EC hz hf f b d h
            refine ⟨v, h1, PSs.imp (pss_cons (ps_if pt h2 (u := fun _ _ _ => False) ⟨fun _ _ _ _ _ _ z => z.elim⟩) (u := fun _ _ _ => False) ⟨fun _ _ _ _ _ _ z => z.elim⟩) fun D σ H z => ?_⟩
            refine ⟨.ref a, z.1, ?_⟩
            exact ⟨cV, cv, true, rfl, hrel, kit, true, rfl, (by
              have zz : (if (true = true) then (σ[i]? = some (some (V.ref a)) ∧ D.rt v H) else False) := by rw [if_pos rfl]; exact z
              exact zz)⟩
          | false =>
            obtain ⟨v, h1, h2⟩ := suite_ok (a := a) (pn := pn) xs bl hi hC EC hz hf f rest d h
            refine ⟨v, h1, PSs.imp (pss_cons (ps_if pt (t := fun _ _ _ => False) ⟨fun _ _ _ _ _ _ z => z.elim⟩ pss_nil) h2) fun D σ H z => ?_⟩
            refine ⟨.ref a, z.1, ?_⟩
            exact ⟨cV, cv, false, rfl, hrel, kit, false, rfl, (by
              have zz : (if (false = true) then False else (σ[i]? = some (some (V.ref a)) ∧ D.rt v H)) := by rw [if_neg Bool.false_ne_true]; exact z
              exact zz)⟩
    · cases h
theorem ss_succ (ih : SS T N k n) : SS T N k (n + 1) := by
  intro sc st is h X W kn hs pin
  subst hs
  have hN : X.N.Nodup := by rw [kn.kn.hN]; exact kn.kn.nd
  cases st <;> simp only [cS] at h <;> try (cases h; done)
  case Return v pos =>
    cases v with
    | none =>
      cases h
      exact PS.imp ps_retN fun _ _ _ => s_retn
    | some e =>
      simp only at h
      split at h
      · rename_i i hi
        cases h
        cases hn : nameV e with
        | none => rw [hn] at hi; cases hi
        | some x =>
          obtain ⟨p, rfl⟩ := nameV_some hn
          rw [hn] at hi
          exact PS.imp (ps_ret (pv_nm kn hi)) fun _ _ _ => s_retv
      · obtain ⟨ie, h1, rfl⟩ := map_some h
        obtain ⟨_, _, _, pe⟩ := snd_E (T := T) (N := N) (k := k) n _ e ie h1
        exact PS.imp (ps_ret (pe X W kn.kn rfl)) fun _ _ _ => s_ret
  case Assign ts e pos =>
    cases ts with
    | nil => cases h
    | cons t ts =>
      cases ts with
      | cons _ _ => cases h
      | nil =>
        simp only at h
        cases t <;> simp only at h <;> try (cases h; done)
        case Name x p =>
          split at h
          · rename_i i ie h1 h2
            cases h
            exact PS.imp (ss_set h1 h2 kn) fun _ _ _ => s_set
          · cases h
        case Tuple es kk tp =>
          split at h
          · rename_i vs hv
            obtain ⟨k2, vp, rfl⟩ := tupV_some hv
            split at h
            · rename_i names is ies h1 h2 h3
              split at h
              · rename_i nd
                cases h
                exact ss_par h1 h2 h3 (of_decide_eq_true nd) kn
              · cases h
            · split at h
              · rename_i x ka la hs2
                obtain ⟨p1, p2, q1, q2, rfl⟩ := sub2V_some hs2
                split at h
                · rename_i i ik il ie h1 h2 h3 h4
                  cases h
                  obtain ⟨_, _, ns1, pk⟩ := snd_E (T := T) (N := N) (k := k) n _ ka ik h2
                  obtain ⟨_, _, ns2, pl⟩ := snd_E (T := T) (N := N) (k := k) n _ la il h3
                  obtain ⟨_, _, _, pe⟩ := snd_E (T := T) (N := N) (k := k) n _ _ ie h4
                  have hg1 := pg_sub (pos := q1) (pv_nm (pos := p1) kn h1) (pk X W kn.kn rfl) set_list (by
                    intro v
                    cases ka <;> first | rfl | exact absurd rfl (ns1 _ _ _ _))
                  have hg2 := pg_sub (pos := q2) (pv_nm (pos := p2) kn h1) (pl X W kn.kn rfl) set_list (by
                    intro v
                    cases la <;> first | rfl | exact absurd rfl (ns2 _ _ _ _))
                  have hg := pg_tup (pos := tp) (k := kk) kn.kn.calm (pgs_cons hg1 (pgs_cons hg2 pgs_nil)) rfl rfl
                  exact PS.imp (ps_asg (pe X W kn.kn rfl) hg sole_tup swap_sub rfl) fun _ _ _ => s_parix
                · cases h
              · cases h
          · rename_i hv
            split at h
            · split at h
              · rename_i is ie h1 h2
                cases h
                obtain ⟨_, _, _, pe⟩ := snd_E (T := T) (N := N) (k := k) n _ e ie h2
                obtain ⟨g1, g2⟩ := nms_len (E := X.env) h1
                have hg := pg_unl (pos := tp) (k := kk) kn.kn.calm (pgs_nms kn.kn kn.sto h1) g1 g2
                exact PS.imp (ps_asg (pe X W kn.kn rfl) hg sole_tup (swapped_tup hv) rfl) fun _ _ _ => s_unpl
              · cases h
            split at h
            · rename_i is ie h1 h2
              cases h
              obtain ⟨_, _, _, pe⟩ := snd_E (T := T) (N := N) (k := k) n _ e ie h2
              have hg := pg_tg (e := .Tuple es kk tp) (g := .tp is) kn.kn kn.sto pin (by simp only [tgOf]; rw [h1]; rfl)
              exact PS.imp (ps_asg (pe X W kn.kn rfl) hg sole_tup (swapped_tup hv) rfl) fun _ _ _ => s_unp
            · cases h
        case Subscript o kx tp =>
          split at h
          · rename_i x ik ie h1 h2 h3
            obtain ⟨p, rfl⟩ := nameV_some h1
            obtain ⟨i, h4, rfl⟩ := map_some h
            obtain ⟨_, _, ns, pk⟩ := snd_E (T := T) (N := N) (k := k) n _ kx ik h2
            obtain ⟨_, _, _, pe⟩ := snd_E (T := T) (N := N) (k := k) n _ e ie h3
            have hg := pg_sub (pos := tp) (pv_nm (pos := p) kn h4) (pk X W kn.kn rfl) set_list (by
              intro v
              cases kx <;> first | rfl | exact absurd rfl (ns _ _ _ _))
            exact PS.imp (ps_asg (pe X W kn.kn rfl) hg sole_sub (by cases e <;> rfl) rfl) fun _ _ _ => s_setix
          · cases h
  case Match e cs pos =>
    split at h
    · rename_i i hi
      split at h
      · rename_i m hm
        cases h
        cases hn : nameV e with
        | none => rw [hn] at hi; cases hi
        | some x =>
          obtain ⟨p, rfl⟩ := nameV_some hn
          rw [hn] at hi
          exact ps_match ih kn pin hi hm
      · cases h
    · cases h
  case For tg it body orelse pos =>
    split at h
    · rename_i g src b h1 h2 h3
      cases h
      obtain ⟨ns, pi⟩ := snd_I (T := T) (N := N) (k := k) n _ tg it src h2
      exact PS.imp (ps_for kn.po kn.kn.calm (pi X W kn.kn rfl) (pg_tg kn.kn kn.sto pin h1) (pss_all ih kn rfl pin h3) (fun x => by cases it <;> first | rfl | exact absurd rfl (ns _ _ _))) fun _ _ _ => s_for
    · cases h
  case While c body orelse pos =>
    split at h
    · rename_i x b h1 h2
      cases h
      exact PS.imp (ps_while kn.po ((snd_T (T := T) (N := N) (k := k) n).pt h1 kn.kn rfl) (pss_all ih kn rfl pin h2)) fun _ _ _ => s_while
    · cases h
  case If c a b pos =>
    split at h
    · rename_i x y z h1 h2 h3
      cases h
      exact PS.imp (ps_if ((snd_T (T := T) (N := N) (k := k) n).pt h1 kn.kn rfl) (pss_all ih kn rfl pin h2) (pss_all ih kn rfl pin h3)) fun _ _ _ => s_ife
    · cases h
  case Expr e pos =>
    split at h
    · rename_i hd
      cases h
      obtain ⟨x, j, p, rfl⟩ := isStr_some hd
      exact PS.imp ps_doc fun _ _ _ => s_pass
    · split at h
      · rename_i x m a ln hm
        obtain ⟨p, apos, cpos, rfl, hln⟩ := methV_some hm
        split at h
        · rename_i hc
          obtain ⟨rfl, rfl⟩ := hc
          split at h
          · rename_i i ia h1 h2
            cases h
            obtain ⟨nst, _, _, pa⟩ := snd_E (T := T) (N := N) (k := k) n _ a ia h2
            have hS := star_cons (es := []) (env := X.env) nst
            exact PS.imp (ps_expr (pe_bm PySem.F.plainAttrs_list PySem.F.slot_list_append PySem.F.type_list_append mt_append (pv_nm (pos := p) kn h1) (pa_cons (pa X W kn.kn rfl) pa_nil hS) rfl (by rw [hS]; rfl) hln.symm hS rfl) rfl) fun _ _ _ => s_app
          · cases h
        · split at h
          · rename_i hc
            obtain ⟨rfl, rfl⟩ := hc
            split at h
            · rename_i i ia h1 h2
              cases h
              obtain ⟨nst, _, _, pa⟩ := snd_E (T := T) (N := N) (k := k) n _ a ia h2
              have hS := star_cons (es := []) (env := X.env) nst
              exact PS.imp (ps_expr (pe_bm PySem.F.plainAttrs_list PySem.F.slot_list_extend PySem.F.type_list_extend mt_extend (pv_nm (pos := p) kn h1) (pa_cons (pa X W kn.kn rfl) pa_nil hS) rfl (by rw [hS]; rfl) hln.symm hS rfl) rfl) fun _ _ _ => s_ext
            · cases h
          · split at h
            · rename_i hc
              obtain ⟨rfl, rfl⟩ := hc
              split at h
              · rename_i i ia h1 h2
                cases h
                obtain ⟨nst, _, _, pa⟩ := snd_E (T := T) (N := N) (k := k) n _ a ia h2
                have hS := star_cons (es := []) (env := X.env) nst
                have hu : X.A.units + 65 < cLine := by have := kn.kn.room.un; omega
                exact PS.imp (ps_expr (pe_bm PySem.F.plainAttrs_list PySem.F.slot_list_remove PySem.F.type_list_remove (mt_removeD hu) (pv_nm (pos := p) kn h1) (pa_cons (pa X W kn.kn rfl) pa_nil hS) rfl (by rw [hS]; rfl) hln.symm hS rfl) rfl) fun _ _ _ => s_rem
              · cases h
            · cases h
      · split at h
        · rename_i x m ln hm
          obtain ⟨p, apos, cpos, rfl, hln⟩ := meth0V_some hm
          split at h
          · rename_i hc
            obtain ⟨rfl, rfl⟩ := hc
            obtain ⟨i, h1, rfl⟩ := map_some h
            exact PS.imp (ps_expr (pe_bm0 PySem.F.plainAttrs_list PySem.F.slot_list_reverse PySem.F.type_list_reverse mt_reverse (pv_nm (pos := p) kn h1) rfl hln.symm) rfl) fun _ _ _ => s_rev
          · cases h
        · split at h
          · rename_i x m a b ln hm
            obtain ⟨p, apos, cpos, rfl, hln⟩ := meth2V_some hm
            split at h
            · rename_i hc
              obtain ⟨rfl, rfl⟩ := hc
              split at h
              · rename_i i ia ib h1 h2 h3
                cases h
                obtain ⟨nst, _, _, pa⟩ := snd_E (T := T) (N := N) (k := k) n _ a ia h2
                obtain ⟨nst2, _, _, pb⟩ := snd_E (T := T) (N := N) (k := k) n _ b ib h3
                have hS2 := star_cons (es := []) (env := X.env) nst2
                have hS := star_cons (es := [b]) (env := X.env) nst
                exact PS.imp (ps_expr (pe_bm PySem.F.plainAttrs_list PySem.F.slot_list_insert PySem.F.type_list_insert mt_ins (pv_nm (pos := p) kn h1) (pa_cons (pa X W kn.kn rfl) (pa_cons (pb X W kn.kn rfl) pa_nil hS2) hS) rfl (by rw [hS, hS2]; rfl) hln.symm hS (by rw [hS2]; rfl)) rfl) fun _ _ _ => s_ins
              · cases h
            · cases h
          · cases h
  case Raise exc cause pos =>
    cases hx : (exV X.env.scope exc cause).bind (fun x => T.exs.findIdx? fun q => decide (q.1 = x) && q.2.isNone) with
    | none =>
      rw [hx] at h
      cases h
      exact ⟨fun _ _ _ _ _ _ h => (s_no h).elim⟩
    | some j =>
      rw [hx] at h
      cases h
      obtain ⟨nm, h1, h2⟩ := Option.bind_eq_some_iff.mp hx
      obtain ⟨p, pos', rfl, rfl, g⟩ := exV_some h1
      have hj := exs_at h2
      obtain ⟨C, fI, fd, ps, hm, OC, EC, iC, tI, hb, F1⟩ := kn.kn.xs.ms j nm hj
      obtain ⟨g1, g2, g3⟩ := gl_of g
      obtain ⟨Wl, tk, hW⟩ := kn.kn.tk
      exact PS.imp (ps_raise kn.kn.calm tk (pmk_oexN OC iC tI F1 (kn.kn.room.mono (by omega)) kn.kn.gd hb (passes_call takes_non fun _ _ _ _ z => z.elim) g1 hm g2)) fun D σ H h => hW _ σ H _ _ (s_rz h) ⟨nm, none, hj, hm, .inl ⟨rfl, rfl, rfl⟩⟩
  case Try body hs orelse fin pos =>
    split at h
    case h_2 => cases h
    rename_i c cp y suite pos'
    split at h
    case h_2 => cases h
    rename_i b0 bs i b h1 h2
    split at h
    case isFalse => cases h
    rename_i hc
    cases h
    simp only [Bool.and_eq_true, decide_eq_true_eq] at hc
    obtain ⟨⟨g, he⟩, hl⟩ := hc
    obtain ⟨⟨qn, qc⟩, hq, hqc⟩ := List.any_eq_true.mp he
    obtain rfl : qc = c := by simpa using hqc
    obtain ⟨hi1, _, _⟩ := nmS_get h1
    obtain ⟨ac, hac⟩ := kn.kn.xs.cc _ _ hq
    obtain ⟨g1, g2, g3⟩ := gl_of g
    have hi : X.N[i]? = some y := by rw [kn.kn.hN]; exact hi1
    refine PS.imp (ps_try_as (i := i) (c := .ref ac) (tb := fun W2 => tS X.K (fun x σ H => ∀ cls d, xvOf T X.mg x cls d H → W2 cls d σ H) pin (evSs (callK T.fns k) pin b))
      (ts := fun a cls d D σ H => ∃ (cn : Nat) (nm : Str) (dd : Z.D) (v : V), T.exs[cn]? = some (nm, none) ∧ X.mg nm = some cls ∧ d = none ∧ suiteV T y X.env.scope nm 20 (b0 :: bs) = some dd ∧ cvl dd = some v ∧ σ[i]? = some (some (.ref a)) ∧ D.rt v H)
      (Wout := fun _ _ _ _ => False) kn.stk kn.frm hN hi hl ⟨g1, g2, .inl hac⟩ takes_non (fun W2 pn xe tk2 po2 => ?_) (fun a oe cls d pn hz hf => ?_)) fun D σ H h => ?_
    · exact pss_all ih (W := fun x σ H => ∀ cls d, xvOf T X.mg x cls d H → W2 cls d σ H) (X := X.tr pn xe) ⟨⟨⟨W2, tk2, fun x σ H cls d hw hx => hw cls d hx⟩, kn.kn.calm, kn.kn.room, kn.kn.gd, kn.kn.hN, kn.kn.nd, kn.kn.fn, kn.kn.gl, kn.kn.bl, kn.kn.gc, kn.kn.cm, kn.kn.xs⟩, kn.fnT, kn.kind, po2, kn.stk, kn.frm⟩ rfl pin h2
    · refine ⟨fun pins s σ H D I h => ?_⟩
      obtain ⟨cn, nm, dd, v, e1, e2, e3, e4, e5, e6, e7⟩ := h
      obtain ⟨C, fI, fd, ps, hm, OC, EC, _⟩ := kn.kn.xs.ms cn nm e1
      rw [hm] at e2
      cases e2
      subst e3
      obtain ⟨v', q1, q2⟩ := suite_ok (a := a) (pn := pn) kn.kn.xs (kn.kn.bl _ (by decide)) hi hm EC hz hf 20 _ dd e4
      rw [e5] at q1
      cases q1
      exact q2.run pins s σ H D I ⟨e6, e7⟩
    · refine s_tr (fun x σ' H' d M' env' hd ha e' hi' hv => ?_) h
      intro cls d' hx
      obtain ⟨nm, fld, hexs, hmg, hcase⟩ := hx
      unfold trHs at hd
      rw [List.getD_eq_getElem?_getD, List.getElem?_map, hexs, Option.map_some, Option.getD_some] at hd
      simp only at hd
      split at hd
      case isFalse => cases hd
      rename_i hb
      rw [Bool.and_eq_true] at hb
      cases fld with
      | some _ => cases hb.1
      | none =>
        obtain ⟨C, fI, fd, ps, hm, OC, EC, _⟩ := kn.kn.xs.ms x.cls nm hexs
        obtain ⟨a2, ha2, hex⟩ := kn.kn.xs.ec nm _ (excB_mem hb.2) C hm
        rw [hac] at ha2
        cases ha2
        rw [hm] at hmg
        cases hmg
        obtain ⟨v, hcv⟩ := suite_cvl _ _ _ hd
        have hdn : d' = none := by
          rcases hcase with ⟨_, _, z⟩ | ⟨f, _, _, z, _⟩
          · exact z
          · cases z
        refine ⟨true, hex, fun _ a haf => ⟨x.cls, nm, d, v, hexs, hm, hdn, hd, hcv, ?_, hv v (cvl_rep hcv)⟩, fun z => nomatch z⟩
        have hlen := e'.len
        have hil := lt_of_get hi'
        rw [List.getElem?_set_self (by omega)]
  case Pass pos => cases h; exact PS.imp ps_pass fun _ _ _ => s_pass
  case Break pos => cases h; exact PS.imp ps_break fun _ _ _ => s_brk
  case Continue pos => cases h; exact PS.imp ps_continue fun _ _ _ => s_cont
theorem snd_S : ∀ n, SS T N k n
  | 0 => fun sc st is h => by simp [cS] at h
  | n + 1 => ss_succ (snd_S n)
end
/-- the text's def at j, as the small language has it -/
structure DefIs (T : Tab) (st : Stmt) (F : Fn) (N ps : List Str) : Prop where
  sc : FnScope N ps (defScope st)
  body : allO ((defBody st).map (cS T N 100 (defScope st))) = some F.body
  np : ps.length = F.np
  n : N.length = F.n
  le : F.np ≤ F.n
section
variable {P : Program} {w : World} {K : PySem.W.Frag} {mg : Str → Option Value} {base : Heap}
theorem get_args {as : List (D × Mo)} {m i : Nat} {d : D} {o : Mo} (h : (as.map some ++ List.replicate m (none : Sl))[i]? = some (some (d, o))) : as[i]? = some (d, o) := by
  by_cases hi : i < as.length
  · rw [List.getElem?_append_left (by simpa using hi), List.getElem?_map] at h
    obtain ⟨x, h1, h2⟩ := map_some h
    cases h2
    exact h1
  · rw [List.getElem?_append_right (by simpa using hi), List.getElem?_replicate] at h
    split at h <;> cases h
theorem get_vals {vs : List V} {m i : Nat} {v : V} (h : (vs.map some ++ List.replicate m (none : Option V))[i]? = some (some v)) : vs[i]? = some v := by
  by_cases hi : i < vs.length
  · rw [List.getElem?_append_left (by simpa using hi), List.getElem?_map] at h
    obtain ⟨x, h1, h2⟩ := map_some h
    cases h2
    exact h1
  · rw [List.getElem?_append_right (by simpa using hi), List.getElem?_replicate] at h
    split at h <;> cases h
theorem def_ok {T : Tab} {x qual : Str} {st : Stmt} {f : Addr} {fd : FuncData} {N ps : List Str} {k : Nat} {F : Fn} {dvs : List V} (FF : FunD K x qual (defArgs st) (defBody st) (defScope st) dvs [] f fd) (D : DefIs T st F N ps)
    (fn : ∀ j f, T.names[j]? = some f → FnAt T P w K mg base k j f) (gl : ∀ x d, T.gls.lookup x = some d → ∃ v u, mg x = some u ∧ RelV v u ∧ ∀ M H, Rep K M H d v)
    (bl : ∀ x ∈ blts, mg x = none) (gc : T.gcd = true → mg "gcd" = some (.builtin "math.gcd")) (cm : T.cmb = true → mg "combinations" = some (.type "itertools.combinations")) (xs : ExF T P w K mg base) : FnG P w K mg base (L2.CX P w) (k + 2 + 1) f fd ps (spZ K (xvOf T mg) T.fns (k + 1) F) := by
  refine def_goG FF D.sc (fun vs H Q E h => h.1.trans D.np.symm) (fun cdv A outer s H vs Q E hr h => ?_)
  obtain ⟨hl, M, as, e, h⟩ := h
  have hla : as.length = F.np := by
    have := e.len
    simp only [List.length_map] at this
    omega
  have kn : KnS T N (cxOf (L2.CX P w) P w K mg base N qual (defScope st) f cdv A outer s H E) k (fun x _ H' => ∀ cls d, xvOf T mg x cls d H' → E cls d H') :=
    ⟨⟨⟨fun cls d _ H => E cls d H, takes_of rfl rfl rfl rfl, fun x σ H cls d hw hx => hw cls d hx⟩, rfl, hr.rm, hr.no, rfl, D.sc.nd, fn, gl, bl, gc, cm, xs⟩, fun _ => rfl, D.sc.kind, passes_of rfl, rfl, rfl⟩
  generalize hpin : pinOf as = pin at *
  refine ⟨_, pss_all (snd_S 100) kn rfl pin D.body, ?_⟩
  simp only [fullK, runFull] at h
  rw [if_pos hla, hpin] at h
  have hst : L2.start N vs = vs.map some ++ List.replicate (F.n - F.np) none := by
    unfold L2.start
    rw [D.n, hl]
  have e0 : EnvOk K M H (L2.start N vs) (as.map some ++ List.replicate (F.n - F.np) none) := by
    rw [hst]
    refine ⟨by simp [hl, hla], fun i d m g => ?_, fun i j a n ⟨d1, g1, g2⟩ ⟨d2, m2, g3, g4, g5⟩ => ?_, e.mok⟩
    · have g' := get_args g
      obtain ⟨v, h1, h2⟩ := e.slot i d m (by rw [List.getElem?_map, g']; rfl)
      refine ⟨v, ?_, h2⟩
      have hi := lt_of_get h1
      rw [List.getElem?_append_left hi]
      exact h1
    · refine e.apart i j a n ⟨d1, by rw [List.getElem?_map, get_args g1]; rfl, by rw [List.getElem?_map, get_vals g2]; rfl⟩ ⟨d2, m2, g3, by rw [List.getElem?_map, get_args g4]; rfl, by rw [List.getElem?_map, get_vals g5]; rfl⟩
  -- what the caller gets
  have ownA : ∀ {i a}, OwnAt (L2.start N vs) (as.map some ++ List.replicate (F.n - F.np) none) i a → OwnAt (vs.map some) (as.map some) i a ∧ pin i = true := by
    rintro i a ⟨d, g1, g2⟩
    have g1' := get_args g1
    rw [hst] at g2
    refine ⟨⟨d, by rw [List.getElem?_map, g1']; rfl, by rw [List.getElem?_map, get_vals g2]; rfl⟩, ?_⟩
    rw [← hpin]
    simp only [pinOf, g1']
  have wrA : ∀ a, Wr (L2.start N vs) (as.map some ++ List.replicate (F.n - F.np) none) a → Wr (vs.map some) (as.map some) a := fun a ⟨i, g⟩ => ⟨i, (ownA g).1⟩
  have cstp : ∀ {M' : Mk} {H' : Hp} {σ' : L2.St} {env' : En}, EnvOk K M' H' σ' env' → Stp pin M H (L2.start N vs) (as.map some ++ List.replicate (F.n - F.np) none) M' H' σ' env' →
      CStp K M H as vs ((env'.take F.np).map fun s => s.getD (.non, .frz)) M' H' := by
    intro M' H' σ' env' e' s'
    refine ⟨fun a o g n => s'.heap a o g fun w => n (wrA a w), s'.dom, s'.mold, fun a m n => s'.mkeep a m fun w => n (wrA a w), e'.mok, fun i d v g1 g2 => ?_⟩
    have hi : i < as.length := lt_of_get g1
    have hp : pin i = true := by rw [← hpin]; simp only [pinOf, g1]
    have g0 : (as.map some ++ List.replicate (F.n - F.np) (none : Sl))[i]? = some (some (d, .own)) := by
      rw [List.getElem?_append_left (by simpa using hi), List.getElem?_map, g1]
      rfl
    obtain ⟨t, ht⟩ := s'.pinS i hp ⟨_, g0⟩
    obtain ⟨d', m'⟩ := t
    have hσ : σ'[i]? = some (some v) := by
      rw [s'.pinσ i hp, hst, List.getElem?_append_left (by rw [List.length_map]; exact lt_of_get g2), List.getElem?_map, g2]
      rfl
    obtain ⟨v2, q1, q2⟩ := e'.slot i d' m' ht
    rw [hσ] at q1
    cases q1
    refine ⟨d', m', ?_, fun z => ?_, q2⟩
    · rw [List.getElem?_map, List.getElem?_take_of_lt (by omega), ht]
      rfl
    · subst z
      obtain ⟨d2, q3⟩ := (s'.lck i).mp ⟨d', ht⟩
      rw [g0] at q3
      cases q3
  refine ⟨M, _, e0, ?_⟩
  cases hx : evSs (callK T.fns k) pin F.body (as.map some ++ List.replicate (F.n - F.np) none) with
  | bad => rw [hx] at h; exact h.elim
  | ex => rw [hx] at h; exact fun M' H' σ' e' s' => h M' H' (cstp e' s')
  | ok fl env1 =>
    rw [hx] at h
    cases fl with
    | bk => exact h.elim
    | ct => exact h.elim
    | nx => exact fun M' H' σ' e' s' => h M' H' .non (cstp e' s') .non
    | rt d fr =>
      intro M' H' σ' v e' s' r'
      refine h M' H' v (cstp e' s') ?_
      cases fr with
      | false => exact r'
      | true =>
        obtain ⟨ds, a, xs, h1, h2, h3, h4, h5, h6⟩ := r'
        refine ⟨ds, a, xs, h1, h2, ?_, h4, h5, h6⟩
        rcases h3 with h3 | ⟨i, p, w⟩
        · exact h3
        · rw [(ownA w).2] at p
          cases p
end
end Z
namespace Z
open PySem PySem.Spec PyProof.Rows L2
structure Ent where
  name : Str
  st : Stmt
  F : Fn
  N : List Str
  ps : List Str
structure EntOk (T : Tab) (K : PySem.W.Frag) (mg : Str → Option Value) (e : Ent) : Prop where
  is : DefIs T e.st e.F e.N e.ps
  ex : ∃ fa fd dvs, mg e.name = some (.ref fa) ∧ FunD K e.name e.name (defArgs e.st) (defBody e.st) (defScope e.st) dvs [] fa fd ∧ (∀ M H, Reps K M H e.F.dv dvs) ∧ ∀ n, n ≤ dvs.length → ∃ ds, Vals (dvs.drop n) ds ∧ Binds K fd e.ps ds
section
variable {P : Program} {w : World} {K : PySem.W.Frag} {mg : Str → Option Value} {base : Heap} {T : Tab}
theorem all_ok (es : List Ent) (hn : T.names = es.map (·.name)) (hf : ∀ j, T.fns j = (es[j]?).map (·.F)) (ok : ∀ e ∈ es, EntOk T K mg e)
    (gl : ∀ x d, T.gls.lookup x = some d → ∃ v u, mg x = some u ∧ RelV v u ∧ ∀ M H, Rep K M H d v) (bl : ∀ x ∈ blts, mg x = none) (gc : T.gcd = true → mg "gcd" = some (.builtin "math.gcd")) (cm : T.cmb = true → mg "combinations" = some (.type "itertools.combinations")) (xs : ExF T P w K mg base) :
    ∀ k j f, T.names[j]? = some f → FnAt T P w K mg base k j f := by
  intro k
  induction k with
  | zero =>
    intro j f h
    rw [hn, List.getElem?_map] at h
    obtain ⟨e, h1, rfl⟩ := map_some h
    obtain ⟨is, fa, fd, dvs, h2, h3, h4, h5⟩ := ok e (List.mem_of_getElem? h1)
    exact ⟨fa, fd, e.ps, e.F, dvs, by rw [hf, h1]; rfl, h2, h3.kp, ⟨fun q => (q.1).trans is.np.symm, fun _ _ _ _ q => q.2.elim fun _ q => q.elim fun _ q => q.2.elim⟩, h4, h5⟩
  | succ k ih =>
    intro j f h
    rw [hn, List.getElem?_map] at h
    obtain ⟨e, h1, rfl⟩ := map_some h
    obtain ⟨is, fa, fd, dvs, h2, h3, h4, h5⟩ := ok e (List.mem_of_getElem? h1)
    exact ⟨fa, fd, e.ps, e.F, dvs, by rw [hf, h1]; rfl, h2, h3.kp, def_ok h3 is ih gl bl gc cm xs, h4, h5⟩
end
/-- the law's promise, by its run in the small language -/
def spL (K : PySem.W.Frag) (n : Nat) : Sp := fun vs H Q _ => ∃ (a : Addr) (ns : List Int), vs = [.ref a] ∧ SqL K H a (ns.map V.int) ∧ ns.length ≤ n ∧ ∀ H', Q (.bl true) H'
theorem reps_ints {K : PySem.W.Frag} {M : Mk} {H : Hp} : ∀ ns : List Int, Reps K M H (ns.map D.int) (ns.map V.int)
  | [] => .nil
  | n :: ns => .cons (.int n) (reps_ints ns)
theorem law_ok {P : Program} {w : World} {K : PySem.W.Frag} {mg : Str → Option Value} {base : Heap} {T : Tab} {k lv n : Nat} {F : Fn} {fa : Addr} {fd : FuncData} {ps : List Str}
    (h : FnG P w K mg base (L2.CX P w) lv fa fd ps (spZ K (xvOf T mg) T.fns k F)) (hl : ps.length = 1) (hp : F.np = 1)
    (hr : ∀ ns : List Int, ns.length ≤ n → ∃ fr outs, fullK T.fns k F [(.rol (ns.map D.int), .frz)] = .ok (.bl true) fr outs) : FnG P w K mg base (L2.CX P w) lv fa fd ps (spL K n) := by
  have key : ∀ vs H Q E, spL K n vs H Q E → spZ K (xvOf T mg) T.fns k F vs H Q E := by
    rintro vs H Q E ⟨a, ns, rfl, hS, hn, q⟩
    refine ⟨by rw [hp]; rfl, fun _ => False, [(.rol (ns.map D.int), .frz)], ⟨rfl, fun i d m g => ?_, fun i j b n1 ⟨d, g, _⟩ _ => ?_, fun _ z => z.elim⟩, ?_⟩
    · cases i with
      | zero =>
        cases g
        refine ⟨.ref a, rfl, .rol ?_ (reps_ints ns)⟩
        rcases hS with (hS | hS) | hS
        · exact .inl ⟨hS, fun z => z⟩
        · exact .inr (.inl hS)
        · exact .inr (.inr hS)
      | succ i => simp at g
    · cases i with
      | zero => cases g
      | succ i => simp at g
    · obtain ⟨fr, outs, e⟩ := hr ns hn
      rw [e]
      intro M' H' v _ r
      have : v = .bl true := by
        cases fr with
        | false => cases (show Rep K M' H' (.bl true) v from r); rfl
        | true => obtain ⟨_, _, _, z, _⟩ := r; cases z
      rw [this]
      exact q H'
  exact h.weak key
end Z
namespace Z
open PySem PySem.Spec PyProof.Rows L2
/-- the end of a law: what the run of the small language says -/
theorem end_ok {P : Program} {w : World} {K : PySem.W.Frag} {mg : Str → Option Value} {h : Heap} {T : Tab} {fa : Addr} (X : K.In h) (G : h.Ns mainGlobals mg) (hfa : mg "law" = some (.ref fa)) (es : List Ent) (hn : T.names = es.map (·.name)) (hf : ∀ j, T.fns j = (es[j]?).map (·.F))
    (ok : ∀ e ∈ es, EntOk T K mg e) (gl : ∀ x d, T.gls.lookup x = some d → ∃ v u, mg x = some u ∧ RelV v u ∧ ∀ M H, Rep K M H d v) (bl : ∀ x ∈ blts, mg x = none) (gc : T.gcd = true → mg "gcd" = some (.builtin "math.gcd")) (cm : T.cmb = true → mg "combinations" = some (.type "itertools.combinations"))
    {j : Nat} {e : Ent} (hj : es[j]? = some e) (he : e.name = "law") (hp : e.ps = ([("script" : Str)] : List Str)) (hnp : e.F.np = 1) (hdv : e.F.dv = [])
    (hb : ∀ (kV doc pm : Value) (an : Option Addr) (cdv ct : Value) (us : List Value), us.length = 1 → bindArgs (PySem.W.fnOf e.name e.name (defArgs e.st) (defBody e.st) (defScope e.st) .none kV doc pm an cdv ct) ⟨us, []⟩ = pure (([("script" : Str)] : List Str).zip us))
    (xs : ∀ base : Heap, K.In base → base.Ns mainGlobals mg → ExF T P w K mg base) (k n : Nat) (hr : ∀ ns : List Int, ns.length ≤ n → ∃ fr outs, fullK T.fns k e.F [(.rol (ns.map D.int), .frz)] = .ok (.bl true) fr outs) :
    ∃ fd : FuncData, (∀ (s : Shared) (v : Value), BindsTo s fd ⟨[v], []⟩ [("script", v)]) ∧ ∀ base : Heap, K.In base → base.Ns mainGlobals mg → FnG P w K mg base (L2.CX P w) (k + 2) fa fd ["script"] (spL K n) := by
  obtain ⟨is, fa', fd, dvs, h2, h3, h4, h5⟩ := ok e (List.mem_of_getElem? hj)
  rw [he, hfa] at h2
  cases h2
  have hd0 : dvs = [] := by
    have := (h4 (fun _ => False) (fun _ => none)).length
    rw [hdv] at this
    exact List.eq_nil_of_length_eq_zero this.symm
  subst hd0
  refine ⟨fd, fun s v => ?_, fun base hK hG => ?_⟩
  · have := h3.bindsA (ps := ([("script" : Str)] : List Str)) hb s [v] rfl
    exact this
  · have hall := all_ok (P := P) (w := w) (base := base) es hn hf ok gl bl gc cm (xs base hK hG)
    cases k with
    | zero =>
      exfalso
      obtain ⟨fr, outs, e2⟩ := hr [] (Nat.zero_le _)
      simp [fullK] at e2
    | succ k =>
      have := def_ok (P := P) (w := w) (base := base) h3 is (hall k) gl bl gc cm (xs base hK hG)
      rw [hp] at this
      exact law_ok this rfl hnp hr
theorem CX_no {P : Program} {w : World} {H : Hp} {s : Shared} {e : Value} {s' : Shared} (h : L2.CX P w [] H s (fun _ _ _ => False) e s') : False := by
  obtain ⟨_, _, _, _, _, _, _, _, _, _, _, _, z⟩ := h
  exact z.elim
/-- a constant tuple of the top, item by item -/
inductive RVals (K : PySem.W.Frag) : List Value → List D → Prop
  | nil : RVals K [] []
  | cons {u : Value} {us : List Value} {d : D} {ds : List D} (v : V) (h : RelV v u) (r : ∀ M H, Rep K M H d v) (t : RVals K us ds) : RVals K (u :: us) (d :: ds)
theorem RVals.get {K : PySem.W.Frag} : ∀ {us : List Value} {ds : List D}, RVals K us ds → ∃ xs, Vals xs us ∧ ∀ M H, Reps K M H ds xs
  | _, _, .nil => ⟨[], .nil, fun _ _ => .nil⟩
  | _, _, .cons v h r t => by
    obtain ⟨xs, h1, h2⟩ := t.get
    exact ⟨v :: xs, .cons h h1, fun M H => .cons (r M H) (h2 M H)⟩
theorem rep_tupN {K : PySem.W.Frag} {t : Addr} {o : Obj} {ds : List D} {us : List Value} {n : Nat} (l : K.lookup t = some o) (hc : o.cls = .type "tuple") (hd : o.data = .seq us.toArray n) (hs : us.length ≤ 1000) (r : RVals K us ds) : ∀ M H, Rep K M H (.tup ds) (.ref t) := by
  obtain ⟨xs, h1, h2⟩ := r.get
  refine fun M H => .tup (.inr ⟨o, us.toArray, n, l, hc, hd, ?_, by simpa using h1⟩) (h2 M H)
  rw [List.size_toArray]
  exact Nat.le_trans hs (by decide)
end Z
namespace Z
open PySem
theorem lookup_ne {x y : Str} {v d : D} {l : List (Str × D)} (h : ¬ x = y) (hx : List.lookup x ((y, v) :: l) = some d) : List.lookup x l = some d := by
  rw [List.lookup_cons] at hx
  have : (x == y) = false := by simpa using h
  rw [this] at hx
  exact hx
theorem lookup_eq {x : Str} {v d : D} {l : List (Str × D)} (hx : List.lookup x ((x, v) :: l) = some d) : d = v := by
  rw [List.lookup_cons] at hx
  simp at hx
  exact hx.symm
end Z
namespace Z
open PySem PySem.Spec PyProof.Rows L2
def outOf (n : Nat) : Out Fl → CR
  | .ok (.rt d fr) env => .ok d fr ((env.take n).map fun s => s.getD (.non, .frz))
  | .ok .nx env => .ok .non false ((env.take n).map fun s => s.getD (.non, .frz))
  | .ex x env => .ex x ((env.take n).map fun s => s.getD (.non, .frz))
  | _ => .bad
theorem callK_fn {T : Nat → Option Fn} {k f : Nat} {F : Fn} {as : List (D × Mo)} (h : T f = some F) : callK T (k + 1) f as = runFull (callK T k) F (withDv F as) := by
  show (match T f with | some F => runFull (callK T k) F (withDv F as) | none => .bad) = _
  rw [h]
theorem runFull_eq {C : Cl} {F : Fn} {bs : List (D × Mo)} (h : bs.length = F.np) : runFull C F bs = outOf F.np (evSs C (pinOf bs) F.body (bs.map some ++ List.replicate (F.n - F.np) none)) := by
  unfold runFull
  rw [if_pos h]
  unfold outOf
  cases evSs C (pinOf bs) F.body (bs.map some ++ List.replicate (F.n - F.np) none) with
  | ok fl e => cases fl <;> rfl
  | ex x e => rfl
  | bad => rfl
theorem callK_un {T : Nat → Option Fn} {k f : Nat} {F : Fn} {as bs : List (D × Mo)} (h : T f = some F) (hb : withDv F as = bs) (hl : bs.length = F.np) : callK T (k + 1) f as = outOf F.np (evSs (callK T k) (pinOf bs) F.body (bs.map some ++ List.replicate (F.n - F.np) none)) := by
  rw [callK_fn h, hb, runFull_eq hl]
theorem szp (n : Nat) (h : n ≤ 1000000) : n ≤ sizeLine := by rw [sizeLine_eq]; omega
theorem szl (n : Nat) (h : n < 1000000) : n < sizeLine := by rw [sizeLine_eq]; omega
end Z
namespace Z
open PySem PySem.Spec PyProof.Rows L2
section
variable {C : Cl} {pin : Nat → Bool} {env e1 e2 e3 : En} {d d' : D} {fr fr' : Bool} {i j : Nat} {p q : Pr} {as : List IA} {l : List PV} {ds ds' : List D} {e a b c : IE} {es : List IE} {m : Mo} {v : D × Mo} {s : IS} {ss sa sb : List IS} {fl : Fl}
theorem x_lk {s : Sl} (h : env[i]? = some s) : env[i]? = some s := h
theorem x_st {s : Sl} (h : env.set i s = e1) : env.set i s = e1 := h
theorem x_varf (h : env[i]? = some (some (d, .frz))) : evE C (.var i) env = .ok (d, false) env := by
  simp only [evE, getV, h]
theorem x_varo (h : env[i]? = some (some (d, .own))) (h2 : env.set i (some (d, .frz)) = e1) : evE C (.var i) env = .ok (d, false) e1 := by
  subst h2
  simp only [evE, getV, h]
theorem x_cst : evE C (.cst d) env = .ok (d, false) env := by simp only [evE]
theorem x_op (h1 : evAs C as env = .ok l e1) (h2 : fill e1 l = some ds) (h3 : prB p ds = some (d, fr)) : evE C (.op p as) env = .ok (d, fr) e1 := by
  simp only [evE, h1, slx_ok, h2, h3, Out.bind_ok, lift_some]
theorem x_call {f : Nat} (h1 : evAs C as env = .ok l e1) (h2 : doCall C f l e1 = .ok (d, fr) e2) : evE C (.call f as) env = .ok (d, fr) e2 := by
  simp only [evE, h1, h2, Out.bind_ok]
theorem x_tup (h1 : evEs C es env = .ok ds e1) (h2 : ds.length ≤ sizeLine) : evE C (.tup es) env = .ok (.tup ds, false) e1 := by
  simp only [evE, h1, h2, Out.bind_ok, if_true]
theorem x_lst (h1 : evEs C es env = .ok ds e1) (h2 : ds.length ≤ sizeLine) : evE C (.lst es) env = .ok (.lst ds, true) e1 := by
  simp only [evE, h1, h2, Out.bind_ok, if_true]
theorem x_not {k : Bool} (h1 : evE C a env = .ok (.bl k, fr') e1) : evE C (.not a) env = .ok (.bl (!k), false) e1 := by
  simp only [evE, h1, Out.bind_ok]
theorem x_at (h : env[i]? = some (some v)) : evA C (.at i) env = .ok (.at i) env := by
  simp only [evA, peek, h]
theorem x_val (h : evE C e env = .ok (d, fr) e1) : evA C (.val e) env = .ok (.val d) e1 := by
  simp only [evA, h, Out.bind_ok]
theorem x_as0 : evAs C [] env = .ok [] env := by simp only [evAs]
theorem x_as {a : IA} {pv : PV} (h1 : evA C a env = .ok pv e1) (h2 : evAs C as e1 = .ok l e2) : evAs C (a :: as) env = .ok (pv :: l) e2 := by
  simp only [evAs, h1, h2, Out.bind_ok]
theorem x_es0 : evEs C [] env = .ok [] env := by simp only [evEs]
theorem x_es (h1 : evE C e env = .ok (d, fr) e1) (h2 : evEs C es e1 = .ok ds e2) : evEs C (e :: es) env = .ok (d :: ds) e2 := by
  simp only [evEs, h1, h2, Out.bind_ok]
theorem x_fill0 : fill env [] = some [] := rfl
theorem x_fillv (h : fill env l = some ds) : fill env (.val d :: l) = some (d :: ds) := by
  simp only [fill, fill1, h]
theorem x_filla (h0 : env[i]? = some (some (d, m))) (h : fill env l = some ds) : fill env (.at i :: l) = some (d :: ds) := by
  simp only [fill, fill1, h0, h]
theorem x_argv0 : argv env [] = some [] := rfl
theorem x_argvv {l' : List (D × Mo)} (h : argv env l = some l') : argv env (.val d :: l) = some ((d, .frz) :: l') := by
  simp only [argv, argv1, h]
theorem x_argva {l' : List (D × Mo)} (h0 : env[i]? = some (some (d, m))) (h : argv env l = some l') : argv env (.at i :: l) = some ((d, m) :: l') := by
  simp only [argv, argv1, h0, h]
theorem x_own0 : ownIx env [] = [] := rfl
theorem x_ownv (h : ownIx env l = []) : ownIx env (.val d :: l) = [] := h
theorem x_owna (h0 : env[i]? = some (some (d, .frz))) (h : ownIx env l = []) : ownIx env (.at i :: l) = [] := by
  simp only [ownIx, h0, h]
theorem wb_no {os : List (D × Mo)} : ∀ {l : List PV} {os : List (D × Mo)} {e : En}, ownIx env l = [] → wb env l os e = e
  | [], _, _, _ => by simp only [wb]
  | .val d :: l, [], _, h => by simp only [wb]
  | .val d :: l, o :: os, e, h => by
    simp only [wb]
    exact wb_no (os := os) h
  | .at i :: l, [], _, h => by simp only [wb]
  | .at i :: l, o :: os, e, h => by
    simp only [wb]
    simp only [ownIx] at h
    split at h
    · cases h
    · rename_i hx
      exact wb_no (os := os) h
theorem x_do0 {f : Nat} {l' os : List (D × Mo)} (h1 : ownIx env l = []) (h2 : argv env l = some l') (h3 : C f l' = .ok d fr os) : doCall C f l env = .ok (d, fr) env := by
  simp only [doCall, h1, h2, h3, List.nodup_nil, if_true]
  rw [wb_no (os := os) h1]
theorem x_do1 {f : Nat} {l' os : List (D × Mo)} {o : D × Mo} (h0 : env[i]? = some (some (d', .own))) (h1 : ownIx env l = []) (h2 : argv env l = some l') (h3 : C f ((d', .own) :: l') = .ok d fr (o :: os)) (h4 : env.set i (some o) = e1) : doCall C f (.at i :: l) env = .ok (d, fr) e1 := by
  subst h4
  simp only [doCall, ownIx, argv, argv1, wb, h0, h1, h2, h3, List.nodup_cons, List.nodup_nil, List.not_mem_nil, not_false_eq_true, and_self, if_true]
  rw [wb_no (os := os) h1]
theorem x_T {A : IA} {pv : PV} {k : Bool} (h1 : evA C A env = .ok pv e1) (h2 : fill1 e1 pv = some d) (h3 : truthy d = some k) : evT C (.val A) env = .ok k e1 := by
  simp only [evT, h1, h2, h3, Out.bind_ok, lift_some]
theorem x_Tnot {c : IT} {k k' : Bool} (h1 : evT C c env = .ok k e1) (h2 : (!k) = k') : evT C (.not c) env = .ok k' e1 := by
  subst h2
  simp only [evT, h1, Out.bind_ok]
theorem x_f1v : fill1 env (.val d) = some d := rfl
theorem x_f1a (h0 : env[i]? = some (some (d, m))) : fill1 env (.at i) = some d := by
  simp only [fill1, h0]
theorem x_tr {k : Bool} : truthy (.bl k) = some k := rfl
theorem x_rng {i j : Int} (h1 : evE C a env = .ok (.int i, fr) e1) (h2 : evE C b e1 = .ok (.int j, fr') e2) (h3 : -(2 ^ 62) ≤ i ∧ i < 2 ^ 62 ∧ -(2 ^ 62) ≤ j ∧ j < 2 ^ 62) : evI C (.range a b) env = .ok (rangeD i (j - i).toNat, none) e2 := by
  simp only [evI, h1, h2, Out.bind_ok]
  rw [if_pos h3]
def isLck : Sl → Bool
  | some (_, .lck) => true
  | _ => false
theorem k_n : isLck none = false := rfl
theorem k_f : isLck (some (d, .frz)) = false := rfl
theorem k_o : isLck (some (d, .own)) = false := rfl
theorem x_pin {bs : List (D × Mo)} (h : pinOf bs i = false) : pinOf bs i = false := h
theorem x_setf {s : Sl} (h0 : env[i]? = some s) (h1 : isLck s = false) (h2 : pin i = false) (h3 : env.set i (some (d, .frz)) = e1) : setS pin i d false env = .ok () e1 := by
  subst h3
  unfold setS
  rw [h0]
  match s, h1 with
  | none, _ => simp only [h2, if_false, Bool.false_eq_true]
  | some (_, .frz), _ => simp only [h2, if_false, Bool.false_eq_true]
  | some (_, .own), _ => simp only [h2, if_false, Bool.false_eq_true]
theorem x_sett {s : Sl} (h0 : env[i]? = some s) (h1 : isLck s = false) (h2 : pin i = false) (h3 : env.set i (some (d, .own)) = e1) : setS pin i d true env = .ok () e1 := by
  subst h3
  unfold setS
  rw [h0]
  match s, h1 with
  | none, _ => simp only [h2, if_false, if_true, Bool.false_eq_true]
  | some (_, .frz), _ => simp only [h2, if_false, if_true, Bool.false_eq_true]
  | some (_, .own), _ => simp only [h2, if_false, if_true, Bool.false_eq_true]
theorem x_all0 : setAll pin [] [] env = .ok () env := rfl
theorem x_all {is : List Nat} (h1 : setS pin i d false env = .ok () e1) (h2 : setAll pin is ds e1 = .ok () e2) : setAll pin (i :: is) (d :: ds) env = .ok () e2 := by
  simp only [setAll, h1, h2, Out.bind_ok]
theorem x_set (h1 : evE C e env = .ok (d, fr) e1) (h2 : setS pin i d fr e1 = .ok () e2) : evS C pin (.set i e) env = .ok .nx e2 := by
  simp only [evS, h1, h2, Out.bind_ok]
theorem x_unp {is : List Nat} (h1 : evE C e env = .ok (.tup ds, fr) e1) (h2 : setAll pin is ds e1 = .ok () e2) : evS C pin (.unp is e) env = .ok .nx e2 := by
  simp only [evS, h1, setG, h2, Out.bind_ok]
theorem x_par {is : List Nat} (h1 : evEs C es env = .ok ds e1) (h2 : setAll pin is ds e1 = .ok () e2) : evS C pin (.par is es) env = .ok .nx e2 := by
  simp only [evS, h1, h2, Out.bind_ok]
theorem x_setix {k w : IE} {n : Nat} {j : Int} {v : D × Mo} (h1 : evE C w env = .ok (d, fr) e1) (h2 : e1[i]? = some (some v)) (h3 : evE C k e1 = .ok (.int j, fr') e2) (h4 : e2[i]? = some (some (.lst ds, .own))) (h5 : ixN ds.length j = some n) (h6 : e2.set i (some (.lst (ds.set n d), .own)) = e3) : evS C pin (.setix i k w) env = .ok .nx e3 := by
  subst h6
  simp only [evS, h1, peek, h2, h3, h4, h5, Out.bind_ok]
theorem x_app (h0 : env[i]? = some (some (.lst ds', m))) (h1 : evE C e env = .ok (d, fr) e1) (h2 : e1[i]? = some (some (.lst ds, .own))) (h3 : ds.length < sizeLine) (h4 : e1.set i (some (.lst (ds ++ [d]), .own)) = e2) : evS C pin (.app i e) env = .ok .nx e2 := by
  subst h4
  simp only [evS, h0, h1, h2, h3, Out.bind_ok, if_true]
theorem x_ret (h1 : evE C e env = .ok (d, fr) e1) : evS C pin (.ret e) env = .ok (.rt d fr) e1 := by
  simp only [evS, h1, Out.bind_ok]
theorem x_retvo (h : env[i]? = some (some (d, .own))) (hp : pin i = false) (h4 : env.set i none = e1) : evS C pin (.retv i) env = .ok (.rt d true) e1 := by
  subst h4
  simp only [evS, h, hp, if_false, Bool.false_eq_true]
theorem x_retvf (h : env[i]? = some (some (d, .frz))) : evS C pin (.retv i) env = .ok (.rt d false) env := by
  simp only [evS, h]
theorem x_ss0 : evSs C pin [] env = .ok .nx env := by simp only [evSs]
theorem x_ss (h1 : evS C pin s env = .ok .nx e1) (h2 : evSs C pin ss e1 = .ok fl e2) : evSs C pin (s :: ss) env = .ok fl e2 := by
  simp only [evSs, h1, h2, Out.bind_ok]
theorem x_stop (h1 : evS C pin s env = .ok (.rt d fr) e1) : evSs C pin (s :: ss) env = .ok (.rt d fr) e1 := by
  simp only [evSs, h1, Out.bind_ok]
theorem x_fn {T : Nat → Option Fn} {k f np n : Nat} {dv : List D} {body : List IS} {as bs outs : List (D × Mo)} (h : T f = some ⟨np, dv, n, body⟩) (hb : withDv ⟨np, dv, n, body⟩ as = bs) (hl : bs.length = np) (he : bs.map some ++ List.replicate (n - np) none = env) (h1 : evSs (callK T k) (pinOf bs) body env = .ok (.rt d fr) e1) (ho : (e1.take np).map (fun s => s.getD (.non, .frz)) = outs) : callK T (k + 1) f as = .ok d fr outs := by
  subst ho
  subst he
  rw [callK_un h hb hl, h1]
  rfl
theorem q_add {i j : Int} : prB .add [.int i, .int j] = some (.int (i + j), false) := rfl
theorem q_sub {i j : Int} : prB .sub [.int i, .int j] = some (.int (i - j), false) := rfl
theorem q_neg {i : Int} : prB .neg [.int i] = some (.int (-i), false) := rfl
theorem q_gcd {i j : Int} : prB .gcd [.int i, .int j] = some (.int ((Nat.gcd i.natAbs j.natAbs : Nat) : Int), false) := rfl
theorem q_int {i : Int} : prB .int [.int i] = some (.int i, false) := rfl
theorem q_abs {i : Int} : prB .abs [.int i] = some (.int (if i < 0 then -i else i), false) := rfl
theorem q_lt {i j : Int} : prB .lt [.int i, .int j] = some (.bl (decide (i < j)), false) := rfl
theorem q_le {i j : Int} : prB .le [.int i, .int j] = some (.bl (decide (i ≤ j)), false) := rfl
theorem q_gt {i j : Int} : prB .gt [.int i, .int j] = some (.bl (decide (j < i)), false) := rfl
theorem q_ge {i j : Int} : prB .ge [.int i, .int j] = some (.bl (decide (j ≤ i)), false) := rfl
theorem eqv_int (i j : Int) : D.eqv (.int i) (.int j) = decide (i = j) := by
  unfold D.eqv toP
  simp only [PyData.eqv]
  by_cases h : i = j <;> simp [h]
theorem eqv_bl (i j : Bool) : D.eqv (.bl i) (.bl j) = (i == j) := by
  unfold D.eqv toP
  cases i <;> cases j <;> rfl
theorem q_eq {i j : Int} : prB .eq [.int i, .int j] = some (.bl (decide (i = j)), false) := by
  rw [← eqv_int]
  rfl
theorem q_ne {i j : Int} : prB .ne [.int i, .int j] = some (.bl (!decide (i = j)), false) := by
  rw [← eqv_int]
  rfl
/-- a factor of a multiplication that is small enough -/
def Sm (i : Int) : Prop := i.natAbs < 2 ^ 64
theorem q_mul {i j : Int} (h : CMulZ i j) : prB .mul [.int i, .int j] = some (.int (i * j), false) := by
  show (if _ then _ else _) = _
  exact if_pos h
theorem q_fdiv {i j : Int} (h : 0 < j) (h2 : Sm j) : prB .fdiv [.int i, .int j] = some (.int (i / j), false) := by
  have h3 : j.natAbs.log2 < 9000 := by
    have := (Nat.log2_lt (n := j.natAbs) (k := 64) (by omega)).2 h2
    omega
  exact if_pos ⟨h, h3⟩
theorem q_mod {i j : Int} (h : 0 < j) : prB .mod [.int i, .int j] = some (.int (i % j), false) := by
  show (if _ then _ else _) = _
  rw [if_pos h]
theorem q_pow {i j : Int} (h : 0 ≤ j ∧ j ≤ 1000000 ∧ i.natAbs < 2 ^ 64) : prB .pow [.int i, .int j] = some (.int (i ^ j.toNat), false) := by
  show (if _ then _ else _) = _
  rw [if_pos h]
theorem q_ixt {i : Int} (h : atI ds i = some d) : prB .ix [.tup ds, .int i] = some (d, false) := by
  show (atI ds i).map _ = _
  rw [h]
  rfl
theorem q_ixl {i : Int} (h : atI ds i = some d) : prB .ix [.lst ds, .int i] = some (d, false) := by
  show (atI ds i).map _ = _
  rw [h]
  rfl
theorem q_ixr {i : Int} (h : atI ds i = some d) : prB .ix [.rol ds, .int i] = some (d, false) := by
  show (atI ds i).map _ = _
  rw [h]
  rfl
theorem q_lenl : prB .len [.lst ds] = some (.int ds.length, false) := rfl
theorem q_lent : prB .len [.tup ds] = some (.int ds.length, false) := rfl
theorem q_lenr : prB .len [.rol ds] = some (.int ds.length, false) := rfl
theorem q_isi {T : Ty5} {k : Bool} (h : isiD d T = some k) : prB (.isi T) [d] = some (.bl k, false) := by
  show (isiD d T).map _ = _
  rw [h]
  rfl
theorem at_ix0 : atI (d :: ds) 0 = some d := by
  simp [atI, ixN]
theorem at_ix1 {x : D} : atI (x :: d :: ds) 1 = some d := by
  simp [atI, ixN]
  rw [if_pos (by omega)]
  rfl
end
end Z
namespace Z
open PySem PySem.Spec PyProof.Rows L2
def bl (n : Nat) : Nat := if n = 0 then 0 else n.log2 + 1
theorem bl_le {n k : Nat} : bl n ≤ k ↔ n < 2 ^ k := by
  unfold bl
  split
  · rename_i h
    subst h
    exact ⟨fun _ => Nat.two_pow_pos k, fun _ => Nat.zero_le _⟩
  · rename_i h
    rw [← Nat.log2_lt h]
    omega
theorem lt_bl (n : Nat) : n < 2 ^ bl n := bl_le.mp (Nat.le_refl _)
theorem bl_mono {m n : Nat} (h : m ≤ n) : bl m ≤ bl n := bl_le.mpr (Nat.lt_of_le_of_lt h (lt_bl n))
theorem bl_mul (m n : Nat) : bl (m * n) ≤ bl m + bl n := by
  rw [bl_le, Nat.pow_add]
  exact Nat.mul_lt_mul'' (lt_bl m) (lt_bl n)
theorem bl_add {m n k : Nat} (h1 : bl m ≤ k) (h2 : bl n ≤ k) : bl (m + n) ≤ k + 1 := by
  rw [bl_le] at *
  rw [Nat.pow_succ]
  omega
def bi (i : Int) : Nat := bl i.natAbs
theorem bi_neg (i : Int) : bi (-i) = bi i := by unfold bi; rw [Int.natAbs_neg]
theorem bi_abs (i : Int) : bi (if i < 0 then -i else i) = bi i := by split <;> simp [bi_neg]
theorem bi_mul (i j : Int) : bi (i * j) ≤ bi i + bi j := by
  unfold bi
  rw [Int.natAbs_mul]
  exact bl_mul _ _
theorem bi_add {i j : Int} {k : Nat} (h1 : bi i ≤ k) (h2 : bi j ≤ k) : bi (i + j) ≤ k + 1 := Nat.le_trans (bl_mono (Int.natAbs_add_le i j)) (bl_add h1 h2)
theorem bi_sub {i j : Int} {k : Nat} (h1 : bi i ≤ k) (h2 : bi j ≤ k) : bi (i - j) ≤ k + 1 := by
  rw [Int.sub_eq_add_neg]
  exact bi_add h1 (by rw [bi_neg]; exact h2)
theorem bi_le {i : Int} {k : Nat} (h1 : -(2 ^ k) < i) (h2 : i < 2 ^ k) : bi i ≤ k := by
  unfold bi
  rw [bl_le]
  have : ((i.natAbs : Nat) : Int) < ((2 ^ k : Nat) : Int) := by
    rw [Int.natCast_pow]
    show _ < (2 : Int) ^ k
    omega
  omega
theorem CMulZ.bits {i j : Int} (h : bi i + bi j ≤ 1000000) : CMulZ i j := by
  refine .inr (.inr ?_)
  unfold bi bl at h
  have e0 : Nat.log2 0 = 0 := by decide
  split at h <;> split at h <;> simp_all <;> omega
theorem CMulZ.left {i j : Int} (h : bi i ≤ 64) : CMulZ i j := .inl (bl_le.mp h)
theorem CMulZ.right {i j : Int} (h : bi j ≤ 64) : CMulZ i j := .inr (.inl (bl_le.mp h))
theorem log2_of_bi {j : Int} (h : bi j ≤ 8000) : j.natAbs.log2 < 9000 := by
  unfold bi bl at h
  split at h
  · rename_i q; rw [q]; decide
  · omega
def sz (q : Rat) : Nat := max (bi q.num) (bl q.den)
theorem sz_num (q : Rat) : bi q.num ≤ sz q := Nat.le_max_left _ _
theorem sz_den (q : Rat) : bi (q.den : Int) ≤ sz q := Nat.le_max_right _ _
theorem natAbs_sign_mul (a b : Int) (h : b ≠ 0) : (b.sign * a).natAbs = a.natAbs := by
  rw [Int.natAbs_mul, Int.natAbs_sign_of_ne_zero h, Nat.one_mul]
theorem sz_divInt {a b : Int} {k : Nat} (hb0 : b ≠ 0) (ha : bi a ≤ k) (hb : bi b ≤ k) : sz (Rat.divInt a b) ≤ k := by
  unfold sz
  rw [Rat.num_divInt, Rat.den_divInt, if_neg hb0]
  refine Nat.max_le.mpr ⟨?_, ?_⟩
  · refine Nat.le_trans (bl_mono ?_) ha
    refine Nat.le_trans (Int.natAbs_ediv_le_natAbs _ _) ?_
    rw [natAbs_sign_mul a b hb0]
    exact Nat.le_refl _
  · exact Nat.le_trans (bl_mono (Nat.div_le_self _ _)) hb
theorem den_ne (q : Rat) : (q.den : Int) ≠ 0 := by
  have := q.den_nz
  omega
theorem den_pos (q : Rat) : 0 < (q.den : Int) := by
  have := q.den_pos
  omega
theorem mul_den_ne (p q : Rat) : (p.den : Int) * q.den ≠ 0 := Int.mul_ne_zero (den_ne p) (den_ne q)
theorem add_divInt (p q : Rat) : p + q = Rat.divInt (p.num * q.den + q.num * p.den) (p.den * q.den) := by
  rw [Rat.add_def', ← Rat.divInt_ofNat]
  rfl
theorem sub_divInt (p q : Rat) : p - q = Rat.divInt (p.num * q.den - q.num * p.den) (p.den * q.den) := by
  rw [Rat.sub_def', ← Rat.divInt_ofNat]
  rfl
theorem mul_divInt (p q : Rat) : p * q = Rat.divInt (p.num * q.num) (p.den * q.den) := by
  rw [Rat.mul_def', ← Rat.divInt_ofNat]
  rfl
theorem div_divInt (p q : Rat) : p / q = Rat.divInt (p.num * q.den) (p.den * q.num) := by
  rw [Rat.div_def, Rat.inv_def]
  conv => lhs; rw [← Rat.num_divInt_den p]
  rw [Rat.divInt_mul_divInt]
theorem sz_add (p q : Rat) : sz (p + q) ≤ sz p + sz q + 1 := by
  rw [add_divInt]
  have h1 := sz_num p
  have h2 := sz_den p
  have h3 := sz_num q
  have h4 := sz_den q
  have e1 := bi_mul p.num q.den
  have e2 := bi_mul q.num p.den
  have e3 := bi_mul p.den q.den
  exact sz_divInt (mul_den_ne p q) (bi_add (by omega) (by omega)) (by omega)
theorem sz_sub (p q : Rat) : sz (p - q) ≤ sz p + sz q + 1 := by
  rw [sub_divInt]
  have h1 := sz_num p
  have h2 := sz_den p
  have h3 := sz_num q
  have h4 := sz_den q
  have e1 := bi_mul p.num q.den
  have e2 := bi_mul q.num p.den
  have e3 := bi_mul p.den q.den
  exact sz_divInt (mul_den_ne p q) (bi_sub (by omega) (by omega)) (by omega)
theorem sz_mul (p q : Rat) : sz (p * q) ≤ sz p + sz q := by
  rw [mul_divInt]
  have h1 := sz_num p
  have h2 := sz_den p
  have h3 := sz_num q
  have h4 := sz_den q
  have e1 := bi_mul p.num q.num
  have e3 := bi_mul p.den q.den
  exact sz_divInt (mul_den_ne p q) (by omega) (by omega)
theorem num_ne {q : Rat} (h : q ≠ 0) : q.num ≠ 0 := fun e => h (Rat.num_eq_zero.mp e)
theorem sz_div {p q : Rat} (h : q ≠ 0) : sz (p / q) ≤ sz p + sz q := by
  rw [div_divInt]
  have h1 := sz_num p
  have h2 := sz_den p
  have h3 := sz_num q
  have h4 := sz_den q
  have e1 := bi_mul p.num q.den
  have e3 := bi_mul p.den q.num
  exact sz_divInt (Int.mul_ne_zero (den_ne p) (num_ne h)) (by omega) (by omega)
theorem sz_neg (p : Rat) : sz (-p) = sz p := by
  unfold sz
  rw [Rat.neg_num, Rat.neg_den, bi_neg]
def fr (q : Rat) : D := .tup [.int q.num, .int (q.den : Int)]
abbrev gz (a b : Int) : Int := ((Nat.gcd a.natAbs b.natAbs : Nat) : Int)
theorem gz_pos {a b : Int} (h : b ≠ 0) : 0 < gz a b := by
  have : 0 < Nat.gcd a.natAbs b.natAbs := Nat.gcd_pos_of_pos_right _ (by omega)
  unfold gz
  omega
theorem gz_le {a b : Int} (h : b ≠ 0) : gz a b ≤ b.natAbs := by
  have := Nat.gcd_le_right a.natAbs (n := b.natAbs) (by omega)
  unfold gz
  omega
theorem bi_gz {a b : Int} (h : b ≠ 0) : bi (gz a b) ≤ bi b := by
  refine bl_mono ?_
  have := gz_le (a := a) h
  have h2 : (gz a b).natAbs = Nat.gcd a.natAbs b.natAbs := rfl
  unfold gz at this
  omega
theorem fr_divInt (n d : Int) (h : 0 < d) : D.tup [.int (n / gz n d), .int (d / gz n d)] = fr (Rat.divInt n d) := by
  unfold fr
  rw [Rat.num_divInt, Rat.den_divInt, if_neg (by omega), Int.sign_eq_one_of_pos h, Int.one_mul]
  have e1 : gz n d = ((Int.gcd d n : Nat) : Int) := by
    unfold gz Int.gcd
    rw [Nat.gcd_comm]
  rw [e1, Int.natCast_ediv]
  have e2 : ((d.natAbs : Nat) : Int) = d := by omega
  rw [e2]
theorem fr_divInt_neg (n d : Int) (h : d < 0) : D.tup [.int (-n / gz (-n) (-d)), .int (-d / gz (-n) (-d))] = fr (Rat.divInt n d) := by
  rw [fr_divInt (-n) (-d) (by omega), Rat.neg_divInt_neg]
theorem q_f0 {q : Rat} : prB .ix [fr q, .int 0] = some (.int q.num, false) := q_ixt at_ix0
theorem q_f1 {q : Rat} : prB .ix [fr q, .int 1] = some (.int (q.den : Int), false) := q_ixt at_ix1
theorem eqv_fr (p q : Rat) : (fr p).eqv (fr q) = decide (p = q) := by
  have e : (fr p).eqv (fr q) = (decide (p.num = q.num) && decide ((p.den : Int) = q.den)) := by
    unfold D.eqv fr toP
    simp only [toPs, toP, PyData.eqv, PyData.eqvAll, Bool.and_true]
    congr 1 <;> (rw [Bool.eq_iff_iff]; simp)
  rw [e, Bool.eq_iff_iff]
  simp only [Bool.and_eq_true, decide_eq_true_eq]
  refine ⟨fun ⟨h1, h2⟩ => Rat.ext h1 (by omega), fun h => by rw [h]; exact ⟨rfl, rfl⟩⟩
theorem q_eqf {p q : Rat} : prB .eq [fr p, fr q] = some (.bl (decide (p = q)), false) := by rw [← eqv_fr]; rfl
theorem q_nef {p q : Rat} : prB .ne [fr p, fr q] = some (.bl (!decide (p = q)), false) := by rw [← eqv_fr]; rfl
def eu : Nat → Nat → Nat → Nat × Nat
  | 0, a, b => (a, b)
  | n + 1, a, b => if 0 < b then eu n b (a % b) else eu n a b
theorem eu_zero : ∀ n a, eu n a 0 = (a, 0)
  | 0, _ => rfl
  | n + 1, a => by simp only [eu, Nat.lt_irrefl, if_false]; exact eu_zero n a
theorem eu_gcd : ∀ (m a b n : Nat), b < 2 ^ m → 2 * m ≤ n → eu n a b = (Nat.gcd a b, 0)
  | 0, a, b, n, h, _ => by
    have : b = 0 := by simpa using h
    subst this
    rw [eu_zero, Nat.gcd_zero_right]
  | m + 1, a, b, n, h, hn => by
    obtain ⟨n, rfl⟩ : ∃ k, n = k + 2 := ⟨n - 2, by omega⟩
    by_cases hb : 0 < b
    · by_cases hc : 0 < a % b
      · have h1 : b % (a % b) < a % b := Nat.mod_lt _ hc
        have h2 : a % b < b := Nat.mod_lt _ hb
        have h3 : b % (a % b) + (a % b) ≤ b := by
          have e := Nat.div_add_mod b (a % b)
          have : 1 ≤ b / (a % b) := (Nat.one_le_div_iff hc).mpr (by omega)
          have : a % b * 1 ≤ a % b * (b / (a % b)) := Nat.mul_le_mul_left _ this
          omega
        have h4 : b % (a % b) < 2 ^ m := by rw [Nat.pow_succ] at h; omega
        simp only [eu, hb, hc, if_true]
        rw [eu_gcd m _ _ n h4 (by omega), Nat.gcd_comm, ← Nat.gcd_rec, ← Nat.gcd_rec, Nat.gcd_comm]
      · have h0 : a % b = 0 := by omega
        have e1 : eu (n + 2) a b = eu (n + 1) b 0 := by
          rw [show n + 2 = (n + 1) + 1 from rfl, eu, if_pos hb, h0]
        rw [e1, eu_zero, Nat.gcd_comm, Nat.gcd_rec, h0, Nat.gcd_zero_left]
    · have : b = 0 := by omega
      subst this
      rw [eu_zero, Nat.gcd_zero_right]
end Z
namespace Z
open PySem PySem.Spec PyProof.Rows L2
def Ret (C : Cl) (f : Nat) (as : List (D × Mo)) (d : D) (fr : Bool) : Prop := ∃ outs, C f as = .ok d fr outs
def RetB (C : Cl) (f : Nat) (a : D) (as : List (D × Mo)) (d : D) (fr : Bool) (b : D) : Prop := ∃ outs, C f ((a, .own) :: as) = .ok d fr ((b, .own) :: outs)
section
variable {C : Cl} {pin : Nat → Bool} {env e1 e2 e3 : En} {d d' d2 : D} {fr fr' : Bool} {i j : Nat} {as : List IA} {l : List PV} {ds ds' : List D} {s : IS} {ss sa sb : List IS} {fl : Fl} {f : Nat} {l' : List (D × Mo)}
theorem y_do0 (h1 : ownIx env l = []) (h2 : argv env l = some l') (h3 : Ret C f l' d fr) : doCall C f l env = .ok (d, fr) env := by
  obtain ⟨outs, h3⟩ := h3
  exact x_do0 h1 h2 h3
theorem y_do1 (h0 : env[i]? = some (some (d', .own))) (h1 : ownIx env l = []) (h2 : argv env l = some l') (h3 : RetB C f d' l' d fr d2) (h4 : env.set i (some (d2, .own)) = e1) : doCall C f (.at i :: l) env = .ok (d, fr) e1 := by
  obtain ⟨outs, h3⟩ := h3
  exact x_do1 h0 h1 h2 h3 h4
theorem y_fn {T : Nat → Option Fn} {k f np n : Nat} {dv : List D} {body : List IS} {as bs : List (D × Mo)} (h : T f = some ⟨np, dv, n, body⟩) (hb : withDv ⟨np, dv, n, body⟩ as = bs) (hl : bs.length = np) (he : bs.map some ++ List.replicate (n - np) none = env) (h1 : evSs (callK T k) (pinOf bs) body env = .ok (.rt d' fr) e1) (hd : d' = d) : Ret (callK T (k + 1)) f as d fr := by
  subst hd
  exact ⟨_, x_fn h hb hl he h1 rfl⟩
theorem y_fnB {T : Nat → Option Fn} {k f np n : Nat} {dv : List D} {body : List IS} {a b : D} {as bs : List (D × Mo)} (h : T f = some ⟨np, dv, n, body⟩) (hb : withDv ⟨np, dv, n, body⟩ ((a, .own) :: as) = bs) (hl : bs.length = np) (h0 : 0 < np) (he : bs.map some ++ List.replicate (n - np) none = env) (h1 : evSs (callK T k) (pinOf bs) body env = .ok (.rt d' fr) e1) (ho : e1[0]? = some (some (b, .own))) (hd : d' = d) : RetB (callK T (k + 1)) f a as d fr b := by
  subst hd
  refine ⟨((e1.drop 1).take (np - 1)).map (fun s => s.getD (.non, .frz)), x_fn h hb hl he h1 ?_⟩
  match e1, ho with
  | x :: xs, ho =>
    obtain ⟨np', rfl⟩ : ∃ k, np = k + 1 := ⟨np - 1, by omega⟩
    simp only [List.getElem?_cons_zero, Option.some.injEq] at ho
    subst ho
    rfl
def nones : Nat → En
  | 0 => []
  | n + 1 => none :: nones n
def mkEnv : List (D × Mo) → Nat → En
  | [], n => nones n
  | a :: as, n => some a :: mkEnv as n
theorem nones_eq : ∀ n, nones n = List.replicate n none
  | 0 => rfl
  | n + 1 => by rw [nones, nones_eq n]; rfl
theorem mkEnv_eq : ∀ (as : List (D × Mo)) (n : Nat), mkEnv as n = as.map some ++ List.replicate n none
  | [], n => nones_eq n
  | a :: as, n => by rw [mkEnv, mkEnv_eq as n]; rfl
theorem withDv0 {np n : Nat} {body : List IS} {as : List (D × Mo)} : withDv ⟨np, [], n, body⟩ as = as := by
  unfold withDv
  simp
theorem x_mk {as : List (D × Mo)} {n : Nat} (h : mkEnv as n = env) : mkEnv as n = env := h
theorem z_fn {T : Nat → Option Fn} {k f np n : Nat} {body : List IS} {as : List (D × Mo)} (h : T f = some ⟨np, [], n, body⟩) (hl : as.length = np) (he : mkEnv as (n - np) = env) (h1 : evSs (callK T k) (pinOf as) body env = .ok (.rt d' fr) e1) (hd : d' = d) : Ret (callK T (k + 1)) f as d fr :=
  y_fn h withDv0 hl (by rw [← mkEnv_eq]; exact he) h1 hd
theorem z_fnB {T : Nat → Option Fn} {k f np n : Nat} {body : List IS} {a b : D} {as : List (D × Mo)} (h : T f = some ⟨np, [], n, body⟩) (hl : ((a, Mo.own) :: as).length = np) (he : mkEnv ((a, .own) :: as) (n - np) = env) (h1 : evSs (callK T k) (pinOf ((a, .own) :: as)) body env = .ok (.rt d' fr) e1) (ho : e1[0]? = some (some (b, .own))) (hd : d' = d) : RetB (callK T (k + 1)) f a as d fr b :=
  y_fnB h withDv0 hl (by rw [← hl]; simp) (by rw [← mkEnv_eq]; exact he) h1 ho hd
/-- a def that comes to its end -/
theorem y_fnN {T : Nat → Option Fn} {k f np n : Nat} {dv : List D} {body : List IS} {as bs : List (D × Mo)} (h : T f = some ⟨np, dv, n, body⟩) (hb : withDv ⟨np, dv, n, body⟩ as = bs) (hl : bs.length = np) (he : bs.map some ++ List.replicate (n - np) none = env) (h1 : evSs (callK T k) (pinOf bs) body env = .ok .nx e1) : Ret (callK T (k + 1)) f as .non false :=
  ⟨_, by rw [callK_un h hb hl, he, h1]; rfl⟩
theorem x_ct (h1 : evS C pin s env = .ok .ct e1) : evSs C pin (s :: ss) env = .ok .ct e1 := by
  simp only [evSs, h1, Out.bind_ok]
theorem x_cont : evS C pin .cont env = .ok .ct env := by simp only [evS]
theorem x_pass : evS C pin .pass env = .ok .nx env := by simp only [evS]
theorem x_ss_set {e : IE} (h1 : evS C pin (.set i e) env = .ok .nx e1) (h2 : evSs C pin ss e1 = .ok fl e2) : evSs C pin (.set i e :: ss) env = .ok fl e2 := x_ss h1 h2
theorem x_ss_unp {e : IE} {is : List Nat} (h1 : evS C pin (.unp is e) env = .ok .nx e1) (h2 : evSs C pin ss e1 = .ok fl e2) : evSs C pin (.unp is e :: ss) env = .ok fl e2 := x_ss h1 h2
theorem x_ss_par {es : List IE} {is : List Nat} (h1 : evS C pin (.par is es) env = .ok .nx e1) (h2 : evSs C pin ss e1 = .ok fl e2) : evSs C pin (.par is es :: ss) env = .ok fl e2 := x_ss h1 h2
theorem x_ss_app {e : IE} (h1 : evS C pin (.app i e) env = .ok .nx e1) (h2 : evSs C pin ss e1 = .ok fl e2) : evSs C pin (.app i e :: ss) env = .ok fl e2 := x_ss h1 h2
theorem x_ss_setix {e e' : IE} (h1 : evS C pin (.setix i e e') env = .ok .nx e1) (h2 : evSs C pin ss e1 = .ok fl e2) : evSs C pin (.setix i e e' :: ss) env = .ok fl e2 := x_ss h1 h2
theorem evSs_append : ∀ (sa ss : List IS) (env : En), evSs C pin (sa ++ ss) env = (evSs C pin sa env).bind fun fl env => match fl with
    | .nx => evSs C pin ss env
    | .bk => .ok Fl.bk env
    | .ct => .ok Fl.ct env
    | .rt d fr => .ok (Fl.rt d fr) env
  | [], ss, env => by simp only [evSs, List.nil_append, Out.bind_ok]
  | s :: sa, ss, env => by
    simp only [evSs, List.cons_append]
    cases evS C pin s env with
    | bad => rfl
    | ex => rfl
    | ok fl e =>
      cases fl with
      | nx => exact evSs_append sa ss e
      | bk => rfl
      | ct => rfl
      | rt => rfl
theorem x_ite {c : IT} {k : Bool} {st : List IS} (h1 : evT C c env = .ok k e1) (h2 : cond k sa sb ++ ss = st) (h3 : evSs C pin st e1 = .ok fl e2) : evSs C pin (.ife c sa sb :: ss) env = .ok fl e2 := by
  subst h2
  rw [evSs_append] at h3
  simp only [evSs, evS, h1, Out.bind_ok]
  cases k <;> exact h3
theorem x_c_t {k : Bool} {st : List IS} (h : k = true) (h2 : sa ++ ss = st) : cond k sa sb ++ ss = st := by
  subst h
  exact h2
theorem x_c_f {k : Bool} {st : List IS} (h : k = false) (h2 : sb ++ ss = st) : cond k sa sb ++ ss = st := by
  subst h
  exact h2
theorem x_cnil : ([] : List IS) ++ ss = ss := rfl
theorem x_ccons {st : List IS} (h : sa ++ ss = st) : (s :: sa) ++ ss = s :: st := by rw [← h]; rfl
theorem x_ifE {c : IT} {k : Bool} {a b e' : IE} (h1 : evT C c env = .ok k e1) (h2 : cond k a b = e') (h3 : evE C e' e1 = .ok (d, fr) e2) : evE C (.ife c a b) env = .ok (d, fr) e2 := by
  subst h2
  simp only [evE, h1, Out.bind_ok]
  cases k <;> exact h3
theorem x_cE_t {k : Bool} {a b : IE} (h : k = true) : cond k a b = a := by rw [h]; rfl
theorem x_cE_f {k : Bool} {a b : IE} (h : k = false) : cond k a b = b := by rw [h]; rfl
theorem x_notT {c : IT} {k : Bool} (h1 : evT C c env = .ok k e1) : evT C (.not c) env = .ok (!k) e1 := x_Tnot h1 rfl
theorem ix_0 {n : Nat} : ixN (n + 1) 0 = some 0 := by unfold ixN; rw [if_pos (by omega), if_pos (by omega)]; rfl
theorem ix_1 {n : Nat} : ixN (n + 2) 1 = some 1 := by unfold ixN; rw [if_pos (by omega), if_pos (by omega)]; rfl
theorem ix_l0 {x : D} {xs : List D} : ixN (x :: xs).length 0 = some 0 := ix_0
theorem ix_l1 {x y : D} {xs : List D} : ixN (x :: y :: xs).length 1 = some 1 := ix_1
theorem x_retn : evS C pin .retn env = .ok (.rt .non false) env := by simp only [evS]
end
end Z
namespace Z
open PySem PySem.Spec PyProof.Rows L2
theorem CMulZ.bb {i j : Int} {m n : Nat} (h1 : bi i ≤ m) (h2 : bi j ≤ n) (h : m + n ≤ 1000000) : CMulZ i j := .bits (by omega)
theorem bb_mul {i j : Int} {m n : Nat} (h1 : bi i ≤ m) (h2 : bi j ≤ n) : bi (i * j) ≤ m + n := by have := bi_mul i j; omega
theorem bb_add {i j : Int} {m n : Nat} (h1 : bi i ≤ m) (h2 : bi j ≤ n) : bi (i + j) ≤ (m + n) + 1 := bi_add (by omega) (by omega)
theorem bb_sub {i j : Int} {m n : Nat} (h1 : bi i ≤ m) (h2 : bi j ≤ n) : bi (i - j) ≤ (m + n) + 1 := bi_sub (by omega) (by omega)
theorem bb_neg {i : Int} {m : Nat} (h1 : bi i ≤ m) : bi (-i) ≤ m := by rw [bi_neg]; exact h1
theorem bb_abs {i : Int} {m : Nat} (h1 : bi i ≤ m) : bi (if i < 0 then -i else i) ≤ m := by rw [bi_abs]; exact h1
theorem bb_num {q : Rat} {m : Nat} (h1 : sz q ≤ m) : bi q.num ≤ m := Nat.le_trans (sz_num q) h1
theorem bb_den {q : Rat} {m : Nat} (h1 : sz q ≤ m) : bi (q.den : Int) ≤ m := Nat.le_trans (sz_den q) h1
theorem bb_lit {i : Int} (h : -(2 ^ 64) < i) (h2 : i < 2 ^ 64) : bi i ≤ 64 := bi_le h h2
theorem ss_add {p q : Rat} {m n : Nat} (h1 : sz p ≤ m) (h2 : sz q ≤ n) : sz (p + q) ≤ m + n + 1 := by have := sz_add p q; omega
theorem ss_sub {p q : Rat} {m n : Nat} (h1 : sz p ≤ m) (h2 : sz q ≤ n) : sz (p - q) ≤ m + n + 1 := by have := sz_sub p q; omega
theorem ss_mul {p q : Rat} {m n : Nat} (h1 : sz p ≤ m) (h2 : sz q ≤ n) : sz (p * q) ≤ m + n := by have := sz_mul p q; omega
theorem ss_neg {p : Rat} {m : Nat} (h1 : sz p ≤ m) : sz (-p) ≤ m := by rw [sz_neg]; exact h1
theorem ss_div {p q : Rat} {m n : Nat} (h0 : q ≠ 0) (h1 : sz p ≤ m) (h2 : sz q ≤ n) : sz (p / q) ≤ m + n := by have := sz_div (p := p) h0; omega
theorem ss_abs {p : Rat} {m : Nat} (h1 : sz p ≤ m) : sz (if p < 0 then -p else p) ≤ m := by split; rw [sz_neg]; exact h1; exact h1
theorem ss_0 : sz (0 : Rat) ≤ 1 := Nat.le_refl 1
theorem ss_1 : sz (1 : Rat) ≤ 1 := Nat.le_refl 1
theorem ss_self {p : Rat} : sz p ≤ sz p := Nat.le_refl _
theorem szs2 {p q : Rat} {m n N : Nat} (h1 : sz p ≤ m) (h2 : sz q ≤ n) (h : m + n ≤ N) : sz p + sz q ≤ N := by omega
theorem szs1 {p : Rat} {m N : Nat} (h1 : sz p ≤ m) (h : m ≤ N) : sz p ≤ N := by omega
theorem bbs1 {p : Int} {m N : Nat} (h1 : bi p ≤ m) (h : m ≤ N) : bi p ≤ N := by omega
theorem q_nebb {i j : Bool} : prB .ne [.bl i, .bl j] = some (.bl (!(i == j)), false) := by
  have : prB .ne [.bl i, .bl j] = some (.bl (!D.eqv (.bl i) (.bl j)), false) := rfl
  rw [this, eqv_bl]
theorem q_eqbb {i j : Bool} : prB .eq [.bl i, .bl j] = some (.bl (i == j), false) := by
  have : prB .eq [.bl i, .bl j] = some (.bl (D.eqv (.bl i) (.bl j)), false) := rfl
  rw [this, eqv_bl]
theorem law_of {T : Nat → Option Fn} {k f : Nat} {F : Fn} {a : D} (h : Ret (callK T k) f [(a, .frz)] (.bl true) false) (hf : T f = some F) (hdv : F.dv = []) : ∃ fr outs, fullK T k F [(a, .frz)] = .ok (.bl true) fr outs := by
  obtain ⟨outs, h⟩ := h
  rw [callK_eq, hf] at h
  simp only at h
  have e : withDv F [(a, .frz)] = [(a, .frz)] := by
    unfold withDv
    rw [hdv]
    simp
  rw [e] at h
  exact ⟨_, _, h⟩
theorem q_lenf {q : Rat} : prB .len [fr q] = some (.int 2, false) := rfl
theorem q_isi' {d : D} {T : Ty5} {k : Bool} (h : isiD d T = some k) : prB (.isi T) [d] = some (.bl k, false) := q_isi h
theorem isi_fr {q : Rat} : isiD (fr q) .tuple = some true := rfl
def AndT (C : Cl) (k : Bool) (c : IT) (env : En) (o : Out Bool) : Prop := cond k (evT C c env) (.ok false env) = o
def OrT (C : Cl) (k : Bool) (c : IT) (env : En) (o : Out Bool) : Prop := cond k (.ok true env) (evT C c env) = o
def AndE (C : Cl) (k : Bool) (e : IE) (env : En) (o : Out (D × Bool)) : Prop := cond k (evE C e env) (.ok (.bl false, false) env) = o
def OrE (C : Cl) (k : Bool) (e : IE) (env : En) (o : Out (D × Bool)) : Prop := cond k (.ok (.bl true, false) env) (evE C e env) = o
section
variable {C : Cl} {env e1 e2 : En} {k k' : Bool} {c c' : IT} {a b : IE} {o : Out Bool} {u : Out (D × Bool)} {fr : Bool}
theorem x_And (h1 : evT C c env = .ok k e1) (h2 : AndT C k c' e1 o) : evT C (.and c c') env = o := by
  subst h2
  simp only [evT, h1, Out.bind_ok]
  cases k <;> rfl
theorem x_Or (h1 : evT C c env = .ok k e1) (h2 : OrT C k c' e1 o) : evT C (.or c c') env = o := by
  subst h2
  simp only [evT, h1, Out.bind_ok]
  cases k <;> rfl
theorem x_AndE (h1 : evE C a env = .ok (.bl k, fr) e1) (h2 : AndE C k b e1 u) : evE C (.and a b) env = u := by
  subst h2
  simp only [evE, h1, Out.bind_ok]
  cases k <;> rfl
theorem x_OrE (h1 : evE C a env = .ok (.bl k, fr) e1) (h2 : OrE C k b e1 u) : evE C (.or a b) env = u := by
  subst h2
  simp only [evE, h1, Out.bind_ok]
  cases k <;> rfl
theorem andT_t (h : k = true) (h2 : evT C c env = o) : AndT C k c env o := by subst h; exact h2
theorem andT_f (h : k = false) : AndT C k c env (.ok false env) := by subst h; rfl
theorem orT_f (h : k = false) (h2 : evT C c env = o) : OrT C k c env o := by subst h; exact h2
theorem orT_t (h : k = true) : OrT C k c env (.ok true env) := by subst h; rfl
theorem andE_t (h : k = true) (h2 : evE C a env = u) : AndE C k a env u := by subst h; exact h2
theorem andE_f (h : k = false) : AndE C k a env (.ok (.bl false, false) env) := by subst h; rfl
theorem orE_f (h : k = false) (h2 : evE C a env = u) : OrE C k a env u := by subst h; exact h2
theorem orE_t (h : k = true) : OrE C k a env (.ok (.bl true, false) env) := by subst h; rfl
end
def od : Option Rat → D
  | none => .non
  | some q => fr q
theorem q_isnf {q : Rat} : prB .isn [fr q] = some (.bl false, false) := rfl
theorem q_notnf {q : Rat} : prB .notn [fr q] = some (.bl true, false) := rfl
theorem q_isn0 : prB .isn [.non] = some (.bl true, false) := rfl
theorem q_notn0 : prB .notn [.non] = some (.bl false, false) := rfl
theorem q_neo {a : Option Rat} : prB .ne [od a, od a] = some (.bl false, false) := by
  cases a with
  | none => rfl
  | some q => simp only [od, q_nef, decide_true, Bool.not_true]
theorem q_eqo {a : Option Rat} : prB .eq [od a, od a] = some (.bl true, false) := by
  cases a with
  | none => rfl
  | some q => simp only [od, q_eqf, decide_true]
theorem x_tup01 {C : Cl} {env : En} : evE C (.tup [.cst (.int 0), .cst (.int 1)]) env = .ok (fr 0, false) env :=
  x_tup (x_es x_cst (x_es x_cst x_es0)) (szp _ (by simp))
theorem x_tup11 {C : Cl} {env : En} : evE C (.tup [.cst (.int 1), .cst (.int 1)]) env = .ok (fr 1, false) env :=
  x_tup (x_es x_cst (x_es x_cst x_es0)) (szp _ (by simp))
theorem x_tup12 {C : Cl} {env : En} : evE C (.tup [.cst (.int 1), .cst (.int 2)]) env = .ok (fr (Rat.divInt 1 2), false) env :=
  x_tup (x_es x_cst (x_es x_cst x_es0)) (szp _ (by simp))
theorem x_cst01 {C : Cl} {env : En} : evE C (.cst (.tup [.int 0, .int 1])) env = .ok (fr 0, false) env := x_cst
theorem x_cst11 {C : Cl} {env : En} : evE C (.cst (.tup [.int 1, .int 1])) env = .ok (fr 1, false) env := x_cst
theorem at_ix2 {x y d : D} {ds : List D} : atI (x :: y :: d :: ds) 2 = some d := by
  unfold atI ixN
  rw [if_pos (by omega), if_pos (by simp only [List.length_cons]; omega)]
  rfl
theorem at_ix3 {x y z d : D} {ds : List D} : atI (x :: y :: z :: d :: ds) 3 = some d := by
  unfold atI ixN
  rw [if_pos (by omega), if_pos (by simp only [List.length_cons]; omega)]
  rfl
theorem map_get {α β : Type} {f : α → β} {l : List α} {j : Nat} {y : β} (h : (l.map f)[j]? = some y) : ∃ x, l[j]? = some x ∧ y = f x := by
  rw [List.getElem?_map] at h
  cases hx : l[j]? with
  | none => rw [hx] at h; cases h
  | some x => rw [hx] at h; exact ⟨x, rfl, (Option.some.inj h).symm⟩
structure Po where
  N : En → Prop
  B : En → Prop
  T : En → Prop
  R : D → Bool → En → Prop
def WpD (p : Po) : Out Fl → Prop
  | .ok .nx e => p.N e
  | .ok .bk e => p.B e
  | .ok .ct e => p.T e
  | .ok (.rt d fr) e => p.R d fr e
  | _ => False
structure Wp (p : Po) (o : Out Fl) : Prop where
  out : WpD p o
theorem Wp.imp {p q : Po} {o : Out Fl} (hN : ∀ e, p.N e → q.N e) (hB : ∀ e, p.B e → q.B e) (hT : ∀ e, p.T e → q.T e) (hR : ∀ d fr e, p.R d fr e → q.R d fr e) (h : Wp p o) : Wp q o := by
  refine ⟨?_⟩
  replace h := h.out
  cases o with
  | bad => exact h
  | ex => exact h
  | ok fl e =>
    cases fl with
    | nx => exact hN _ h
    | bk => exact hB _ h
    | ct => exact hT _ h
    | rt d fr => exact hR _ _ _ h
/-- what a def with frozen arguments promises -/
def poR (d : D) (fr : Bool) : Po := ⟨fun _ => d = .non ∧ fr = false, fun _ => False, fun _ => False, fun d' fr' _ => d' = d ∧ fr' = fr⟩
def poB (d : D) (fr : Bool) (b : D) : Po := ⟨fun e => d = .non ∧ fr = false ∧ e[0]? = some (some (b, .own)), fun _ => False, fun _ => False, fun d' fr' e => d' = d ∧ fr' = fr ∧ e[0]? = some (some (b, .own))⟩
/-- the same, with a value that is told by a property -/
def poP (P : D → Prop) (fr : Bool) : Po := ⟨fun _ => P .non ∧ fr = false, fun _ => False, fun _ => False, fun d' fr' _ => P d' ∧ fr' = fr⟩
section
variable {C : Cl} {pin : Nat → Bool} {env e1 e2 e3 : En} {d d' d2 : D} {fr fr' : Bool} {i j : Nat} {as : List IA} {l : List PV} {ds ds' : List D} {s : IS} {ss sa sb st : List IS} {fl : Fl} {f : Nat} {l' : List (D × Mo)} {p q : Po} {e e' : IE} {es : List IE} {is : List Nat} {c : IT} {m : Mo}
theorem evSs_cons : evSs C pin (s :: ss) env = (evS C pin s env).bind fun fl env => match fl with
    | .nx => evSs C pin ss env
    | .bk => .ok Fl.bk env
    | .ct => .ok Fl.ct env
    | .rt d fr => .ok (Fl.rt d fr) env := by
  first
  | (simp only [evSs]; done)
  | (simp only [evSs]; rfl)
theorem w_nil (h : p.N env) : Wp p (evSs C pin [] env) := by
  rw [x_ss0]
  exact ⟨h⟩
theorem w_step (h1 : evS C pin s env = .ok .nx e1) (h2 : Wp p (evSs C pin ss e1)) : Wp p (evSs C pin (s :: ss) env) := by
  rw [evSs_cons, h1]
  exact h2
theorem w_seq (h : Wp ⟨fun e => Wp p (evSs C pin ss e), p.B, p.T, p.R⟩ (evS C pin s env)) : Wp p (evSs C pin (s :: ss) env) := by
  rw [evSs_cons]
  replace h := h.out
  refine ⟨?_⟩
  cases hx : evS C pin s env with
  | bad => rw [hx] at h; exact h.elim
  | ex => rw [hx] at h; exact h.elim
  | ok fl e =>
    rw [hx] at h
    cases fl with
    | nx => exact (show Wp p _ from h).out
    | bk => exact h
    | ct => exact h
    | rt => exact h
theorem w_set (h1 : evE C e env = .ok (d, fr) e1) (h2 : setS pin i d fr e1 = .ok () e2) (h3 : Wp p (evSs C pin ss e2)) : Wp p (evSs C pin (.set i e :: ss) env) := w_step (x_set h1 h2) h3
theorem w_unp (h1 : evE C e env = .ok (.tup ds, fr) e1) (h2 : setAll pin is ds e1 = .ok () e2) (h3 : Wp p (evSs C pin ss e2)) : Wp p (evSs C pin (.unp is e :: ss) env) := w_step (x_unp h1 h2) h3
theorem w_par (h1 : evEs C es env = .ok ds e1) (h2 : setAll pin is ds e1 = .ok () e2) (h3 : Wp p (evSs C pin ss e2)) : Wp p (evSs C pin (.par is es :: ss) env) := w_step (x_par h1 h2) h3
theorem w_setix {k w : IE} {n : Nat} {j : Int} {v : D × Mo} (h1 : evE C w env = .ok (d, fr) e1) (h2 : e1[i]? = some (some v)) (h3 : evE C k e1 = .ok (.int j, fr') e2) (h4 : e2[i]? = some (some (.lst ds, .own))) (h5 : ixN ds.length j = some n) (h6 : e2.set i (some (.lst (ds.set n d), .own)) = e3) (h7 : Wp p (evSs C pin ss e3)) : Wp p (evSs C pin (.setix i k w :: ss) env) := w_step (x_setix h1 h2 h3 h4 h5 h6) h7
theorem w_app (h0 : env[i]? = some (some (.lst ds', m))) (h1 : evE C e env = .ok (d, fr) e1) (h2 : e1[i]? = some (some (.lst ds, .own))) (h3 : ds.length < sizeLine) (h4 : e1.set i (some (.lst (ds ++ [d]), .own)) = e2) (h5 : Wp p (evSs C pin ss e2)) : Wp p (evSs C pin (.app i e :: ss) env) := w_step (x_app h0 h1 h2 h3 h4) h5
theorem w_pass (h : Wp p (evSs C pin ss env)) : Wp p (evSs C pin (.pass :: ss) env) := w_step x_pass h
theorem w_ret (h1 : evE C e env = .ok (d, fr) e1) (h2 : p.R d fr e1) : Wp p (evSs C pin (.ret e :: ss) env) := by
  rw [x_stop (x_ret h1)]
  exact ⟨h2⟩
theorem w_retn (h2 : p.R .non false env) : Wp p (evSs C pin (.retn :: ss) env) := by
  rw [x_stop x_retn]
  exact ⟨h2⟩
theorem w_retvf (h : env[i]? = some (some (d, .frz))) (h2 : p.R d false env) : Wp p (evSs C pin (.retv i :: ss) env) := by
  rw [x_stop (x_retvf h)]
  exact ⟨h2⟩
theorem w_retvo (h : env[i]? = some (some (d, .own))) (hp : pin i = false) (h4 : env.set i none = e1) (h2 : p.R d true e1) : Wp p (evSs C pin (.retv i :: ss) env) := by
  rw [x_stop (x_retvo h hp h4)]
  exact ⟨h2⟩
theorem w_cont (h : p.T env) : Wp p (evSs C pin (.cont :: ss) env) := by
  rw [x_ct x_cont]
  exact ⟨h⟩
/-- the branches of an if -/
def Br (p : Po) (C : Cl) (pin : Nat → Bool) (k : Bool) (sa sb ss : List IS) (env : En) : Prop := Wp p (evSs C pin (cond k sa sb ++ ss) env)
theorem w_ite {k : Bool} (h1 : evT C c env = .ok k e1) (h2 : Br p C pin k sa sb ss e1) : Wp p (evSs C pin (.ife c sa sb :: ss) env) := by
  have : evSs C pin (.ife c sa sb :: ss) env = evSs C pin (cond k sa sb ++ ss) e1 := by
    rw [evSs_append]
    simp only [evSs, evS, h1, Out.bind_ok]
    cases k <;> rfl
  rw [this]
  exact h2
theorem br_t {k : Bool} (h : k = true) (h2 : sa ++ ss = st) (h3 : Wp p (evSs C pin st env)) : Br p C pin k sa sb ss env := by
  subst h
  subst h2
  exact h3
theorem br_f {k : Bool} (h : k = false) (h2 : sb ++ ss = st) (h3 : Wp p (evSs C pin st env)) : Br p C pin k sa sb ss env := by
  subst h
  subst h2
  exact h3
theorem br_split {k : Bool} (h1 : k = true → Br p C pin true sa sb ss env) (h2 : k = false → Br p C pin false sa sb ss env) : Br p C pin k sa sb ss env := by
  cases k
  · exact h2 rfl
  · exact h1 rfl
theorem br_dec {P : Prop} [Decidable P] (h1 : P → Br p C pin true sa sb ss env) (h2 : ¬ P → Br p C pin false sa sb ss env) : Br p C pin (decide P) sa sb ss env :=
  br_split (fun h => h1 (of_decide_eq_true h)) (fun h => h2 (of_decide_eq_false h))
theorem br_mid {k : Bool} (Q : En → Prop) (h1 : Br ⟨Q, p.B, p.T, p.R⟩ C pin k sa sb [] env) (h2 : ∀ e, Q e → Wp p (evSs C pin ss e)) : Br p C pin k sa sb ss env := by
  unfold Br at *
  rw [List.append_nil] at h1
  rw [evSs_append]
  generalize evSs C pin (cond k sa sb) env = o at h1
  replace h1 := h1.out
  refine ⟨?_⟩
  cases o with
  | bad => exact h1
  | ex => exact h1
  | ok fl e =>
    cases fl with
    | nx => exact (h2 e h1).out
    | bk => exact h1
    | ct => exact h1
    | rt d fr => exact h1
/-- a for loop -/
theorem loop_inv {g : D → Zm Fl} (I : Nat → En → Prop) (p : Po) : ∀ (ds : List D) (k : Nat) (env : En), I k env →
    (∀ j d env, ds[j]? = some d → I (k + j) env → Wp ⟨I (k + j + 1), p.N, I (k + j + 1), p.R⟩ (g d env)) → (∀ e, I (k + ds.length) e → p.N e) → Wp p (loopFor g ds env)
  | [], k, env, h0, _, he => ⟨he env h0⟩
  | d :: ds, k, env, h0, h, he => by
    have h1 := (h 0 d env rfl h0).out
    simp only [loopFor]
    cases hx : g d env with
    | bad => rw [hx] at h1; exact h1.elim
    | ex => rw [hx] at h1; exact h1.elim
    | ok fl e =>
      rw [hx] at h1
      have next : I (k + 1) e → Wp p (loopFor g ds e) := fun hI => loop_inv I p ds (k + 1) e hI
        (fun j d env hd hI => by
          have := h (j + 1) d env (by simpa using hd) (by rw [show k + (j + 1) = k + 1 + j by omega]; exact hI)
          rw [show k + (j + 1) = k + 1 + j by omega] at this
          exact this)
        (fun e hI => he e (by rw [List.length_cons, show k + (ds.length + 1) = k + 1 + ds.length by omega]; exact hI))
      cases fl with
      | nx => exact next h1
      | ct => exact next h1
      | bk => exact ⟨h1⟩
      | rt d fr => exact ⟨h1⟩
theorem Wp.mapEn {g : En → En} {o : Out Fl} (h : Wp ⟨fun e => p.N (g e), fun e => p.B (g e), fun e => p.T (g e), fun d fr e => p.R d fr (g e)⟩ o) : Wp p (o.mapEn g) := by
  replace h := h.out
  refine ⟨?_⟩
  cases o with
  | bad => exact h
  | ex => exact h
  | ok fl e => cases fl <;> exact h
theorem w_for {tg : IG} {src : II} (I : Nat → En → Prop) (h1 : evI C src env = .ok (ds, none) e1) (h0 : I 0 e1)
    (hs : ∀ j d env, ds[j]? = some d → I j env → Wp ⟨I (j + 1), fun e => Wp p (evSs C pin ss e), I (j + 1), p.R⟩ ((setG pin tg d env).bind fun _ env => evSs C pin sa env))
    (he : ∀ e, I ds.length e → Wp p (evSs C pin ss e)) : Wp p (evSs C pin (.forr tg src sa :: ss) env) := by
  refine w_seq ?_
  have : evS C pin (.forr tg src sa) env = (loopFor (fun d env => (setG pin tg d env).bind fun _ env => evSs C pin sa env) ds e1).mapEn (fun e => e) := by
    simp only [evS, h1, Out.bind_ok, lock]
    congr 1
  rw [this]
  refine Wp.mapEn (loop_inv I _ ds 0 e1 h0 (fun j d env hd hI => ?_) fun e hI => ?_)
  · rw [Nat.zero_add] at hI ⊢
    exact hs j d env hd hI
  · rw [Nat.zero_add] at hI
    exact he e hI
theorem w_turn {b : D} (h1 : setS pin i b false env = .ok () e1) (h2 : Wp p (evSs C pin sa e1)) : Wp p ((setG pin (.nm i) b env).bind fun _ env => evSs C pin sa env) := by
  simp only [setG, h1, Out.bind_ok]
  exact h2
theorem x_over {A : IA} {pv : PV} (h1 : evA C A env = .ok pv e1) (h2 : fill1 e1 pv = some d) (h3 : seqOf d = some ds) : evI C (.over A) env = .ok (ds, lockOf e1 pv) e1 := by
  simp only [evI, h1, h2, h3, Out.bind_ok]
theorem x_overo (h : env[i]? = some (some (.lst ds, .own))) : evI C (.over (.at i)) env = .ok (ds, some i) env := by
  rw [x_over (x_at h) (x_f1a h) rfl]
  simp only [lockOf, h]
theorem x_overf (h : env[i]? = some (some (d, .frz))) (h3 : seqOf d = some ds) : evI C (.over (.at i)) env = .ok (ds, none) env := by
  rw [x_over (x_at h) (x_f1a h) h3]
  simp only [lockOf, h]
theorem x_overv (h1 : evE C e env = .ok (d, fr) e1) (h3 : seqOf d = some ds) : evI C (.over (.val e)) env = .ok (ds, none) e1 := by
  rw [x_over (x_val h1) x_f1v h3]
  rfl
theorem rangeD_length : ∀ (n : Nat) (a : Int), (rangeD a n).length = n
  | 0, _ => rfl
  | n + 1, a => by rw [rangeD, List.length_cons, rangeD_length n]
/-- for i in range(a, b) -/
theorem w_range {a b : IE} {lo hi : Int} (I : Nat → En → Prop) (h1 : evE C a env = .ok (.int lo, fr) e1) (h2 : evE C b e1 = .ok (.int hi, fr') e2) (h3 : -(2 ^ 62) ≤ lo ∧ lo < 2 ^ 62 ∧ -(2 ^ 62) ≤ hi ∧ hi < 2 ^ 62) (h0 : I 0 e2)
    (hs : ∀ (j : Nat) env, (j : Int) < hi - lo → I j env → ∃ e', setS pin i (.int (lo + (j : Int))) false env = .ok () e' ∧ Wp ⟨I (j + 1), fun e => Wp p (evSs C pin ss e), I (j + 1), p.R⟩ (evSs C pin sa e'))
    (he : ∀ e, I (hi - lo).toNat e → Wp p (evSs C pin ss e)) : Wp p (evSs C pin (.forr (.nm i) (.range a b) sa :: ss) env) := by
  refine w_for I (x_rng h1 h2 h3) h0 (fun j d env hd hI => ?_) fun e hI => he e (by rw [rangeD_length] at hI; exact hI)
  obtain ⟨hj, rfl⟩ := rangeD_get hd
  obtain ⟨e', h4, h5⟩ := hs j env (by omega) hI
  simp only [setG, h4, Out.bind_ok]
  exact h5
theorem v_fn {T : Nat → Option Fn} {k f np n : Nat} {body : List IS} {as : List (D × Mo)} (h : T f = some ⟨np, [], n, body⟩) (hl : as.length = np) (he : mkEnv as (n - np) = env) (h1 : Wp (poR d fr) (evSs (callK T k) (pinOf as) body env)) : Ret (callK T (k + 1)) f as d fr := by
  have hE : as.map some ++ List.replicate (n - np) none = env := by rw [← mkEnv_eq]; exact he
  replace h1 := h1.out
  cases hx : evSs (callK T k) (pinOf as) body env with
  | bad => rw [hx] at h1; exact h1.elim
  | ex => rw [hx] at h1; exact h1.elim
  | ok fl e =>
    rw [hx] at h1
    cases fl with
    | nx =>
      obtain ⟨rfl, rfl⟩ := h1
      exact y_fnN h withDv0 hl hE hx
    | bk => exact h1.elim
    | ct => exact h1.elim
    | rt d' fr' =>
      obtain ⟨rfl, rfl⟩ := h1
      exact y_fn h withDv0 hl hE hx rfl
theorem v_fnB {T : Nat → Option Fn} {k f np n : Nat} {body : List IS} {a b : D} {as : List (D × Mo)} (h : T f = some ⟨np, [], n, body⟩) (hl : ((a, Mo.own) :: as).length = np) (he : mkEnv ((a, .own) :: as) (n - np) = env) (h1 : Wp (poB d fr b) (evSs (callK T k) (pinOf ((a, .own) :: as)) body env)) : RetB (callK T (k + 1)) f a as d fr b := by
  have hE : ((a, Mo.own) :: as).map some ++ List.replicate (n - np) none = env := by rw [← mkEnv_eq]; exact he
  have h0 : 0 < np := by rw [← hl]; simp
  replace h1 := h1.out
  cases hx : evSs (callK T k) (pinOf ((a, Mo.own) :: as)) body env with
  | bad => rw [hx] at h1; exact h1.elim
  | ex => rw [hx] at h1; exact h1.elim
  | ok fl e =>
    rw [hx] at h1
    cases fl with
    | nx =>
      obtain ⟨rfl, rfl, h3⟩ := h1
      match e, h3 with
      | x :: xs, h3 =>
        simp only [List.getElem?_cons_zero, Option.some.injEq] at h3
        subst h3
        refine ⟨(xs.take (np - 1)).map (fun s => s.getD (.non, .frz)), ?_⟩
        rw [callK_un h withDv0 hl, hE, hx]
        obtain ⟨m, rfl⟩ : ∃ m, np = m + 1 := ⟨np - 1, by omega⟩
        rfl
    | bk => exact h1.elim
    | ct => exact h1.elim
    | rt d' fr' =>
      obtain ⟨rfl, rfl, h3⟩ := h1
      exact y_fnB h withDv0 hl h0 hE hx h3 rfl
/-- a value that is told by a property -/
theorem v_fnP {T : Nat → Option Fn} {k f np n : Nat} {body : List IS} {as : List (D × Mo)} {P : D → Prop} (h : T f = some ⟨np, [], n, body⟩) (hl : as.length = np) (he : mkEnv as (n - np) = env) (h1 : Wp (poP P fr) (evSs (callK T k) (pinOf as) body env)) : ∃ d, P d ∧ Ret (callK T (k + 1)) f as d fr := by
  have hE : as.map some ++ List.replicate (n - np) none = env := by rw [← mkEnv_eq]; exact he
  replace h1 := h1.out
  cases hx : evSs (callK T k) (pinOf as) body env with
  | bad => rw [hx] at h1; exact h1.elim
  | ex => rw [hx] at h1; exact h1.elim
  | ok fl e =>
    rw [hx] at h1
    cases fl with
    | nx =>
      obtain ⟨hp, rfl⟩ := h1
      exact ⟨_, hp, y_fnN h withDv0 hl hE hx⟩
    | bk => exact h1.elim
    | ct => exact h1.elim
    | rt d' fr' =>
      obtain ⟨hp, rfl⟩ := h1
      exact ⟨_, hp, y_fn h withDv0 hl hE hx rfl⟩
end
end Z
namespace Z
open PySem PySem.Spec PyProof.Rows L2
def Mt (p : Po) (C : Cl) (pin : Nat → Bool) (r : Option (List Nat × List D)) (sa sb ss : List IS) (env : En) : Prop := match r with
  | none => Wp p (evSs C pin (sb ++ ss) env)
  | some bs => ∃ e1, setAll pin bs.1 bs.2 env = .ok () e1 ∧ Wp p (evSs C pin (sa ++ ss) e1)
section
variable {C : Cl} {pin : Nat → Bool} {env e1 e2 e3 : En} {d d' d2 : D} {i j : Nat} {ds ds' : List D} {s : IS} {ss sa sb st : List IS} {p : Po} {q : IP} {r : Option (List Nat × List D)} {is : List Nat} {ps : List IP0} {c t : Str}
theorem w_mt (h0 : env[i]? = some (some (d, .frz))) (h1 : mP q d = some r) (h2 : Mt p C pin r sa sb ss env) : Wp p (evSs C pin (.mt i q sa sb :: ss) env) := by
  rw [evSs_cons]
  cases r with
  | none =>
    have h2 : Wp p (evSs C pin (sb ++ ss) env) := h2
    rw [evSs_append] at h2
    simp only [evS, h0, h1]
    exact h2
  | some bs =>
    obtain ⟨e1, h3, h4⟩ := h2
    rw [evSs_append] at h4
    simp only [evS, h0, h1, h3, Out.bind_ok]
    exact h4
theorem mt_n (h : sb ++ ss = st) (h2 : Wp p (evSs C pin st env)) : Mt p C pin none sa sb ss env := by
  subst h
  exact h2
theorem mt_s (h1 : setAll pin is ds env = .ok () e1) (h : sa ++ ss = st) (h2 : Wp p (evSs C pin st e1)) : Mt p C pin (some (is, ds)) sa sb ss env := by
  subst h
  exact ⟨e1, h1, h2⟩
theorem mp_wild : mP .wild d = some (some ([], [])) := rfl
theorem mp_len (h : ds.length ≠ ps.length) : mP (.seq ps) (.tup ds) = some none := by
  show (if _ then _ else _) = _
  rw [if_neg h]
theorem mp_seq (h : ds.length = ps.length) (h2 : mEach ps ds = some r) : mP (.seq ps) (.tup ds) = some r := by
  show (if _ then _ else _) = _
  rw [if_pos h, h2]
theorem me_nil : mEach [] [] = some (some ([], [])) := rfl
theorem me_lit (h : mEach ps ds = some r) : mEach (.lit c :: ps) (.str c :: ds) = some r := by
  simp only [mEach, m0, if_true, h]
  cases r <;> rfl
theorem me_litn (h : t ≠ c) : mEach (.lit c :: ps) (.str t :: ds) = some none := by
  simp only [mEach, m0, if_neg h]
theorem me_cap (h : mEach ps ds = some (some (is, ds'))) : mEach (.cap i :: ps) (d :: ds) = some (some (i :: is, d :: ds')) := by
  simp only [mEach, m0, h]
  rfl
theorem me_wild (h : mEach ps ds = some r) : mEach (.wild :: ps) (d :: ds) = some r := by
  simp only [mEach, m0, h]
  cases r <;> rfl
theorem lc_pure {α : Type} {f : D → Zm (Option D)} {w : En} {u : α → D} {p : α → Option D} : ∀ (l : List α) (acc : List D), (∀ a ∈ l, f (u a) w = .ok (p a) w) → acc.length + l.length ≤ sizeLine → loopLc f (l.map u) acc w = .ok (acc ++ l.filterMap p) w
  | [], acc, _, _ => by simp [loopLc]
  | a :: l, acc, h, hz => by
    have h1 := h a List.mem_cons_self
    have ih := fun acc => lc_pure (f := f) (w := w) (u := u) (p := p) l acc fun b hb => h b (List.mem_cons_of_mem _ hb)
    simp only [List.map_cons, loopLc, h1, Out.bind_ok, List.filterMap_cons]
    rw [List.length_cons] at hz
    cases hp : p a with
    | none => simp only; exact ih acc (by omega)
    | some x =>
      simp only
      rw [if_pos (by omega), ih (acc ++ [x]) (by rw [List.length_append, List.length_singleton]; omega), List.append_assoc]
      rfl
/-- a comprehension that changes nothing -/
theorem comp_pure {α : Type} {own : List Nat} {tg : IG} {src : II} {cond : List IT} {elt : IE} {lk : Option Nat} (l : List α) (u : α → D) (p : α → Option D) (h1 : evI C src env = .ok (ds, lk) e1) (hp : plainAt (lock lk e1) own = true) (hd : ds = l.map u) (hz : l.length ≤ sizeLine)
    (hw : wipeE (lock lk e1) own = w) (hr : unlock lk (restore (lock lk e1) w own) = e3)
    (hs : ∀ a ∈ l, ∃ e2, setG (fun _ => false) tg (u a) w = .ok () e2 ∧ ((∃ x fr e3 e4, evTs C cond e2 = .ok true e3 ∧ evE C elt e3 = .ok (x, fr) e4 ∧ p a = some x ∧ wipeE e4 own = w) ∨ (∃ e3, evTs C cond e2 = .ok false e3 ∧ p a = none ∧ wipeE e3 own = w))) :
    evE C (.comp own tg src cond elt) env = .ok (.lst (l.filterMap p), true) e3 := by
  subst hd
  have h2 := lc_pure (f := fun d env => (setG (fun _ => false) tg d env).bind fun _ env => (evTs C cond env).bind (fun b env =>
        if b then (evE C elt env).bind (fun x env => .ok (some x.1) (wipeE env own)) else .ok none (wipeE env own))) (w := w) (u := u) (p := p) l [] (fun a ha => by
    obtain ⟨e2, g1, g2⟩ := hs a ha
    rcases g2 with ⟨x, fr, e3, e4, g2, g3, g4, g5⟩ | ⟨e3, g2, g4, g5⟩
    · simp only [g1, g2, g3, g4, g5, Out.bind_ok, if_true]
    · simp only [g1, g2, g4, g5, Out.bind_ok, Bool.false_eq_true, if_false]) (by simpa using hz)
  simp only [evE, h1, Out.bind_ok, hp, if_true, hw]
  rw [h2]
  simp only [Out.bind_ok, List.nil_append, Out.mapEn, hr, Out.noEx]
theorem ts_nil : evTs C [] env = .ok true env := by simp only [evTs]
theorem andT_b {C : Cl} {c : IT} {k q : Bool} {env : En} (h : evT C c env = .ok q env) : AndT C k c env (.ok (k && q) env) := by
  unfold AndT
  cases k
  · rfl
  · exact h
theorem orT_b {C : Cl} {c : IT} {k q : Bool} {env : En} (h : evT C c env = .ok q env) : OrT C k c env (.ok (k || q) env) := by
  unfold OrT
  cases k
  · exact h
  · rfl
theorem andE_b {C : Cl} {e : IE} {k q : Bool} {env : En} (h : evE C e env = .ok (.bl q, false) env) : AndE C k e env (.ok (.bl (k && q), false) env) := by
  unfold AndE
  cases k
  · rfl
  · exact h
theorem orE_b {C : Cl} {e : IE} {k q : Bool} {env : En} (h : evE C e env = .ok (.bl q, false) env) : OrE C k e env (.ok (.bl (k || q), false) env) := by
  unfold OrE
  cases k
  · exact h
  · rfl
theorem w_ext {i : Nat} {e : IE} {m : Mo} {ds' xs : List D} {fr : Bool} (h0 : env[i]? = some (some (.lst ds', m))) (h1 : evE C e env = .ok (.lst xs, fr) e1) (h2 : e1[i]? = some (some (.lst ds, .own))) (h3 : ds.length + xs.length ≤ sizeLine) (h4 : e1.set i (some (.lst (ds ++ xs), .own)) = e2) (h5 : Wp p (evSs C pin ss e2)) : Wp p (evSs C pin (.ext i e :: ss) env) := by
  refine w_step ?_ h5
  simp only [evS, h0, h1, Out.bind_ok, h2, if_pos h3, h4]
theorem w_rev {i : Nat} (h0 : env[i]? = some (some (.lst ds, .own))) (h4 : env.set i (some (.lst ds.reverse, .own)) = e2) (h5 : Wp p (evSs C pin ss e2)) : Wp p (evSs C pin (.rev i :: ss) env) := by
  refine w_step ?_ h5
  simp only [evS, h0, h4]
end
def Dk (n : Nat) (d : D) : Prop := (toP d).canLay0 = true ∧ (toP d).depth ≤ n
theorem dk_int {n : Nat} {i : Int} : Dk n (.int i) := ⟨rfl, Nat.zero_le _⟩
theorem dk_all {n : Nat} : ∀ {ds : List D}, (∀ x ∈ ds, Dk n x) → PyData.canLayAll0 (toPs ds) = true ∧ PyData.depthAll (toPs ds) ≤ n
  | [], _ => ⟨rfl, Nat.zero_le _⟩
  | d :: ds, h => by
    obtain ⟨h1, h2⟩ := h d List.mem_cons_self
    obtain ⟨h3, h4⟩ := dk_all fun x hx => h x (List.mem_cons_of_mem _ hx)
    refine ⟨?_, ?_⟩
    · show ((toP d).canLay0 && PyData.canLayAll0 (toPs ds)) = true
      rw [h1, h3]
      rfl
    · simp only [toPs, PyData.depthAll]
      exact Nat.max_le.mpr ⟨h2, h4⟩
theorem dk_tup {n : Nat} {ds : List D} (h : ∀ x ∈ ds, Dk n x) : Dk (n + 1) (.tup ds) := by
  obtain ⟨h1, h2⟩ := dk_all h
  refine ⟨?_, ?_⟩
  · unfold toP
    simpa only [PyData.canLay0] using h1
  · unfold toP
    simp only [PyData.depth]
    omega
theorem Dk.mono {m n : Nat} {d : D} (h : Dk m d) (hn : m ≤ n) : Dk n d := ⟨h.1, Nat.le_trans h.2 hn⟩
theorem dk_fr (q : Rat) : Dk 1 (fr q) := dk_tup fun x hx => by
  rcases List.mem_cons.mp hx with rfl | hx
  · exact dk_int
  · rcases List.mem_cons.mp hx with rfl | hx
    · exact dk_int
    · cases hx
theorem dk_ok {n : Nat} {d : D} (h : Dk n d) (hn : n ≤ 64) : d.ok = true := by
  unfold D.ok SeqAt.shaped
  rw [h.1, decide_eq_true (Nat.le_trans h.2 hn)]
  rfl
theorem q_ned {n : Nat} {d : D} (h : Dk n d) (hn : n ≤ 64) : prB .ne [d, d] = some (.bl false, false) := by
  show (if _ then _ else _) = _
  rw [dk_ok h hn]
  unfold D.eqv
  rw [SeqAt.eqv_refl _ h.1]
  rfl
theorem eqv_str (a b : Str) : D.eqv (.str a) (.str b) = decide (a = b) := by
  unfold D.eqv toP
  simp only [PyData.eqv]
  by_cases h : a = b
  · subst h; simp
  · rw [decide_eq_false h]
    simpa using h
theorem q_eqs {a b : Str} (ha : (D.str a).ok = true) (hb : (D.str b).ok = true) : prB .eq [.str a, .str b] = some (.bl (decide (a = b)), false) := by
  rw [← eqv_str]
  show (if _ then _ else _) = _
  rw [ha, hb]
  rfl
theorem q_nes {a b : Str} (ha : (D.str a).ok = true) (hb : (D.str b).ok = true) : prB .ne [.str a, .str b] = some (.bl (!decide (a = b)), false) := by
  rw [← eqv_str]
  show (if _ then _ else _) = _
  rw [ha, hb]
  rfl
end Z
namespace Z
open PySem PySem.Spec PyProof.Rows L2
mutual
def pn : D → Bool
  | .non => true
  | .bl _ => false
  | .int _ => true
  | .str _ => true
  | .tup ds => pns ds
  | .lst ds => pns ds
  | .rol _ => false
  | .fn _ => false
def pns : List D → Bool
  | [] => true
  | d :: ds => pn d && pns ds
end
structure Sh (n : Nat) (d : D) : Prop where
  can : (toP d).showable = true
  len : (toP d).shown.length ≤ n
theorem Sh.mono {m n : Nat} {d : D} (h : Sh m d) (hn : m ≤ n) : Sh n d := ⟨h.can, Nat.le_trans h.len hn⟩
def RetC (C : Cl) (f : Nat) (a b : D) (as : List (D × Mo)) (d : D) (fr : Bool) (a' b' : D) : Prop := ∃ outs, C f ((a, .own) :: (b, .own) :: as) = .ok d fr ((a', .own) :: (b', .own) :: outs)
section
variable {C : Cl} {pin : Nat → Bool} {env e1 : En} {d d1 d2 d3 d4 : D} {fr : Bool} {i j f : Nat} {l : List PV} {l' : List (D × Mo)} {p : Po} {ss : List IS} {as : List IA}
theorem y_do2 (h0 : env[i]? = some (some (d1, .own))) (h5 : env[j]? = some (some (d2, .own))) (hij : i ≠ j) (h1 : ownIx env l = []) (h2 : argv env l = some l') (h3 : RetC C f d1 d2 l' d fr d3 d4) (h4 : (env.set i (some (d3, .own))).set j (some (d4, .own)) = e1) : doCall C f (.at i :: .at j :: l) env = .ok (d, fr) e1 := by
  obtain ⟨outs, h3⟩ := h3
  subst h4
  have hn : ([i, j] : List Nat).Nodup := by simp [hij]
  simp only [doCall, ownIx, argv, argv1, wb, h0, h5, h1, h2, h3, hn, if_true]
  rw [wb_no (os := outs) h1]
end
end Z
namespace Z
open PySem PySem.Spec PyProof.Rows L2
section
variable {C : Cl} {pin : Nat → Bool} {env e1 e2 e3 : En} {d d1 d2 d3 d4 c c2 : D} {m m1 m2 : Mo} {fr f1 f2 f3 : Bool} {i j f : Nat} {p q : Pr} {a b : IE} {s s2 s3 : Sl} {t t2 t3 : D × Mo}
theorem gd_out {α : Type} {a b : Out α} (h : a = b) : a = b := h
theorem gd_opt {α : Type} {a b : Option α} (h : a = b) : a = b := h
theorem gd_prB {l : List D} {r : Option (D × Bool)} (h : prB p l = r) : prB p l = r := h
theorem gd_padd {x y : D} {r : Option (D × Bool)} (h : prB .add [x, y] = r) : prB .add [x, y] = r := h
theorem gd_psl {lo hi : Bool} {l : List D} {r : Option (D × Bool)} (h : prB (.sl lo hi) l = r) : prB (.sl lo hi) l = r := h
theorem gd_pix0 {x : D} {r : Option (D × Bool)} (h : prB .ix [x, .int 0] = r) : prB .ix [x, .int 0] = r := h
theorem gd_pix1 {x : D} {r : Option (D × Bool)} (h : prB .ix [x, .int 1] = r) : prB .ix [x, .int 1] = r := h
theorem gd_plen {x : D} {r : Option (D × Bool)} (h : prB .len [x] = r) : prB .len [x] = r := h
theorem gd_bool {a b : Bool} (h : a = b) : a = b := h
theorem gd_evE {x : IE} {r : Out (D × Bool)} (h : evE C x env = r) : evE C x env = r := h
theorem gd_wp {P : Po} {o : Out Fl} (h : Wp P o) : Wp P o := h
theorem z1 (h1 : evE C a env = .ok (d1, f1) e1) (h2 : prB p [d1] = some (d, fr)) : evE C (.op p [.val a]) env = .ok (d, fr) e1 := x_op (x_as (x_val h1) x_as0) (x_fillv x_fill0) h2
theorem z1a (h1 : env[i]? = some (some (d1, m1))) (h2 : prB p [d1] = some (d, fr)) : evE C (.op p [.at i]) env = .ok (d, fr) env := x_op (x_as (x_at h1) x_as0) (x_filla h1 x_fill0) h2
theorem z2c (h1 : evE C a env = .ok (d1, f1) e1) (h2 : prB p [d1, c] = some (d, fr)) : evE C (.op p [.val a, .val (.cst c)]) env = .ok (d, fr) e1 := x_op (x_as (x_val h1) (x_as (x_val x_cst) x_as0)) (x_fillv (x_fillv x_fill0)) h2
theorem z2ac (h1 : env[i]? = some (some (d1, m1))) (h2 : prB p [d1, c] = some (d, fr)) : evE C (.op p [.at i, .val (.cst c)]) env = .ok (d, fr) env := x_op (x_as (x_at h1) (x_as (x_val x_cst) x_as0)) (x_filla h1 (x_fillv x_fill0)) h2
theorem z2ca (h1 : env[i]? = some (some (d1, m1))) (h2 : prB p [c, d1] = some (d, fr)) : evE C (.op p [.val (.cst c), .at i]) env = .ok (d, fr) env := x_op (x_as (x_val x_cst) (x_as (x_at h1) x_as0)) (x_fillv (x_filla h1 x_fill0)) h2
theorem z2vv (h1 : evE C a env = .ok (d1, f1) e1) (h3 : evE C b e1 = .ok (d2, f2) e2) (h2 : prB p [d1, d2] = some (d, fr)) : evE C (.op p [.val a, .val b]) env = .ok (d, fr) e2 := x_op (x_as (x_val h1) (x_as (x_val h3) x_as0)) (x_fillv (x_fillv x_fill0)) h2
theorem z2av (h1 : env[i]? = some (some t)) (h3 : evE C b env = .ok (d2, f2) e2) (h4 : e2[i]? = some (some (d1, m1))) (h2 : prB p [d1, d2] = some (d, fr)) : evE C (.op p [.at i, .val b]) env = .ok (d, fr) e2 := x_op (x_as (x_at h1) (x_as (x_val h3) x_as0)) (x_filla h4 (x_fillv x_fill0)) h2
theorem z2va (h1 : evE C a env = .ok (d1, f1) e1) (h4 : e1[i]? = some (some (d2, m2))) (h2 : prB p [d1, d2] = some (d, fr)) : evE C (.op p [.val a, .at i]) env = .ok (d, fr) e1 := x_op (x_as (x_val h1) (x_as (x_at h4) x_as0)) (x_fillv (x_filla h4 x_fill0)) h2
theorem z2aa (h1 : env[i]? = some (some (d1, m1))) (h3 : env[j]? = some (some (d2, m2))) (h2 : prB p [d1, d2] = some (d, fr)) : evE C (.op p [.at i, .at j]) env = .ok (d, fr) env := x_op (x_as (x_at h1) (x_as (x_at h3) x_as0)) (x_filla h1 (x_filla h3 x_fill0)) h2
theorem z2ac0 (h1 : env[i]? = some (some (d1, m1))) (h2 : prB p [d1, Z.fr 0] = some (d, f1)) : evE C (.op p [.at i, .val (.cst (.tup [.int 0, .int 1]))]) env = .ok (d, f1) env := z2ac h1 h2
theorem z2c0 (h1 : evE C a env = .ok (d1, f1) e1) (h2 : prB p [d1, Z.fr 0] = some (d, f2)) : evE C (.op p [.val a, .val (.cst (.tup [.int 0, .int 1]))]) env = .ok (d, f2) e1 := z2c h1 h2
theorem z2ca0 (h1 : env[i]? = some (some (d1, m1))) (h2 : prB p [Z.fr 0, d1] = some (d, f1)) : evE C (.op p [.val (.cst (.tup [.int 0, .int 1])), .at i]) env = .ok (d, f1) env := z2ca h1 h2
theorem z2ac1 (h1 : env[i]? = some (some (d1, m1))) (h2 : prB p [d1, Z.fr 1] = some (d, f1)) : evE C (.op p [.at i, .val (.cst (.tup [.int 1, .int 1]))]) env = .ok (d, f1) env := z2ac h1 h2
theorem z2c1 (h1 : evE C a env = .ok (d1, f1) e1) (h2 : prB p [d1, Z.fr 1] = some (d, f2)) : evE C (.op p [.val a, .val (.cst (.tup [.int 1, .int 1]))]) env = .ok (d, f2) e1 := z2c h1 h2
theorem z2ca1 (h1 : env[i]? = some (some (d1, m1))) (h2 : prB p [Z.fr 1, d1] = some (d, f1)) : evE C (.op p [.val (.cst (.tup [.int 1, .int 1])), .at i]) env = .ok (d, f1) env := z2ca h1 h2
theorem zcv {a0 : IE} {g0 : Bool} {w0 : En} {x0 : D} (h0 : evE C a0 env = .ok (x0, g0) w0) (h : Ret C f [(x0, .frz)] d fr) : evE C (.call f [.val a0]) env = .ok (d, fr) w0 := x_call (x_as (x_val h0) x_as0) (y_do0 (x_ownv x_own0) (x_argvv x_argv0) h)
theorem zca {i0 : Nat} {x0 : D} (u0 : env[i0]? = some (some (x0, .frz))) (h : Ret C f [(x0, .frz)] d fr) : evE C (.call f [.at i0]) env = .ok (d, fr) env := x_call (x_as (x_at u0) x_as0) (y_do0 (x_owna u0 x_own0) (x_argva u0 x_argv0) h)
theorem zcvv {a0 : IE} {g0 : Bool} {w0 : En} {x0 : D} {a1 : IE} {g1 : Bool} {w1 : En} {x1 : D} (h0 : evE C a0 env = .ok (x0, g0) w0) (h1 : evE C a1 w0 = .ok (x1, g1) w1) (h : Ret C f [(x0, .frz), (x1, .frz)] d fr) : evE C (.call f [.val a0, .val a1]) env = .ok (d, fr) w1 := x_call (x_as (x_val h0) (x_as (x_val h1) x_as0)) (y_do0 (x_ownv (x_ownv x_own0)) (x_argvv (x_argvv x_argv0)) h)
theorem zcva {a0 : IE} {g0 : Bool} {w0 : En} {x0 : D} {i1 : Nat} {x1 y1 : D} (u1 : env[i1]? = some (some (y1, .frz))) (h0 : evE C a0 env = .ok (x0, g0) w0) (k1 : w0[i1]? = some (some (x1, .frz))) (h : Ret C f [(x0, .frz), (x1, .frz)] d fr) : evE C (.call f [.val a0, .at i1]) env = .ok (d, fr) w0 := x_call (x_as (x_val h0) (x_as (x_at k1) x_as0)) (y_do0 (x_ownv (x_owna k1 x_own0)) (x_argvv (x_argva k1 x_argv0)) h)
theorem zcav {i0 : Nat} {x0 y0 : D} {a1 : IE} {g1 : Bool} {w1 : En} {x1 : D} (u0 : env[i0]? = some (some (y0, .frz))) (h1 : evE C a1 env = .ok (x1, g1) w1) (k0 : w1[i0]? = some (some (x0, .frz))) (h : Ret C f [(x0, .frz), (x1, .frz)] d fr) : evE C (.call f [.at i0, .val a1]) env = .ok (d, fr) w1 := x_call (x_as (x_at u0) (x_as (x_val h1) x_as0)) (y_do0 (x_owna k0 (x_ownv x_own0)) (x_argva k0 (x_argvv x_argv0)) h)
theorem zcaa {i0 : Nat} {x0 : D} {i1 : Nat} {x1 : D} (u0 : env[i0]? = some (some (x0, .frz))) (u1 : env[i1]? = some (some (x1, .frz))) (h : Ret C f [(x0, .frz), (x1, .frz)] d fr) : evE C (.call f [.at i0, .at i1]) env = .ok (d, fr) env := x_call (x_as (x_at u0) (x_as (x_at u1) x_as0)) (y_do0 (x_owna u0 (x_owna u1 x_own0)) (x_argva u0 (x_argva u1 x_argv0)) h)
theorem zcvvv {a0 : IE} {g0 : Bool} {w0 : En} {x0 : D} {a1 : IE} {g1 : Bool} {w1 : En} {x1 : D} {a2 : IE} {g2 : Bool} {w2 : En} {x2 : D} (h0 : evE C a0 env = .ok (x0, g0) w0) (h1 : evE C a1 w0 = .ok (x1, g1) w1) (h2 : evE C a2 w1 = .ok (x2, g2) w2) (h : Ret C f [(x0, .frz), (x1, .frz), (x2, .frz)] d fr) : evE C (.call f [.val a0, .val a1, .val a2]) env = .ok (d, fr) w2 := x_call (x_as (x_val h0) (x_as (x_val h1) (x_as (x_val h2) x_as0))) (y_do0 (x_ownv (x_ownv (x_ownv x_own0))) (x_argvv (x_argvv (x_argvv x_argv0))) h)
theorem zcvva {a0 : IE} {g0 : Bool} {w0 : En} {x0 : D} {a1 : IE} {g1 : Bool} {w1 : En} {x1 : D} {i2 : Nat} {x2 y2 : D} (u2 : env[i2]? = some (some (y2, .frz))) (h0 : evE C a0 env = .ok (x0, g0) w0) (h1 : evE C a1 w0 = .ok (x1, g1) w1) (k2 : w1[i2]? = some (some (x2, .frz))) (h : Ret C f [(x0, .frz), (x1, .frz), (x2, .frz)] d fr) : evE C (.call f [.val a0, .val a1, .at i2]) env = .ok (d, fr) w1 := x_call (x_as (x_val h0) (x_as (x_val h1) (x_as (x_at k2) x_as0))) (y_do0 (x_ownv (x_ownv (x_owna k2 x_own0))) (x_argvv (x_argvv (x_argva k2 x_argv0))) h)
theorem zcvav {a0 : IE} {g0 : Bool} {w0 : En} {x0 : D} {i1 : Nat} {x1 y1 z1 : D} {a2 : IE} {g2 : Bool} {w2 : En} {x2 : D} (u1 : env[i1]? = some (some (y1, .frz))) (h0 : evE C a0 env = .ok (x0, g0) w0) (p1 : w0[i1]? = some (some (z1, .frz))) (h2 : evE C a2 w0 = .ok (x2, g2) w2) (k1 : w2[i1]? = some (some (x1, .frz))) (h : Ret C f [(x0, .frz), (x1, .frz), (x2, .frz)] d fr) : evE C (.call f [.val a0, .at i1, .val a2]) env = .ok (d, fr) w2 := x_call (x_as (x_val h0) (x_as (x_at p1) (x_as (x_val h2) x_as0))) (y_do0 (x_ownv (x_owna k1 (x_ownv x_own0))) (x_argvv (x_argva k1 (x_argvv x_argv0))) h)
theorem zcvaa {a0 : IE} {g0 : Bool} {w0 : En} {x0 : D} {i1 : Nat} {x1 y1 : D} {i2 : Nat} {x2 y2 : D} (u1 : env[i1]? = some (some (y1, .frz))) (u2 : env[i2]? = some (some (y2, .frz))) (h0 : evE C a0 env = .ok (x0, g0) w0) (k1 : w0[i1]? = some (some (x1, .frz))) (k2 : w0[i2]? = some (some (x2, .frz))) (h : Ret C f [(x0, .frz), (x1, .frz), (x2, .frz)] d fr) : evE C (.call f [.val a0, .at i1, .at i2]) env = .ok (d, fr) w0 := x_call (x_as (x_val h0) (x_as (x_at k1) (x_as (x_at k2) x_as0))) (y_do0 (x_ownv (x_owna k1 (x_owna k2 x_own0))) (x_argvv (x_argva k1 (x_argva k2 x_argv0))) h)
theorem zcavv {i0 : Nat} {x0 y0 : D} {a1 : IE} {g1 : Bool} {w1 : En} {x1 : D} {a2 : IE} {g2 : Bool} {w2 : En} {x2 : D} (u0 : env[i0]? = some (some (y0, .frz))) (h1 : evE C a1 env = .ok (x1, g1) w1) (h2 : evE C a2 w1 = .ok (x2, g2) w2) (k0 : w2[i0]? = some (some (x0, .frz))) (h : Ret C f [(x0, .frz), (x1, .frz), (x2, .frz)] d fr) : evE C (.call f [.at i0, .val a1, .val a2]) env = .ok (d, fr) w2 := x_call (x_as (x_at u0) (x_as (x_val h1) (x_as (x_val h2) x_as0))) (y_do0 (x_owna k0 (x_ownv (x_ownv x_own0))) (x_argva k0 (x_argvv (x_argvv x_argv0))) h)
theorem zcava {i0 : Nat} {x0 y0 : D} {a1 : IE} {g1 : Bool} {w1 : En} {x1 : D} {i2 : Nat} {x2 y2 : D} (u0 : env[i0]? = some (some (y0, .frz))) (u2 : env[i2]? = some (some (y2, .frz))) (h1 : evE C a1 env = .ok (x1, g1) w1) (k0 : w1[i0]? = some (some (x0, .frz))) (k2 : w1[i2]? = some (some (x2, .frz))) (h : Ret C f [(x0, .frz), (x1, .frz), (x2, .frz)] d fr) : evE C (.call f [.at i0, .val a1, .at i2]) env = .ok (d, fr) w1 := x_call (x_as (x_at u0) (x_as (x_val h1) (x_as (x_at k2) x_as0))) (y_do0 (x_owna k0 (x_ownv (x_owna k2 x_own0))) (x_argva k0 (x_argvv (x_argva k2 x_argv0))) h)
theorem zcaav {i0 : Nat} {x0 y0 : D} {i1 : Nat} {x1 y1 : D} {a2 : IE} {g2 : Bool} {w2 : En} {x2 : D} (u0 : env[i0]? = some (some (y0, .frz))) (u1 : env[i1]? = some (some (y1, .frz))) (h2 : evE C a2 env = .ok (x2, g2) w2) (k0 : w2[i0]? = some (some (x0, .frz))) (k1 : w2[i1]? = some (some (x1, .frz))) (h : Ret C f [(x0, .frz), (x1, .frz), (x2, .frz)] d fr) : evE C (.call f [.at i0, .at i1, .val a2]) env = .ok (d, fr) w2 := x_call (x_as (x_at u0) (x_as (x_at u1) (x_as (x_val h2) x_as0))) (y_do0 (x_owna k0 (x_owna k1 (x_ownv x_own0))) (x_argva k0 (x_argva k1 (x_argvv x_argv0))) h)
theorem zcaaa {i0 : Nat} {x0 : D} {i1 : Nat} {x1 : D} {i2 : Nat} {x2 : D} (u0 : env[i0]? = some (some (x0, .frz))) (u1 : env[i1]? = some (some (x1, .frz))) (u2 : env[i2]? = some (some (x2, .frz))) (h : Ret C f [(x0, .frz), (x1, .frz), (x2, .frz)] d fr) : evE C (.call f [.at i0, .at i1, .at i2]) env = .ok (d, fr) env := x_call (x_as (x_at u0) (x_as (x_at u1) (x_as (x_at u2) x_as0))) (y_do0 (x_owna u0 (x_owna u1 (x_owna u2 x_own0))) (x_argva u0 (x_argva u1 (x_argva u2 x_argv0))) h)
theorem zb {y z' : D}  (o : env[i]? = some (some (y, .own))) (h : RetB C f y [] d fr z') (hs : env.set i (some (z', .own)) = e3) : evE C (.call f [.at i]) env = .ok (d, fr) e3 := x_call (x_as (x_at o) x_as0) (y_do1 o x_own0 x_argv0 h hs)
theorem zbv {y z z' : D} {a0 : IE} {g0 : Bool} {w0 : En} {x0 : D} (o : env[i]? = some (some (y, .own))) (h0 : evE C a0 env = .ok (x0, g0) w0) (o2 : w0[i]? = some (some (z, .own))) (h : RetB C f z [(x0, .frz)] d fr z') (hs : w0.set i (some (z', .own)) = e3) : evE C (.call f [.at i, .val a0]) env = .ok (d, fr) e3 := x_call (x_as (x_at o) (x_as (x_val h0) x_as0)) (y_do1 o2 (x_ownv x_own0) (x_argvv x_argv0) h hs)
theorem zba {y z' : D} {i0 : Nat} {x0 : D} (o : env[i]? = some (some (y, .own))) (u0 : env[i0]? = some (some (x0, .frz))) (h : RetB C f y [(x0, .frz)] d fr z') (hs : env.set i (some (z', .own)) = e3) : evE C (.call f [.at i, .at i0]) env = .ok (d, fr) e3 := x_call (x_as (x_at o) (x_as (x_at u0) x_as0)) (y_do1 o (x_owna u0 x_own0) (x_argva u0 x_argv0) h hs)
theorem zbvv {y z z' : D} {a0 : IE} {g0 : Bool} {w0 : En} {x0 : D} {a1 : IE} {g1 : Bool} {w1 : En} {x1 : D} (o : env[i]? = some (some (y, .own))) (h0 : evE C a0 env = .ok (x0, g0) w0) (h1 : evE C a1 w0 = .ok (x1, g1) w1) (o2 : w1[i]? = some (some (z, .own))) (h : RetB C f z [(x0, .frz), (x1, .frz)] d fr z') (hs : w1.set i (some (z', .own)) = e3) : evE C (.call f [.at i, .val a0, .val a1]) env = .ok (d, fr) e3 := x_call (x_as (x_at o) (x_as (x_val h0) (x_as (x_val h1) x_as0))) (y_do1 o2 (x_ownv (x_ownv x_own0)) (x_argvv (x_argvv x_argv0)) h hs)
theorem zbva {y z z' : D} {a0 : IE} {g0 : Bool} {w0 : En} {x0 : D} {i1 : Nat} {x1 y1 : D} (o : env[i]? = some (some (y, .own))) (u1 : env[i1]? = some (some (y1, .frz))) (h0 : evE C a0 env = .ok (x0, g0) w0) (k1 : w0[i1]? = some (some (x1, .frz))) (o2 : w0[i]? = some (some (z, .own))) (h : RetB C f z [(x0, .frz), (x1, .frz)] d fr z') (hs : w0.set i (some (z', .own)) = e3) : evE C (.call f [.at i, .val a0, .at i1]) env = .ok (d, fr) e3 := x_call (x_as (x_at o) (x_as (x_val h0) (x_as (x_at k1) x_as0))) (y_do1 o2 (x_ownv (x_owna k1 x_own0)) (x_argvv (x_argva k1 x_argv0)) h hs)
theorem zbav {y z z' : D} {i0 : Nat} {x0 y0 : D} {a1 : IE} {g1 : Bool} {w1 : En} {x1 : D} (o : env[i]? = some (some (y, .own))) (u0 : env[i0]? = some (some (y0, .frz))) (h1 : evE C a1 env = .ok (x1, g1) w1) (k0 : w1[i0]? = some (some (x0, .frz))) (o2 : w1[i]? = some (some (z, .own))) (h : RetB C f z [(x0, .frz), (x1, .frz)] d fr z') (hs : w1.set i (some (z', .own)) = e3) : evE C (.call f [.at i, .at i0, .val a1]) env = .ok (d, fr) e3 := x_call (x_as (x_at o) (x_as (x_at u0) (x_as (x_val h1) x_as0))) (y_do1 o2 (x_owna k0 (x_ownv x_own0)) (x_argva k0 (x_argvv x_argv0)) h hs)
theorem zbaa {y z' : D} {i0 : Nat} {x0 : D} {i1 : Nat} {x1 : D} (o : env[i]? = some (some (y, .own))) (u0 : env[i0]? = some (some (x0, .frz))) (u1 : env[i1]? = some (some (x1, .frz))) (h : RetB C f y [(x0, .frz), (x1, .frz)] d fr z') (hs : env.set i (some (z', .own)) = e3) : evE C (.call f [.at i, .at i0, .at i1]) env = .ok (d, fr) e3 := x_call (x_as (x_at o) (x_as (x_at u0) (x_as (x_at u1) x_as0))) (y_do1 o (x_owna u0 (x_owna u1 x_own0)) (x_argva u0 (x_argva u1 x_argv0)) h hs)
theorem gd_c1 {x : IA} {r : Out (D × Bool)} (h : evE C (.call f [x]) env = r) : evE C (.call f [x]) env = r := h
theorem gd_c2 {x y : IA} {r : Out (D × Bool)} (h : evE C (.call f [x, y]) env = r) : evE C (.call f [x, y]) env = r := h
theorem gd_c3 {x y z : IA} {r : Out (D × Bool)} (h : evE C (.call f [x, y, z]) env = r) : evE C (.call f [x, y, z]) env = r := h
theorem gd_op {l : List IA} {r : Out (D × Bool)} (h : evE C (.op p l) env = r) : evE C (.op p l) env = r := h
theorem zTv {k : Bool} (h1 : evE C a env = .ok (d, f1) e1) (h2 : truthy d = some k) : evT C (.val (.val a)) env = .ok k e1 := x_T (x_val h1) x_f1v h2
theorem zTa {k : Bool} (h1 : env[i]? = some (some (d, m))) (h2 : truthy d = some k) : evT C (.val (.at i)) env = .ok k env := x_T (x_at h1) (x_f1a h1) h2
end
end Z
namespace Z
open PySem PySem.Spec PyProof.Rows L2
def topS (i : Nat) : Stmt := PySem.Challenge.pw_raytrain_k05_half_planes.main.body.getD i (.Pass ⟨0, 0, 0, 0⟩)
def F_common_divisor : Fn := ⟨2, [], 2, [.ret (.op .gcd [(.at 0), (.at 1)])]⟩
def F_fraction : Fn := ⟨2, [(.int (1))], 3, [.ife (.val (.val (.op .lt [(.at 1), (.val (.cst (.int (0))))]))) [.par [0, 1] [(.op .neg [(.at 0)]), (.op .neg [(.at 1)])]] [], .set 2 (.call 0 [(.at 0), (.at 1)]), .ret (.tup [(.op .fdiv [(.at 0), (.at 2)]), (.op .fdiv [(.at 1), (.at 2)])])]⟩
def F_compare : Fn := ⟨2, [], 4, [.set 2 (.op .mul [(.val (.op .ix [(.at 0), (.val (.cst (.int (0))))])), (.val (.op .ix [(.at 1), (.val (.cst (.int (1))))]))]), .set 3 (.op .mul [(.val (.op .ix [(.at 1), (.val (.cst (.int (0))))])), (.val (.op .ix [(.at 0), (.val (.cst (.int (1))))]))]), .ife (.val (.val (.op .lt [(.at 2), (.at 3)]))) [.ret (.op .neg [(.val (.cst (.int (1))))])] [], .ret (.ife (.val (.val (.op .gt [(.at 2), (.at 3)]))) (.cst (.int (1))) (.cst (.int (0))))]⟩
def F_is_at_most : Fn := ⟨2, [], 2, [.ret (.op .le [(.val (.call 2 [(.at 0), (.at 1)])), (.val (.cst (.int (0))))])]⟩
def F_whole_numbers : Fn := ⟨1, [], 6, [.set 1 (.cst (.int (1))), .forr (.nm 2) (.over (.at 0)) [.set 1 (.op .mul [(.at 1), (.val (.op .ix [(.at 2), (.val (.cst (.int (1))))]))])], .ret (.comp [3, 4, 5] (.tp [4, 5]) (.over (.at 0)) [] (.op .mul [(.at 4), (.val (.op .fdiv [(.at 1), (.at 5)]))]))]⟩
def F_make_half_plane : Fn := ⟨3, [], 5, [.ife (.and (.val (.val (.op .eq [(.at 0), (.val (.cst (.tup [(.int (0)), (.int (1))])))]))) (.val (.val (.op .eq [(.at 1), (.val (.cst (.tup [(.int (0)), (.int (1))])))])))) [.rz 0] [], .set 3 (.call 4 [(.val (.lst [(.var 0), (.var 1), (.var 2)]))]), .set 4 (.call 0 [(.val (.call 0 [(.val (.op .ix [(.at 3), (.val (.cst (.int (0))))])), (.val (.op .ix [(.at 3), (.val (.cst (.int (1))))]))])), (.val (.op .ix [(.at 3), (.val (.cst (.int (2))))]))]), .ret (.tup [(.op .fdiv [(.val (.op .ix [(.at 3), (.val (.cst (.int (0))))])), (.at 4)]), (.op .fdiv [(.val (.op .ix [(.at 3), (.val (.cst (.int (1))))])), (.at 4)]), (.op .fdiv [(.val (.op .ix [(.at 3), (.val (.cst (.int (2))))])), (.at 4)])])]⟩
def F_value_at : Fn := ⟨2, [], 7, [.unp [2, 3, 4] (.var 0), .unp [5, 6] (.var 1), .ret (.call 1 [(.val (.op .add [(.val (.op .mul [(.val (.op .mul [(.at 2), (.val (.op .ix [(.at 5), (.val (.cst (.int (0))))]))])), (.val (.op .ix [(.at 6), (.val (.cst (.int (1))))]))])), (.val (.op .mul [(.val (.op .mul [(.at 3), (.val (.op .ix [(.at 6), (.val (.cst (.int (0))))]))])), (.val (.op .ix [(.at 5), (.val (.cst (.int (1))))]))]))])), (.val (.op .mul [(.val (.op .ix [(.at 5), (.val (.cst (.int (1))))])), (.val (.op .ix [(.at 6), (.val (.cst (.int (1))))]))]))])]⟩
def F_contains_ray : Fn := ⟨2, [], 3, [.forr (.nm 2) (.over (.at 0)) [.ife (.not (.val (.val (.call 3 [(.val (.call 6 [(.at 2), (.at 1)])), (.val (.call 1 [(.val (.op .ix [(.at 2), (.val (.cst (.int (2))))]))]))])))) [.ret (.cst (.bl false))] []], .ret (.cst (.bl true))]⟩
def F__law_cell : Fn := ⟨2, [], 2, [.ife (.val (.val (.op .lt [(.at 1), (.val (.op .len [(.at 0)]))]))) [.ret (.op .ix [(.at 0), (.at 1)])] [], .ret (.cst (.int (0)))]⟩
def F__law_digits : Fn := ⟨3, [], 8, [.set 3 (.lst []), .forr (.nm 4) (.range (.var 1) (.var 2)) [.set 5 (.call 8 [(.at 0), (.at 4)]), .ife (.val (.val (.op .lt [(.at 5), (.val (.cst (.int (0))))]))) [.set 5 (.op .sub [(.val (.cst (.int (1)))), (.val (.op .mul [(.val (.cst (.int (2)))), (.at 5)]))])] [], .ife (.val (.val (.op .ge [(.at 5), (.val (.op .pow [(.val (.cst (.int (10)))), (.val (.cst (.int (18))))]))]))) [.forr (.nm 6) (.range (.cst (.int (0))) (.cst (.int (60)))) [.ife (.val (.val (.op .gt [(.at 5), (.val (.cst (.int (0))))]))) [.app 3 (.op .mod [(.val (.op .int [(.at 5)])), (.val (.cst (.int (1000))))]), .set 5 (.op .fdiv [(.at 5), (.val (.cst (.int (1000))))])] []]] [.set 7 (.op .mod [(.val (.op .int [(.val (.op .add [(.val (.op .add [(.val (.op .mul [(.at 5), (.val (.cst (.int (48271))))])), (.val (.op .mul [(.at 4), (.val (.cst (.int (69621))))]))])), (.val (.cst (.int (11))))]))])), (.val (.cst (.int (2147483647))))]), .forr (.nm 6) (.range (.cst (.int (0))) (.cst (.int (12)))) [.set 7 (.op .mod [(.val (.op .int [(.val (.op .add [(.val (.op .add [(.val (.op .mul [(.at 7), (.val (.cst (.int (16807))))])), (.val (.op .mul [(.val (.cst (.int (7)))), (.at 6)]))])), (.val (.cst (.int (1))))]))])), (.val (.cst (.int (2147483647))))]), .app 3 (.op .mod [(.val (.op .int [(.val (.op .fdiv [(.at 7), (.val (.cst (.int (997))))]))])), (.val (.cst (.int (1000))))])]]], .retv 3]⟩
def F__law_draw : Fn := ⟨2, [], 3, [.set 2 (.op .ix [(.at 0), (.val (.cst (.int (1))))]), .setix 0 (.cst (.int (1))) (.op .add [(.at 2), (.val (.cst (.int (1))))]), .ife (.val (.val (.op .lt [(.at 2), (.val (.op .len [(.val (.op .ix [(.at 0), (.val (.cst (.int (0))))]))]))]))) [.ret (.op .mod [(.val (.op .int [(.val (.op .ix [(.val (.op .ix [(.at 0), (.val (.cst (.int (0))))])), (.at 2)]))])), (.at 1)])] [], .ret (.cst (.int (0)))]⟩
def F__law_divisor : Fn := ⟨2, [], 3, [.set 0 (.op .abs [(.at 0)]), .set 1 (.op .abs [(.at 1)]), .forr (.nm 2) (.range (.cst (.int (0))) (.cst (.int (400)))) [.ife (.val (.val (.op .gt [(.at 1), (.val (.cst (.int (0))))]))) [.par [0, 1] [(.var 1), (.op .mod [(.at 0), (.at 1)])]] []], .retv 0]⟩
def F__law_fr : Fn := ⟨2, [], 3, [.ife (.val (.val (.op .lt [(.at 1), (.val (.cst (.int (0))))]))) [.set 0 (.op .sub [(.val (.cst (.int (0)))), (.at 0)]), .set 1 (.op .sub [(.val (.cst (.int (0)))), (.at 1)])] [], .set 2 (.call 11 [(.at 0), (.at 1)]), .ret (.tup [(.op .fdiv [(.at 0), (.at 2)]), (.op .fdiv [(.at 1), (.at 2)])])]⟩
def F__law_add : Fn := ⟨2, [], 2, [.ret (.call 12 [(.val (.op .add [(.val (.op .mul [(.val (.op .ix [(.at 0), (.val (.cst (.int (0))))])), (.val (.op .ix [(.at 1), (.val (.cst (.int (1))))]))])), (.val (.op .mul [(.val (.op .ix [(.at 1), (.val (.cst (.int (0))))])), (.val (.op .ix [(.at 0), (.val (.cst (.int (1))))]))]))])), (.val (.op .mul [(.val (.op .ix [(.at 0), (.val (.cst (.int (1))))])), (.val (.op .ix [(.at 1), (.val (.cst (.int (1))))]))]))])]⟩
def F__law_mul : Fn := ⟨2, [], 2, [.ret (.call 12 [(.val (.op .mul [(.val (.op .ix [(.at 0), (.val (.cst (.int (0))))])), (.val (.op .ix [(.at 1), (.val (.cst (.int (0))))]))])), (.val (.op .mul [(.val (.op .ix [(.at 0), (.val (.cst (.int (1))))])), (.val (.op .ix [(.at 1), (.val (.cst (.int (1))))]))]))])]⟩
def F__law_less : Fn := ⟨2, [], 2, [.ret (.op .lt [(.val (.op .mul [(.val (.op .ix [(.at 0), (.val (.cst (.int (0))))])), (.val (.op .ix [(.at 1), (.val (.cst (.int (1))))]))])), (.val (.op .mul [(.val (.op .ix [(.at 1), (.val (.cst (.int (0))))])), (.val (.op .ix [(.at 0), (.val (.cst (.int (1))))]))]))])]⟩
def F__law_some : Fn := ⟨1, [], 1, [.ret (.call 12 [(.val (.op .sub [(.val (.call 10 [(.at 0), (.val (.cst (.int (13))))])), (.val (.cst (.int (6))))])), (.val (.op .ix [(.val (.lst [(.cst (.int (1))), (.cst (.int (1))), (.cst (.int (1))), (.cst (.int (2))), (.cst (.int (3))), (.cst (.int (4)))])), (.val (.call 10 [(.at 0), (.val (.cst (.int (6))))]))]))])]⟩
def F__law_ray : Fn := ⟨1, [], 1, [.ret (.tup [(.call 16 [(.at 0)]), (.call 16 [(.at 0)])])]⟩
def F__law_made : Fn := ⟨3, [], 4, [.tr 3 [.ret (.call 5 [(.at 0), (.at 1), (.at 2)])] [some .non]]⟩
def F_law : Fn := ⟨1, [], 11, [.set 1 (.lst [(.call 9 [(.at 0), (.val (.cst (.int (0)))), (.val (.cst (.int (63))))]), (.cst (.int (0)))]), .forr (.nm 2) (.range (.cst (.int (0))) (.cst (.int (3)))) [.set 3 (.call 16 [(.at 1)]), .set 4 (.call 16 [(.at 1)]), .set 5 (.call 16 [(.at 1)]), .set 6 (.call 18 [(.at 3), (.at 4), (.at 5)]), .ife (.and (.val (.val (.op .eq [(.val (.op .ix [(.at 3), (.val (.cst (.int (0))))])), (.val (.cst (.int (0))))]))) (.val (.val (.op .eq [(.val (.op .ix [(.at 4), (.val (.cst (.int (0))))])), (.val (.cst (.int (0))))])))) [.ife (.val (.val (.op .notn [(.at 6)]))) [.ret (.cst (.bl false))] [], .cont] [], .ife (.or (.not (.val (.val (.op (.isi .tuple) [(.at 6)])))) (.or (.val (.val (.op .ne [(.val (.op .len [(.at 6)])), (.val (.cst (.int (3))))]))) (.val (.val (.op .ne [(.val (.call 11 [(.val (.call 11 [(.val (.op .ix [(.at 6), (.val (.cst (.int (0))))])), (.val (.op .ix [(.at 6), (.val (.cst (.int (1))))]))])), (.val (.op .ix [(.at 6), (.val (.cst (.int (2))))]))])), (.val (.cst (.int (1))))]))))) [.ret (.cst (.bl false))] [], .forr (.nm 7) (.range (.cst (.int (0))) (.cst (.int (4)))) [.set 8 (.call 17 [(.at 1)]), .set 9 (.call 13 [(.val (.call 14 [(.at 3), (.val (.op .ix [(.at 8), (.val (.cst (.int (0))))]))])), (.val (.call 14 [(.at 4), (.val (.op .ix [(.at 8), (.val (.cst (.int (1))))]))]))]), .ife (.val (.val (.op .ne [(.val (.call 7 [(.val (.lst [(.var 6)])), (.at 8)])), (.val (.not (.call 15 [(.at 5), (.at 9)])))]))) [.ret (.cst (.bl false))] [], .set 10 (.call 13 [(.val (.call 14 [(.val (.tup [(.op .ix [(.at 6), (.val (.cst (.int (0))))]), (.cst (.int (1)))])), (.val (.op .ix [(.at 8), (.val (.cst (.int (0))))]))])), (.val (.call 14 [(.val (.tup [(.op .ix [(.at 6), (.val (.cst (.int (1))))]), (.cst (.int (1)))])), (.val (.op .ix [(.at 8), (.val (.cst (.int (1))))]))]))]), .ife (.val (.val (.op .ne [(.val (.call 6 [(.at 6), (.at 8)])), (.at 10)]))) [.ret (.cst (.bl false))] []]], .ret (.op .isb [(.val (.call 7 [(.val (.lst [])), (.val (.call 17 [(.at 1)]))])), (.val (.cst (.bl true)))])]⟩
def names : List Str := ["common_divisor", "fraction", "compare", "is_at_most", "whole_numbers", "make_half_plane", "value_at", "contains_ray", "_law_cell", "_law_digits", "_law_draw", "_law_divisor", "_law_fr", "_law_add", "_law_mul", "_law_less", "_law_some", "_law_ray", "_law_made", "law"]
def ents : List Ent := [⟨"common_divisor", topS 6, F_common_divisor, ["first", "second"], ["first", "second"]⟩,
  ⟨"fraction", topS 7, F_fraction, ["numerator", "denominator", "divisor"], ["numerator", "denominator"]⟩,
  ⟨"compare", topS 8, F_compare, ["first", "second", "left", "right"], ["first", "second"]⟩,
  ⟨"is_at_most", topS 9, F_is_at_most, ["first", "second"], ["first", "second"]⟩,
  ⟨"whole_numbers", topS 10, F_whole_numbers, ["values", "scale", "value", ".0", "numerator", "denominator"], ["values"]⟩,
  ⟨"make_half_plane", topS 12, F_make_half_plane, ["p", "q", "r", "whole", "divisor"], ["p", "q", "r"]⟩,
  ⟨"value_at", topS 13, F_value_at, ["half_plane", "ray", "p", "q", "_", "height", "slope"], ["half_plane", "ray"]⟩,
  ⟨"contains_ray", topS 14, F_contains_ray, ["half_planes", "ray", "half_plane"], ["half_planes", "ray"]⟩,
  ⟨"_law_cell", topS 16, F__law_cell, ["script", "k"], ["script", "k"]⟩,
  ⟨"_law_digits", topS 17, F__law_digits, ["script", "first", "last", "digits", "k", "cell", "turn", "seed"], ["script", "first", "last"]⟩,
  ⟨"_law_draw", topS 18, F__law_draw, ["box", "many", "at"], ["box", "many"]⟩,
  ⟨"_law_divisor", topS 19, F__law_divisor, ["one", "other", "turn"], ["one", "other"]⟩,
  ⟨"_law_fr", topS 20, F__law_fr, ["n", "d", "g"], ["n", "d"]⟩,
  ⟨"_law_add", topS 21, F__law_add, ["x", "y"], ["x", "y"]⟩,
  ⟨"_law_mul", topS 23, F__law_mul, ["x", "y"], ["x", "y"]⟩,
  ⟨"_law_less", topS 24, F__law_less, ["x", "y"], ["x", "y"]⟩,
  ⟨"_law_some", topS 25, F__law_some, ["box"], ["box"]⟩,
  ⟨"_law_ray", topS 34, F__law_ray, ["box"], ["box"]⟩,
  ⟨"_law_made", topS 35, F__law_made, ["p", "q", "r", "e"], ["p", "q", "r"]⟩,
  ⟨"law", topS 36, F_law, ["script", "box", "turn", "p", "q", "r", "told", "k", "ray", "worth", "due"], ["script"]⟩]
def tab : Tab := ⟨names, fun j => (ents[j]?).map (·.F), [("ZERO", (.tup [(.int (0)), (.int (1))]))], true, false, [("NoDirection", none)], [("NoDirection", "NoDirection", true)], [("NoDirection", "RaytrainError")]⟩
theorem is_common_divisor : DefIs tab (topS 6) F_common_divisor ["first", "second"] ["first", "second"] := ⟨⟨rfl, rfl, rfl, by decide +kernel, rfl, by decide +kernel, by decide +kernel⟩, by kernel_rfl, rfl, rfl, by decide⟩
theorem is_fraction : DefIs tab (topS 7) F_fraction ["numerator", "denominator", "divisor"] ["numerator", "denominator"] := ⟨⟨rfl, rfl, rfl, by decide +kernel, rfl, by decide +kernel, by decide +kernel⟩, by kernel_rfl, rfl, rfl, by decide⟩
theorem is_compare : DefIs tab (topS 8) F_compare ["first", "second", "left", "right"] ["first", "second"] := ⟨⟨rfl, rfl, rfl, by decide +kernel, rfl, by decide +kernel, by decide +kernel⟩, by kernel_rfl, rfl, rfl, by decide⟩
theorem is_is_at_most : DefIs tab (topS 9) F_is_at_most ["first", "second"] ["first", "second"] := ⟨⟨rfl, rfl, rfl, by decide +kernel, rfl, by decide +kernel, by decide +kernel⟩, by kernel_rfl, rfl, rfl, by decide⟩
theorem is_whole_numbers : DefIs tab (topS 10) F_whole_numbers ["values", "scale", "value", ".0", "numerator", "denominator"] ["values"] := ⟨⟨rfl, rfl, rfl, by decide +kernel, rfl, by decide +kernel, by decide +kernel⟩, by kernel_rfl, rfl, rfl, by decide⟩
theorem is_make_half_plane : DefIs tab (topS 12) F_make_half_plane ["p", "q", "r", "whole", "divisor"] ["p", "q", "r"] := ⟨⟨rfl, rfl, rfl, by decide +kernel, rfl, by decide +kernel, by decide +kernel⟩, by kernel_rfl, rfl, rfl, by decide⟩
theorem is_value_at : DefIs tab (topS 13) F_value_at ["half_plane", "ray", "p", "q", "_", "height", "slope"] ["half_plane", "ray"] := ⟨⟨rfl, rfl, rfl, by decide +kernel, rfl, by decide +kernel, by decide +kernel⟩, by kernel_rfl, rfl, rfl, by decide⟩
theorem is_contains_ray : DefIs tab (topS 14) F_contains_ray ["half_planes", "ray", "half_plane"] ["half_planes", "ray"] := ⟨⟨rfl, rfl, rfl, by decide +kernel, rfl, by decide +kernel, by decide +kernel⟩, by kernel_rfl, rfl, rfl, by decide⟩
theorem is__law_cell : DefIs tab (topS 16) F__law_cell ["script", "k"] ["script", "k"] := ⟨⟨rfl, rfl, rfl, by decide +kernel, rfl, by decide +kernel, by decide +kernel⟩, by kernel_rfl, rfl, rfl, by decide⟩
theorem is__law_digits : DefIs tab (topS 17) F__law_digits ["script", "first", "last", "digits", "k", "cell", "turn", "seed"] ["script", "first", "last"] := ⟨⟨rfl, rfl, rfl, by decide +kernel, rfl, by decide +kernel, by decide +kernel⟩, by kernel_rfl, rfl, rfl, by decide⟩
theorem is__law_draw : DefIs tab (topS 18) F__law_draw ["box", "many", "at"] ["box", "many"] := ⟨⟨rfl, rfl, rfl, by decide +kernel, rfl, by decide +kernel, by decide +kernel⟩, by kernel_rfl, rfl, rfl, by decide⟩
theorem is__law_divisor : DefIs tab (topS 19) F__law_divisor ["one", "other", "turn"] ["one", "other"] := ⟨⟨rfl, rfl, rfl, by decide +kernel, rfl, by decide +kernel, by decide +kernel⟩, by kernel_rfl, rfl, rfl, by decide⟩
theorem is__law_fr : DefIs tab (topS 20) F__law_fr ["n", "d", "g"] ["n", "d"] := ⟨⟨rfl, rfl, rfl, by decide +kernel, rfl, by decide +kernel, by decide +kernel⟩, by kernel_rfl, rfl, rfl, by decide⟩
theorem is__law_add : DefIs tab (topS 21) F__law_add ["x", "y"] ["x", "y"] := ⟨⟨rfl, rfl, rfl, by decide +kernel, rfl, by decide +kernel, by decide +kernel⟩, by kernel_rfl, rfl, rfl, by decide⟩
theorem is__law_mul : DefIs tab (topS 23) F__law_mul ["x", "y"] ["x", "y"] := ⟨⟨rfl, rfl, rfl, by decide +kernel, rfl, by decide +kernel, by decide +kernel⟩, by kernel_rfl, rfl, rfl, by decide⟩
theorem is__law_less : DefIs tab (topS 24) F__law_less ["x", "y"] ["x", "y"] := ⟨⟨rfl, rfl, rfl, by decide +kernel, rfl, by decide +kernel, by decide +kernel⟩, by kernel_rfl, rfl, rfl, by decide⟩
theorem is__law_some : DefIs tab (topS 25) F__law_some ["box"] ["box"] := ⟨⟨rfl, rfl, rfl, by decide +kernel, rfl, by decide +kernel, by decide +kernel⟩, by kernel_rfl, rfl, rfl, by decide⟩
theorem is__law_ray : DefIs tab (topS 34) F__law_ray ["box"] ["box"] := ⟨⟨rfl, rfl, rfl, by decide +kernel, rfl, by decide +kernel, by decide +kernel⟩, by kernel_rfl, rfl, rfl, by decide⟩
theorem is__law_made : DefIs tab (topS 35) F__law_made ["p", "q", "r", "e"] ["p", "q", "r"] := ⟨⟨rfl, rfl, rfl, by decide +kernel, rfl, by decide +kernel, by decide +kernel⟩, by kernel_rfl, rfl, rfl, by decide⟩
theorem is_law : DefIs tab (topS 36) F_law ["script", "box", "turn", "p", "q", "r", "told", "k", "ray", "worth", "due"] ["script"] := ⟨⟨rfl, rfl, rfl, by decide +kernel, rfl, by decide +kernel, by decide +kernel⟩, by kernel_rfl, rfl, rfl, by decide⟩
abbrev i_common_divisor : Nat := 0
theorem fn_common_divisor : tab.fns 0 = some F_common_divisor := rfl
abbrev i_fraction : Nat := 1
theorem fn_fraction : tab.fns 1 = some F_fraction := rfl
abbrev i_compare : Nat := 2
theorem fn_compare : tab.fns 2 = some F_compare := rfl
abbrev i_is_at_most : Nat := 3
theorem fn_is_at_most : tab.fns 3 = some F_is_at_most := rfl
abbrev i_whole_numbers : Nat := 4
theorem fn_whole_numbers : tab.fns 4 = some F_whole_numbers := rfl
abbrev i_make_half_plane : Nat := 5
theorem fn_make_half_plane : tab.fns 5 = some F_make_half_plane := rfl
abbrev i_value_at : Nat := 6
theorem fn_value_at : tab.fns 6 = some F_value_at := rfl
abbrev i_contains_ray : Nat := 7
theorem fn_contains_ray : tab.fns 7 = some F_contains_ray := rfl
abbrev i__law_cell : Nat := 8
theorem fn__law_cell : tab.fns 8 = some F__law_cell := rfl
abbrev i__law_digits : Nat := 9
theorem fn__law_digits : tab.fns 9 = some F__law_digits := rfl
abbrev i__law_draw : Nat := 10
theorem fn__law_draw : tab.fns 10 = some F__law_draw := rfl
abbrev i__law_divisor : Nat := 11
theorem fn__law_divisor : tab.fns 11 = some F__law_divisor := rfl
abbrev i__law_fr : Nat := 12
theorem fn__law_fr : tab.fns 12 = some F__law_fr := rfl
abbrev i__law_add : Nat := 13
theorem fn__law_add : tab.fns 13 = some F__law_add := rfl
abbrev i__law_mul : Nat := 14
theorem fn__law_mul : tab.fns 14 = some F__law_mul := rfl
abbrev i__law_less : Nat := 15
theorem fn__law_less : tab.fns 15 = some F__law_less := rfl
abbrev i__law_some : Nat := 16
theorem fn__law_some : tab.fns 16 = some F__law_some := rfl
abbrev i__law_ray : Nat := 17
theorem fn__law_ray : tab.fns 17 = some F__law_ray := rfl
abbrev i__law_made : Nat := 18
theorem fn__law_made : tab.fns 18 = some F__law_made := rfl
abbrev i_law : Nat := 19
theorem fn_law : tab.fns 19 = some F_law := rfl
end Z
namespace Z
open PySem PySem.Spec PyProof.Rows L2
/-- a def's entry from the facts of the head -/
theorem ent_f {T : Tab} {K : PySem.W.Frag} {mg : Str → Option Value} {e : Ent} {f : Addr} {fd : FuncData} (is : DefIs T e.st e.F e.N e.ps) (g : mg e.name = some (.ref f)) (F : FunD K e.name e.name (defArgs e.st) (defBody e.st) (defScope e.st) [] [] f fd) (hd : e.F.dv = [])
    (hb : ∀ (kV doc pm : Value) (an : Option Addr) (cdv ct : Value) (us : List Value), us.length = e.ps.length → bindArgs (PySem.W.fnOf e.name e.name (defArgs e.st) (defBody e.st) (defScope e.st) .none kV doc pm an cdv ct) ⟨us, []⟩ = pure (e.ps.zip us)) : EntOk T K mg e := by
  refine ⟨is, f, _, [], g, F, fun M H => by rw [hd]; exact .nil, fun n hn => ?_⟩
  have hn : n = 0 := by simpa using hn
  subst hn
  exact ⟨[], .nil, F.bindsN hb⟩
theorem ent_fD {T : Tab} {K : PySem.W.Frag} {mg : Str → Option Value} {e : Ent} {f : Addr} {fd : FuncData} (is : DefIs T e.st e.F e.N e.ps) (g : mg e.name = some (.ref f)) (dvs : List V) (F : FunD K e.name e.name (defArgs e.st) (defBody e.st) (defScope e.st) dvs [] f fd)
    (hne : dvs ≠ []) (hd : ∀ M H, Reps K M H e.F.dv dvs) (hlen : dvs.length ≤ e.ps.length)
    (hb : ∀ j, j ≤ dvs.length → ∀ (T : Addr) (kV doc pm : Value) (an : Option Addr) (cdv ct : Value) (us its : List Value), us.length + (dvs.length - j) = e.ps.length → its.length = dvs.length →
      ∃ k, bindArgs (PySem.W.fnOf e.name e.name (defArgs e.st) (defBody e.st) (defScope e.st) (.ref T) kV doc pm an cdv ct) ⟨us, []⟩ = seqItems? (.ref T) >>= k ∧ k (some its.toArray) = pure (e.ps.zip (us ++ its.drop j))) : EntOk T K mg e := by
  refine ⟨is, f, _, dvs, g, F, hd, fun j hj => ?_⟩
  exact F.binds1 (e.ps.length - (dvs.length - j)) j hne (by omega) fun T kV doc pm an cdv ct us its hu hi => hb j hj T kV doc pm an cdv ct us its (by omega) hi
end Z
namespace Z
open PySem PySem.Spec PyProof.Rows L2
theorem walk_GE {l : PySem.W.OpenLaw} {n k : Nat} {q : Program} {loose : List Str} {XP : (Str → Option Value) → Heap → Prop} {YP : World → Heap → Prop} {d : DefRec} {C : World → CXT} {x : Str}
    (most : l.most = some n) (few : n ≤ sizeLine) (plain : d.params.defaults = []) (rm : Room k callerA)
    (F : ∀ (w : World) (mg : Str → Option Value) (fa : Addr) (h : Heap), YP w h → h.Ns mainGlobals mg → mg d.name = some (.ref fa) →
      ∃ (K : PySem.W.Frag) (fd : FuncData) (sp : Sp), K.In h ∧ (∀ (s : Shared) (u : Value), BindsTo s fd ⟨[u], []⟩ [(x, u)]) ∧
        (∀ (H : Hp) (a : Addr) (ns : List Int), ns.length ≤ n → Only H → SqL K H a (ns.map V.int) → sp [.ref a] H (fun v _ => v = .bl true) fun _ _ _ => False) ∧
        ∀ base : Heap, K.In base → base.Ns mainGlobals mg → FnG l.prog w K mg base (C w) k fa fd [x] sp)
    (none_out : ∀ (w : World) (H : Hp) (s : Shared) (e : Value) (s2 : Shared), C w [] H s (fun _ _ _ => False) e s2 → False) :
    PySem.W.WalkO q loose XP YP l.row.toRowW d [] (fun f vs => PySem.call f vs) := by
  apply Att.attach_call most plain
  intro w s1 s mg mb fa o pm cd doc a vs ns G Y _ _ _ hm at_a wh len gn
  obtain ⟨K, fd, sp, KX, bd, say, F2⟩ := F w mg fa _ Y G.T.g hm
  exact law_goG KX G.T.g G.T.b G.T.builtins G.T.nolimit gn at_a wh (Nat.le_trans len few) rm F2 bd (fun H h1 h2 => say H a ns len h1 h2) (fun H e s2 => none_out w H s e s2)
end Z
namespace Z
open PySem PySem.Spec PyProof.Rows L2
/-- do a value and a datum go together pairwise -/
def all2 (f : Value → D → Bool) : List Value → List D → Bool
  | [], [] => true
  | u :: us, d :: ds => f u d && all2 f us ds
  | _, _ => false
/-- is a constant of the top the datum d -/
def repB (K : PySem.W.Frag) : Nat → Value → D → Bool
  | k + 1, u, d => match u, d with
    | .int j _, .int i => decide (j = i)
    | .ref t, .tup ds => match K.lookup t with
      | some o => match o.cls, o.data with
        | .type c, .seq its _ => decide (c = "tuple") && (Nat.ble its.toList.length 1000 && all2 (repB K k) its.toList ds)
        | _, _ => false
      | none => false
    | _, _ => false
  | 0, _, _ => false
theorem all2_ok {K : PySem.W.Frag} {f : Value → D → Bool} (h : ∀ u d, f u d = true → ∃ v, RelV v u ∧ ∀ M H, Rep K M H d v) : ∀ us ds, all2 f us ds = true → RVals K us ds
  | [], [], _ => .nil
  | u :: us, d :: ds, e => by
    have e2 := Bool.and_eq_true_iff.mp (show (f u d && all2 f us ds) = true from e)
    obtain ⟨v, a, b⟩ := h u d e2.1
    exact .cons v a b (all2_ok h us ds e2.2)
  | [], _ :: _, e => nomatch (show false = true from e)
  | _ :: _, [], e => nomatch (show false = true from e)
theorem repB_ok {K : PySem.W.Frag} : ∀ (k : Nat) (u : Value) (d : D), repB K k u d = true → ∃ v, RelV v u ∧ ∀ M H, Rep K M H d v
  | 0, _, _, e => by simp [repB] at e
  | k + 1, u, d, e => by
    unfold repB at e
    split at e
    · rename_i j t i
      have q := of_decide_eq_true e
      subst q
      exact ⟨.int _, ⟨_, rfl⟩, fun _ _ => .int _⟩
    · rename_i t ds
      split at e
      · rename_i o l
        split at e
        · rename_i c its n hc hd
          have e1 := Bool.and_eq_true_iff.mp e
          have e2 := Bool.and_eq_true_iff.mp e1.2
          have q := of_decide_eq_true e1.1
          subst q
          exact ⟨.ref t, rfl, rep_tupN l hc (by simpa using hd) (Nat.le_of_ble_eq_true e2.1) (all2_ok (repB_ok k) _ _ e2.2)⟩
        · cases e
      · cases e
    · cases e
end Z
namespace Z
open PySem PySem.Spec PyProof.Rows L2
def oexB (K : PySem.W.Frag) (C : Addr) : Bool := (match K.lookup C with
  | some ⟨.type "type", _, .cls cd, sl⟩ => (match cd.mro, sl.toList with
    | .ref C' :: bm, [_, _, _, _, some (.builtin n), _] => decide (C' = C) && (n == "ValueError.__new__" && (!cd.hasDel && (cd.hasDict && PySem.HandSPX.refsVE bm)))
    | _, _ => false)
  | _ => false) && (He.eqO (PySem.W.findIn K (.ref C) "__setattr__") (some (some (.builtin "object.__setattr__"))) && (decide (PySem.W.subIn K (.ref C) (.type "BaseException") = some true) && (decide (PySem.W.typeIn K (.ref C) = some (.type "type")) && PySem.W.keepIn K (.ref C))))
theorem oexB_ok {K : PySem.W.Frag} {C : Addr} (c : oexB K C = true) : OexC K C := by
  obtain ⟨c0, c⟩ := He.ba c
  obtain ⟨c1, c⟩ := He.ba c
  obtain ⟨c2, c⟩ := He.ba c
  obtain ⟨c3, c4⟩ := He.ba c
  refine ⟨?_, He.eqO_ok c1, of_decide_eq_true c2, of_decide_eq_true c3, c4⟩
  split at c0
  · rename_i dd cd sl ho
    split at c0
    · rename_i C' bm k0 k1 k2 k3 n k5 hm hs
      simp only [Bool.and_eq_true, beq_iff_eq, Bool.not_eq_true', decide_eq_true_eq] at c0
      obtain ⟨rfl, rfl, hdel, hdict, ht⟩ := c0
      obtain ⟨nm, bs, mro, ns, qn, hd, sn, sub, ab, col, del⟩ := cd
      dsimp only at hm hdel hdict
      subst hm hdel hdict
      have hsl : sl = #[k0, k1, k2, k3, some (.builtin "ValueError.__new__"), k5] := by
        obtain ⟨l⟩ := sl
        simp only at hs
        rw [hs]
      subst hsl
      exact ⟨nm, qn, ns, bs, bm, sn, sub, ab, col, dd, k0, k1, k2, k3, k5, ho, ht⟩
    · cases c0
  · cases c0
def excCB (K : PySem.W.Frag) (D : Addr) : Bool := He.eqO (PySem.W.findIn K (.ref D) "__getattribute__") (some (some (.builtin "BaseException.__getattribute__"))) && (He.eqO (PySem.W.findIn K (.ref D) "__getattr__") (some none) &&
  (decide (PySem.W.subIn K (.ref D) (.type "BaseException") = some true) && (PySem.W.hasDictIn K D && (He.eqO (PySem.W.findIn K (.ref D) "__class__") (some (some (.builtin "object.__class__"))) &&
  (He.eqO (PySem.W.specialIn K (.builtin "object.__class__") "__get__") (some (some (.builtin "getset_descriptor.__get__"))) && (decide (PySem.W.takesIn K (.builtin "object.__class__") = some true) && decide (PySem.W.mroIn K D (.type "object") = some true)))))))
theorem excCB_ok {K : PySem.W.Frag} {D : Addr} (c : excCB K D = true) : L2.ExcC K D := by
  obtain ⟨c1, c⟩ := He.ba c
  obtain ⟨c2, c⟩ := He.ba c
  obtain ⟨c3, c⟩ := He.ba c
  obtain ⟨c4, c⟩ := He.ba c
  obtain ⟨c5, c⟩ := He.ba c
  obtain ⟨c6, c⟩ := He.ba c
  obtain ⟨c7, c8⟩ := He.ba c
  exact ⟨He.eqO_ok c1, He.eqO_ok c2, of_decide_eq_true c3, c4, He.eqO_ok c5, He.eqO_ok c6, of_decide_eq_true c7, of_decide_eq_true c8⟩
/-- R.__init__ is ValueError's -/
def initB (K : PySem.W.Frag) (R : Addr) : Bool := PySem.W.readsIn K R (.type "type") && (He.eqO (PySem.W.specialIn K (.ref R) "__getattribute__") (some (some (.builtin "type.__getattribute__"))) && (match PySem.W.findCls K (.ref R) (.type "type") "__init__" with
  | some (.val (.builtin n)) => n == "ValueError.__init__"
  | _ => false))
theorem initB_ok {K : PySem.W.Frag} {R : Addr} (c : initB K R = true) : ClX.CRead K R (.type "type") ∧ PySem.W.findCls K (.ref R) (.type "type") "__init__" = some (.val (.builtin "ValueError.__init__")) := by
  obtain ⟨c1, c⟩ := He.ba c
  obtain ⟨c2, c3⟩ := He.ba c
  refine ⟨⟨c1, He.eqO_ok c2⟩, ?_⟩
  split at c3
  · rename_i n e
    rw [e]
    have : n = "ValueError.__init__" := by simpa using c3
    rw [this]
  · cases c3
/-- an own error x, its __init__ calling R's -/
def exB (K : PySem.W.Frag) (x : Str) : Bool := He.eqO (PySem.W.nsIn K mainGlobals x) (some (some (.ref (He.ga K x)))) && (oexB K (He.ga K x) && (excCB K (He.ga K x) && (He.eqO (PySem.W.findIn K (.ref (He.ga K x)) "__init__") (some (some (.ref (He.ma K (He.ga K x) "__init__")))) && decide (PySem.W.typeIn K (.ref (He.ma K (He.ga K x) "__init__")) = some (.type "function")))))
def siB (K : PySem.W.Frag) (q : Str × Str × Bool) : Bool := He.eqO (PySem.W.nsIn K mainGlobals q.1) (some (some (.ref (He.ga K q.1)))) && ((He.eqO (PySem.W.nsIn K mainGlobals q.2.1) (some (some (.ref (He.ga K q.2.1)))) && decide (PySem.W.kitOne K (.ref (He.ga K q.1)) (.ref (He.ga K q.2.1)) = some q.2.2)) ||
  (He.eqO (PySem.W.nsIn K mainGlobals q.2.1) (some none) && (match bootBuiltins q.2.1 with
    | some (.type t) => decide (PySem.W.kitOne K (.ref (He.ga K q.1)) (.type t) = some q.2.2)
    | _ => false)))
def ecB (K : PySem.W.Frag) (q : Str × Str) : Bool := He.eqO (PySem.W.nsIn K mainGlobals q.1) (some (some (.ref (He.ga K q.1)))) && (He.eqO (PySem.W.nsIn K mainGlobals q.2) (some (some (.ref (He.ga K q.2)))) && decide (PySem.W.exmOne K (.ref (He.ga K q.1)) (.ref (He.ga K q.2)) = some true))
/-- all of them; rs: the classes whose __init__ is called -/
def xsB (K : PySem.W.Frag) (exs : List (Str × Option Str)) (sub : List (Str × Str × Bool)) (exc : List (Str × Str)) (rs : List Str) : Bool := (exs.all fun q => q.2.isNone && exB K q.1) && ((sub.all (siB K)) && ((exc.all (ecB K)) && rs.all fun r => He.eqO (PySem.W.nsIn K mainGlobals r) (some (some (.ref (He.ga K r)))) && initB K (He.ga K r)))
section
variable {P : Program} {w : World} {K : PySem.W.Frag} {mg : Str → Option Value} {base h : Heap} {T : Tab}
theorem init_ok {nm qual R : Str} {params : Arguments} {scope : Scope} {fI r : Addr} {fd : FuncData} {mc : Value} {C : CXT} {p1 p2 p3 p4 pos pos2 : Pos} {kk : Nat} {z : Str}
    (F : FunD K nm qual params [.Expr (.Call (.Attribute (.Name R p1) "__init__" p2) [.Name "self" p3, .Constant (.str z) kk p4] [] pos) pos2] scope [] [] fI fd) (S : FnScope [("self" : Str)] [("self" : Str)] scope) (hm : mg R = some (.ref r)) (hg : scope.names.lookup R = some .globalImplicit) (hs : scope.names.lookup ("self" : Str) = some NameKind.local)
    (hc : ∀ env : PySem.Env, ∃ pl : Sem Bool, eval (.Call (.Attribute (.Name R p1) "__init__" p2) [.Name "self" p3, .Constant (.str z) kk p4] [] pos) env = (do
      let ov ← eval (.Name R p1) env
      standAt p2.atName
      let (f, first) ← holding [ov] (getMethod ov "__init__" pl)
      callWith pos f first (backTo pos (starEach [.Name "self" p3, .Constant (.str z) kk p4] env)) (backToKw pos (keywordEach [] env))))
    (hdb : (R == ("__debug__" : Str)) = false) (cr : ClX.CRead K r mc) (at_ : PySem.W.findCls K (.ref r) mc "__init__" = some (.val (.builtin "ValueError.__init__"))) : FnG P w K mg base C 1 fI fd [("self" : Str)] (spI K) := by
  refine def_goG (k := 0) F S (fun vs H Q E h => by obtain ⟨a, C, rfl, _⟩ := h; rfl) (fun c A out s H vs Q E g h => ?_)
  obtain ⟨a, C2, rfl, T, ea, q⟩ := h
  obtain ⟨pl, hpl⟩ := hc (envOfC qual scope s.heap.objs.size fI c)
  refine ⟨_, pss_cons (ps_expr (pe_ovinit (pl := pl) (X := cxOf C P w K mg base [("self" : Str)] qual scope fI c A out s H E) hg hm hdb cr at_ (pa_cons (pe_var (i := 0) rfl (.inl hs)) (pa_cons pe_str pa_nil rfl) rfl) hpl)) pss_nil, ?_⟩
  exact ⟨.ref a, rfl, a, C2, [_], rfl, Nat.le_of_ble_eq_true rfl, T, ea, q⟩
theorem rs_ok {exs : List (Str × Option Str)} {sub : List (Str × Str × Bool)} {exc : List (Str × Str)} {rs : List Str} (X : K.In h) (G : h.Ns mainGlobals mg) (c : xsB K exs sub exc rs = true) {r : Str} (hr : r ∈ rs) : mg r = some (.ref (He.ga K r)) ∧ ClX.CRead K (He.ga K r) (.type "type") ∧ PySem.W.findCls K (.ref (He.ga K r)) (.type "type") "__init__" = some (.val (.builtin "ValueError.__init__")) := by
  obtain ⟨_, c⟩ := He.ba c
  obtain ⟨_, c⟩ := He.ba c
  obtain ⟨_, c⟩ := He.ba c
  obtain ⟨c1, c2⟩ := He.ba (List.all_eq_true.mp c r hr)
  obtain ⟨i1, i2⟩ := initB_ok c2
  exact ⟨PySem.W.mg_of X G (He.eqO_ok c1), i1, i2⟩
theorem exF_ok {exs : List (Str × Option Str)} {sub : List (Str × Str × Bool)} {exc : List (Str × Str)} {rs : List Str} (X : K.In h) (G : h.Ns mainGlobals mg) (c : xsB K exs sub exc rs = true) (e1 : T.exs = exs) (e2 : T.sub = sub) (e3 : T.exc = exc)
    (fn : ∀ q ∈ exs, ∃ (fd : FuncData) (ps : List Str), Binds K fd ps [] ∧ FnG P w K mg base (L2.CX P w) 1 (He.ma K (He.ga K q.1) "__init__") fd ps (spI K)) : ExF T P w K mg base := by
  subst e1 e2 e3
  obtain ⟨k1, c⟩ := He.ba c
  obtain ⟨k2, c⟩ := He.ba c
  obtain ⟨k3, _⟩ := He.ba c
  refine ⟨fun j nm hj => ?_, fun nm x b hm C hC => ?_, fun nm x hm => ?_, fun nm x hm C hC => ?_⟩
  · have hm := List.mem_of_getElem? hj
    obtain ⟨_, d⟩ := He.ba (List.all_eq_true.mp k1 _ hm)
    obtain ⟨d1, d⟩ := He.ba d
    obtain ⟨d2, d⟩ := He.ba d
    obtain ⟨d3, d⟩ := He.ba d
    obtain ⟨d4, d5⟩ := He.ba d
    obtain ⟨fd, ps, hb, F⟩ := fn _ hm
    exact ⟨_, _, fd, ps, PySem.W.mg_of X G (He.eqO_ok d1), oexB_ok d2, excCB_ok d3, He.eqO_ok d4, of_decide_eq_true d5, hb, F⟩
  · obtain ⟨d0, d⟩ := He.ba (List.all_eq_true.mp k2 _ hm)
    have hC2 := PySem.W.mg_of X G (He.eqO_ok d0)
    rw [hC] at hC2
    cases hC2
    rcases Bool.or_eq_true_iff.mp d with d | d
    · obtain ⟨d1, d2⟩ := He.ba d
      exact ⟨_, .inl ⟨_, PySem.W.mg_of X G (He.eqO_ok d1), rfl⟩, of_decide_eq_true d2⟩
    · obtain ⟨d1, d2⟩ := He.ba d
      split at d2
      · rename_i t ht
        exact ⟨_, .inr ⟨PySem.W.mg_none_of X G (He.eqO_ok d1), ht, t, rfl⟩, of_decide_eq_true d2⟩
      · cases d2
  · obtain ⟨_, d⟩ := He.ba (List.all_eq_true.mp k3 _ hm)
    obtain ⟨d1, _⟩ := He.ba d
    exact ⟨_, PySem.W.mg_of X G (He.eqO_ok d1)⟩
  · obtain ⟨d0, d⟩ := He.ba (List.all_eq_true.mp k3 _ hm)
    have hC2 := PySem.W.mg_of X G (He.eqO_ok d0)
    rw [hC] at hC2
    cases hC2
    obtain ⟨d1, d2⟩ := He.ba d
    exact ⟨_, PySem.W.mg_of X G (He.eqO_ok d1), of_decide_eq_true d2⟩
end
end Z
namespace Z
open PySem PySem.Spec PyProof.Rows L2
def topB (K : PySem.W.Frag) (x : Str) (d : D) : Bool := match PySem.W.nsIn K mainGlobals x with
  | some (some u) => repB K 5 u d
  | _ => false
def bimB (K : PySem.W.Frag) (gc cm : Bool) : Bool := (!gc || He.eqO (PySem.W.nsIn K mainGlobals "gcd") (some (some (.builtin "math.gcd")))) && (!cm || He.eqO (PySem.W.nsIn K mainGlobals "combinations") (some (some (.type "itertools.combinations"))))
theorem topB_ok {K : PySem.W.Frag} {h : Heap} {mg : Str → Option Value} (X : K.In h) (G : h.Ns mainGlobals mg) {x : Str} {d : D} (c : topB K x d = true) : ∃ v u, mg x = some u ∧ RelV v u ∧ ∀ M H, Rep K M H d v := by
  unfold topB at c
  split at c
  · rename_i u e
    obtain ⟨v, a, b⟩ := repB_ok 5 u d c
    exact ⟨v, u, PySem.W.mg_of X G e, a, b⟩
  · cases c
theorem bimB_ok {K : PySem.W.Frag} {h : Heap} {mg : Str → Option Value} (X : K.In h) (G : h.Ns mainGlobals mg) {gc cm : Bool} (c : bimB K gc cm = true) : (gc = true → mg "gcd" = some (.builtin "math.gcd")) ∧ (cm = true → mg "combinations" = some (.type "itertools.combinations")) := by
  have e := Bool.and_eq_true_iff.mp c
  refine ⟨fun g => ?_, fun g => ?_⟩
  · subst g
    exact PySem.W.mg_of X G (He.eqO_ok (by simpa using e.1))
  · subst g
    exact PySem.W.mg_of X G (He.eqO_ok (by simpa using e.2))
abbrev AlZ : Type := He.AlD × Bool
def obsZ (n : Nat) (fa : List He.Fa) (fn : List He.DefD) (gl : List (Str × D)) (gc cm : Bool) (exs : List (Str × Option Str)) (sub : List (Str × Str × Bool)) (exc : List (Str × Str)) (rs : List Str) (g : Addr → Option Obj) : AlZ :=
  (He.obsD fa fn (He.frG g (He.asD g n ++ [cStatics])), (gl.all fun q => topB (He.frG g (He.asD g n ++ [cStatics])) q.1 q.2) && (bimB (He.frG g (He.asD g n ++ [cStatics])) gc cm && xsB (He.frG g (He.asD g n ++ [cStatics])) exs sub exc rs))
def hookZ (n : Nat) (fa : List He.Fa) (fn : List He.DefD) (gl : List (Str × D)) (gc cm : Bool) (exs : List (Str × Option Str)) (sub : List (Str × Str × Bool)) (exc : List (Str × Str)) (rs : List Str) : PySem.W.Hook where
  α := AlZ
  obs := fun s => obsZ n fa fn gl gc cm exs sub exc rs s.heap.get?
  val := fun _ => (He.valD fn, true)
  says := fun _ h => ∃ K : PySem.W.Frag, K.In h ∧ He.SaysD fa fn K ∧ ((gl.all fun q => topB K q.1 q.2) && (bimB K gc cm && xsB K exs sub exc rs)) = true
  of := fun _ _ e => ⟨_, He.frG_in, congrArg (fun z : AlZ => z.1) e, congrArg (fun z : AlZ => z.2) e⟩
  keeps := fun _ _ _ ⟨K, hK, c⟩ k => ⟨K, PySem.W.Frag.In.keeps hK k, c⟩
theorem obsZ_eq {n : Nat} {fa : List He.Fa} {fn : List He.DefD} {gl : List (Str × D)} {gc cm : Bool} {exs : List (Str × Option Str)} {sub : List (Str × Str × Bool)} {exc : List (Str × Str)} {rs : List Str} {g : Addr → Option Obj} {s : Shared} (h : ∀ a, g a = s.heap.get? a) : obsZ n fa fn gl gc cm exs sub exc rs g = (hookZ n fa fn gl gc cm exs sub exc rs).obs s := by
  have e : g = s.heap.get? := funext h
  rw [e] <;> rfl
end Z
set_option maxHeartbeats 0
namespace ZE
open PySem PySem.Spec PyProof.Rows L2 Z
def d0 : He.DefD := ⟨("common_divisor", none), "common_divisor", "common_divisor", defArgs (topS 6), defBody (topS 6), defScope (topS 6), [], []⟩
def d1 : He.DefD := ⟨("fraction", none), "fraction", "fraction", defArgs (topS 7), defBody (topS 7), defScope (topS 7), [.int (1)], []⟩
def d2 : He.DefD := ⟨("compare", none), "compare", "compare", defArgs (topS 8), defBody (topS 8), defScope (topS 8), [], []⟩
def d3 : He.DefD := ⟨("is_at_most", none), "is_at_most", "is_at_most", defArgs (topS 9), defBody (topS 9), defScope (topS 9), [], []⟩
def d4 : He.DefD := ⟨("whole_numbers", none), "whole_numbers", "whole_numbers", defArgs (topS 10), defBody (topS 10), defScope (topS 10), [], []⟩
def d5 : He.DefD := ⟨("make_half_plane", none), "make_half_plane", "make_half_plane", defArgs (topS 12), defBody (topS 12), defScope (topS 12), [], []⟩
def d6 : He.DefD := ⟨("value_at", none), "value_at", "value_at", defArgs (topS 13), defBody (topS 13), defScope (topS 13), [], []⟩
def d7 : He.DefD := ⟨("contains_ray", none), "contains_ray", "contains_ray", defArgs (topS 14), defBody (topS 14), defScope (topS 14), [], []⟩
def d8 : He.DefD := ⟨("_law_cell", none), "_law_cell", "_law_cell", defArgs (topS 16), defBody (topS 16), defScope (topS 16), [], []⟩
def d9 : He.DefD := ⟨("_law_digits", none), "_law_digits", "_law_digits", defArgs (topS 17), defBody (topS 17), defScope (topS 17), [], []⟩
def d10 : He.DefD := ⟨("_law_draw", none), "_law_draw", "_law_draw", defArgs (topS 18), defBody (topS 18), defScope (topS 18), [], []⟩
def d11 : He.DefD := ⟨("_law_divisor", none), "_law_divisor", "_law_divisor", defArgs (topS 19), defBody (topS 19), defScope (topS 19), [], []⟩
def d12 : He.DefD := ⟨("_law_fr", none), "_law_fr", "_law_fr", defArgs (topS 20), defBody (topS 20), defScope (topS 20), [], []⟩
def d13 : He.DefD := ⟨("_law_add", none), "_law_add", "_law_add", defArgs (topS 21), defBody (topS 21), defScope (topS 21), [], []⟩
def d14 : He.DefD := ⟨("_law_mul", none), "_law_mul", "_law_mul", defArgs (topS 23), defBody (topS 23), defScope (topS 23), [], []⟩
def d15 : He.DefD := ⟨("_law_less", none), "_law_less", "_law_less", defArgs (topS 24), defBody (topS 24), defScope (topS 24), [], []⟩
def d16 : He.DefD := ⟨("_law_some", none), "_law_some", "_law_some", defArgs (topS 25), defBody (topS 25), defScope (topS 25), [], []⟩
def d17 : He.DefD := ⟨("_law_ray", none), "_law_ray", "_law_ray", defArgs (topS 34), defBody (topS 34), defScope (topS 34), [], []⟩
def d18 : He.DefD := ⟨("_law_made", none), "_law_made", "_law_made", defArgs (topS 35), defBody (topS 35), defScope (topS 35), [], []⟩
def d19 : He.DefD := ⟨("law", none), "law", "law", defArgs (topS 36), defBody (topS 36), defScope (topS 36), [], []⟩
def cI0 : Stmt := match topS 3 with | .ClassDef _ _ _ b _ _ _ _ _ _ _ => b.getD 0 (.Pass ⟨0, 0, 0, 0⟩) | _ => .Pass ⟨0, 0, 0, 0⟩
def dI0 : He.DefD := ⟨("NoDirection", some "__init__"), "__init__", "NoDirection.__init__", defArgs cI0, defBody cI0, defScope cI0, [], []⟩
def exs : List (Str × Option Str) := [("NoDirection", none)]
def sub : List (Str × Str × Bool) := [("NoDirection", "NoDirection", true)]
def exc : List (Str × Str) := [("NoDirection", "RaytrainError")]
def rs : List Str := ["RaytrainError"]
def fn_0 : List He.DefD := [d0, d1, d2, d3, d4, d5, d6, d7, d8, d9, d10, d11, d12, d13, d14, d15, d16, d17, d18, d19, dI0]
def fn : List He.DefD := fn_0
def fa_0 : List He.Fa := [.glo "common_divisor", .glo "fraction", .glo "compare", .glo "is_at_most", .glo "whole_numbers", .glo "make_half_plane", .glo "value_at", .glo "contains_ray", .glo "_law_cell", .glo "_law_digits", .glo "_law_draw", .glo "_law_divisor", .glo "_law_fr", .glo "_law_add", .glo "_law_mul", .glo "_law_less", .glo "_law_some", .glo "_law_ray", .glo "_law_made", .glo "law", .free "len", .free "abs", .free "int", .free "list", .free "isinstance", .free "range", .free "enumerate", .free "tuple", .free "bool", .free "str", .free "repr", .free "min", .free "max", .free "sum", .free "any", .free "all", .free "zip", .free "reversed"]
def fa_1 : List He.Fa := [.free "dict", .free "set", .glo "ZERO"]
def fa : List He.Fa := fa_0 ++ fa_1
def loose_0 : List PySem.Str := [("gcd" : PySem.Str), ("RaytrainError" : PySem.Str), ("NoDirection" : PySem.Str), ("ZERO" : PySem.Str), ("common_divisor" : PySem.Str), ("fraction" : PySem.Str), ("compare" : PySem.Str), ("is_at_most" : PySem.Str), ("whole_numbers" : PySem.Str), ("make_half_plane" : PySem.Str), ("value_at" : PySem.Str), ("contains_ray" : PySem.Str), ("_law_cell" : PySem.Str), ("_law_digits" : PySem.Str), ("_law_draw" : PySem.Str), ("_law_divisor" : PySem.Str), ("_law_fr" : PySem.Str), ("_law_add" : PySem.Str), ("_law_sub" : PySem.Str), ("_law_mul" : PySem.Str), ("_law_less" : PySem.Str), ("_law_some" : PySem.Str), ("_law_other" : PySem.Str), ("_law_is_fr" : PySem.Str), ("_law_stop" : PySem.Str), ("_law_element" : PySem.Str), ("_law_train" : PySem.Str), ("_law_behind" : PySem.Str), ("_law_blocks" : PySem.Str), ("_law_go" : PySem.Str), ("_law_ray" : PySem.Str), ("_law_made" : PySem.Str)]
def loose : List PySem.Str := loose_0
def gl : List (Str × D) := [("ZERO", (.tup [(.int (0)), (.int (1))]))]
abbrev R : PySem.W.OpenRow := PySem.W.OpenLaw.row PySem.Challenge.rw_raytrain_k05_half_planes
abbrev hk : PySem.W.Hook := Z.hookZ 4 fa fn gl true false exs sub exc rs
def ob (s : PySem.W.SharedT) : Z.AlZ := Z.obsZ 4 fa fn gl true false exs sub exc rs (HandSHeadRun.getT s)
theorem ob_eq (s : PySem.W.SharedT) : ob s = hk.obs s.abs := Z.obsZ_eq (HandSHeadRun.getT_eq s)
theorem run (w : World) : HandSHeadRun.RunEqI R (PySem.W.view R.prog [0, 36]) hk ob 4000 loose w := by
  unfold HandSHeadRun.RunEqI
  kernel_rfl
end ZE
set_option maxHeartbeats 4000000
section
open PySem PySem.Spec PyProof.Rows L2 Z
local macro_rules | `(tactic| lcg_off) => `(tactic| exact ss_self)
local macro_rules | `(tactic| lcg_off) => `(tactic| exact ss_1)
local macro_rules | `(tactic| lcg_off) => `(tactic| exact ss_0)
local macro_rules | `(tactic| lcg_off) => `(tactic| (apply ss_abs; lcg_off))
local macro_rules | `(tactic| lcg_off) => `(tactic| (apply ss_div; lcg_off; lcg_off; lcg_off))
local macro_rules | `(tactic| lcg_off) => `(tactic| (apply ss_neg; lcg_off))
local macro_rules | `(tactic| lcg_off) => `(tactic| (apply ss_mul; lcg_off; lcg_off))
local macro_rules | `(tactic| lcg_off) => `(tactic| (apply ss_sub; lcg_off; lcg_off))
local macro_rules | `(tactic| lcg_off) => `(tactic| (apply ss_add; lcg_off; lcg_off))
local macro_rules | `(tactic| lcg_off) => `(tactic| assumption)
local macro_rules | `(tactic| k_places) => `(tactic| (refine bb_lit ?_ ?_ <;> decide))
local macro_rules | `(tactic| k_places) => `(tactic| (apply bb_sub; k_places; k_places))
local macro_rules | `(tactic| k_places) => `(tactic| (apply bb_add; k_places; k_places))
local macro_rules | `(tactic| k_places) => `(tactic| (apply bb_neg; k_places))
local macro_rules | `(tactic| k_places) => `(tactic| (apply bb_abs; k_places))
local macro_rules | `(tactic| k_places) => `(tactic| (apply bb_den; lcg_off))
local macro_rules | `(tactic| k_places) => `(tactic| (apply bb_num; lcg_off))
local macro_rules | `(tactic| k_places) => `(tactic| (apply bb_mul; k_places; k_places))
local macro_rules | `(tactic| k_places) => `(tactic| assumption)
local macro_rules | `(tactic| walk_at "sz") => `(tactic| repeat (first | assumption | apply ss_add | apply ss_sub | apply ss_mul | apply ss_neg | apply ss_div | apply ss_abs | exact ss_0 | exact ss_1 | exact ss_self))
local macro_rules | `(tactic| walk_at "bb") => `(tactic| repeat (first | assumption | apply bb_mul | (apply bb_num; walk_at "sz") | (apply bb_den; walk_at "sz") | apply bb_abs | apply bb_neg | apply bb_add | apply bb_sub | (refine bb_lit ?_ ?_ <;> decide)))
local macro_rules | `(tactic| kaf_pre) => `(tactic| (apply szs2; lcg_off; lcg_off; omega))
local macro_rules | `(tactic| ktr_units) => `(tactic| (apply szs1; lcg_off; omega))
local macro_rules | `(tactic| kt_at_in) => `(tactic| (apply bbs1; k_places; omega))
local macro_rules | `(tactic| kas_types) => `(tactic| (apply CMulZ.bb; k_places; k_places; omega))
local macro_rules | `(tactic| kas_types) => `(tactic| (refine CMulZ.left (bi_le ?_ ?_) <;> decide))
local macro_rules | `(tactic| kas_types) => `(tactic| (refine CMulZ.right (bi_le ?_ ?_) <;> decide))
local macro_rules | `(tactic| kas_types) => `(tactic| assumption)
local macro_rules | `(tactic| kfm_turns) => `(tactic| (simp only [decide_eq_true_eq, decide_eq_false_iff_not, Bool.not_eq_true', Bool.not_eq_false', Bool.not_eq_eq_eq_not, Bool.not_true, Bool.not_false, ne_eq, Decidable.not_not, Int.reduceEq, eq_self, decide_true, decide_false]; first | assumption | omega))
local macro_rules | `(tactic| kfm_turns) => `(tactic| (focus (simp only [decide_eq_true_eq, decide_eq_false_iff_not, Bool.not_eq_true', Bool.not_eq_false', Bool.not_eq_eq_eq_not, Bool.not_true, Bool.not_false, ne_eq, Decidable.not_not, Int.reduceEq, eq_self, decide_true, decide_false]; done)))
local macro_rules | `(tactic| kfm_turns) => `(tactic| exact decide_eq_false (by omega))
local macro_rules | `(tactic| kfm_turns) => `(tactic| exact decide_eq_true (by omega))
local macro_rules | `(tactic| kfm_turns) => `(tactic| exact decide_eq_false (by assumption))
local macro_rules | `(tactic| kfm_turns) => `(tactic| exact decide_eq_true (by assumption))
local macro_rules | `(tactic| kfm_turns) => `(tactic| exact Bool.not_false)
local macro_rules | `(tactic| kfm_turns) => `(tactic| exact Bool.not_true)
local macro_rules | `(tactic| kfm_turns) => `(tactic| assumption)
local macro_rules | `(tactic| kfm_turns) => `(tactic| rfl)
local macro_rules | `(tactic| lcg_src) => `(tactic| repeat (first | apply x_ownv | (apply x_owna; (focus (with_unfolding_all rfl))) | exact x_own0))
local macro_rules | `(tactic| kt_at_notin) => `(tactic| assumption)
local macro_rules | `(tactic| kxt_pos) => `(tactic| apply x_OrE)
local macro_rules | `(tactic| kxt_pos) => `(tactic| apply x_AndE)
local macro_rules | `(tactic| kxt_pos) => `(tactic| apply x_not)
local macro_rules | `(tactic| kxt_pos) => `(tactic| apply x_ifE)
local macro_rules | `(tactic| kxt_pos) => `(tactic| apply x_lst)
local macro_rules | `(tactic| kxt_pos) => `(tactic| (apply x_varo; with_unfolding_all rfl))
local macro_rules | `(tactic| kxt_pos) => `(tactic| apply x_tup)
local macro_rules | `(tactic| kxt_pos) => `(tactic| apply x_call)
local macro_rules | `(tactic| kxt_pos) => `(tactic| (apply gd_c3; k_updF))
local macro_rules | `(tactic| kxt_pos) => `(tactic| (apply gd_c2; kbt_split))
local macro_rules | `(tactic| kxt_pos) => `(tactic| (apply gd_c1; kba_ints))
local macro_rules | `(tactic| kxt_pos) => `(tactic| apply x_cst)
local macro_rules | `(tactic| kxt_pos) => `(tactic| exact x_tup12)
local macro_rules | `(tactic| kxt_pos) => `(tactic| exact x_tup11)
local macro_rules | `(tactic| kxt_pos) => `(tactic| exact x_tup01)
local macro_rules | `(tactic| kxt_pos) => `(tactic| exact x_cst11)
local macro_rules | `(tactic| kxt_pos) => `(tactic| exact x_cst01)
local macro_rules | `(tactic| kxt_pos) => `(tactic| apply x_op)
local macro_rules | `(tactic| kxt_pos) => `(tactic| (apply gd_op; k_upd))
local macro_rules | `(tactic| kxt_pos) => `(tactic| (apply x_varf; with_unfolding_all rfl))
local macro_rules | `(tactic| k_upd) => `(tactic| apply z2vv)
local macro_rules | `(tactic| k_upd) => `(tactic| (apply z2va))
local macro_rules | `(tactic| k_upd) => `(tactic| (apply z2aa; (focus (with_unfolding_all rfl)); (focus (with_unfolding_all rfl))))
local macro_rules | `(tactic| k_upd) => `(tactic| (apply z2av; (focus (with_unfolding_all rfl))))
local macro_rules | `(tactic| k_upd) => `(tactic| (apply z2ca; (focus (with_unfolding_all rfl))))
local macro_rules | `(tactic| k_upd) => `(tactic| apply z2c)
local macro_rules | `(tactic| k_upd) => `(tactic| apply z1)
local macro_rules | `(tactic| k_upd) => `(tactic| (apply z1a; (focus (with_unfolding_all rfl))))
local macro_rules | `(tactic| k_upd) => `(tactic| (apply z2ac; (focus (with_unfolding_all rfl))))
local macro_rules | `(tactic| k_upd) => `(tactic| (apply z2ca1; (focus (with_unfolding_all rfl))))
local macro_rules | `(tactic| k_upd) => `(tactic| apply z2c1)
local macro_rules | `(tactic| k_upd) => `(tactic| (apply z2ac1; (focus (with_unfolding_all rfl))))
local macro_rules | `(tactic| k_upd) => `(tactic| (apply z2ca0; (focus (with_unfolding_all rfl))))
local macro_rules | `(tactic| k_upd) => `(tactic| apply z2c0)
local macro_rules | `(tactic| k_upd) => `(tactic| (apply z2ac0; (focus (with_unfolding_all rfl))))
local macro_rules | `(tactic| kba_ints) => `(tactic| apply zcv)
local macro_rules | `(tactic| kba_ints) => `(tactic| (apply zca; (focus (with_unfolding_all rfl))))
local macro_rules | `(tactic| kba_ints) => `(tactic| (apply zb; (focus (with_unfolding_all rfl))))
local macro_rules | `(tactic| kbt_split) => `(tactic| apply zcvv)
local macro_rules | `(tactic| kbt_split) => `(tactic| (apply zcva; (focus (with_unfolding_all rfl))))
local macro_rules | `(tactic| kbt_split) => `(tactic| (apply zcav; (focus (with_unfolding_all rfl))))
local macro_rules | `(tactic| kbt_split) => `(tactic| (apply zcaa; (focus (with_unfolding_all rfl)); (focus (with_unfolding_all rfl))))
local macro_rules | `(tactic| kbt_split) => `(tactic| (apply zbv; (focus (with_unfolding_all rfl))))
local macro_rules | `(tactic| kbt_split) => `(tactic| (apply zba; (focus (with_unfolding_all rfl)); (focus (with_unfolding_all rfl))))
local macro_rules | `(tactic| k_updF) => `(tactic| apply zcvvv)
local macro_rules | `(tactic| k_updF) => `(tactic| (apply zcvva; (focus (with_unfolding_all rfl))))
local macro_rules | `(tactic| k_updF) => `(tactic| (apply zcvav; (focus (with_unfolding_all rfl))))
local macro_rules | `(tactic| k_updF) => `(tactic| (apply zcvaa; (focus (with_unfolding_all rfl)); (focus (with_unfolding_all rfl))))
local macro_rules | `(tactic| k_updF) => `(tactic| (apply zcavv; (focus (with_unfolding_all rfl))))
local macro_rules | `(tactic| k_updF) => `(tactic| (apply zcava; (focus (with_unfolding_all rfl)); (focus (with_unfolding_all rfl))))
local macro_rules | `(tactic| k_updF) => `(tactic| (apply zcaav; (focus (with_unfolding_all rfl)); (focus (with_unfolding_all rfl))))
local macro_rules | `(tactic| k_updF) => `(tactic| (apply zcaaa; (focus (with_unfolding_all rfl)); (focus (with_unfolding_all rfl)); (focus (with_unfolding_all rfl))))
local macro_rules | `(tactic| k_updF) => `(tactic| (apply zbvv; (focus (with_unfolding_all rfl))))
local macro_rules | `(tactic| k_updF) => `(tactic| (apply zbva; (focus (with_unfolding_all rfl)); (focus (with_unfolding_all rfl))))
local macro_rules | `(tactic| k_updF) => `(tactic| (apply zbav; (focus (with_unfolding_all rfl)); (focus (with_unfolding_all rfl))))
local macro_rules | `(tactic| k_updF) => `(tactic| (apply zbaa; (focus (with_unfolding_all rfl)); (focus (with_unfolding_all rfl)); (focus (with_unfolding_all rfl))))
local macro_rules | `(tactic| kat_tups) => `(tactic| (apply gd_plen; with_unfolding_all exact q_lenf))
local macro_rules | `(tactic| kat_tups) => `(tactic| (apply q_isi'; with_unfolding_all rfl))
local macro_rules | `(tactic| kat_tups) => `(tactic| (apply q_isi'; exact isi_fr))
local macro_rules | `(tactic| kat_tups) => `(tactic| apply q_lenr)
local macro_rules | `(tactic| kat_tups) => `(tactic| apply q_lent)
local macro_rules | `(tactic| kat_tups) => `(tactic| apply q_lenl)
local macro_rules | `(tactic| kat_tups) => `(tactic| apply q_ixr)
local macro_rules | `(tactic| kat_tups) => `(tactic| (apply q_mod; omega))
local macro_rules | `(tactic| kat_tups) => `(tactic| (apply q_mod; assumption))
local macro_rules | `(tactic| kat_tups) => `(tactic| (apply q_fdiv; assumption; assumption))
local macro_rules | `(tactic| kat_tups) => `(tactic| apply q_eqbb)
local macro_rules | `(tactic| kat_tups) => `(tactic| exact q_eqo)
local macro_rules | `(tactic| kat_tups) => `(tactic| exact q_neo)
local macro_rules | `(tactic| kat_tups) => `(tactic| exact q_notn0)
local macro_rules | `(tactic| kat_tups) => `(tactic| exact q_isn0)
local macro_rules | `(tactic| kat_tups) => `(tactic| exact q_notnf)
local macro_rules | `(tactic| kat_tups) => `(tactic| exact q_isnf)
local macro_rules | `(tactic| kat_tups) => `(tactic| apply q_nebb)
local macro_rules | `(tactic| kat_tups) => `(tactic| apply q_ne)
local macro_rules | `(tactic| kat_tups) => `(tactic| apply q_eq)
local macro_rules | `(tactic| kat_tups) => `(tactic| apply q_nef)
local macro_rules | `(tactic| kat_tups) => `(tactic| apply q_eqf)
local macro_rules | `(tactic| kat_tups) => `(tactic| apply q_ge)
local macro_rules | `(tactic| kat_tups) => `(tactic| apply q_gt)
local macro_rules | `(tactic| kat_tups) => `(tactic| apply q_le)
local macro_rules | `(tactic| kat_tups) => `(tactic| apply q_lt)
local macro_rules | `(tactic| kat_tups) => `(tactic| apply q_abs)
local macro_rules | `(tactic| kat_tups) => `(tactic| apply q_int)
local macro_rules | `(tactic| kat_tups) => `(tactic| apply q_gcd)
local macro_rules | `(tactic| kat_tups) => `(tactic| apply q_neg)
local macro_rules | `(tactic| kat_tups) => `(tactic| apply q_sub)
local macro_rules | `(tactic| kat_tups) => `(tactic| apply q_add)
local macro_rules | `(tactic| kat_tups) => `(tactic| (apply q_mul; kas_types))
local macro_rules | `(tactic| kat_tups) => `(tactic| apply q_ixl)
local macro_rules | `(tactic| kat_tups) => `(tactic| apply q_ixt)
local macro_rules | `(tactic| kat_tups) => `(tactic| (apply gd_pix1; with_unfolding_all exact q_f1))
local macro_rules | `(tactic| kat_tups) => `(tactic| (apply gd_pix0; with_unfolding_all exact q_f0))
local macro_rules | `(tactic| kt_at_method) => `(tactic| apply w_retn)
local macro_rules | `(tactic| kt_at_method) => `(tactic| (apply w_retvo; with_unfolding_all rfl))
local macro_rules | `(tactic| kt_at_method) => `(tactic| (apply w_retvf; with_unfolding_all rfl))
local macro_rules | `(tactic| kt_at_method) => `(tactic| (apply w_mt; with_unfolding_all rfl))
local macro_rules | `(tactic| kt_at_method) => `(tactic| apply w_pass)
local macro_rules | `(tactic| kt_at_method) => `(tactic| (apply w_rev; (focus (with_unfolding_all rfl))))
local macro_rules | `(tactic| kt_at_method) => `(tactic| apply w_ext)
local macro_rules | `(tactic| kt_at_method) => `(tactic| apply w_app)
local macro_rules | `(tactic| kt_at_method) => `(tactic| apply w_setix)
local macro_rules | `(tactic| kt_at_method) => `(tactic| apply w_unp)
local macro_rules | `(tactic| kt_at_method) => `(tactic| apply w_par)
local macro_rules | `(tactic| kt_at_method) => `(tactic| apply w_ret)
local macro_rules | `(tactic| kt_at_method) => `(tactic| apply w_ite)
local macro_rules | `(tactic| kt_at_method) => `(tactic| apply w_set)
local macro_rules | `(tactic| tb_start) => `(tactic| assumption)
local macro_rules | `(tactic| tb_start) => `(tactic| apply x_setix)
local macro_rules | `(tactic| tb_start) => `(tactic| apply x_app)
local macro_rules | `(tactic| tb_start) => `(tactic| apply x_par)
local macro_rules | `(tactic| tb_start) => `(tactic| apply x_unp)
local macro_rules | `(tactic| tb_start) => `(tactic| apply x_set)
local macro_rules | `(tactic| tb_start) => `(tactic| apply x_ite)
local macro_rules | `(tactic| tb_start) => `(tactic| apply x_ss0)
local macro_rules | `(tactic| tb_start) => `(tactic| apply x_ss_setix)
local macro_rules | `(tactic| tb_start) => `(tactic| apply x_ss_app)
local macro_rules | `(tactic| tb_start) => `(tactic| apply x_ss_par)
local macro_rules | `(tactic| tb_start) => `(tactic| apply x_ss_unp)
local macro_rules | `(tactic| tb_start) => `(tactic| apply x_ss_set)
local macro_rules | `(tactic| tb_start) => `(tactic| (apply x_stop; apply x_retn))
local macro_rules | `(tactic| tb_start) => `(tactic| (apply x_stop; apply x_retvo; with_unfolding_all rfl))
local macro_rules | `(tactic| tb_start) => `(tactic| (apply x_stop; apply x_retvf; with_unfolding_all rfl))
local macro_rules | `(tactic| tb_start) => `(tactic| (apply x_stop; apply x_ret))
local macro_rules | `(tactic| tb_start) => `(tactic| apply x_overv)
local macro_rules | `(tactic| tb_start) => `(tactic| (apply x_overf; with_unfolding_all rfl))
local macro_rules | `(tactic| tb_start) => `(tactic| (apply x_overo; with_unfolding_all rfl))
local macro_rules | `(tactic| tb_start) => `(tactic| apply x_rng)
local macro_rules | `(tactic| tb_start) => `(tactic| apply x_And)
local macro_rules | `(tactic| tb_start) => `(tactic| apply x_Or)
local macro_rules | `(tactic| tb_start) => `(tactic| apply x_notT)
local macro_rules | `(tactic| tb_start) => `(tactic| apply x_T)
local macro_rules | `(tactic| tb_start) => `(tactic| (apply zTa; (focus (with_unfolding_all rfl))))
local macro_rules | `(tactic| tb_start) => `(tactic| apply zTv)
local macro_rules | `(tactic| tb_start) => `(tactic| apply x_es)
local macro_rules | `(tactic| tb_start) => `(tactic| apply x_es0)
local macro_rules | `(tactic| tb_start) => `(tactic| apply x_sett)
local macro_rules | `(tactic| tb_start) => `(tactic| apply x_setf)
local macro_rules | `(tactic| tb_start) => `(tactic| apply x_all0)
local macro_rules | `(tactic| tb_start) => `(tactic| apply x_all)
local macro_rules | `(tactic| tb_start) => `(tactic| apply y_do1)
local macro_rules | `(tactic| tb_start) => `(tactic| (apply y_do2; (focus (with_unfolding_all rfl)); (focus (with_unfolding_all rfl)); (focus decide); (focus (lcg_src; done))))
local macro_rules | `(tactic| tb_start) => `(tactic| (apply y_do0; (focus (lcg_src; done))))
local macro_rules | `(tactic| tb_start) => `(tactic| apply x_val)
local macro_rules | `(tactic| tb_start) => `(tactic| apply x_at)
local macro_rules | `(tactic| tb_start) => `(tactic| apply x_as)
local macro_rules | `(tactic| tb_start) => `(tactic| apply x_as0)
local macro_rules | `(tactic| tb_start) => `(tactic| (apply gd_evE; kxt_pos))
local macro_rules | `(tactic| none_booked) => `(tactic| assumption)
local macro_rules | `(tactic| none_booked) => `(tactic| apply ix_l1)
local macro_rules | `(tactic| none_booked) => `(tactic| apply ix_l0)
local macro_rules | `(tactic| none_booked) => `(tactic| apply at_ix3)
local macro_rules | `(tactic| none_booked) => `(tactic| apply at_ix2)
local macro_rules | `(tactic| none_booked) => `(tactic| apply at_ix1)
local macro_rules | `(tactic| none_booked) => `(tactic| apply at_ix0)
local macro_rules | `(tactic| none_booked) => `(tactic| apply x_tr)
local macro_rules | `(tactic| none_booked) => `(tactic| apply me_wild)
local macro_rules | `(tactic| none_booked) => `(tactic| apply me_cap)
local macro_rules | `(tactic| none_booked) => `(tactic| (apply me_litn; (focus decide)))
local macro_rules | `(tactic| none_booked) => `(tactic| apply me_lit)
local macro_rules | `(tactic| none_booked) => `(tactic| exact me_nil)
local macro_rules | `(tactic| none_booked) => `(tactic| (apply mp_seq rfl))
local macro_rules | `(tactic| none_booked) => `(tactic| (apply mp_len; (focus (simp only [List.length_cons, List.length_nil]; decide))))
local macro_rules | `(tactic| none_booked) => `(tactic| exact mp_wild)
local macro_rules | `(tactic| none_booked) => `(tactic| apply x_argv0)
local macro_rules | `(tactic| none_booked) => `(tactic| apply x_argva)
local macro_rules | `(tactic| none_booked) => `(tactic| apply x_argvv)
local macro_rules | `(tactic| none_booked) => `(tactic| (apply gd_prB; kat_tups))
local macro_rules | `(tactic| none_booked) => `(tactic| (apply x_lk; with_unfolding_all rfl))
local macro_rules | `(tactic| none_booked) => `(tactic| apply x_f1a)
local macro_rules | `(tactic| none_booked) => `(tactic| apply x_f1v)
local macro_rules | `(tactic| none_booked) => `(tactic| apply x_fill0)
local macro_rules | `(tactic| none_booked) => `(tactic| apply x_filla)
local macro_rules | `(tactic| none_booked) => `(tactic| apply x_fillv)
local macro_rules | `(tactic| kbo_bools) => `(tactic| kt_at_notin)
local macro_rules | `(tactic| kbo_bools) => `(tactic| assumption)
local macro_rules | `(tactic| kbo_bools) => `(tactic| (refine szp _ ?_; simp only [List.length_cons, List.length_nil]; omega))
local macro_rules | `(tactic| kbo_bools) => `(tactic| (change _ < sizeLine; assumption))
local macro_rules | `(tactic| kbo_bools) => `(tactic| (change Z.mkEnv _ _ = _; apply x_mk; simp only [mkEnv, nones, Nat.reduceSub]; exact rfl))
local macro_rules | `(tactic| kbo_bools) => `(tactic| (change cond _ _ _ = _; first | (apply x_cE_t; (kfm_turns)) | (apply x_cE_f; (kfm_turns))))
local macro_rules | `(tactic| kbo_bools) => `(tactic| (apply x_c_f; kfm_turns))
local macro_rules | `(tactic| kbo_bools) => `(tactic| (apply x_c_t; kfm_turns))
local macro_rules | `(tactic| kbo_bools) => `(tactic| apply x_ccons)
local macro_rules | `(tactic| kbo_bools) => `(tactic| apply x_cnil)
local macro_rules | `(tactic| kbo_bools) => `(tactic| (change Z.pinOf _ _ = _; apply x_pin; with_unfolding_all rfl))
local macro_rules | `(tactic| kbo_bools) => `(tactic| (change Z.isLck _ = _; first | apply k_n | apply k_f | apply k_o | assumption))
local macro_rules | `(tactic| kbo_bools) => `(tactic| (apply gd_bool; kfm_turns))
local macro_rules | `(tactic| kbo_bools) => `(tactic| apply orE_b)
local macro_rules | `(tactic| kbo_bools) => `(tactic| (apply orE_t; kfm_turns))
local macro_rules | `(tactic| kbo_bools) => `(tactic| (apply orE_f; kfm_turns))
local macro_rules | `(tactic| kbo_bools) => `(tactic| apply andE_b)
local macro_rules | `(tactic| kbo_bools) => `(tactic| (apply andE_f; kfm_turns))
local macro_rules | `(tactic| kbo_bools) => `(tactic| (apply andE_t; kfm_turns))
local macro_rules | `(tactic| kbo_bools) => `(tactic| apply orT_b)
local macro_rules | `(tactic| kbo_bools) => `(tactic| (apply orT_t; kfm_turns))
local macro_rules | `(tactic| kbo_bools) => `(tactic| (apply orT_f; kfm_turns))
local macro_rules | `(tactic| kbo_bools) => `(tactic| apply andT_b)
local macro_rules | `(tactic| kbo_bools) => `(tactic| (apply andT_f; kfm_turns))
local macro_rules | `(tactic| kbo_bools) => `(tactic| (apply andT_t; kfm_turns))
local macro_rules | `(tactic| kbo_bools) => `(tactic| apply mt_s)
local macro_rules | `(tactic| kbo_bools) => `(tactic| apply mt_n)
local macro_rules | `(tactic| kbo_bools) => `(tactic| (apply br_f; kfm_turns))
local macro_rules | `(tactic| kbo_bools) => `(tactic| (apply br_t; kfm_turns))
local macro_rules | `(tactic| kbo_bools) => `(tactic| (apply gd_wp; kt_at_method))
local macro_rules | `(tactic| kbo_bools) => `(tactic| apply x_own0)
local macro_rules | `(tactic| kbo_bools) => `(tactic| apply x_owna)
local macro_rules | `(tactic| kbo_bools) => `(tactic| apply x_ownv)
local macro_rules | `(tactic| kbo_bools) => `(tactic| (change List.set _ _ _ = _; apply x_st; simp only [List.set_cons_zero, List.set_cons_succ]; with_unfolding_all exact rfl))
local macro_rules | `(tactic| tb_rel) => `(tactic| kbo_bools)
local macro_rules | `(tactic| tb_rel) => `(tactic| (apply gd_opt; none_booked))
local macro_rules | `(tactic| tb_rel) => `(tactic| (apply gd_out; tb_start))
local macro_rules | `(tactic| l_intsW) => `(tactic| skip)
local macro_rules | `(tactic| l_intsW) => `(tactic| (tb_rel; l_intsW))
local macro_rules | `(tactic| walk_at "go") => `(tactic| with_reducible first | l_intsW | skip)
namespace Z
theorem c_gcd (k : Nat) (a b : Int) : Ret (callK tab.fns (k + 1)) i_common_divisor [(.int a, .frz), (.int b, .frz)] (.int (gz a b)) false := by
  apply z_fn fn_common_divisor rfl
  walk_at "go"
  rfl
end Z
local macro_rules | `(tactic| kt_at_notin) => `(tactic| exact c_gcd _ _ _)
namespace Z
theorem q_fdivb {i j : Int} (h : 0 < j) (h2 : bi j ≤ 8000) : prB .fdiv [.int i, .int j] = some (.int (i / j), false) := if_pos ⟨h, log2_of_bi h2⟩
end Z
namespace Z
theorem c_fraction (k : Nat) (n d : Int) (h : d ≠ 0) (h2 : bi d ≤ 8000) : Ret (callK tab.fns (k + 2)) i_fraction [(.int n, .frz), (.int d, .frz)] (fr (Rat.divInt n d)) false := by
  by_cases hd : d < 0
  · have h3 := gz_pos (a := -n) (b := -d) (by omega)
    have h4 : bi (gz (-n) (-d)) ≤ 8000 := Nat.le_trans (bi_gz (by omega)) (by rw [bi_neg]; exact h2)
    apply y_fn fn_fraction (bs := [(.int n, .frz), (.int d, .frz)]) rfl rfl (env := [some (.int n, .frz), some (.int d, .frz), none]) rfl
    walk_at "go"
    exact q_fdivb h3 h4
    walk_at "go"
    exact q_fdivb h3 h4
    walk_at "go"
    exact fr_divInt_neg n d hd
  · have h3 := gz_pos (a := n) (b := d) (by omega)
    have h4 : bi (gz n d) ≤ 8000 := Nat.le_trans (bi_gz (by omega)) h2
    apply y_fn fn_fraction (bs := [(.int n, .frz), (.int d, .frz)]) rfl rfl (env := [some (.int n, .frz), some (.int d, .frz), none]) rfl
    walk_at "go"
    exact q_fdivb h3 h4
    walk_at "go"
    exact q_fdivb h3 h4
    walk_at "go"
    exact fr_divInt n d (by omega)
end Z
namespace Z
theorem bi_dd {p q : Rat} {n : Nat} (h : sz p + sz q ≤ n) : bi ((p.den : Int) * q.den) ≤ n := by
  have h1 := bi_mul p.den q.den
  have h2 := sz_den p
  have h3 := sz_den q
  omega
end Z
namespace Z
end Z
namespace Z
def cmp (p q : Rat) : Int := if p < q then -1 else if q < p then 1 else 0
end Z
namespace Z
theorem c_compare (k : Nat) (p q : Rat) (h : sz p + sz q ≤ 8000) : Ret (callK tab.fns (k + 1)) i_compare [(fr p, .frz), (fr q, .frz)] (.int (cmp p q)) false := by
  have e1 := Rat.lt_iff p q
  have e2 := Rat.lt_iff q p
  by_cases h1 : p < q
  · have h2 := e1.mp h1
    apply z_fn fn_compare rfl
    walk_at "go"
    unfold cmp
    rw [if_pos h1]
  · have h2 : ¬ p.num * q.den < q.num * p.den := fun z => h1 (e1.mpr z)
    by_cases h3 : q < p
    · have h4 := e2.mp h3
      apply z_fn fn_compare rfl
      walk_at "go"
      unfold cmp
      rw [if_neg h1, if_pos h3]
    · have h4 : ¬ q.num * p.den < p.num * q.den := fun z => h3 (e2.mpr z)
      apply z_fn fn_compare rfl
      walk_at "go"
      unfold cmp
      rw [if_neg h1, if_neg h3]
end Z
namespace Z
end Z
namespace Z
theorem cmp_le {p q : Rat} : decide (cmp p q ≤ 0) = decide (p ≤ q) := by
  unfold cmp
  by_cases h1 : p < q
  · rw [if_pos h1, decide_eq_true (Rat.le_of_lt h1)]; rfl
  · rw [if_neg h1]
    by_cases h2 : q < p
    · rw [if_pos h2, decide_eq_false (Rat.not_le.mpr h2)]; rfl
    · rw [if_neg h2, decide_eq_true (Rat.not_lt.mp h2)]; rfl
end Z
namespace Z
theorem c_is_at_most (k : Nat) (p q : Rat) (h : sz p + sz q ≤ 8000) : Ret (callK tab.fns (k + 2)) i_is_at_most [(fr p, .frz), (fr q, .frz)] (.bl (decide (p ≤ q))) false := by
  apply z_fn fn_is_at_most rfl
  walk_at "go"
  exact c_compare _ p q h
  walk_at "go"
  rw [cmp_le]
end Z
local macro_rules | `(tactic| kt_at_notin) => `(tactic| exact c_absolute _ _)
local macro_rules | `(tactic| kt_at_notin) => `(tactic| exact c_negative _ _)
local macro_rules | `(tactic| kt_at_notin) => `(tactic| (apply c_divide; assumption; kaf_pre))
local macro_rules | `(tactic| kt_at_notin) => `(tactic| (apply c_sign; ktr_units))
local macro_rules | `(tactic| kt_at_notin) => `(tactic| (apply c_is_at_most; kaf_pre))
local macro_rules | `(tactic| kt_at_notin) => `(tactic| (apply c_is_less; kaf_pre))
local macro_rules | `(tactic| kt_at_notin) => `(tactic| (apply c_compare; kaf_pre))
local macro_rules | `(tactic| kt_at_notin) => `(tactic| (apply c_subtract; kaf_pre))
local macro_rules | `(tactic| kt_at_notin) => `(tactic| (apply c_multiply; kaf_pre))
local macro_rules | `(tactic| kt_at_notin) => `(tactic| (apply c_add; kaf_pre))
namespace Z
def iz (ns : List Int) : List D := ns.map D.int
end Z
namespace Z
theorem iz_length (ns : List Int) : (iz ns).length = ns.length := List.length_map _
end Z
namespace Z
theorem iz_at {ns : List Int} {j : Int} (h0 : 0 ≤ j) (h1 : j < ns.length) : atI (iz ns) j = some (.int (ns.getD j.toNat 0)) := by
  obtain ⟨n, rfl⟩ : ∃ n : Nat, j = n := ⟨j.toNat, by omega⟩
  have hn : n < ns.length := by omega
  unfold atI ixN
  have e : (iz ns).length = ns.length := iz_length ns
  rw [if_pos (by omega), if_pos (by omega)]
  simp only [Option.bind_some, Int.toNat_natCast]
  unfold iz
  rw [List.getElem?_map, List.getD_eq_getElem?_getD, List.getElem?_eq_getElem hn]
  rfl
end Z
namespace Z
def dw (ds : List Int) (at_ : Nat) (many : Int) : Int := if at_ < ds.length then ds.getD at_ 0 % many else 0
end Z
namespace Z
theorem dw_range {ds : List Int} {at_ : Nat} {many : Int} (h : 0 < many) : 0 ≤ dw ds at_ many ∧ dw ds at_ many < many := by
  unfold dw
  split
  · exact ⟨Int.emod_nonneg _ (by omega), Int.emod_lt_of_pos _ h⟩
  · omega
end Z
namespace Z
abbrev bx (ds : List Int) (at_ : Nat) : D := .lst [.lst (iz ds), .int (at_ : Int)]
end Z
namespace Z
theorem c_cell (k : Nat) (ns : List Int) (j : Int) (h : 0 ≤ j) : ∃ i : Int, Ret (callK tab.fns (k + 1)) i__law_cell [(.rol (iz ns), .frz), (.int j, .frz)] (.int i) false := by
  by_cases hj : j < (ns.length : Int)
  · refine ⟨ns.getD j.toNat 0, ?_⟩
    have hj' : j < ((iz ns).length : Int) := by rw [iz_length]; exact hj
    apply z_fn fn__law_cell rfl
    walk_at "go"
    exact iz_at h hj
    rfl
  · refine ⟨0, ?_⟩
    have hj' : ¬ j < ((iz ns).length : Int) := by rw [iz_length]; exact hj
    apply z_fn fn__law_cell rfl
    walk_at "go"
    rfl
end Z
namespace Z
theorem c_draw (k : Nat) (ds : List Int) (at_ : Nat) (many : Int) (hm : 0 < many) : RetB (callK tab.fns (k + 1)) i__law_draw (bx ds at_) [(.int many, .frz)] (.int (dw ds at_ many)) false (bx ds (at_ + 1)) := by
  by_cases hj : (at_ : Int) < (ds.length : Int)
  · have hj' : (at_ : Int) < ((iz ds).length : Int) := by rw [iz_length]; exact hj
    apply z_fnB fn__law_draw rfl
    walk_at "go"
    exact iz_at (by omega) hj
    walk_at "go"
    unfold dw
    rw [if_pos (by omega)]
    rfl
  · have hj' : ¬ (at_ : Int) < ((iz ds).length : Int) := by rw [iz_length]; exact hj
    apply z_fnB fn__law_draw rfl
    walk_at "go"
    unfold dw
    rw [if_neg (by omega)]
end Z
local macro_rules | `(tactic| kt_at_notin) => `(tactic| exact c_draw _ _ _ _ (by decide))
namespace Z
end Z
namespace Z
theorem c_divisor (k : Nat) (a b : Int) (h : bi b ≤ 199) : Ret (callK tab.fns (k + 1)) i__law_divisor [(.int a, .frz), (.int b, .frz)] (.int (gz a b)) false := by
  apply v_fn fn__law_divisor rfl
  walk_at "go"
  apply w_range (fun j env => ∃ (x y : Nat) (s : Sl), env = [some (.int x, .frz), some (.int y, .frz), s] ∧ isLck s = false ∧ eu (400 - j) x y = eu 400 a.natAbs b.natAbs)
  walk_at "go"
  walk_at "go"
  decide
  · refine ⟨a.natAbs, b.natAbs, none, ?_, rfl, rfl⟩
    have e1 : ∀ z : Int, (if z < 0 then -z else z) = (z.natAbs : Int) := fun z => by split <;> omega
    rw [e1, e1]
  · rintro j env hj ⟨x, y, s, rfl, hs, he⟩
    have ej : 400 - j = (400 - (j + 1)) + 1 := by omega
    rw [ej, eu] at he
    refine ⟨_, x_setf rfl hs rfl rfl, ?_⟩
    simp only [List.set_cons_zero, List.set_cons_succ]
    by_cases hy : (y : Int) > 0
    · walk_at "go"
      apply w_nil
      rw [← Int.natCast_emod]
      refine ⟨y, x % y, _, rfl, k_f, ?_⟩
      · rw [if_pos (by omega)] at he
        exact he
    · walk_at "go"
      apply w_nil
      refine ⟨x, y, _, rfl, k_f, ?_⟩
      rw [if_neg (by omega)] at he
      exact he
  · rintro e ⟨x, y, s, rfl, hs, he⟩
    walk_at "go"
    refine ⟨?_, rfl⟩
    have h2 : b.natAbs < 2 ^ 199 := bl_le.mp h
    rw [eu_gcd 199 _ _ _ h2 (by omega)] at he
    have he' : (x, y) = (Nat.gcd a.natAbs b.natAbs, 0) := he
    have := congrArg Prod.fst he'
    simp only at this
    rw [this]
end Z
local macro_rules | `(tactic| kt_at_notin) => `(tactic| exact c_divisor _ _ _ (by assumption))
namespace Z
theorem c_lfr (k : Nat) (n d : Int) (h : d ≠ 0) (h2 : bi d ≤ 199) : Ret (callK tab.fns (k + 2)) i__law_fr [(.int n, .frz), (.int d, .frz)] (fr (Rat.divInt n d)) false := by
  by_cases hd : d < 0
  · have h3 := gz_pos (a := 0 - n) (b := 0 - d) (by omega)
    have h5 : bi (0 - d) ≤ 199 := by rw [Int.zero_sub, bi_neg]; exact h2
    have h4 : bi (gz (0 - n) (0 - d)) ≤ 8000 := Nat.le_trans (bi_gz (by omega)) (by omega)
    apply v_fn fn__law_fr rfl
    walk_at "go"
    exact q_fdivb h3 h4
    walk_at "go"
    exact q_fdivb h3 h4
    walk_at "go"
    refine ⟨?_, rfl⟩
    have := fr_divInt_neg n d hd
    rw [← Int.zero_sub n, ← Int.zero_sub d] at this
    exact this
  · have h3 := gz_pos (a := n) (b := d) (by omega)
    have h4 : bi (gz n d) ≤ 8000 := Nat.le_trans (bi_gz (by omega)) (by omega)
    apply v_fn fn__law_fr rfl
    walk_at "go"
    exact q_fdivb h3 h4
    walk_at "go"
    exact q_fdivb h3 h4
    walk_at "go"
    exact ⟨fr_divInt n d (by omega), rfl⟩
end Z
namespace Z
theorem c_less (k : Nat) (p q : Rat) (h : sz p + sz q ≤ 8000) : Ret (callK tab.fns (k + 1)) i__law_less [(fr p, .frz), (fr q, .frz)] (.bl (decide (p < q))) false := by
  apply v_fn fn__law_less rfl
  walk_at "go"
  refine ⟨?_, rfl⟩
  rw [decide_eq_decide.mpr (Rat.lt_iff p q)]
end Z
namespace Z
theorem c_digits (k : Nat) (ns : List Int) : ∃ ds : List Int, Ret (callK tab.fns (k + 2)) i__law_digits [(.rol (iz ns), .frz), (.int 0, .frz), (.int 63, .frz)] (.lst (iz ds)) true := by
  have := v_fnP (k := k + 1) (as := [(.rol (iz ns), .frz), (.int 0, .frz), (.int 63, .frz)]) (P := fun d => ∃ ds : List Int, d = .lst (iz ds)) (fr := true) fn__law_digits rfl (by simp only [mkEnv, nones, Nat.reduceSub]; exact rfl) (by
    have l1 : ∀ ds : List Int, (iz ds).length = ds.length := iz_length
    have l2 : ∀ (ds : List Int) (i : Int), iz ds ++ [D.int i] = iz (ds ++ [i]) := fun ds i => by unfold iz; rw [List.map_append]; rfl
    walk_at "go"
    apply w_range (fun j env => ∃ (ds : List Int) (s4 s5 s6 s7 : Sl), env = [some (.rol (iz ns), .frz), some (.int 0, .frz), some (.int 63, .frz), some (.lst (iz ds), .own), s4, s5, s6, s7] ∧ isLck s4 = false ∧ isLck s5 = false ∧ isLck s6 = false ∧ isLck s7 = false ∧ ds.length ≤ 60 * j)
    walk_at "go"
    walk_at "go"
    decide
    · exact ⟨[], _, _, _, _, rfl, rfl, rfl, rfl, rfl, by simp⟩
    · rintro j env hj ⟨ds, s4, s5, s6, s7, rfl, h4, h5, h6, h7, hl⟩
      refine ⟨_, x_setf rfl h4 rfl rfl, ?_⟩
      simp only [List.set_cons_zero, List.set_cons_succ]
      obtain ⟨cell, hc⟩ := c_cell k ns (0 + j) (by omega)
      walk_at "go"
      apply br_mid (fun env => ∃ (c : Int) (s4 : Sl), env = [some (.rol (iz ns), .frz), some (.int 0, .frz), some (.int 63, .frz), some (.lst (iz ds), .own), some (.int (0 + j), .frz), some (.int c, .frz), s6, s7])
      · apply br_dec <;> intro hn
        · walk_at "go"
          exact w_nil ⟨_, none, rfl⟩
        · walk_at "go"
          exact w_nil ⟨_, none, rfl⟩
      · rintro env ⟨c, _, rfl⟩
        walk_at "go"
        apply q_pow
        decide
        walk_at "go"
        apply br_dec <;> intro hn
        · walk_at "go"
          apply w_range (fun i env => ∃ (ds2 : List Int) (c s6 : Sl), env = [some (.rol (iz ns), .frz), some (.int 0, .frz), some (.int 63, .frz), some (.lst (iz ds2), .own), some (.int (0 + j), .frz), c, s6, s7] ∧ (∃ z : Int, c = some (.int z, .frz)) ∧ isLck s6 = false ∧ ds2.length ≤ 60 * j + i)
          walk_at "go"
          walk_at "go"
          decide
          · exact ⟨ds, _, _, rfl, ⟨_, rfl⟩, h6, by omega⟩
          · rintro i env hi ⟨ds2, cc, s6, rfl, ⟨z, rfl⟩, h6, hl2⟩
            refine ⟨_, x_setf rfl h6 rfl rfl, ?_⟩
            simp only [List.set_cons_zero, List.set_cons_succ]
            have hs : (iz ds2).length < sizeLine := by rw [l1]; exact szl _ (by omega)
            have h0 : (0 : Int) < 1000 := by decide
            have h1 : bi 1000 ≤ 8000 := by decide
            by_cases hz : z > 0
            · walk_at "go"
              exact q_fdivb h0 h1
              walk_at "go"
              rw [l2]
              exact w_nil ⟨_, _, _, rfl, ⟨_, rfl⟩, rfl, by rw [List.length_append, List.length_singleton]; omega⟩
            · walk_at "go"
              exact w_nil ⟨_, _, _, rfl, ⟨_, rfl⟩, rfl, by omega⟩
          · rintro env ⟨ds2, cc, s6, rfl, ⟨z, rfl⟩, h6, hl2⟩
            exact w_nil ⟨_, _, _, _, _, rfl, rfl, rfl, h6, h7, by have : ((60 : Int) - 0).toNat = 60 := rfl; omega⟩
        · walk_at "go"
          apply w_range (fun i env => ∃ (ds2 : List Int) (s6 : Sl) (z : Int), env = [some (.rol (iz ns), .frz), some (.int 0, .frz), some (.int 63, .frz), some (.lst (iz ds2), .own), some (.int (0 + j), .frz), some (.int c, .frz), s6, some (.int z, .frz)] ∧ isLck s6 = false ∧ ds2.length ≤ 60 * j + i)
          walk_at "go"
          walk_at "go"
          decide
          · exact ⟨ds, _, _, rfl, h6, by omega⟩
          · rintro i env hi ⟨ds2, s6, z, rfl, h6, hl2⟩
            refine ⟨_, x_setf rfl h6 rfl rfl, ?_⟩
            simp only [List.set_cons_zero, List.set_cons_succ]
            have hs : (iz ds2).length < sizeLine := by rw [l1]; exact szl _ (by omega)
            have h0 : (0 : Int) < 997 := by decide
            have h1 : bi 997 ≤ 8000 := by decide
            walk_at "go"
            exact q_fdivb h0 h1
            walk_at "go"
            rw [l2]
            exact w_nil ⟨_, _, _, rfl, rfl, by rw [List.length_append, List.length_singleton]; omega⟩
          · rintro env ⟨ds2, s6, z, rfl, h6, hl2⟩
            exact w_nil ⟨_, _, _, _, _, rfl, rfl, rfl, h6, rfl, by have : ((12 : Int) - 0).toNat = 12 := rfl; omega⟩
    · rintro env ⟨ds, s4, s5, s6, s7, rfl, h4, h5, h6, h7, hl⟩
      walk_at "go"
      exact ⟨⟨ds, rfl⟩, rfl⟩)
  obtain ⟨d, ⟨ds, rfl⟩, h⟩ := this
  exact ⟨ds, h⟩
end Z
local macro_rules | `(tactic| kt_at_notin) => `(tactic| (apply c_lfr; assumption; kt_at_in))
local macro_rules | `(tactic| kt_at_notin) => `(tactic| (apply c_less; kaf_pre))
namespace Z
theorem c_ladd (k : Nat) (p q : Rat) (h : sz p + sz q ≤ 199) : Ret (callK tab.fns (k + 3)) i__law_add [(fr p, .frz), (fr q, .frz)] (fr (p + q)) false := by
  have h0 := mul_den_ne p q
  have h1 := bi_dd h
  apply v_fn fn__law_add rfl
  walk_at "go"
  exact ⟨by rw [add_divInt], rfl⟩
end Z
namespace Z
theorem c_lmul (k : Nat) (p q : Rat) (h : sz p + sz q ≤ 199) : Ret (callK tab.fns (k + 3)) i__law_mul [(fr p, .frz), (fr q, .frz)] (fr (p * q)) false := by
  have h0 := mul_den_ne p q
  have h1 := bi_dd h
  apply v_fn fn__law_mul rfl
  walk_at "go"
  exact ⟨by rw [mul_divInt], rfl⟩
end Z
namespace Z
theorem c_some (k : Nat) (ds : List Int) (a : Nat) : ∃ q : Rat, sz q ≤ 3 ∧ RetB (callK tab.fns (k + 3)) i__law_some (bx ds a) [] (fr q) false (bx ds (a + 1 + 1)) := by
  have d1 := dw_range (ds := ds) (at_ := a) (many := 13) (by decide)
  have d2 := dw_range (ds := ds) (at_ := a + 1) (many := 6) (by decide)
  obtain ⟨m, hm, h1, h2⟩ : ∃ m : Int, atI [D.int 1, D.int 1, D.int 1, D.int 2, D.int 3, D.int 4] (dw ds (a + 1) 6) = some (.int m) ∧ 1 ≤ m ∧ m ≤ 4 := by
    have hc : dw ds (a + 1) 6 = 0 ∨ dw ds (a + 1) 6 = 1 ∨ dw ds (a + 1) 6 = 2 ∨ dw ds (a + 1) 6 = 3 ∨ dw ds (a + 1) 6 = 4 ∨ dw ds (a + 1) 6 = 5 := by omega
    rcases hc with h | h | h | h | h | h <;> rw [h] <;> exact ⟨_, rfl, by decide, by decide⟩
  have hn : bi (dw ds a 13 - 6) ≤ 3 := bi_le (by omega) (by omega)
  have hd : bi m ≤ 3 := bi_le (by omega) (by omega)
  have hd0 : m ≠ 0 := by omega
  refine ⟨Rat.divInt (dw ds a 13 - 6) m, sz_divInt hd0 hn hd, ?_⟩
  apply v_fnB fn__law_some rfl
  walk_at "go"
  exact ⟨rfl, rfl, rfl⟩
end Z
local macro_rules | `(tactic| kt_at_notin) => `(tactic| (apply c_lmul; kaf_pre))
local macro_rules | `(tactic| kt_at_notin) => `(tactic| (apply c_lsub; kaf_pre))
local macro_rules | `(tactic| kt_at_notin) => `(tactic| (apply c_ladd; kaf_pre))
section
local macro_rules | `(tactic| kt_at_notin) => `(tactic| exact c_gcd _ _ _)
local macro_rules | `(tactic| kt_at_notin) => `(tactic| exact c_absolute _ _)
local macro_rules | `(tactic| kt_at_notin) => `(tactic| exact c_negative _ _)
local macro_rules | `(tactic| kt_at_notin) => `(tactic| (apply c_divide; assumption; kaf_pre))
local macro_rules | `(tactic| kt_at_notin) => `(tactic| (apply c_sign; ktr_units))
local macro_rules | `(tactic| kt_at_notin) => `(tactic| (apply c_is_at_most; kaf_pre))
local macro_rules | `(tactic| kt_at_notin) => `(tactic| (apply c_is_less; kaf_pre))
local macro_rules | `(tactic| kt_at_notin) => `(tactic| (apply c_compare; kaf_pre))
local macro_rules | `(tactic| kt_at_notin) => `(tactic| (apply c_subtract; kaf_pre))
local macro_rules | `(tactic| kt_at_notin) => `(tactic| (apply c_multiply; kaf_pre))
local macro_rules | `(tactic| kt_at_notin) => `(tactic| (apply c_add; kaf_pre))
local macro_rules | `(tactic| kt_at_notin) => `(tactic| exact c_draw _ _ _ _ (by decide))
local macro_rules | `(tactic| kt_at_notin) => `(tactic| exact c_divisor _ _ _ (by assumption))
local macro_rules | `(tactic| kt_at_notin) => `(tactic| (apply c_lfr; assumption; kt_at_in))
local macro_rules | `(tactic| kt_at_notin) => `(tactic| (apply c_less; kaf_pre))
local macro_rules | `(tactic| kt_at_notin) => `(tactic| (apply c_lmul; kaf_pre))
local macro_rules | `(tactic| kt_at_notin) => `(tactic| (apply c_lsub; kaf_pre))
local macro_rules | `(tactic| kt_at_notin) => `(tactic| (apply c_ladd; kaf_pre))
namespace Z
inductive El where
  | gap (l : Rat) | lens (p c : Rat) | prism (d : Rat) | afocal (m : Rat) | stop (lo up : Option Rat)
def So (n : Nat) (v : Option Rat) : Prop := ∀ x, v = some x → sz x ≤ n
def El.ok : El → Prop
  | .gap l => sz l ≤ 3
  | .lens p c => sz p ≤ 3 ∧ sz c ≤ 3
  | .prism d => sz d ≤ 3
  | .afocal m => sz m ≤ 3 ∧ m ≠ 0
  | .stop lo up => So 9 lo ∧ So 9 up
abbrev Ry := Rat × Rat
def rd (r : Ry) : D := .tup [fr r.1, fr r.2]
def thru : El → Ry → Ry
  | .gap l, r => (r.1 + l * r.2, r.2)
  | .lens p c, r => (r.1, r.2 - p * (r.1 - c))
  | .prism d, r => (r.1, r.2 + d)
  | .afocal m, r => (m * r.1, r.2 / m)
  | .stop _ _, r => r
def blo (lo : Option Rat) (h : Rat) : Bool := match lo with | some l => decide (h < l) | none => false
def bup (up : Option Rat) (h : Rat) : Bool := match up with | some u => decide (u < h) | none => false
def blk : El → Ry → Bool
  | .stop lo up, r => blo lo r.1 || bup up r.1
  | _, _ => false
/-- height and slope over one denominator -/
def SR (t : Nat) (r : Ry) : Prop := ∃ a b d : Int, d ≠ 0 ∧ bi a ≤ t ∧ bi b ≤ t ∧ bi d ≤ t ∧ r.1 = Rat.divInt a d ∧ r.2 = Rat.divInt b d
theorem SR.mono {t u : Nat} {r : Ry} (h : SR t r) (hu : t ≤ u) : SR u r := by
  obtain ⟨a, b, d, hd, ha, hb, hdd, e1, e2⟩ := h
  exact ⟨a, b, d, hd, by omega, by omega, by omega, e1, e2⟩
theorem divInt_cast (a b : Int) : Rat.divInt a b = (a : Rat) / (b : Rat) := Rat.divInt_eq_div a b
theorem cast_ne {d : Int} (h : d ≠ 0) : (d : Rat) ≠ 0 := fun z => h (Rat.intCast_inj.mp z)
theorem num_div_den (q : Rat) : q = (q.num : Rat) / ((q.den : Int) : Rat) := by
  rw [← divInt_cast, Rat.num_divInt_den]
end Z
namespace Z
theorem sr_of {p q : Rat} (hp : sz p ≤ 3) (hq : sz q ≤ 3) : SR 8 (p, q) := by
  have n1 := Nat.le_trans (sz_num p) hp
  have n2 := Nat.le_trans (sz_den p) hp
  have n3 := Nat.le_trans (sz_num q) hq
  have n4 := Nat.le_trans (sz_den q) hq
  have m1 := bi_mul p.den q.den
  have m2 := bi_mul p.num q.den
  have m3 := bi_mul q.num p.den
  have h2 := cast_ne (den_ne p)
  have h3 := cast_ne (den_ne q)
  refine ⟨p.num * q.den, q.num * p.den, p.den * q.den, mul_den_ne p q, by omega, by omega, by omega, ?_, ?_⟩
  · show p = _
    rw [divInt_cast, Rat.intCast_mul, Rat.intCast_mul]
    conv => lhs; rw [num_div_den p]
    grind
  · show q = _
    rw [divInt_cast, Rat.intCast_mul, Rat.intCast_mul]
    conv => lhs; rw [num_div_den q]
    grind
end Z
local macro_rules | `(tactic| kfm_turns) => `(tactic| (focus (decide +kernel)))
local macro_rules | `(tactic| kat_tups) => `(tactic| (apply q_nes <;> (focus (decide +kernel))))
local macro_rules | `(tactic| kat_tups) => `(tactic| (apply q_eqs <;> (focus (decide +kernel))))
namespace Z
end Z
namespace Z
def stp (es : List El) (r : Ry) (j : Nat) : Ry := (es.take j).foldl (fun r e => thru e r) r
def bAt (es : List El) (r : Ry) (j : Nat) : Bool := match es[j]? with
  | some e => blk e (stp es r j)
  | none => false
def fb (es : List El) (r : Ry) : Option Nat := (List.range es.length).find? (bAt es r)
def gd (e : El) (r : Ry) : D := if blk e r then .non else rd (thru e r)
def xd (es : List El) (r : Ry) : D := match fb es r with
  | some _ => .non
  | none => rd (stp es r es.length)
end Z
namespace Z
end Z
namespace Z
theorem c_lray (k : Nat) (ds : List Int) (a : Nat) : ∃ r : Ry, SR 8 r ∧ sz r.1 ≤ 3 ∧ sz r.2 ≤ 3 ∧ RetB (callK tab.fns (k + 4)) i__law_ray (bx ds a) [] (rd r) false (bx ds (a + 1 + 1 + 1 + 1)) := by
  obtain ⟨p, zp, wp⟩ := c_some k ds a
  obtain ⟨q, zq, wq⟩ := c_some k ds (a + 1 + 1)
  refine ⟨(p, q), sr_of zp zq, zp, zq, ?_⟩
  apply v_fnB fn__law_ray rfl
  walk_at "go"
  exact ⟨rfl, rfl, rfl⟩
end Z
namespace Z
def Pl (s : Sl) : Prop := s = none ∨ ∃ d, s = some (d, .frz)
theorem Pl.lck {s : Sl} (h : Pl s) : isLck s = false := by rcases h with rfl | ⟨d, rfl⟩ <;> rfl
end Z
end
section
local macro_rules | `(tactic| kt_at_notin) => `(tactic| exact c_gcd _ _ _)
local macro_rules | `(tactic| kt_at_notin) => `(tactic| exact c_absolute _ _)
local macro_rules | `(tactic| kt_at_notin) => `(tactic| exact c_negative _ _)
local macro_rules | `(tactic| kt_at_notin) => `(tactic| (apply c_divide; assumption; kaf_pre))
local macro_rules | `(tactic| kt_at_notin) => `(tactic| (apply c_sign; ktr_units))
local macro_rules | `(tactic| kt_at_notin) => `(tactic| (apply c_is_at_most; kaf_pre))
local macro_rules | `(tactic| kt_at_notin) => `(tactic| (apply c_is_less; kaf_pre))
local macro_rules | `(tactic| kt_at_notin) => `(tactic| (apply c_compare; kaf_pre))
local macro_rules | `(tactic| kt_at_notin) => `(tactic| (apply c_subtract; kaf_pre))
local macro_rules | `(tactic| kt_at_notin) => `(tactic| (apply c_multiply; kaf_pre))
local macro_rules | `(tactic| kt_at_notin) => `(tactic| (apply c_add; kaf_pre))
local macro_rules | `(tactic| kt_at_notin) => `(tactic| exact c_draw _ _ _ _ (by decide))
local macro_rules | `(tactic| kt_at_notin) => `(tactic| exact c_divisor _ _ _ (by assumption))
local macro_rules | `(tactic| kt_at_notin) => `(tactic| (apply c_lfr; assumption; kt_at_in))
local macro_rules | `(tactic| kt_at_notin) => `(tactic| (apply c_less; kaf_pre))
local macro_rules | `(tactic| kt_at_notin) => `(tactic| (apply c_lmul; kaf_pre))
local macro_rules | `(tactic| kt_at_notin) => `(tactic| (apply c_lsub; kaf_pre))
local macro_rules | `(tactic| kt_at_notin) => `(tactic| (apply c_ladd; kaf_pre))
local macro_rules | `(tactic| kfm_turns) => `(tactic| (focus (decide +kernel)))
local macro_rules | `(tactic| kat_tups) => `(tactic| (apply q_nes <;> (focus (decide +kernel))))
local macro_rules | `(tactic| kat_tups) => `(tactic| (apply q_eqs <;> (focus (decide +kernel))))
namespace Z
structure Mp where
  a : Rat
  b : Rat
  c : Rat
  d : Rat
  e : Rat
  f : Rat
def m1 : Mp := ⟨1, 0, 0, 1, 0, 0⟩
def co (m n : Mp) : Mp := ⟨n.a * m.a + n.b * m.c, n.a * m.b + n.b * m.d, n.c * m.a + n.d * m.c, n.c * m.b + n.d * m.d, n.a * m.e + n.b * m.f + n.e, n.c * m.e + n.d * m.f + n.f⟩
def Mp.z (m : Mp) (n : Nat) : Prop := sz m.a ≤ n ∧ sz m.b ≤ n ∧ sz m.c ≤ n ∧ sz m.d ≤ n ∧ sz m.e ≤ n ∧ sz m.f ≤ n
theorem Mp.z.mono {m : Mp} {n k : Nat} (h : m.z n) (hk : n ≤ k) : m.z k := by
  obtain ⟨h1, h2, h3, h4, h5, h6⟩ := h
  exact ⟨by omega, by omega, by omega, by omega, by omega, by omega⟩
def em : El → Mp
  | .gap l => ⟨1, l, 0, 1, 0, 0⟩
  | .lens p c => ⟨1, 0, -p, 1, 0, p * c⟩
  | .prism d => ⟨1, 0, 0, 1, 0, d⟩
  | .afocal m => ⟨m, 0, 0, 1 / m, 0, 0⟩
  | .stop _ _ => m1
def tr (es : List El) (j : Nat) : Mp := (es.take j).foldl (fun m e => co m (em e)) m1
def whole (es : List El) : Mp := tr es es.length
/-- the four numbers that turn differences, over one denominator -/
def SF (t : Nat) (m : Mp) : Prop := ∃ a b c d g : Int, g ≠ 0 ∧ bi a ≤ t ∧ bi b ≤ t ∧ bi c ≤ t ∧ bi d ≤ t ∧ bi g ≤ t ∧ m.a = Rat.divInt a g ∧ m.b = Rat.divInt b g ∧ m.c = Rat.divInt c g ∧ m.d = Rat.divInt d g
theorem SF.z {t : Nat} {m : Mp} (h : SF t m) : sz m.a ≤ t ∧ sz m.b ≤ t ∧ sz m.c ≤ t ∧ sz m.d ≤ t := by
  obtain ⟨a, b, c, d, g, hg, ha, hb, hc, hd, hgg, e1, e2, e3, e4⟩ := h
  rw [e1, e2, e3, e4]
  exact ⟨sz_divInt hg ha hgg, sz_divInt hg hb hgg, sz_divInt hg hc hgg, sz_divInt hg hd hgg⟩
end Z
namespace Z
theorem q_sl4 {a b c d e f : D} : prB (.sl false true) [.tup [a, b, c, d, e, f], .int 4] = some (.tup [a, b, c, d], false) := rfl
theorem q_cat2 {a b c d x y : D} : prB .add [.tup [a, b, c, d], .tup [x, y]] = some (.tup [a, b, c, d, x, y], false) := rfl
end Z
local macro_rules | `(tactic| kat_tups) => `(tactic| (apply gd_padd; with_unfolding_all exact q_cat2))
local macro_rules | `(tactic| kat_tups) => `(tactic| (apply gd_psl; with_unfolding_all exact q_sl4))
local macro_rules | `(tactic| kt_at_notin) => `(tactic| (apply c_apply; assumption; focus ktr_units; focus ktr_units))
local macro_rules | `(tactic| kt_at_notin) => `(tactic| exact c_without _ _)
namespace Z
end Z
namespace Z
theorem q_sl2 {a b c d e f : D} : prB (.sl false true) [.tup [a, b, c, d, e, f], .int 2] = some (.tup [a, b], false) := rfl
theorem q_sl24 {a b c d e f : D} : prB (.sl true true) [.tup [a, b, c, d, e, f], .int 2, .int 4] = some (.tup [c, d], false) := rfl
theorem q_eq0 {q : Rat} : prB .eq [fr q, .tup [.int 0, .int 1]] = some (.bl (decide (q = 0)), false) := q_eqf (q := 0)
theorem num_zero {q : Rat} : q.num = 0 ↔ q = 0 := Rat.num_eq_zero
/-- the magnification, the image distance -/
def mg (m : Mp) (x : Rat) : Option Rat := if m.c * x + m.d = 0 then none else some (1 / (m.c * x + m.d))
end Z
local macro_rules | `(tactic| kat_tups) => `(tactic| exact q_eq0)
local macro_rules | `(tactic| kat_tups) => `(tactic| (apply gd_psl; with_unfolding_all exact q_sl24))
local macro_rules | `(tactic| kat_tups) => `(tactic| (apply gd_psl; with_unfolding_all exact q_sl2))
end
section
local macro_rules | `(tactic| kt_at_notin) => `(tactic| exact c_gcd _ _ _)
local macro_rules | `(tactic| kt_at_notin) => `(tactic| exact c_absolute _ _)
local macro_rules | `(tactic| kt_at_notin) => `(tactic| exact c_negative _ _)
local macro_rules | `(tactic| kt_at_notin) => `(tactic| (apply c_divide; assumption; kaf_pre))
local macro_rules | `(tactic| kt_at_notin) => `(tactic| (apply c_sign; ktr_units))
local macro_rules | `(tactic| kt_at_notin) => `(tactic| (apply c_is_at_most; kaf_pre))
local macro_rules | `(tactic| kt_at_notin) => `(tactic| (apply c_is_less; kaf_pre))
local macro_rules | `(tactic| kt_at_notin) => `(tactic| (apply c_compare; kaf_pre))
local macro_rules | `(tactic| kt_at_notin) => `(tactic| (apply c_subtract; kaf_pre))
local macro_rules | `(tactic| kt_at_notin) => `(tactic| (apply c_multiply; kaf_pre))
local macro_rules | `(tactic| kt_at_notin) => `(tactic| (apply c_add; kaf_pre))
local macro_rules | `(tactic| kt_at_notin) => `(tactic| exact c_draw _ _ _ _ (by decide))
local macro_rules | `(tactic| kt_at_notin) => `(tactic| exact c_divisor _ _ _ (by assumption))
local macro_rules | `(tactic| kt_at_notin) => `(tactic| (apply c_lfr; assumption; kt_at_in))
local macro_rules | `(tactic| kt_at_notin) => `(tactic| (apply c_less; kaf_pre))
local macro_rules | `(tactic| kt_at_notin) => `(tactic| (apply c_lmul; kaf_pre))
local macro_rules | `(tactic| kt_at_notin) => `(tactic| (apply c_lsub; kaf_pre))
local macro_rules | `(tactic| kt_at_notin) => `(tactic| (apply c_ladd; kaf_pre))
local macro_rules | `(tactic| kfm_turns) => `(tactic| (focus (decide +kernel)))
local macro_rules | `(tactic| kat_tups) => `(tactic| (apply q_nes <;> (focus (decide +kernel))))
local macro_rules | `(tactic| kat_tups) => `(tactic| (apply q_eqs <;> (focus (decide +kernel))))
local macro_rules | `(tactic| kt_at_notin) => `(tactic| (apply c_is_fr; ktr_units))
namespace Z
structure Hf where
  p : Int
  q : Int
  r : Int
  deriving DecidableEq
def hd (h : Hf) : D := .tup [.int h.p, .int h.q, .int h.r]
/-- p * height + q * slope -/
def vl (h : Hf) (r : Ry) : Rat := (h.p : Rat) * r.1 + (h.q : Rat) * r.2
def inH (h : Hf) (r : Ry) : Bool := decide (vl h r ≤ (h.r : Rat))
def Hf.z (h : Hf) (n : Nat) : Prop := bi h.p ≤ n ∧ bi h.q ≤ n ∧ bi h.r ≤ n
def Hf.ok (h : Hf) : Prop := h.p ≠ 0 ∨ h.q ≠ 0
theorem Hf.z.mono {h : Hf} {n k : Nat} (z : h.z n) (hk : n ≤ k) : h.z k := ⟨Nat.le_trans z.1 hk, Nat.le_trans z.2.1 hk, Nat.le_trans z.2.2 hk⟩
theorem sz_cast (n : Int) : sz (n : Rat) ≤ max (bi n) 1 := by
  show max (bi (n : Rat).num) (bl (n : Rat).den) ≤ _
  rw [Rat.num_intCast, Rat.den_intCast]
  exact Nat.le_refl _
theorem sz_castb {n : Int} {k : Nat} (h : bi n ≤ k) : sz (n : Rat) ≤ k + 1 := by
  have := sz_cast n
  omega
theorem divInt_one' (n : Int) : Rat.divInt n 1 = (n : Rat) := by rw [divInt_cast]; grind
end Z
namespace Z
theorem c_fraction1 (k : Nat) (n : Int) : Ret (callK tab.fns (k + 2)) i_fraction [(.int n, .frz)] (fr (n : Rat)) false := by
  have h3 := gz_pos (a := n) (b := 1) (by omega)
  have h4 : bi (gz n 1) ≤ 8000 := Nat.le_trans (bi_gz (by omega)) (by decide)
  apply y_fn fn_fraction (bs := [(.int n, .frz), (.int 1, .frz)]) rfl rfl (env := [some (.int n, .frz), some (.int 1, .frz), none]) rfl
  walk_at "go"
  exact q_fdivb h3 h4
  walk_at "go"
  exact q_fdivb h3 h4
  walk_at "go"
  rw [← divInt_one']
  exact fr_divInt n 1 (by omega)
end Z
namespace Z
theorem vl_eq (h : Hf) (r : Ry) : Rat.divInt (h.p * r.1.num * r.2.den + h.q * r.2.num * r.1.den) (r.1.den * r.2.den) = vl h r := by
  have h1 := cast_ne (den_ne r.1)
  have h2 := cast_ne (den_ne r.2)
  unfold vl
  rw [divInt_cast, Rat.intCast_add, Rat.intCast_mul, Rat.intCast_mul, Rat.intCast_mul, Rat.intCast_mul, Rat.intCast_mul]
  conv => rhs; rw [num_div_den r.1, num_div_den r.2]
  grind
theorem c_value (k : Nat) (h : Hf) (r : Ry) (hz : h.z 8000) (hr : sz r.1 + sz r.2 ≤ 8000) : Ret (callK tab.fns (k + 3)) i_value_at [(hd h, .frz), (rd r, .frz)] (fr (vl h r)) false := by
  obtain ⟨z1, z2, z3⟩ := hz
  have e := vl_eq h r
  obtain ⟨a, b⟩ := r
  have ha : sz a ≤ 8000 := by simp only at hr; omega
  have hb : sz b ≤ 8000 := by simp only at hr; omega
  have k1 : Ret (callK tab.fns (k + 2)) i_fraction [(.int (h.p * a.num * b.den + h.q * b.num * a.den), .frz), (.int (a.den * b.den), .frz)] (fr (Rat.divInt (h.p * a.num * b.den + h.q * b.num * a.den) (a.den * b.den))) false := c_fraction k _ _ (mul_den_ne a b) (bi_dd hr)
  simp only at e
  rw [e] at k1
  simp only [hd, rd]
  apply v_fn fn_value_at rfl
  walk_at "go"
  exact ⟨rfl, rfl⟩
theorem sz_vl {h : Hf} {r : Ry} {n t u : Nat} (hz : h.z n) (h1 : sz r.1 ≤ t) (h2 : sz r.2 ≤ u) : sz (vl h r) ≤ 2 * n + t + u + 3 := by
  have a := ss_mul (sz_castb hz.1) h1
  have b := ss_mul (sz_castb hz.2.1) h2
  have c := ss_add a b
  unfold vl
  omega
end Z
local macro_rules | `(tactic| kt_at_notin) => `(tactic| (apply c_value; assumption; (focus omega)))
local macro_rules | `(tactic| kt_at_notin) => `(tactic| exact c_fraction1 _ _)
namespace Z
theorem c_containsW {k : Nat} {hs : List Hf} {r : Ry} {n s : Nat} (hz : ∀ h ∈ hs, h.z n) (h1 : sz r.1 ≤ s) (h2 : sz r.2 ≤ s) (hb : 3 * n + 2 * s + 4 ≤ 8000) {j : Nat} {h : Hf} (he : hs[j]? = some h) : Ret (callK tab.fns (k + 3)) i_value_at [(hd h, .frz), (rd r, .frz)] (fr (vl h r)) false ∧ Ret (callK tab.fns (k + 3)) i_is_at_most [(fr (vl h r), .frz), (fr (h.r : Rat), .frz)] (.bl (inH h r)) false := by
  have hz := hz h (List.mem_of_getElem? he)
  have a := sz_vl (r := r) hz h1 h2
  have b := sz_castb hz.2.2
  exact ⟨c_value k h r (hz.mono (by omega)) (by omega), c_is_at_most (k + 1) _ _ (by omega)⟩
theorem all_take {hs : List Hf} {r : Ry} {j : Nat} {h : Hf} (he : hs[j]? = some h) (ha : (hs.take j).all (inH · r) = true) (hb : inH h r = true) : (hs.take (j + 1)).all (inH · r) = true := by
  rw [List.take_succ, he, List.all_append, ha, Option.toList_some, List.all_cons, hb]
  rfl
theorem all_not {hs : List Hf} {r : Ry} {j : Nat} {h : Hf} (he : hs[j]? = some h) (hb : inH h r = false) : hs.all (inH · r) = false := by
  rw [List.all_eq_false]
  exact ⟨h, List.mem_of_getElem? he, by rw [hb]; decide⟩
theorem c_containsN (k : Nat) (hs : List Hf) (r : Ry) {n s : Nat} (hz : ∀ h ∈ hs, h.z n) (h1 : sz r.1 ≤ s) (h2 : sz r.2 ≤ s) (hb : 3 * n + 2 * s + 4 ≤ 8000) : Ret (callK tab.fns (k + 4)) i_contains_ray [(.lst (hs.map hd), .frz), (rd r, .frz)] (.bl (hs.all (inH · r))) false := by
  apply v_fn fn_contains_ray rfl
  walk_at "go"
  apply w_for (fun j env => (hs.take j).all (inH · r) = true ∧ ∃ s2, env = [some (.lst (hs.map hd), .frz), some (rd r, .frz), s2] ∧ isLck s2 = false) (x_overf rfl rfl)
  · exact ⟨rfl, none, rfl, rfl⟩
  · rintro j d env hd' ⟨ha, s2, rfl, h3⟩
    obtain ⟨h, he, rfl⟩ := map_get hd'
    obtain ⟨w1, w2⟩ := c_containsW (k := k) hz h1 h2 hb he
    have q2 : prB .ix [hd h, .int 2] = some (.int h.r, false) := q_ixt rfl
    apply w_turn (x_setf rfl h3 rfl rfl)
    simp only [List.set_cons_zero, List.set_cons_succ]
    cases hib : inH h r with
    | false =>
      rw [hib] at w2
      walk_at "go"
      exact ⟨by rw [all_not he hib], rfl⟩
    | true =>
      rw [hib] at w2
      walk_at "go"
      exact w_nil ⟨all_take he ha hib, _, rfl, k_f⟩
  · rintro env ⟨ha, s2, rfl, h3⟩
    rw [List.length_map, List.take_length] at ha
    rw [ha]
    walk_at "go"
    exact ⟨rfl, rfl⟩
end Z
namespace Z
theorem c_contains (k : Nat) (hs : List Hf) (r : Ry) (hz : ∀ h ∈ hs, h.z 1000) (h1 : sz r.1 ≤ 1000) (h2 : sz r.2 ≤ 1000) : Ret (callK tab.fns (k + 4)) i_contains_ray [(.lst (hs.map hd), .frz), (rd r, .frz)] (.bl (hs.all (inH · r))) false := c_containsN k hs r hz h1 h2 (by decide)
end Z
namespace Z
def scl (p q r : Rat) : Int := p.den * q.den * r.den
def wh (p q r v : Rat) : Int := v.num * (scl p q r / v.den)
def mk (p q r : Rat) : Hf :=
  let g := gz (gz (wh p q r p) (wh p q r q)) (wh p q r r)
  ⟨wh p q r p / g, wh p q r q / g, wh p q r r / g⟩
theorem scl_p (p q r : Rat) : scl p q r / p.den = q.den * r.den := by
  unfold scl; rw [Int.mul_assoc]; exact Int.mul_ediv_cancel_left _ (den_ne p)
theorem scl_q (p q r : Rat) : scl p q r / q.den = p.den * r.den := by
  unfold scl; rw [Int.mul_comm (p.den : Int), Int.mul_assoc]; exact Int.mul_ediv_cancel_left _ (den_ne q)
theorem scl_r (p q r : Rat) : scl p q r / r.den = p.den * q.den := by
  unfold scl; exact Int.mul_ediv_cancel _ (den_ne r)
theorem gz_dvd (a b : Int) : gz a b ∣ a ∧ gz a b ∣ b := by
  unfold gz
  exact ⟨Int.ofNat_dvd_left.mpr (Nat.gcd_dvd_left _ _), Int.ofNat_dvd_left.mpr (Nat.gcd_dvd_right _ _)⟩
theorem gz_nn (a b : Int) : 0 ≤ gz a b := Int.natCast_nonneg _
theorem wh_ne {p q r : Rat} (h : p ≠ 0 ∨ q ≠ 0) : gz (gz (wh p q r p) (wh p q r q)) (wh p q r r) > 0 := by
  have hn := gz_nn (gz (wh p q r p) (wh p q r q)) (wh p q r r)
  rcases Int.lt_or_eq_of_le hn with h1 | h1
  · exact h1
  exfalso
  obtain ⟨d1, d2⟩ := gz_dvd (gz (wh p q r p) (wh p q r q)) (wh p q r r)
  obtain ⟨d3, d4⟩ := gz_dvd (wh p q r p) (wh p q r q)
  have z0 : gz (wh p q r p) (wh p q r q) = 0 := by rw [← h1] at d1; exact Int.zero_dvd.mp d1
  rw [z0] at d3 d4
  have z1 := Int.zero_dvd.mp d3
  have z2 := Int.zero_dvd.mp d4
  unfold wh at z1 z2
  rw [scl_p] at z1
  rw [scl_q] at z2
  rcases h with h | h
  · exact Int.mul_ne_zero (num_ne h) (Int.mul_ne_zero (den_ne q) (den_ne r)) z1
  · exact Int.mul_ne_zero (num_ne h) (Int.mul_ne_zero (den_ne p) (den_ne r)) z2
/-- a half-plane and the fractions that it is made of: one factor above 0 -/
theorem mk_scale {p q r : Rat} (h : p ≠ 0 ∨ q ≠ 0) : ∃ c : Rat, 0 < c ∧ ((mk p q r).p : Rat) = c * p ∧ ((mk p q r).q : Rat) = c * q ∧ ((mk p q r).r : Rat) = c * r := by
  have hg := wh_ne (r := r) h
  obtain ⟨d1, d2⟩ := gz_dvd (gz (wh p q r p) (wh p q r q)) (wh p q r r)
  obtain ⟨d3, d4⟩ := gz_dvd (wh p q r p) (wh p q r q)
  have d5 := Int.dvd_trans d1 d3
  have d6 := Int.dvd_trans d1 d4
  have cd : ∀ {a b : Int}, b ∣ a → b > 0 → ((a / b : Int) : Rat) = (a : Rat) / (b : Rat) := by
    rintro a b ⟨c, rfl⟩ hb
    rw [Int.mul_ediv_cancel_left _ (by omega), Rat.intCast_mul]
    have : (b : Rat) ≠ 0 := cast_ne (by omega)
    grind
  unfold mk
  simp only
  generalize hG : gz (gz (wh p q r p) (wh p q r q)) (wh p q r r) = g at *
  have hgr : (0 : Rat) < (g : Rat) := by exact_mod_cast hg
  have hs : (0 : Rat) < ((scl p q r : Int) : Rat) := by
    have : 0 < scl p q r := Int.mul_pos (Int.mul_pos (den_pos p) (den_pos q)) (den_pos r)
    exact_mod_cast this
  refine ⟨((scl p q r : Int) : Rat) / (g : Rat), ?_, ?_, ?_, ?_⟩
  · rw [Rat.div_def]; exact Rat.mul_pos hs (Rat.inv_pos.mpr hgr)
  · rw [cd d5 hg]
    unfold wh
    rw [scl_p, Rat.intCast_mul, Rat.intCast_mul]
    unfold scl
    rw [Rat.intCast_mul, Rat.intCast_mul]
    have h1 := cast_ne (den_ne p)
    have e := num_div_den p
    generalize (g : Rat) = g' at *
    generalize ((p.den : Int) : Rat) = pd at *
    generalize ((q.den : Int) : Rat) = qd at *
    generalize ((r.den : Int) : Rat) = rd at *
    generalize (p.num : Rat) = pn at *
    rw [e]
    clear hs
    grind only
  · rw [cd d6 hg]
    unfold wh
    rw [scl_q, Rat.intCast_mul, Rat.intCast_mul]
    unfold scl
    rw [Rat.intCast_mul, Rat.intCast_mul]
    have h1 := cast_ne (den_ne q)
    have e := num_div_den q
    generalize (g : Rat) = g' at *
    generalize ((p.den : Int) : Rat) = pd at *
    generalize ((q.den : Int) : Rat) = qd at *
    generalize ((r.den : Int) : Rat) = rd at *
    generalize (q.num : Rat) = pn at *
    rw [e]
    clear hs
    grind only
  · rw [cd d2 hg]
    unfold wh
    rw [scl_r, Rat.intCast_mul, Rat.intCast_mul]
    unfold scl
    rw [Rat.intCast_mul, Rat.intCast_mul]
    have h1 := cast_ne (den_ne r)
    have e := num_div_den r
    generalize (g : Rat) = g' at *
    generalize ((p.den : Int) : Rat) = pd at *
    generalize ((q.den : Int) : Rat) = qd at *
    generalize ((r.den : Int) : Rat) = rd at *
    generalize (r.num : Rat) = pn at *
    rw [e]
    clear hs
    grind only
theorem mk_in {p q r : Rat} (h : p ≠ 0 ∨ q ≠ 0) (x : Ry) : inH (mk p q r) x = decide (p * x.1 + q * x.2 ≤ r) := by
  obtain ⟨c, hc, e1, e2, e3⟩ := mk_scale (r := r) h
  unfold inH vl
  rw [e1, e2, e3]
  rw [decide_eq_decide]
  have : c * p * x.1 + c * q * x.2 = c * (p * x.1 + q * x.2) := by grind
  rw [this]
  exact ⟨fun z => Rat.le_of_mul_le_mul_left z hc, fun z => Rat.mul_le_mul_of_nonneg_left z (Rat.le_of_lt hc)⟩
theorem bi_ediv {a b : Int} (_h : b > 0) : bi (a / b) ≤ bi a := bl_mono (Int.natAbs_ediv_le_natAbs a b)
theorem z_mk {p q r : Rat} {n : Nat} (h : p ≠ 0 ∨ q ≠ 0) (hz : sz p + sz q + sz r ≤ n) : (mk p q r).z n := by
  have hg := wh_ne (r := r) h
  have b1 := bi_ediv (a := wh p q r p) hg
  have b2 := bi_ediv (a := wh p q r q) hg
  have b3 := bi_ediv (a := wh p q r r) hg
  have k0 := bi_mul (q.den : Int) r.den
  have k1 := bi_mul (p.den : Int) r.den
  have k2 := bi_mul (p.den : Int) q.den
  have p1 := sz_num p
  have p2 := sz_den p
  have q1 := sz_num q
  have q2 := sz_den q
  have r1 := sz_num r
  have r2 := sz_den r
  have l0 : bi (wh p q r p) ≤ n := by unfold wh; rw [scl_p]; have := bi_mul p.num (q.den * r.den); omega
  have l1 : bi (wh p q r q) ≤ n := by unfold wh; rw [scl_q]; have := bi_mul q.num (p.den * r.den); omega
  have l2 : bi (wh p q r r) ≤ n := by unfold wh; rw [scl_r]; have := bi_mul r.num (p.den * q.den); omega
  unfold mk
  exact ⟨Nat.le_trans b1 l0, Nat.le_trans b2 l1, Nat.le_trans b3 l2⟩
end Z
namespace Z
def wprod (l : List Rat) : Int := l.foldl (fun s v => s * (v.den : Int)) 1
def wnum (l : List Rat) (v : Rat) : Int := v.num * (wprod l / v.den)
theorem wprod_succ {l : List Rat} {j : Nat} {v : Rat} (h : l[j]? = some v) : wprod (l.take (j + 1)) = wprod (l.take j) * (v.den : Int) := by
  unfold wprod
  rw [List.take_succ, h, List.foldl_append]
  rfl
theorem wprod_bi {l : List Rat} (hz : ∀ v ∈ l, sz v ≤ 8000) : ∀ j, j ≤ l.length → bi (wprod (l.take j)) ≤ 8000 * j + 1
  | 0, _ => by rw [List.take_zero]; exact bi_le (by decide) (by decide)
  | j + 1, h => by
    obtain ⟨v, hx⟩ : ∃ v, l[j]? = some v := ⟨_, List.getElem?_eq_getElem h⟩
    rw [wprod_succ hx]
    have a := wprod_bi hz j (Nat.le_of_succ_le h)
    have b := bi_mul (wprod (l.take j)) v.den
    have c := sz_den v
    have d := hz v (List.mem_of_getElem? hx)
    omega
theorem c_whole (k : Nat) (l : List Rat) (hl : l.length ≤ 10) (hz : ∀ v ∈ l, sz v ≤ 8000) : Ret (callK tab.fns (k + 1)) i_whole_numbers [(.lst (l.map fr), .frz)] (.lst (l.map fun v => .int (wnum l v))) true := by
  apply v_fn fn_whole_numbers rfl
  walk_at "go"
  apply w_for (fun j env => ∃ s2, env = [some (.lst (l.map fr), .frz), some (.int (wprod (l.take j)), .frz), s2, none, none, none] ∧ isLck s2 = false) (x_overf rfl rfl)
  · exact ⟨none, rfl, rfl⟩
  · rintro j d env hd ⟨s2, rfl, h2⟩
    obtain ⟨v, hx, rfl⟩ := map_get hd
    have hjl : j < l.length := lt_of_get hx
    have b1 := wprod_bi hz j (Nat.le_of_lt hjl)
    have b2 : bi (v.den : Int) ≤ 8000 := by have := sz_den v; have := hz v (List.mem_of_getElem? hx); omega
    have q1 : prB .ix [fr v, .int 1] = some (.int v.den, false) := q_ixt at_ix1
    have q3 : prB .mul [.int (wprod (l.take j)), .int v.den] = some (.int (wprod (l.take j) * (v.den : Int)), false) := q_mul (CMulZ.bb b1 b2 (by omega))
    apply w_turn (x_setf rfl h2 rfl rfl)
    simp only [List.set_cons_zero, List.set_cons_succ]
    walk_at "go"
    exact w_nil ⟨some (fr v, .frz), by rw [wprod_succ hx], k_f⟩
  · rintro env ⟨s2, rfl, h2⟩
    rw [List.length_map, List.take_length]
    have b1 := wprod_bi hz l.length (Nat.le_refl _)
    rw [List.take_length] at b1
    refine w_ret (comp_pure l fr (fun v => some (.int (wnum l v))) (x_overf rfl rfl) rfl rfl (szp _ (by omega)) rfl rfl ?_) ⟨?_, rfl⟩
    · intro v hv
      have b2 : bi (v.den : Int) ≤ 8000 ∧ bi v.num ≤ 8000 := by have := sz_den v; have := sz_num v; have := hz v hv; omega
      have b3 := bi_ediv (a := wprod l) (den_pos v)
      have q2 : prB .fdiv [.int (wprod l), .int v.den] = some (.int (wprod l / v.den), false) := q_fdivb (den_pos v) b2.1
      have q3 : prB .mul [.int v.num, .int (wprod l / v.den)] = some (.int (wnum l v), false) := q_mul (CMulZ.bb b2.2 (Nat.le_trans b3 b1) (by omega))
      exact ⟨_, rfl, .inl ⟨_, _, _, _, ts_nil, x_op (x_as (x_at rfl) (x_as (x_val (x_op (x_as (x_at rfl) (x_as (x_at rfl) x_as0)) (x_filla rfl (x_filla rfl x_fill0)) q2)) x_as0)) (x_filla rfl (x_fillv x_fill0)) q3, rfl, rfl⟩⟩
    · rw [List.filterMap_eq_map']
end Z
namespace Z
theorem c_make (k : Nat) (p q r : Rat) (h : p ≠ 0 ∨ q ≠ 0) (hz : sz p + sz q + sz r ≤ 8000) : Ret (callK tab.fns (k + 2)) i_make_half_plane [(fr p, .frz), (fr q, .frz), (fr r, .frz)] (hd (mk p q r)) false := by
  have b1 : bi (p.den : Int) ≤ 8000 := by have := sz_den p; omega
  have b2 : bi (q.den : Int) ≤ 8000 := by have := sz_den q; omega
  have b3 : bi (r.den : Int) ≤ 8000 := by have := sz_den r; omega
  have b4 : bi p.num ≤ 8000 := by have := sz_num p; omega
  have b5 : bi q.num ≤ 8000 := by have := sz_num q; omega
  have b6 : bi r.num ≤ 8000 := by have := sz_num r; omega
  have kw : Ret (callK tab.fns (k + 1)) i_whole_numbers [(.lst [fr p, fr q, fr r], .frz)] (.lst [.int (wh p q r p), .int (wh p q r q), .int (wh p q r r)]) true := by
    have h := c_whole k [p, q, r] (show (3 : Nat) ≤ 10 by decide) (by
      intro v hv
      simp only [List.mem_cons, List.not_mem_nil, or_false] at hv
      rcases hv with rfl | rfl | rfl <;> omega)
    simp only [List.map_cons, List.map_nil, wnum, wprod, List.foldl_cons, List.foldl_nil, Int.one_mul] at h
    exact h
  have hg := wh_ne (r := r) h
  obtain ⟨d1, d2⟩ := gz_dvd (gz (wh p q r p) (wh p q r q)) (wh p q r r)
  have hb : bi (gz (gz (wh p q r p) (wh p q r q)) (wh p q r r)) ≤ 8000 := by
    have hzz := z_mk (r := r) h hz
    have p1 := sz_num p
    have p2 := sz_den p
    have q1 := sz_num q
    have q2 := sz_den q
    have r2 := sz_den r
    have k0 := bi_mul (q.den : Int) r.den
    have k1 := bi_mul (p.den : Int) r.den
    have l0 : bi (wh p q r p) ≤ 8000 := by unfold wh; rw [scl_p]; have := bi_mul p.num (q.den * r.den); omega
    have l1 : bi (wh p q r q) ≤ 8000 := by unfold wh; rw [scl_q]; have := bi_mul q.num (p.den * r.den); omega
    obtain ⟨d3, d4⟩ := gz_dvd (wh p q r p) (wh p q r q)
    have lee : ∀ {a b : Int}, a ∣ b → b ≠ 0 → bi a ≤ bi b := fun {a b} hd hb => bl_mono (Nat.le_of_dvd (Int.natAbs_pos.mpr hb) (Int.natAbs_dvd_natAbs.mpr hd))
    rcases h with h | h
    · have : wh p q r p ≠ 0 := by unfold wh; rw [scl_p]; exact Int.mul_ne_zero (num_ne h) (Int.mul_ne_zero (den_ne q) (den_ne r))
      exact Nat.le_trans (lee (Int.dvd_trans d1 d3) this) l0
    · have : wh p q r q ≠ 0 := by unfold wh; rw [scl_q]; exact Int.mul_ne_zero (num_ne h) (Int.mul_ne_zero (den_ne p) (den_ne r))
      exact Nat.le_trans (lee (Int.dvd_trans d1 d4) this) l1
  have qf : ∀ v, prB .fdiv [.int v, .int (gz (gz (wh p q r p) (wh p q r q)) (wh p q r r))] = some (.int (v / gz (gz (wh p q r p) (wh p q r q)) (wh p q r r)), false) := fun v => q_fdivb hg hb
  have qf0 := qf (wh p q r p)
  have qf1 := qf (wh p q r q)
  have qf2 := qf (wh p q r r)
  have x0 : ∀ {a b c : D}, prB .ix [.lst [a, b, c], .int 0] = some (a, false) := q_ixl at_ix0
  have x0 := @x0 (.int (wh p q r p)) (.int (wh p q r q)) (.int (wh p q r r))
  have x1 : prB .ix [.lst [.int (wh p q r p), .int (wh p q r q), .int (wh p q r r)], .int 1] = some (.int (wh p q r q), false) := q_ixl at_ix1
  have x2 : prB .ix [.lst [.int (wh p q r p), .int (wh p q r q), .int (wh p q r r)], .int 2] = some (.int (wh p q r r), false) := q_ixl at_ix2
  have cg := fun a b => c_gcd k a b
  have cg1 := cg (wh p q r p) (wh p q r q)
  have cg2 := cg (gz (wh p q r p) (wh p q r q)) (wh p q r r)
  clear cg qf
  by_cases hp : p = 0
  · have hq : q ≠ 0 := h.resolve_left (fun z => z hp)
    apply v_fn fn_make_half_plane rfl
    walk_at "go"
    exact ⟨rfl, rfl⟩
  · apply v_fn fn_make_half_plane rfl
    walk_at "go"
    exact ⟨rfl, rfl⟩
end Z
end
section
local macro_rules | `(tactic| kt_at_notin) => `(tactic| exact c_gcd _ _ _)
local macro_rules | `(tactic| kt_at_notin) => `(tactic| exact c_absolute _ _)
local macro_rules | `(tactic| kt_at_notin) => `(tactic| exact c_negative _ _)
local macro_rules | `(tactic| kt_at_notin) => `(tactic| (apply c_divide; assumption; kaf_pre))
local macro_rules | `(tactic| kt_at_notin) => `(tactic| (apply c_sign; ktr_units))
local macro_rules | `(tactic| kt_at_notin) => `(tactic| (apply c_is_at_most; kaf_pre))
local macro_rules | `(tactic| kt_at_notin) => `(tactic| (apply c_is_less; kaf_pre))
local macro_rules | `(tactic| kt_at_notin) => `(tactic| (apply c_compare; kaf_pre))
local macro_rules | `(tactic| kt_at_notin) => `(tactic| (apply c_subtract; kaf_pre))
local macro_rules | `(tactic| kt_at_notin) => `(tactic| (apply c_multiply; kaf_pre))
local macro_rules | `(tactic| kt_at_notin) => `(tactic| (apply c_add; kaf_pre))
local macro_rules | `(tactic| kt_at_notin) => `(tactic| exact c_draw _ _ _ _ (by decide))
local macro_rules | `(tactic| kt_at_notin) => `(tactic| exact c_divisor _ _ _ (by assumption))
local macro_rules | `(tactic| kt_at_notin) => `(tactic| (apply c_lfr; assumption; kt_at_in))
local macro_rules | `(tactic| kt_at_notin) => `(tactic| (apply c_less; kaf_pre))
local macro_rules | `(tactic| kt_at_notin) => `(tactic| (apply c_lmul; kaf_pre))
local macro_rules | `(tactic| kt_at_notin) => `(tactic| (apply c_lsub; kaf_pre))
local macro_rules | `(tactic| kt_at_notin) => `(tactic| (apply c_ladd; kaf_pre))
local macro_rules | `(tactic| kt_at_notin) => `(tactic| exact c_gcd _ _ _)
local macro_rules | `(tactic| kt_at_notin) => `(tactic| exact c_absolute _ _)
local macro_rules | `(tactic| kt_at_notin) => `(tactic| exact c_negative _ _)
local macro_rules | `(tactic| kt_at_notin) => `(tactic| (apply c_divide; assumption; kaf_pre))
local macro_rules | `(tactic| kt_at_notin) => `(tactic| (apply c_sign; ktr_units))
local macro_rules | `(tactic| kt_at_notin) => `(tactic| (apply c_is_at_most; kaf_pre))
local macro_rules | `(tactic| kt_at_notin) => `(tactic| (apply c_is_less; kaf_pre))
local macro_rules | `(tactic| kt_at_notin) => `(tactic| (apply c_compare; kaf_pre))
local macro_rules | `(tactic| kt_at_notin) => `(tactic| (apply c_subtract; kaf_pre))
local macro_rules | `(tactic| kt_at_notin) => `(tactic| (apply c_multiply; kaf_pre))
local macro_rules | `(tactic| kt_at_notin) => `(tactic| (apply c_add; kaf_pre))
local macro_rules | `(tactic| kt_at_notin) => `(tactic| exact c_draw _ _ _ _ (by decide))
local macro_rules | `(tactic| kt_at_notin) => `(tactic| exact c_divisor _ _ _ (by assumption))
local macro_rules | `(tactic| kt_at_notin) => `(tactic| (apply c_lfr; assumption; kt_at_in))
local macro_rules | `(tactic| kt_at_notin) => `(tactic| (apply c_less; kaf_pre))
local macro_rules | `(tactic| kt_at_notin) => `(tactic| (apply c_lmul; kaf_pre))
local macro_rules | `(tactic| kt_at_notin) => `(tactic| (apply c_lsub; kaf_pre))
local macro_rules | `(tactic| kt_at_notin) => `(tactic| (apply c_ladd; kaf_pre))
local macro_rules | `(tactic| kfm_turns) => `(tactic| (focus (decide +kernel)))
local macro_rules | `(tactic| kat_tups) => `(tactic| (apply q_nes <;> (focus (decide +kernel))))
local macro_rules | `(tactic| kat_tups) => `(tactic| (apply q_eqs <;> (focus (decide +kernel))))
local macro_rules | `(tactic| kt_at_notin) => `(tactic| (apply c_is_fr; ktr_units))
namespace Z
def RetX (C : Cl) (f : Nat) (as : List (D × Mo)) (x : Ex) : Prop := ∃ outs, C f as = .ex x outs
section
variable {C : Cl} {pin : Nat → Bool} {env e1 : En} {d : D} {fr : Bool} {i f : Nat} {body ss : List IS} {hs : List (Option D)} {x : Ex} {as : List IA} {l : List PV} {l' : List (D × Mo)}
theorem w_trOk {p : Po} (h : evSs C pin body env = .ok (.rt d fr) e1) (h2 : p.R d fr e1) : Wp p (evSs C pin (.tr i body hs :: ss) env) := by
  have : evS C pin (.tr i body hs) env = .ok (.rt d fr) e1 := by simp only [evS, h]
  refine ⟨?_⟩
  simp only [evSs, this, Out.bind_ok]
  exact h2
theorem w_trEx {p : Po} (h : evSs C pin body env = .ex x e1) (hd : hs.getD x.cls none = some d) (hi : e1[i]? = some none) (ha : x.args = []) (h2 : p.R d false e1) : Wp p (evSs C pin (.tr i body hs :: ss) env) := by
  have : evS C pin (.tr i body hs) env = .ok (.rt d false) e1 := by simp only [evS, h, hd, hi, ha]
  refine ⟨?_⟩
  simp only [evSs, this, Out.bind_ok]
  exact h2
theorem x_retX (h : evAs C as env = .ok l e1) (h1 : ownIx e1 l = []) (h2 : argv e1 l = some l') (h3 : RetX C f l' x) : evSs C pin (.ret (.call f as) :: ss) env = .ex x e1 := by
  obtain ⟨outs, h3⟩ := h3
  simp only [evSs, evS, evE, h, Out.bind_ok, doCall, h1, h2, h3, List.nodup_nil, if_true, Out.bind_ex]
  rw [wb_no (os := outs) h1]
theorem x_ret1 (h : evAs C as env = .ok l e1) (h1 : ownIx e1 l = []) (h2 : argv e1 l = some l') (h3 : Ret C f l' d fr) : evSs C pin (.ret (.call f as) :: ss) env = .ok (.rt d fr) e1 := by
  refine x_stop ?_
  have := x_call (C := C) h (y_do0 h1 h2 h3)
  simp only [evS, this, Out.bind_ok]
theorem v_fnX {T : Nat → Option Fn} {k np n : Nat} {bd : List IS} {as : List (D × Mo)} (h : T f = some ⟨np, [], n, bd⟩) (hl : as.length = np) (he : mkEnv as (n - np) = env) (h1 : evSs (callK T k) (pinOf as) bd env = .ex x e1) : RetX (callK T (k + 1)) f as x := by
  have hE : as.map some ++ List.replicate (n - np) none = env := by rw [← mkEnv_eq]; exact he
  exact ⟨_, by rw [callK_un h withDv0 hl, hE, h1]; rfl⟩
theorem x_ifeX {c : IT} {sa sb : List IS} {n : Nat} (h : evT C c env = .ok true e1) : evSs C pin (.ife c (.rz n :: sa) sb :: ss) env = .ex ⟨n, []⟩ e1 := by
  simp only [evSs, evS, h, Out.bind_ok, if_true, Out.bind_ex]
end
theorem c_makeX (k : Nat) (r : Rat) : RetX (callK tab.fns (k + 1)) i_make_half_plane [(fr 0, .frz), (fr 0, .frz), (fr r, .frz)] ⟨0, []⟩ := by
  have q : prB .eq [fr 0, .tup [.int 0, .int 1]] = some (.bl true, false) := by
    have := q_eqf (p := 0) (q := 0)
    rw [decide_eq_true rfl] at this
    exact this
  refine v_fnX fn_make_half_plane rfl rfl (x_ifeX (x_And (x_T (x_val (x_op (x_as (x_at rfl) (x_as (x_val x_cst) x_as0)) (x_filla rfl (x_fillv x_fill0)) q)) x_f1v rfl) (andT_b (x_T (x_val (x_op (x_as (x_at rfl) (x_as (x_val x_cst) x_as0)) (x_filla rfl (x_fillv x_fill0)) q)) x_f1v rfl))))
theorem c_made0 (k : Nat) (r : Rat) : Ret (callK tab.fns (k + 2)) i__law_made [(fr 0, .frz), (fr 0, .frz), (fr r, .frz)] .non false := by
  refine v_fn (k := k + 1) fn__law_made rfl (by simp only [mkEnv, nones, Nat.reduceSub]; exact rfl) ?_
  exact w_trEx (x_retX (x_as (x_at rfl) (x_as (x_at rfl) (x_as (x_at rfl) x_as0))) rfl rfl (c_makeX k r)) rfl rfl rfl ⟨rfl, rfl⟩
theorem c_made1 (k : Nat) (p q r : Rat) (h : p ≠ 0 ∨ q ≠ 0) (hz : sz p + sz q + sz r ≤ 8000) : Ret (callK tab.fns (k + 3)) i__law_made [(fr p, .frz), (fr q, .frz), (fr r, .frz)] (hd (mk p q r)) false := by
  refine v_fn (k := k + 2) fn__law_made rfl (by simp only [mkEnv, nones, Nat.reduceSub]; exact rfl) ?_
  exact w_trOk (x_ret1 (x_as (x_at rfl) (x_as (x_at rfl) (x_as (x_at rfl) x_as0))) rfl rfl (c_make k p q r h hz)) ⟨rfl, rfl⟩
theorem gz_self {a b c : Int} (h : 0 < gz (gz a b) c) : gz (gz (a / gz (gz a b) c) (b / gz (gz a b) c)) (c / gz (gz a b) c) = 1 := by
  obtain ⟨d1, d2⟩ := gz_dvd (gz a b) c
  obtain ⟨d3, d4⟩ := gz_dvd a b
  have e1 := Int.dvd_trans d1 d3
  have e2 := Int.dvd_trans d1 d4
  generalize hG : gz (gz a b) c = g at *
  obtain ⟨x, rfl⟩ := e1
  obtain ⟨y, rfl⟩ := e2
  obtain ⟨z, rfl⟩ := d2
  rw [Int.mul_ediv_cancel_left _ (by omega), Int.mul_ediv_cancel_left _ (by omega), Int.mul_ediv_cancel_left _ (by omega)]
  have key : ∀ u v : Int, gz (g * u) (g * v) = g * gz u v := fun u v => by
    unfold gz
    rw [Int.natAbs_mul, Int.natAbs_mul, Nat.gcd_mul_left, Int.natCast_mul]
    congr 1
    omega
  rw [key] at hG
  have : gz (g * gz x y) (g * z) = g * gz (gz x y) z := key _ _
  rw [this] at hG
  have hm : g * gz (gz x y) z = g * 1 := by rw [hG, Int.mul_one]
  exact Int.eq_of_mul_eq_mul_left (by omega) hm
end Z
end
section
local macro_rules | `(tactic| kt_at_notin) => `(tactic| exact c_gcd _ _ _)
local macro_rules | `(tactic| kt_at_notin) => `(tactic| exact c_absolute _ _)
local macro_rules | `(tactic| kt_at_notin) => `(tactic| exact c_negative _ _)
local macro_rules | `(tactic| kt_at_notin) => `(tactic| (apply c_divide; assumption; kaf_pre))
local macro_rules | `(tactic| kt_at_notin) => `(tactic| (apply c_sign; ktr_units))
local macro_rules | `(tactic| kt_at_notin) => `(tactic| (apply c_is_at_most; kaf_pre))
local macro_rules | `(tactic| kt_at_notin) => `(tactic| (apply c_is_less; kaf_pre))
local macro_rules | `(tactic| kt_at_notin) => `(tactic| (apply c_compare; kaf_pre))
local macro_rules | `(tactic| kt_at_notin) => `(tactic| (apply c_subtract; kaf_pre))
local macro_rules | `(tactic| kt_at_notin) => `(tactic| (apply c_multiply; kaf_pre))
local macro_rules | `(tactic| kt_at_notin) => `(tactic| (apply c_add; kaf_pre))
local macro_rules | `(tactic| kt_at_notin) => `(tactic| exact c_draw _ _ _ _ (by decide))
local macro_rules | `(tactic| kt_at_notin) => `(tactic| exact c_divisor _ _ _ (by assumption))
local macro_rules | `(tactic| kt_at_notin) => `(tactic| (apply c_lfr; assumption; kt_at_in))
local macro_rules | `(tactic| kt_at_notin) => `(tactic| (apply c_less; kaf_pre))
local macro_rules | `(tactic| kt_at_notin) => `(tactic| (apply c_lmul; kaf_pre))
local macro_rules | `(tactic| kt_at_notin) => `(tactic| (apply c_lsub; kaf_pre))
local macro_rules | `(tactic| kt_at_notin) => `(tactic| (apply c_ladd; kaf_pre))
local macro_rules | `(tactic| kt_at_notin) => `(tactic| exact c_gcd _ _ _)
local macro_rules | `(tactic| kt_at_notin) => `(tactic| exact c_absolute _ _)
local macro_rules | `(tactic| kt_at_notin) => `(tactic| exact c_negative _ _)
local macro_rules | `(tactic| kt_at_notin) => `(tactic| (apply c_divide; assumption; kaf_pre))
local macro_rules | `(tactic| kt_at_notin) => `(tactic| (apply c_sign; ktr_units))
local macro_rules | `(tactic| kt_at_notin) => `(tactic| (apply c_is_at_most; kaf_pre))
local macro_rules | `(tactic| kt_at_notin) => `(tactic| (apply c_is_less; kaf_pre))
local macro_rules | `(tactic| kt_at_notin) => `(tactic| (apply c_compare; kaf_pre))
local macro_rules | `(tactic| kt_at_notin) => `(tactic| (apply c_subtract; kaf_pre))
local macro_rules | `(tactic| kt_at_notin) => `(tactic| (apply c_multiply; kaf_pre))
local macro_rules | `(tactic| kt_at_notin) => `(tactic| (apply c_add; kaf_pre))
local macro_rules | `(tactic| kt_at_notin) => `(tactic| exact c_draw _ _ _ _ (by decide))
local macro_rules | `(tactic| kt_at_notin) => `(tactic| exact c_divisor _ _ _ (by assumption))
local macro_rules | `(tactic| kt_at_notin) => `(tactic| (apply c_lfr; assumption; kt_at_in))
local macro_rules | `(tactic| kt_at_notin) => `(tactic| (apply c_less; kaf_pre))
local macro_rules | `(tactic| kt_at_notin) => `(tactic| (apply c_lmul; kaf_pre))
local macro_rules | `(tactic| kt_at_notin) => `(tactic| (apply c_lsub; kaf_pre))
local macro_rules | `(tactic| kt_at_notin) => `(tactic| (apply c_ladd; kaf_pre))
local macro_rules | `(tactic| kfm_turns) => `(tactic| (focus (decide +kernel)))
local macro_rules | `(tactic| kat_tups) => `(tactic| (apply q_nes <;> (focus (decide +kernel))))
local macro_rules | `(tactic| kat_tups) => `(tactic| (apply q_eqs <;> (focus (decide +kernel))))
local macro_rules | `(tactic| kt_at_notin) => `(tactic| (apply c_is_fr; ktr_units))
namespace Z
theorem run_law (ns : List Int) (h : ns.length ≤ 63) : ∃ fr outs, fullK tab.fns 60 F_law [(.rol (ns.map D.int), .frz)] = .ok (.bl true) fr outs := by
  obtain ⟨ds, hds⟩ : ∃ ds, Ret (callK tab.fns 59) i__law_digits [(.rol (ns.map D.int), .frz), (.int 0, .frz), (.int 63, .frz)] (.lst (iz ds)) true := c_digits 57 ns
  refine law_of (f := i_law) ?_ fn_law rfl
  apply v_fn (k := 59) fn_law rfl
  walk_at "go"
  apply w_range (fun j env => ∃ (a : Nat) (s2 s3 s4 s5 s6 s7 s8 s9 s10 : Sl), env = [some (.rol (ns.map D.int), .frz), some (bx ds a, .own), s2, s3, s4, s5, s6, s7, s8, s9, s10] ∧ isLck s2 = false ∧ isLck s3 = false ∧ isLck s4 = false ∧ isLck s5 = false ∧ isLck s6 = false ∧ isLck s7 = false ∧ isLck s8 = false ∧ isLck s9 = false ∧ isLck s10 = false)
  walk_at "go"
  walk_at "go"
  decide
  · exact ⟨0, none, none, none, none, none, none, none, none, none, rfl, rfl, rfl, rfl, rfl, rfl, rfl, rfl, rfl, rfl⟩
  · rintro j' env hj ⟨a, s2, s3, s4, s5, s6, s7, s8, s9, s10, rfl, h2, h3, h4, h5, h6, h7, h8, h9, h10⟩
    refine ⟨_, x_setf rfl h2 rfl rfl, ?_⟩
    simp only [List.set_cons_zero, List.set_cons_succ]
    obtain ⟨p, hp, r1⟩ : ∃ q : Rat, sz q ≤ 3 ∧ RetB (callK tab.fns 59) i__law_some (bx ds a) [] (fr q) false (bx ds (a + 1 + 1)) := c_some 56 ds a
    obtain ⟨q, hq, r2⟩ : ∃ q : Rat, sz q ≤ 3 ∧ RetB (callK tab.fns 59) i__law_some (bx ds (a + 1 + 1)) [] (fr q) false (bx ds (a + 1 + 1 + 1 + 1)) := c_some 56 ds (a + 1 + 1)
    obtain ⟨r, hr, r3⟩ : ∃ q : Rat, sz q ≤ 3 ∧ RetB (callK tab.fns 59) i__law_some (bx ds (a + 1 + 1 + 1 + 1)) [] (fr q) false (bx ds (a + 1 + 1 + 1 + 1 + 1 + 1)) := c_some 56 ds (a + 1 + 1 + 1 + 1)
    by_cases h0 : p = 0 ∧ q = 0
    · obtain ⟨rfl, rfl⟩ := h0
      have t1 : (0 : Rat).num = 0 := rfl
      have km : Ret (callK tab.fns 59) i__law_made [(fr 0, .frz), (fr 0, .frz), (fr r, .frz)] .non false := c_made0 57 r
      walk_at "go"
      apply w_cont
      exact ⟨_, _, _, _, _, _, _, _, _, _, rfl, k_f, k_f, k_f, k_f, k_f, h7, h8, h9, h10⟩
    · have hpq : p ≠ 0 ∨ q ≠ 0 := by
        by_cases hp0 : p = 0
        · exact .inr fun z => h0 ⟨hp0, z⟩
        · exact .inl hp0
      have km : Ret (callK tab.fns 59) i__law_made [(fr p, .frz), (fr q, .frz), (fr r, .frz)] (hd (mk p q r)) false := c_made1 56 p q r hpq (by omega)
      have hz := z_mk (r := r) (n := 9) hpq (by omega)
      have hin := mk_in (r := r) hpq
      have hg := wh_ne (r := r) hpq
      have g1 : gz (gz (mk p q r).p (mk p q r).q) (mk p q r).r = 1 := gz_self hg
      generalize mk p q r = m at *
      obtain ⟨z1, z2, z3⟩ := id hz
      have hzl : m.z 8000 := hz.mono (by decide)
      have bz : bi (gz m.p m.q) ≤ 199 := by
        by_cases hc : m.p = 0 ∧ m.q = 0
        · rw [hc.1, hc.2]; decide
        · by_cases hq0 : m.q = 0
          · rw [hq0]
            have : gz m.p 0 = (m.p.natAbs : Int) := by unfold gz; simp
            rw [this]
            show bl (Int.natAbs (m.p.natAbs : Int)) ≤ 199
            have e : Int.natAbs (m.p.natAbs : Int) = m.p.natAbs := Int.natAbs_natCast _
            rw [e]
            exact Nat.le_trans z1 (by decide)
          · exact Nat.le_trans (bi_gz hq0) (by omega)
      have kd1 : Ret (callK tab.fns 59) i__law_divisor [(.int m.p, .frz), (.int m.q, .frz)] (.int (gz m.p m.q)) false := c_divisor 58 _ _ (by omega)
      have kd2 : Ret (callK tab.fns 59) i__law_divisor [(.int (gz m.p m.q), .frz), (.int m.r, .frz)] (.int 1) false := by
        have := c_divisor 58 (gz m.p m.q) m.r (by omega)
        rw [g1] at this
        exact this
      have nz : ¬ (p.num = 0 ∧ q.num = 0) := fun z => h0 ⟨num_zero.mp z.1, num_zero.mp z.2⟩
      have qi : prB (.isi .tuple) [D.tup [.int m.p, .int m.q, .int m.r]] = some (.bl true, false) := rfl
      have ql : prB .len [D.tup [.int m.p, .int m.q, .int m.r]] = some (.int 3, false) := rfl
      have body : ∀ (b : Nat) (s7 s8 s9 s10 : Sl), isLck s7 = false → isLck s8 = false → isLck s9 = false → isLck s10 = false → True := fun _ _ _ _ _ _ _ _ _ => trivial
      clear body
      have ring : ∀ (x : Ry), sz x.1 ≤ 3 → sz x.2 ≤ 3 → Ret (callK tab.fns 59) i__law_mul [(fr p, .frz), (fr x.1, .frz)] (fr (p * x.1)) false ∧ Ret (callK tab.fns 59) i__law_mul [(fr q, .frz), (fr x.2, .frz)] (fr (q * x.2)) false ∧ Ret (callK tab.fns 59) i__law_add [(fr (p * x.1), .frz), (fr (q * x.2), .frz)] (fr (p * x.1 + q * x.2)) false
          ∧ Ret (callK tab.fns 59) i__law_less [(fr r, .frz), (fr (p * x.1 + q * x.2), .frz)] (.bl (decide (r < p * x.1 + q * x.2))) false ∧ Ret (callK tab.fns 59) i_contains_ray [(.lst [.tup [.int m.p, .int m.q, .int m.r]], .frz), (rd x, .frz)] (.bl (!decide (r < p * x.1 + q * x.2))) false
          ∧ Ret (callK tab.fns 59) i__law_mul [(.tup [.int m.p, .int 1], .frz), (fr x.1, .frz)] (fr ((m.p : Rat) * x.1)) false ∧ Ret (callK tab.fns 59) i__law_mul [(.tup [.int m.q, .int 1], .frz), (fr x.2, .frz)] (fr ((m.q : Rat) * x.2)) false
          ∧ Ret (callK tab.fns 59) i__law_add [(fr ((m.p : Rat) * x.1), .frz), (fr ((m.q : Rat) * x.2), .frz)] (fr (vl m x)) false ∧ Ret (callK tab.fns 59) i_value_at [(.tup [.int m.p, .int m.q, .int m.r], .frz), (rd x, .frz)] (fr (vl m x)) false := fun x hx hy => by
        have e1 := ss_mul hp hx
        have e2 := ss_mul hq hy
        have e3 := ss_add e1 e2
        have f1 := ss_mul (sz_castb z1) hx
        have f2 := ss_mul (sz_castb z2) hy
        have fi : ∀ n : Int, D.tup [.int n, .int 1] = fr (n : Rat) := fun n => by unfold fr; rw [Rat.num_intCast, Rat.den_intCast]; rfl
        have c1 := sz_castb z1
        have c2 := sz_castb z2
        refine ⟨c_lmul 56 _ _ (by omega), c_lmul 56 _ _ (by omega), c_ladd 56 _ _ (by omega), c_less 58 _ _ (by omega), ?_, ?_, ?_, c_ladd 56 _ _ (by omega), c_value 56 m x hzl (by omega)⟩
        · have := c_contains 55 [m] x (fun h hh => by rw [List.mem_singleton] at hh; subst hh; exact hz.mono (by decide)) (by omega) (by omega)
          have e : ([m].all (inH · x)) = !decide (r < p * x.1 + q * x.2) := by
            rw [List.all_cons, List.all_nil, Bool.and_true, hin]
            by_cases c : p * x.1 + q * x.2 ≤ r
            · rw [decide_eq_true c, decide_eq_false (Rat.not_lt.mpr c)]; rfl
            · rw [decide_eq_false c, decide_eq_true (Rat.not_le.mp c)]; rfl
          rw [e] at this
          exact this
        · rw [fi]; exact c_lmul 56 _ _ (by omega)
        · rw [fi]; exact c_lmul 56 _ _ (by omega)
      clear hin hg g1 hz hzl bz z1 z2 z3 h0 hpq
      simp only [hd] at km
      by_cases hp0 : p.num = 0
      · have hq0 : ¬ q.num = 0 := fun z => nz ⟨hp0, z⟩
        walk_at "go"
        apply w_range (fun j env => ∃ (b : Nat) (s7 s8 s9 s10 : Sl), env = [some (.rol (ns.map D.int), .frz), some (bx ds b, .own), some (.int (0 + (j' : Int)), .frz), some (fr p, .frz), some (fr q, .frz), some (fr r, .frz), some (.tup [.int m.p, .int m.q, .int m.r], .frz), s7, s8, s9, s10] ∧ isLck s7 = false ∧ isLck s8 = false ∧ isLck s9 = false ∧ isLck s10 = false)
        walk_at "go"
        walk_at "go"
        decide
        · exact ⟨_, _, _, _, _, rfl, h7, h8, h9, h10⟩
        · rintro t env ht ⟨b, s7, s8, s9, s10, rfl, h7, h8, h9, h10⟩
          refine ⟨_, x_setf rfl h7 rfl rfl, ?_⟩
          simp only [List.set_cons_zero, List.set_cons_succ]
          obtain ⟨x, _, hx, hy, w⟩ : ∃ r : Ry, SR 8 r ∧ sz r.1 ≤ 3 ∧ sz r.2 ≤ 3 ∧ RetB (callK tab.fns 59) i__law_ray (bx ds b) [] (rd r) false (bx ds (b + 1 + 1 + 1 + 1)) := c_lray 55 ds b
          obtain ⟨e1, e2, e3, e4, e5, e6, e7, e8, e9⟩ := ring x hx hy
          clear ring
          have qb : (!((!decide (r < p * x.1 + q * x.2)) == !decide (r < p * x.1 + q * x.2))) = false := by cases decide (r < p * x.1 + q * x.2) <;> rfl
          have qv : prB .ne [fr (vl m x), fr (vl m x)] = some (.bl false, false) := q_ned (n := 1) (dk_fr _) (by decide)
          generalize decide (r < p * x.1 + q * x.2) = bb at *
          generalize vl m x = vv at *
          generalize p * x.1 + q * x.2 = w1 at *
          generalize (m.p : Rat) * x.1 = w2 at *
          generalize (m.q : Rat) * x.2 = w3 at *
          generalize p * x.1 = w4 at *
          generalize q * x.2 = w5 at *
          simp only [rd] at *
          walk_at "go"
          exact w_nil ⟨_, _, _, _, _, rfl, k_f, k_f, k_f, k_f⟩
        · rintro env ⟨b, s7, s8, s9, s10, rfl, h7, h8, h9, h10⟩
          exact w_nil ⟨_, _, _, _, _, _, _, _, _, _, rfl, k_f, k_f, k_f, k_f, k_f, h7, h8, h9, h10⟩
      · walk_at "go"
        apply w_range (fun j env => ∃ (b : Nat) (s7 s8 s9 s10 : Sl), env = [some (.rol (ns.map D.int), .frz), some (bx ds b, .own), some (.int (0 + (j' : Int)), .frz), some (fr p, .frz), some (fr q, .frz), some (fr r, .frz), some (.tup [.int m.p, .int m.q, .int m.r], .frz), s7, s8, s9, s10] ∧ isLck s7 = false ∧ isLck s8 = false ∧ isLck s9 = false ∧ isLck s10 = false)
        walk_at "go"
        walk_at "go"
        decide
        · exact ⟨_, _, _, _, _, rfl, h7, h8, h9, h10⟩
        · rintro t env ht ⟨b, s7, s8, s9, s10, rfl, h7, h8, h9, h10⟩
          refine ⟨_, x_setf rfl h7 rfl rfl, ?_⟩
          simp only [List.set_cons_zero, List.set_cons_succ]
          obtain ⟨x, _, hx, hy, w⟩ : ∃ r : Ry, SR 8 r ∧ sz r.1 ≤ 3 ∧ sz r.2 ≤ 3 ∧ RetB (callK tab.fns 59) i__law_ray (bx ds b) [] (rd r) false (bx ds (b + 1 + 1 + 1 + 1)) := c_lray 55 ds b
          obtain ⟨e1, e2, e3, e4, e5, e6, e7, e8, e9⟩ := ring x hx hy
          clear ring
          have qb : (!((!decide (r < p * x.1 + q * x.2)) == !decide (r < p * x.1 + q * x.2))) = false := by cases decide (r < p * x.1 + q * x.2) <;> rfl
          have qv : prB .ne [fr (vl m x), fr (vl m x)] = some (.bl false, false) := q_ned (n := 1) (dk_fr _) (by decide)
          generalize decide (r < p * x.1 + q * x.2) = bb at *
          generalize vl m x = vv at *
          generalize p * x.1 + q * x.2 = w1 at *
          generalize (m.p : Rat) * x.1 = w2 at *
          generalize (m.q : Rat) * x.2 = w3 at *
          generalize p * x.1 = w4 at *
          generalize q * x.2 = w5 at *
          simp only [rd] at *
          walk_at "go"
          exact w_nil ⟨_, _, _, _, _, rfl, k_f, k_f, k_f, k_f⟩
        · rintro env ⟨b, s7, s8, s9, s10, rfl, h7, h8, h9, h10⟩
          exact w_nil ⟨_, _, _, _, _, _, _, _, _, _, rfl, k_f, k_f, k_f, k_f, k_f, h7, h8, h9, h10⟩
  · rintro env ⟨a, s2, s3, s4, s5, s6, s7, s8, s9, s10, rfl, h2, h3, h4, h5, h6, h7, h8, h9, h10⟩
    obtain ⟨x, _, hx, hy, w⟩ : ∃ r : Ry, SR 8 r ∧ sz r.1 ≤ 3 ∧ sz r.2 ≤ 3 ∧ RetB (callK tab.fns 59) i__law_ray (bx ds a) [] (rd r) false (bx ds (a + 1 + 1 + 1 + 1)) := c_lray 55 ds a
    have kc : Ret (callK tab.fns 59) i_contains_ray [(.lst [], .frz), (rd x, .frz)] (.bl true) false := c_contains 55 [] x (fun h hh => (nomatch hh)) (by omega) (by omega)
    have qi : prB .isb [D.bl true, D.bl true] = some (.bl true, false) := rfl
    walk_at "go"
    exact ⟨rfl, rfl⟩
end Z
end
end
open PySem PySem.W PySem.Calls PyProof.Rows
set_option maxHeartbeats 0 in
theorem PySem.Challenge.cw_raytrain_k05_half_planes_holds : PySem.Challenge.rw_raytrain_k05_half_planes.Holds := by
  w_on; o_law
  refine HandSHeadRun.head_imp (r := OpenLaw.row PySem.Challenge.rw_raytrain_k05_half_planes) (q := view (OpenLaw.row PySem.Challenge.rw_raytrain_k05_half_planes).prog [0, 36]) (H := ZE.hk) (ob := ZE.ob) (M := 4000) (loose := ZE.loose) (d := HandSHeadRun.topDef (OpenLaw.row PySem.Challenge.rw_raytrain_k05_half_planes).prog 36) (kwd := []) ZE.ob_eq
    ZE.run (by kernel_rfl) (by kernel_rfl) (by kernel_rfl) (by rfl) (by first | assumption | decide +kernel) (by decide +kernel) ⟨rfl, rfl, rfl, rfl, rfl, by decide +kernel⟩ ?hw ?hc
  case hw => w_witness2
  case hc =>
    refine Z.walk_GE (l := PySem.Challenge.rw_raytrain_k05_half_planes) (n := 63) (k := 60 + 2) (x := "script") (C := fun w => L2.CX PySem.Challenge.pw_raytrain_k05_half_planes w) rfl (by decide) (by kernel_rfl) ⟨rfl, by decide, by decide⟩ ?F (fun _ _ _ _ _ h => Z.CX_no h)
    intro w mg fa h Y G hmg0
    obtain ⟨K, KX, c, ch⟩ := Y
    have hmg : mg ("law" : PySem.Str) = some (.ref fa) := by
      have e : (HandSHeadRun.topDef (OpenLaw.row PySem.Challenge.rw_raytrain_k05_half_planes).prog 36).name = ("law" : PySem.Str) := by kernel_rfl
      rw [← e]
      exact hmg0
    have gz := Bool.and_eq_true_iff.mp ch
    have gx := Bool.and_eq_true_iff.mp gz.2
    have bi := Z.bimB_ok KX G gx.1
    have tp := fun q hq => Z.topB_ok KX G (x := q.1) (d := q.2) (List.all_eq_true.mp gz.1 q hq)
    have e0 : Z.EntOk Z.tab K mg ⟨"common_divisor", Z.topS 6, Z.F_common_divisor, ["first", "second"], ["first", "second"]⟩ := by
      obtain ⟨fd, F⟩ := c.def_ 0 (d := ZE.d0) rfl
      exact Z.ent_f Z.is_common_divisor (He.glo_ok KX G (c.fact 0 (f := .glo "common_divisor") rfl)) F rfl (fun _ _ _ _ _ _ us hl => match us, hl with | [_, _], _ => rfl)
    have e1 : Z.EntOk Z.tab K mg ⟨"fraction", Z.topS 7, Z.F_fraction, ["numerator", "denominator", "divisor"], ["numerator", "denominator"]⟩ := by
      obtain ⟨fd, F⟩ := c.def_ 1 (d := ZE.d1) rfl
      refine Z.ent_fD Z.is_fraction (He.glo_ok KX G (c.fact 1 (f := .glo "fraction") rfl)) [L2.V.int (1)] F (by simp) (fun M H => .cons (.int (1)) .nil) (by decide) (fun j hj T kV doc pm an cdv ct us its hu hi => ?_)
      by_cases z0 : j = 0
      · subst z0
        match us, its, hu, hi with | [_], [_], _, _ => exact ⟨_, rfl, rfl⟩
      by_cases z1 : j = 1
      · subst z1
        match us, its, hu, hi with | [_, _], [_], _, _ => exact ⟨_, rfl, rfl⟩
      exact absurd hj (by simp; omega)
    have e2 : Z.EntOk Z.tab K mg ⟨"compare", Z.topS 8, Z.F_compare, ["first", "second", "left", "right"], ["first", "second"]⟩ := by
      obtain ⟨fd, F⟩ := c.def_ 2 (d := ZE.d2) rfl
      exact Z.ent_f Z.is_compare (He.glo_ok KX G (c.fact 2 (f := .glo "compare") rfl)) F rfl (fun _ _ _ _ _ _ us hl => match us, hl with | [_, _], _ => rfl)
    have e3 : Z.EntOk Z.tab K mg ⟨"is_at_most", Z.topS 9, Z.F_is_at_most, ["first", "second"], ["first", "second"]⟩ := by
      obtain ⟨fd, F⟩ := c.def_ 3 (d := ZE.d3) rfl
      exact Z.ent_f Z.is_is_at_most (He.glo_ok KX G (c.fact 3 (f := .glo "is_at_most") rfl)) F rfl (fun _ _ _ _ _ _ us hl => match us, hl with | [_, _], _ => rfl)
    have e4 : Z.EntOk Z.tab K mg ⟨"whole_numbers", Z.topS 10, Z.F_whole_numbers, ["values", "scale", "value", ".0", "numerator", "denominator"], ["values"]⟩ := by
      obtain ⟨fd, F⟩ := c.def_ 4 (d := ZE.d4) rfl
      exact Z.ent_f Z.is_whole_numbers (He.glo_ok KX G (c.fact 4 (f := .glo "whole_numbers") rfl)) F rfl (fun _ _ _ _ _ _ us hl => match us, hl with | [_], _ => rfl)
    have e5 : Z.EntOk Z.tab K mg ⟨"make_half_plane", Z.topS 12, Z.F_make_half_plane, ["p", "q", "r", "whole", "divisor"], ["p", "q", "r"]⟩ := by
      obtain ⟨fd, F⟩ := c.def_ 5 (d := ZE.d5) rfl
      exact Z.ent_f Z.is_make_half_plane (He.glo_ok KX G (c.fact 5 (f := .glo "make_half_plane") rfl)) F rfl (fun _ _ _ _ _ _ us hl => match us, hl with | [_, _, _], _ => rfl)
    have e6 : Z.EntOk Z.tab K mg ⟨"value_at", Z.topS 13, Z.F_value_at, ["half_plane", "ray", "p", "q", "_", "height", "slope"], ["half_plane", "ray"]⟩ := by
      obtain ⟨fd, F⟩ := c.def_ 6 (d := ZE.d6) rfl
      exact Z.ent_f Z.is_value_at (He.glo_ok KX G (c.fact 6 (f := .glo "value_at") rfl)) F rfl (fun _ _ _ _ _ _ us hl => match us, hl with | [_, _], _ => rfl)
    have e7 : Z.EntOk Z.tab K mg ⟨"contains_ray", Z.topS 14, Z.F_contains_ray, ["half_planes", "ray", "half_plane"], ["half_planes", "ray"]⟩ := by
      obtain ⟨fd, F⟩ := c.def_ 7 (d := ZE.d7) rfl
      exact Z.ent_f Z.is_contains_ray (He.glo_ok KX G (c.fact 7 (f := .glo "contains_ray") rfl)) F rfl (fun _ _ _ _ _ _ us hl => match us, hl with | [_, _], _ => rfl)
    have e8 : Z.EntOk Z.tab K mg ⟨"_law_cell", Z.topS 16, Z.F__law_cell, ["script", "k"], ["script", "k"]⟩ := by
      obtain ⟨fd, F⟩ := c.def_ 8 (d := ZE.d8) rfl
      exact Z.ent_f Z.is__law_cell (He.glo_ok KX G (c.fact 8 (f := .glo "_law_cell") rfl)) F rfl (fun _ _ _ _ _ _ us hl => match us, hl with | [_, _], _ => rfl)
    have e9 : Z.EntOk Z.tab K mg ⟨"_law_digits", Z.topS 17, Z.F__law_digits, ["script", "first", "last", "digits", "k", "cell", "turn", "seed"], ["script", "first", "last"]⟩ := by
      obtain ⟨fd, F⟩ := c.def_ 9 (d := ZE.d9) rfl
      exact Z.ent_f Z.is__law_digits (He.glo_ok KX G (c.fact 9 (f := .glo "_law_digits") rfl)) F rfl (fun _ _ _ _ _ _ us hl => match us, hl with | [_, _, _], _ => rfl)
    have e10 : Z.EntOk Z.tab K mg ⟨"_law_draw", Z.topS 18, Z.F__law_draw, ["box", "many", "at"], ["box", "many"]⟩ := by
      obtain ⟨fd, F⟩ := c.def_ 10 (d := ZE.d10) rfl
      exact Z.ent_f Z.is__law_draw (He.glo_ok KX G (c.fact 10 (f := .glo "_law_draw") rfl)) F rfl (fun _ _ _ _ _ _ us hl => match us, hl with | [_, _], _ => rfl)
    have e11 : Z.EntOk Z.tab K mg ⟨"_law_divisor", Z.topS 19, Z.F__law_divisor, ["one", "other", "turn"], ["one", "other"]⟩ := by
      obtain ⟨fd, F⟩ := c.def_ 11 (d := ZE.d11) rfl
      exact Z.ent_f Z.is__law_divisor (He.glo_ok KX G (c.fact 11 (f := .glo "_law_divisor") rfl)) F rfl (fun _ _ _ _ _ _ us hl => match us, hl with | [_, _], _ => rfl)
    have e12 : Z.EntOk Z.tab K mg ⟨"_law_fr", Z.topS 20, Z.F__law_fr, ["n", "d", "g"], ["n", "d"]⟩ := by
      obtain ⟨fd, F⟩ := c.def_ 12 (d := ZE.d12) rfl
      exact Z.ent_f Z.is__law_fr (He.glo_ok KX G (c.fact 12 (f := .glo "_law_fr") rfl)) F rfl (fun _ _ _ _ _ _ us hl => match us, hl with | [_, _], _ => rfl)
    have e13 : Z.EntOk Z.tab K mg ⟨"_law_add", Z.topS 21, Z.F__law_add, ["x", "y"], ["x", "y"]⟩ := by
      obtain ⟨fd, F⟩ := c.def_ 13 (d := ZE.d13) rfl
      exact Z.ent_f Z.is__law_add (He.glo_ok KX G (c.fact 13 (f := .glo "_law_add") rfl)) F rfl (fun _ _ _ _ _ _ us hl => match us, hl with | [_, _], _ => rfl)
    have e14 : Z.EntOk Z.tab K mg ⟨"_law_mul", Z.topS 23, Z.F__law_mul, ["x", "y"], ["x", "y"]⟩ := by
      obtain ⟨fd, F⟩ := c.def_ 14 (d := ZE.d14) rfl
      exact Z.ent_f Z.is__law_mul (He.glo_ok KX G (c.fact 14 (f := .glo "_law_mul") rfl)) F rfl (fun _ _ _ _ _ _ us hl => match us, hl with | [_, _], _ => rfl)
    have e15 : Z.EntOk Z.tab K mg ⟨"_law_less", Z.topS 24, Z.F__law_less, ["x", "y"], ["x", "y"]⟩ := by
      obtain ⟨fd, F⟩ := c.def_ 15 (d := ZE.d15) rfl
      exact Z.ent_f Z.is__law_less (He.glo_ok KX G (c.fact 15 (f := .glo "_law_less") rfl)) F rfl (fun _ _ _ _ _ _ us hl => match us, hl with | [_, _], _ => rfl)
    have e16 : Z.EntOk Z.tab K mg ⟨"_law_some", Z.topS 25, Z.F__law_some, ["box"], ["box"]⟩ := by
      obtain ⟨fd, F⟩ := c.def_ 16 (d := ZE.d16) rfl
      exact Z.ent_f Z.is__law_some (He.glo_ok KX G (c.fact 16 (f := .glo "_law_some") rfl)) F rfl (fun _ _ _ _ _ _ us hl => match us, hl with | [_], _ => rfl)
    have e17 : Z.EntOk Z.tab K mg ⟨"_law_ray", Z.topS 34, Z.F__law_ray, ["box"], ["box"]⟩ := by
      obtain ⟨fd, F⟩ := c.def_ 17 (d := ZE.d17) rfl
      exact Z.ent_f Z.is__law_ray (He.glo_ok KX G (c.fact 17 (f := .glo "_law_ray") rfl)) F rfl (fun _ _ _ _ _ _ us hl => match us, hl with | [_], _ => rfl)
    have e18 : Z.EntOk Z.tab K mg ⟨"_law_made", Z.topS 35, Z.F__law_made, ["p", "q", "r", "e"], ["p", "q", "r"]⟩ := by
      obtain ⟨fd, F⟩ := c.def_ 18 (d := ZE.d18) rfl
      exact Z.ent_f Z.is__law_made (He.glo_ok KX G (c.fact 18 (f := .glo "_law_made") rfl)) F rfl (fun _ _ _ _ _ _ us hl => match us, hl with | [_, _, _], _ => rfl)
    have e19 : Z.EntOk Z.tab K mg ⟨"law", Z.topS 36, Z.F_law, ["script", "box", "turn", "p", "q", "r", "told", "k", "ray", "worth", "due"], ["script"]⟩ := by
      obtain ⟨fd, F⟩ := c.def_ 19 (d := ZE.d19) rfl
      exact Z.ent_f Z.is_law (He.glo_ok KX G (c.fact 19 (f := .glo "law") rfl)) F rfl (fun _ _ _ _ _ _ us hl => match us, hl with | [_], _ => rfl)
    have ok : ∀ e ∈ Z.ents, Z.EntOk Z.tab K mg e := by
      intro e he
      simp only [Z.ents, List.mem_cons, List.not_mem_nil, or_false] at he
      rcases he with rfl | rfl | rfl | rfl | rfl | rfl | rfl | rfl | rfl | rfl | rfl | rfl | rfl | rfl | rfl | rfl | rfl | rfl | rfl | rfl
      · exact e0
      · exact e1
      · exact e2
      · exact e3
      · exact e4
      · exact e5
      · exact e6
      · exact e7
      · exact e8
      · exact e9
      · exact e10
      · exact e11
      · exact e12
      · exact e13
      · exact e14
      · exact e15
      · exact e16
      · exact e17
      · exact e18
      · exact e19
    have hgl : ∀ x d, Z.tab.gls.lookup x = some d → ∃ v u, mg x = some u ∧ L2.RelV v u ∧ ∀ M H, Z.Rep K M H d v := by
      intro x d hx
      by_cases z : x = "ZERO"
      · subst z
        have q := Z.lookup_eq hx
        subst q
        exact tp ("ZERO", (.tup [(.int (0)), (.int (1))])) (List.mem_of_getElem? (l := ZE.gl) (i := 0) rfl)
      replace hx := Z.lookup_ne z hx
      cases hx
    have hbl : ∀ x ∈ Z.blts, mg x = none := by
      intro x hx
      simp only [Z.blts, List.mem_cons, List.not_mem_nil, or_false] at hx
      rcases hx with rfl | rfl | rfl | rfl | rfl | rfl | rfl | rfl | rfl | rfl | rfl | rfl | rfl | rfl | rfl | rfl | rfl | rfl | rfl | rfl
      · exact He.free_ok KX G (c.fact 20 (f := .free "len") rfl)
      · exact He.free_ok KX G (c.fact 21 (f := .free "abs") rfl)
      · exact He.free_ok KX G (c.fact 22 (f := .free "int") rfl)
      · exact He.free_ok KX G (c.fact 23 (f := .free "list") rfl)
      · exact He.free_ok KX G (c.fact 24 (f := .free "isinstance") rfl)
      · exact He.free_ok KX G (c.fact 25 (f := .free "range") rfl)
      · exact He.free_ok KX G (c.fact 26 (f := .free "enumerate") rfl)
      · exact He.free_ok KX G (c.fact 27 (f := .free "tuple") rfl)
      · exact He.free_ok KX G (c.fact 28 (f := .free "bool") rfl)
      · exact He.free_ok KX G (c.fact 29 (f := .free "str") rfl)
      · exact He.free_ok KX G (c.fact 30 (f := .free "repr") rfl)
      · exact He.free_ok KX G (c.fact 31 (f := .free "min") rfl)
      · exact He.free_ok KX G (c.fact 32 (f := .free "max") rfl)
      · exact He.free_ok KX G (c.fact 33 (f := .free "sum") rfl)
      · exact He.free_ok KX G (c.fact 34 (f := .free "any") rfl)
      · exact He.free_ok KX G (c.fact 35 (f := .free "all") rfl)
      · exact He.free_ok KX G (c.fact 36 (f := .free "zip") rfl)
      · exact He.free_ok KX G (c.fact 37 (f := .free "reversed") rfl)
      · exact He.free_ok KX G (c.fact 38 (f := .free "dict") rfl)
      · exact He.free_ok KX G (c.fact 39 (f := .free "set") rfl)
    have xs : ∀ base : Heap, K.In base → base.Ns mainGlobals mg → Z.ExF Z.tab PySem.Challenge.pw_raytrain_k05_half_planes w K mg base := by
      intro base hK hG
      refine Z.exF_ok KX G gx.2 rfl rfl rfl (fun q hq => ?_)
      simp only [ZE.exs, List.mem_cons, List.not_mem_nil, or_false] at hq
      rcases hq with rfl
      · obtain ⟨fd, F⟩ := c.def_ 20 (d := ZE.dI0) rfl
        obtain ⟨m1, m2, m3⟩ := Z.rs_ok KX G gx.2 (r := "RaytrainError") (by simp [ZE.rs])
        exact ⟨fd, [("self" : PySem.Str)], F.bindsN (fun _ _ _ _ _ _ us hl => match us, hl with | [_], _ => rfl), Z.init_ok F ⟨rfl, rfl, rfl, by decide +kernel, rfl, by decide +kernel, by decide +kernel⟩ m1 (by kernel_rfl) (by kernel_rfl) (fun env => ⟨_, rfl⟩) (by decide +kernel) m2 m3⟩
    obtain ⟨fd, bd, hF⟩ := Z.end_ok (P := PySem.Challenge.pw_raytrain_k05_half_planes) (w := w) KX G hmg Z.ents rfl (fun _ => rfl) ok hgl hbl bi.1 bi.2 (j := 19) (e := ⟨"law", Z.topS 36, Z.F_law, _, _⟩) rfl rfl rfl rfl rfl (fun _ _ _ _ _ _ us hl => match us, hl with | [_], _ => rfl) xs 60 63 Z.run_law
    exact ⟨K, fd, Z.spL K 63, KX, bd, fun _ a ns hl _ hS => ⟨a, ns, rfl, hS, hl, fun _ => rfl⟩, hF⟩
