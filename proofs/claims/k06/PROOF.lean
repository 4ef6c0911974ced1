import PyProof.Rows.All
import Wide.All
import OpenK.AllK
import Wide.FinOn
import HandS.ForMost
import HandS.Records
import HandS.DictComp
import HandS.Deep
import HandS.ListItems
import HandS.StrMore
import HandS.TupAny
import HandS.TupMul
import HandS.IsInst
import HandS.Zip
import HandS.Star
import HandS.AnyAll
import KE.KSortTupG
import KE.KSortTupUse
import HandS.SetTxt0
import HandS.SetBool
import PyProof.Rows.SortShellAny
import PyProof.GenCompD
import HandS.Nested
import HandS.TupSets
import HandS.SetKeys
import PyProof.DictMoreH
import HandS.EndOwn
import PySem.Challenge.RW_notfound_k06_kept_out
set_option Elab.async false
set_option linter.all false
set_option maxRecDepth 100000
set_option maxHeartbeats 4000000
/-! A deque of one's own: made of a list, its truth, append, extend by a list, popleft. -/
namespace DL
open PySem PyProof.Rows
namespace Fq
theorem slot_append : Slot "collections.deque" "append" "collections.deque.append" :=
  .of (owner := "collections.deque") (n := "append") (by rw [typeLookup_type, builtinLookup_eq_fast]; kernel_rfl) (by decide +kernel) (by decide +kernel) (by decide +kernel)
    (by first | exact .inl (by decide +kernel) | exact .inr (by decide +kernel)) (by rw [isSubtype_type]; kernel_rfl)
theorem slot_extend : Slot "collections.deque" "extend" "collections.deque.extend" :=
  .of (owner := "collections.deque") (n := "extend") (by rw [typeLookup_type, builtinLookup_eq_fast]; kernel_rfl) (by decide +kernel) (by decide +kernel) (by decide +kernel)
    (by first | exact .inl (by decide +kernel) | exact .inr (by decide +kernel)) (by rw [isSubtype_type]; kernel_rfl)
theorem slot_popleft : Slot "collections.deque" "popleft" "collections.deque.popleft" :=
  .of (owner := "collections.deque") (n := "popleft") (by rw [typeLookup_type, builtinLookup_eq_fast]; kernel_rfl) (by decide +kernel) (by decide +kernel) (by decide +kernel)
    (by first | exact .inl (by decide +kernel) | exact .inr (by decide +kernel)) (by rw [isSubtype_type]; kernel_rfl)
theorem entry_append : entryFor table "collections.deque.append" = some Builtin.«collections.deque.append» := entryFor_of_tree (by kernel_rfl)
theorem entry_extend : entryFor table "collections.deque.extend" = some Builtin.«collections.deque.extend» := entryFor_of_tree (by kernel_rfl)
theorem entry_eloop : entryFor table "collections.deque.extend.loop" = some Builtin.«collections.deque.extend.loop» := entryFor_of_tree (by kernel_rfl)
theorem entry_popleft : entryFor table "collections.deque.popleft" = some Builtin.«collections.deque.popleft» := entryFor_of_tree (by kernel_rfl)
theorem plain_eloop : plainId "collections.deque.extend.loop" = true := by decide +kernel
theorem args_append (a b : Value) : argsOk "collections.deque.append" ⟨[a, b], []⟩ := by unfold argsOk; kernel_rfl
theorem args_extend (a b : Value) : argsOk "collections.deque.extend" ⟨[a, b], []⟩ := by unfold argsOk; kernel_rfl
theorem args_popleft (a : Value) : argsOk "collections.deque.popleft" ⟨[a], []⟩ := by unfold argsOk; kernel_rfl
theorem args_init2 (a b : Value) : argsOk "collections.deque.__init__" ⟨[a, b], []⟩ := by unfold argsOk; kernel_rfl
theorem typeCall1 (v : Value) : checkTypeCall "collections.deque" ⟨[v], []⟩ = pure () := by first | kernel_rfl | rfl
theorem newCall1 (v : Value) : checkBuiltinCall "collections.deque.__new__" ⟨[.type "collections.deque", v], []⟩ = pure () := by first | kernel_rfl | rfl
end Fq
/-- a deque's record: no bound, the count of its changes, the items -/
def dqA (n : Int) (its : List Value) : Array Value := #[Value.none, rawInt n] ++ its.toArray
def IsDq (h : Heap) (a : Addr) (its : List Value) : Prop := ∃ n, h.get? a = some (recObj "collections.deque" (dqA n its))
theorem dqA_size (n : Int) (its : List Value) : (dqA n its).size = its.length + 2 := by unfold dqA; simp
theorem dqA_items (n : Int) (its : List Value) : (dqA n its).extract 2 (dqA n its).size = its.toArray := by
  unfold dqA; simp
theorem dqA_0 (n : Int) (its : List Value) : (dqA n its)[0]? = some .none := by unfold dqA; simp
theorem dqA_1 (n : Int) (its : List Value) : (dqA n its)[1]? = some (rawInt n) := by unfold dqA; simp
theorem IsDq.ty {s : Shared} {a : Addr} {its : List Value} (h : IsDq s.heap a its) : s.TypeIs (.ref a) "collections.deque" := let ⟨_, e⟩ := h; ⟨_, e, rfl⟩
section
variable {prog : Program} {w : World} {A : Around} {E : Value → Shared → Prop} {s : Shared} {a : Addr} {its : List Value}
theorem dq_items {Q : Array Value → Shared → Prop} (h : IsDq s.heap a its) (q : Q its.toArray s) : wpAny (model prog w) A (Builtin.Deque.items (.ref a)) Q E s := by
  obtain ⟨n, e⟩ := h
  unfold Builtin.Deque.items
  refine wpAny_bind (wpAny_fieldsOf e rfl (wpAny_pure ?_))
  rw [dqA_items]; exact q
theorem dq_maxlen {Q : Option Nat → Shared → Prop} (h : IsDq s.heap a its) (q : Q none s) : wpAny (model prog w) A (Builtin.Deque.maxlen (.ref a)) Q E s := by
  obtain ⟨n, e⟩ := h
  unfold Builtin.Deque.maxlen
  refine wpAny_bind (wpAny_field e rfl (dqA_0 n its) ?_)
  exact wpAny_pure q
theorem dq_change {f : Array Value → Array Value} {Q : Unit → Shared → Prop} (h : IsDq s.heap a its) (hz : (f its.toArray).size ≤ sizeLine)
    (q : ∀ h', IsDq h' a (f its.toArray).toList → Heap.SameBut a s.heap h' → Q () { s with heap := h' }) : wpAny (model prog w) A (Builtin.Deque.change (.ref a) f) Q E s := by
  obtain ⟨n, e⟩ := h
  unfold Builtin.Deque.change
  show wpAny _ _ (Builtin.Deque.state (.ref a) >>= _) _ _ _
  refine wpAny_bind ?_
  unfold Builtin.Deque.state
  refine wpAny_bind (wpAny_field e rfl (dqA_1 n its) ?_)
  refine wpAny_pure ?_
  refine wpAny_updateFields e rfl (q _ ⟨n + 1, ?_⟩ (Heap.SameBut.update ..)) ?_
  · rw [Heap.get?_update_self _ e rfl]
    show some (recObj "collections.deque" (#[(dqA n its).getD 0 .none, rawInt (n + 1)] ++ f ((dqA n its).extract 2 (dqA n its).size))) = _
    rw [dqA_items]
    have : (dqA n its).getD 0 .none = Value.none := by rw [Array.getD_eq_getD_getElem?, dqA_0]; rfl
    rw [this]
    unfold dqA
    simp
  · show (#[(dqA n its).getD 0 .none, rawInt (n + 1)] ++ f ((dqA n its).extract 2 (dqA n its).size)).size ≤ _
    rw [dqA_items, Array.size_append]
    have : (#[(dqA n its).getD 0 Value.none, rawInt (n + 1)] : Array Value).size = 2 := rfl
    omega
theorem dq_push {x : Value} {Q : Unit → Shared → Prop} (h : IsDq s.heap a its) (hz : its.length + 1 ≤ sizeLine)
    (q : ∀ h', IsDq h' a (its ++ [x]) → Heap.SameBut a s.heap h' → Q () { s with heap := h' }) : wpAny (model prog w) A (Builtin.Deque.pushRight (.ref a) x) Q E s := by
  unfold Builtin.Deque.pushRight
  refine wpAny_bind (dq_change h (by simpa using hz) fun h' d sb => ?_)
  have d' : IsDq h' a (its ++ [x]) := by simpa using d
  exact wpAny_bind (dq_maxlen d' (wpAny_pure (q h' d' sb)))
/-- d.append(x) -/
theorem dq_append {x : Value} {Q : Value → Shared → Prop} (h : IsDq s.heap a its) (hz : its.length + 1 ≤ sizeLine)
    (q : ∀ h', IsDq h' a (its ++ [x]) → Heap.SameBut a s.heap h' → Q .none { s with heap := h' }) : wpAny (model prog w) A (call (.builtin "collections.deque.append") [.ref a, x]) Q E s := by
  refine wpAny_call_entry Fq.slot_append h.ty Fq.entry_append ?_ (Fq.args_append _ _)
  unfold Builtin.«collections.deque.append»
  refine wpAny_bind (m := selfAndOne "deque.append" _) (wpAny_pure ?_)
  exact wpAny_bind (dq_push h hz fun h' d sb => wpAny_pure ⟨_, rfl, q h' d sb⟩)
/-- d.popleft() of one that is not empty -/
theorem dq_popleft {x : Value} {Q : Value → Shared → Prop} (h : IsDq s.heap a (x :: its)) (hz : its.length ≤ sizeLine)
    (q : ∀ h', IsDq h' a its → Heap.SameBut a s.heap h' → Q x { s with heap := h' }) : wpAny (model prog w) A (call (.builtin "collections.deque.popleft") [.ref a]) Q E s := by
  refine wpAny_call_entry Fq.slot_popleft h.ty Fq.entry_popleft ?_ (Fq.args_popleft _)
  unfold Builtin.«collections.deque.popleft»
  refine wpAny_bind (m := selfOnly "deque.popleft" _) (wpAny_pure ?_)
  refine wpAny_bind (dq_items h ?_)
  show wpAny _ _ (Builtin.Deque.change (.ref a) _ >>= fun _ => ret x) _ _ _
  have e : ((x :: its).toArray.eraseIdxIfInBounds 0).toList = its := by simp [Array.eraseIdxIfInBounds]
  refine wpAny_bind (dq_change h ?_ fun h' d sb => ?_)
  · rw [← Array.length_toList, e]; exact hz
  · rw [e] at d
    exact wpAny_pure ⟨_, rfl, q h' d sb⟩
/-- len(d) -/
theorem dq_lenB {Q : Value → Shared → Prop} (h : IsDq s.heap a its) (hz : its.length ≤ sizeLine) (q : Q (.int (its.length : Nat) (s.toks + 1)) { s with toks := s.toks + 1 + 1 }) :
    wpAny (model prog w) A (runValue (.builtin "len" ⟨[.ref a], []⟩)) Q E s := by
  refine wpAny_runValue (codeAny_builtin entry_len ?_)
  rw [Around.under_plainId plain_len _]
  have hfit : ((its.length : Nat) : Int) < 2 ^ 63 := by rw [sizeLine_eq] at hz; omega
  refine wpAny_mono (Q := fun fin s' => ∃ r, fin = .done (.ret r) ∧ Q r s') ?_ (fun fin s' h' => by obtain ⟨r, rfl, hq⟩ := h'; exact hq) fun _ _ e => e
  obtain ⟨n, e⟩ := h
  have hT : s.TypeIs (.ref a) "collections.deque" := ⟨_, e, rfl⟩
  unfold Builtin.«len»
  refine wpAny_bind (m := oneArg "len" _) (wpAny_pure ?_)
  refine wpAny_bind (m := callSpecial? (.ref a) (Str.ofString "__len__")) (wpAny_callSpecial?_slot (name := Str.ofString "__len__") hT F.dq_slot_len
    (wpAny_call_entry F.dq_slot_len hT F.dq_entry_len ?_ (F.dq_args_len _)))
  show wpAny _ _ (Builtin.Deque.size (.ref a) >>= fun k => retInt k) _ _ s
  unfold Builtin.Deque.size
  refine wpAny_bind (wpAny_bind (wpAny_fieldsOf e rfl (wpAny_pure ?_)))
  have hk : (dqA n its).size - 2 = its.length := by rw [dqA_size]; omega
  rw [hk]
  refine wpAny_bind (wpAny_mkInt (wpAny_pure ⟨_, rfl, ?_⟩))
  refine wpAny_bind (wpAny_holding (wpAny_pure ?_))
  refine wpAny_bind (wpAny_letGo ?_)
  show wpAny _ _ (if ((its.length : Nat) : Int) < 0 then _ else _) _ _ _
  rw [if_neg (by omega)]
  show wpAny _ _ (if ((its.length : Nat) : Int) ≥ 2 ^ 63 then _ else _) _ _ _
  rw [if_neg (by omega)]
  exact wpAny_bind (wpAny_mkInt (wpAny_pure ⟨_, rfl, q⟩))
/-- a deque as a test -/
theorem dq_test {Q : Bool → Shared → Prop} (h : IsDq s.heap a its) (hz : its.length ≤ sizeLine) (q : Q (!its.isEmpty) { s with toks := s.toks + 1 + 1 }) : wpAny (model prog w) A (truthy (.ref a)) Q E s := by
  have hT := h.ty
  have hb : (((its.length : Nat) : Int) != 0) = !its.isEmpty := by cases its <;> simp <;> omega
  have key := dq_lenB (prog := prog) (w := w) (A := A) (E := E) (Q := fun r s' => r = .int (its.length : Nat) (s.toks + 1) ∧ Q (((its.length : Nat) : Int) != 0) s') h hz ⟨rfl, by rw [hb]; exact q⟩
  unfold truthy
  first
    | refine wpAny_bind (wpAny_callSpecial?_none (name := Str.ofString "__bool__") hT F.dq_noBool ?_)
    | refine wpAny_bind (wpAny_pure (wpAny_bind (wpAny_callSpecial?_none (name := Str.ofString "__bool__") hT F.dq_noBool ?_)))
  first
    | refine wpAny_bind (wpAny_specialOf (name := Str.ofString "__len__") hT F.dq_slot_len.lookup ?_)
    | refine wpAny_bind (wpAny_pure (wpAny_bind (wpAny_specialOf (name := Str.ofString "__len__") hT F.dq_slot_len.lookup ?_)))
  first
    | exact wpAny_bind (wpAny_mono key (fun r s' h' => by obtain ⟨rfl, hq⟩ := h'; exact wpAny_pure hq) fun _ _ e => e)
    | exact wpAny_bind (wpAny_pure (wpAny_bind (wpAny_mono key (fun r s' h' => by obtain ⟨rfl, hq⟩ := h'; exact wpAny_pure hq) fun _ _ e => e)))

/-! ### extend by a list that is another object -/
theorem dq_eloop {I ax : Addr} {items : Array Value} (hh : A.handled = none) (hne : ax ≠ I) (haI : a ≠ I) (haL : a ≠ ax) {R : Result → Shared → Prop} : ∀ (k i : Nat) (its : List Value) (s : Shared), items.size - i = k → i ≤ items.size → its.length + k ≤ sizeLine →
    IsDq s.heap a its → s.heap.IsListIter I ax i → s.heap.IsList ax items →
    (∀ h' tk, IsDq h' a (its ++ items.toList.drop i) → (∀ b o, b ≠ a → b ≠ I → s.heap.get? b = some o → h'.get? b = some o) → R (.ok (.ret .none)) { s with heap := h', toks := tk }) →
    codeAny (model prog w) A (.builtin "collections.deque.extend.loop" ⟨[.ref a, .ref I, .none], []⟩) R s := by
  intro k
  have W := Walks.list (prog := prog) (w := w) (A := A.in1) hh I ax hne items
  induction k with
  | zero =>
    intro i its s hk hi hz hd hit hl hR
    have hin : i = items.size := by omega
    subst hin
    refine codeAny_builtin Fq.entry_eloop ?_
    rw [Around.under_plainId Fq.plain_eloop _]
    unfold Builtin.«collections.deque.extend.loop»
    refine wpAny_bind (wpAny_pure ?_)
    refine wpAny_bind (W.done s _ _ ⟨hit, hl⟩ fun h' tk hk' => ?_)
    refine wpAny_pure (hR h' tk ?_ fun b o h1 h2 e => hk' b o (by simpa using h2) e)
    obtain ⟨n, e⟩ := hd
    have : items.toList.drop items.size = [] := by simp
    rw [this, List.append_nil]
    exact ⟨n, hk' a _ (by simpa using haI) e⟩
  | succ k ih =>
    intro i its s hk hi hz hd hit hl hR
    have hlt : i < items.size := by omega
    refine codeAny_builtin Fq.entry_eloop ?_
    rw [Around.under_plainId Fq.plain_eloop _]
    unfold Builtin.«collections.deque.extend.loop»
    refine wpAny_bind (wpAny_pure ?_)
    refine wpAny_bind (W.item i s _ _ hlt ⟨hit, hl⟩ fun v h' tk hv hst' hk' => ?_)
    obtain ⟨n, e⟩ := id hd
    have e' : h'.get? a = _ := hk' a _ (by simpa using haI) e
    have hd' : IsDq h' a its := ⟨n, e'⟩
    refine wpAny_bind (wpAny_field (s := { s with heap := h', toks := tk }) e' rfl (dqA_0 n its) ?_)
    rw [if_neg (by simp)]
    refine wpAny_bind (dq_maxlen (s := { s with heap := h', toks := tk }) hd' ?_)
    rw [if_pos (by simp)]
    refine wpAny_bind (dq_push (s := { s with heap := h', toks := tk }) hd' (by omega) fun h2 d2 sb => ?_)
    refine wpAny_pure ⟨plainId_quiet Fq.plain_eloop _, ?_⟩
    refine ih (i + 1) (its ++ [v]) _ (by omega) hlt (by simp; omega) d2 (hst'.1.at fun o q => (sb.2 I (Ne.symm haI)).trans q) (hst'.2.at fun o q => (sb.2 ax (Ne.symm haL)).trans q) fun h3 tk3 d3 k3 => ?_
    refine hR h3 tk3 ?_ fun b o h1 h2' q => k3 b o h1 h2' ((sb.2 b h1).trans (hk' b o (by simpa using h2') q))
    have hdr : items.toList.drop i = v :: items.toList.drop (i + 1) := by
      rw [List.drop_eq_getElem_cons (by simpa using hlt)]
      congr 1
      have : items[i]? = some v := hv
      rw [Array.getElem?_eq_getElem hlt] at this
      simpa using this
    rw [hdr]
    simpa using d3
/-- d.extend(xs) -/
theorem dq_extendC {ax : Addr} {items : Array Value} (hh : A.handled = none) (haL : a ≠ ax) (hd : IsDq s.heap a its) (hl : s.heap.IsList ax items) (hz : its.length + items.size ≤ sizeLine) {R : Result → Shared → Prop} {E' : Value → Shared → Prop}
    (hR : ∀ h' tk, IsDq h' a (its ++ items.toList) → (∀ b o, b ≠ a → s.heap.get? b = some o → h'.get? b = some o) → R (.ok (.ret .none)) { s with heap := h', toks := tk }) :
    wpAny (model prog w) A.in1 (Builtin.«collections.deque.extend» ⟨[.ref a, .ref ax], []⟩)
      (fun fin s' => match fin with | .done f => R (.ok f) s' | .again c' => c'.quiet = true ∧ codeAny (model prog w) A c' R s') E' s := by
  unfold Builtin.«collections.deque.extend»
  refine wpAny_bind (m := selfAndOne "deque.extend" _) (wpAny_pure ?_)
  have hne : (Value.ref a == Value.ref ax) = false := by
    simp [haL]
  show wpAny _ _ (if (Value.ref a == Value.ref ax) = true then _ else _) _ _ _
  rw [if_neg (by rw [hne]; exact Bool.false_ne_true)]
  obtain ⟨n, e⟩ := id hd
  refine wpAny_bind (wpAny_field e rfl (dqA_0 n its) ?_)
  refine wpAny_bind (wpAny_pyIter_list hl ?_)
  have keep : ∀ b o, s.heap.get? b = some o → (s.heap.push { cls := .type "list_iterator", data := .fields #[.ref ax, .int 0 0] }).get? b = some o := fun b o q => Heap.get?_push_of_some _ q
  have hlt : ∀ b o, s.heap.get? b = some o → b ≠ s.heap.objs.size := fun b o q => Nat.ne_of_lt (Heap.lt_size q)
  refine wpAny_pure ⟨plainId_quiet Fq.plain_eloop _, ?_⟩
  have hax : ax ≠ s.heap.objs.size := by obtain ⟨_, hq, _⟩ := hl.typeIs; exact hlt _ _ hq
  refine dq_eloop hh hax (hlt _ _ e) haL items.size 0 its _ (by omega) (by omega) hz ⟨n, keep _ _ e⟩ ?_ (hl.at fun o q => keep _ _ q) fun h' tk d k => ?_
  · exact ⟨_, Heap.get?_push_size _ rfl, rfl, rfl⟩
  · refine hR h' tk (by simpa using d) fun b o h1 q => k b o h1 (hlt _ _ q) (keep _ _ q)
theorem dqA_new : (#[Value.none, rawInt 0] ++ (#[] : Array Value)) = dqA 0 [] := by unfold dqA; simp
theorem dq_code_new1 {v : Value} {Q : Value → Shared → Prop} (h : Q (.ref s.heap.objs.size) { s with heap := s.heap.push (recObj "collections.deque" (dqA 0 [])) }) :
    codeAny (model prog w) A (.call (.builtin "collections.deque.__new__") ⟨[.type "collections.deque", v], []⟩) (wants Q E) s := by
  refine codeAny_call_builtin F.dq_plain_new F.dq_entry_new (wpAny_of_eq (Fq.newCall1 v) ?_)
  unfold Builtin.«collections.deque.__new__»
  refine wpAny_bind ?_
  unfold Builtin.Deque.newArgs
  refine wpAny_bind (wpAny_of_eq (a := true) rfl ?_)
  refine PySem.W.KFB.if_not rfl ?_
  refine wpAny_bind (wpAny_of_eq (a := true) F.dq_sub ?_)
  refine PySem.W.KFB.if_not rfl ?_
  refine wpAny_pure ?_
  refine wpAny_bind ?_
  unfold Builtin.Deque.new
  rw [if_neg (show ¬ (#[] : Array Value).size > sizeLine by decide)]
  refine wpAny_bind (wpAny_pure ?_)
  show wpAny _ _ (newObj (.type "collections.deque") (.fields (#[Value.none, rawInt 0] ++ (#[] : Array Value)))) _ _ _
  rw [dqA_new]
  exact wpAny_newObj_type (wpAny_pure h) (by show (dqA 0 []).size ≤ sizeLine + 2; rw [dqA_size]; exact Nat.le_add_left _ _)
/-- deque(xs) -/
theorem dq_of_list {ax : Addr} {items : Array Value} (hh : A.handled = none) (hl : s.heap.IsList ax items) (hz : items.size ≤ sizeLine) {Q : Value → Shared → Prop}
    (hQ : ∀ h' tk, IsDq h' s.heap.objs.size items.toList → (∀ b o, s.heap.get? b = some o → h'.get? b = some o) → Q (.ref s.heap.objs.size) { s with heap := h', toks := tk }) :
    wpAny (model prog w) A (call (.type "collections.deque") [.ref ax]) Q E s := by
  refine callType_codes (Q₁ := fun obj s₁ => obj = .ref s.heap.objs.size ∧ s₁ = { s with heap := s.heap.push (recObj "collections.deque" (dqA 0 [])) }) F.dq_called (Fq.typeCall1 _) F.dq_entry_init (dq_code_new1 ⟨rfl, rfl⟩) ?_
  rintro obj s₁ ⟨rfl, rfl⟩
  have hg : (s.heap.push (recObj "collections.deque" (dqA 0 []))).get? s.heap.objs.size = some (recObj "collections.deque" (dqA 0 [])) := Heap.get?_push_size _ rfl
  have keep : ∀ b o, s.heap.get? b = some o → (s.heap.push (recObj "collections.deque" (dqA 0 []))).get? b = some o := fun b o q => Heap.get?_push_of_some _ q
  have hlt : ∀ b o, s.heap.get? b = some o → b ≠ s.heap.objs.size := fun b o q => Nat.ne_of_lt (Heap.lt_size q)
  have hax : ax ≠ s.heap.objs.size := by obtain ⟨_, hq, _⟩ := hl.typeIs; exact hlt _ _ hq
  refine ⟨⟨_, hg, rfl⟩, Fq.args_init2 _ _, ?_⟩
  unfold Builtin.«collections.deque.__init__»
  show wpAny _ _ (setField (.ref s.heap.objs.size) 0 .none >>= fun _ => Builtin.Deque.clear (.ref s.heap.objs.size) >>= fun _ => Builtin.Deque.extend (.ref s.heap.objs.size) (.ref ax) >>= fun _ => ret .none) _ _ _
  refine wpAny_bind (wpAny_setField_rec (a := s.heap.objs.size) (vs := dqA 0 []) hg (by rw [dqA_size]; decide) fun h' hg' sb => ?_)
  have e0 : (dqA 0 []).setIfInBounds 0 Value.none = dqA 0 [] := by unfold dqA; simp
  rw [e0] at hg'
  have hd : IsDq h' s.heap.objs.size [] := ⟨0, hg'⟩
  refine wpAny_bind ?_
  unfold Builtin.Deque.clear
  refine wpAny_bind (dq_items (s := { s with heap := h' }) hd ?_)
  rw [if_neg (by simp)]
  refine wpAny_pure ?_
  unfold Builtin.Deque.extend
  have keep2 : ∀ b o, s.heap.get? b = some o → h'.get? b = some o := fun b o q => (sb.2 b (hlt b o q)).trans (keep b o q)
  have hcode : ∀ E2, codeAny (model prog w) A.in1.in1 (.builtin "collections.deque.extend" ⟨[.ref s.heap.objs.size, .ref ax], []⟩)
      (wants (fun _ s2 => ∃ h2 tk, s2 = { s with heap := h2, toks := tk } ∧ IsDq h2 s.heap.objs.size items.toList ∧ ∀ b o, s.heap.get? b = some o → h2.get? b = some o) E2) { s with heap := h' } := fun E2 => by
    refine codeAny_builtin Fq.entry_extend ?_
    rw [Around.under_plainId (by decide +kernel) _]
    refine dq_extendC (A := A.in1.in1) (s := { s with heap := h' }) (its := []) hh (Ne.symm hax) hd (hl.at fun o q => keep2 _ _ q) (by simpa using hz) fun h2 tk d k => ?_
    exact ⟨h2, tk, rfl, by simpa using d, fun b o q => k b o (hlt b o q) (keep2 b o q)⟩
  refine wpAny_bind (wpAny_bind (wpAny_mono (wpAny_runValue (hcode _)) (fun r s2 q => ?_) fun _ _ x => x))
  obtain ⟨h2, tk, rfl, d, k⟩ := q
  exact wpAny_pure (wpAny_pure ⟨rfl, hQ h2 tk d k⟩)
/-- d.extend(xs) -/
theorem dq_extend {ax : Addr} {items : Array Value} (hh : A.handled = none) (haL : a ≠ ax) (hd : IsDq s.heap a its) (hl : s.heap.IsList ax items) (hz : its.length + items.size ≤ sizeLine) {Q : Value → Shared → Prop}
    (hQ : ∀ h' tk, IsDq h' a (its ++ items.toList) → (∀ b o, b ≠ a → s.heap.get? b = some o → h'.get? b = some o) → Q .none { s with heap := h', toks := tk }) :
    wpAny (model prog w) A (call (.builtin "collections.deque.extend") [.ref a, .ref ax]) Q E s := by
  refine call_meetsIn (S := fun A' R s' => A' = A ∧ s' = s ∧ ∀ h' tk, IsDq h' a (its ++ items.toList) → (∀ b o, b ≠ a → s.heap.get? b = some o → h'.get? b = some o) → R (.ok (.ret .none)) { s with heap := h', toks := tk })
    Fq.slot_extend hd.ty Fq.entry_extend (Fq.args_extend _ _) ?_ ⟨rfl, rfl, hQ⟩
  rintro A' R s' ⟨rfl, rfl, q⟩
  exact dq_extendC hh haL hd hl hz q
end
end DL

set_option Elab.async false
set_option linter.all false
set_option maxRecDepth 100000
set_option maxHeartbeats 4000000
/-! The data layer: what values mean as plain data, however the heap lies. -/
namespace DL
open PySem PySem.Spec L2

/-- plain data -/
inductive D where
  | non | bl (b : Bool) | int (i : Int) | str (x : Str)
  | tup (l : List D) | lst (l : List D) | scr (l : List D)
  | dic (ks : List Key) (vs : List D)
  | dit (ks : List (List Key)) (vs : List D) | deq (l : List D)

/-! ### heaps that grow -/
def Ex (H H' : Hp) : Prop := ∀ a o, H a = some o → H' a = some o
theorem Ex.refl (H : Hp) : Ex H H := fun _ _ h => h
theorem Ex.trans {H H1 H2 : Hp} (a : Ex H H1) (b : Ex H1 H2) : Ex H H2 := fun x o h => b x o (a x o h)
theorem Ex.new {H : Hp} {p : Addr} {o : HO} (h : H p = none) : Ex H (upd H p o) := fun a u e => by
  rw [upd_ne (ne_of_none e h)]
  exact e
theorem Ex.mut {H H' : Hp} {p : Addr} {o : HO} (e : Ex H H') (h : H p = none) : Ex H (upd H' p o) := fun a u ha => by
  rw [upd_ne (ne_of_none ha h)]
  exact e a u ha
theorem Ex.back {H H' : Hp} {p : Addr} (e : Ex H H') (h : H' p = none) : H p = none := by
  cases h1 : H p with
  | none => rfl
  | some o => rw [e p o h1] at h; cases h
theorem Ex.both {H H' : Hp} {p : Addr} {o : HO} (e : Ex H H') (h : H' p = none) : Ex (upd H p o) (upd H' p o) := fun a u ha => by
  by_cases q : a = p
  · subst q; rw [upd_same] at ha ⊢; exact ha
  · rw [upd_ne q] at ha ⊢; exact e a u ha

theorem Ex.noT {H H' : Hp} {a : Addr} (e : Ex H H') (h1 : H a ≠ none) (h3 : ∀ xs, H a ≠ some (.tup xs)) : ∀ xs, H' a ≠ some (.tup xs) := fun xs q => by
  cases h : H a with
  | none => exact h1 h
  | some u => rw [e a u h] at q; cases q; exact h3 xs h
/-- from the frozen part B of H to B' of H' -/
structure Ext (B H B' H' : Hp) : Prop where
  hh : Ex H H'
  bb : Ex B B'
  bh : Ex B' H'
  sep : ∀ a, H a ≠ none → (∀ xs, H a ≠ some (.tup xs)) → B a = none → B' a = none
theorem Ext.refl {B H : Hp} (h : Ex B H) : Ext B H B H := ⟨.refl _, .refl _, h, fun _ _ _ h => h⟩
theorem Ext.trans {B H B1 H1 B2 H2 : Hp} (a : Ext B H B1 H1) (b : Ext B1 H1 B2 H2) : Ext B H B2 H2 :=
  ⟨a.hh.trans b.hh, a.bb.trans b.bb, b.bh, fun x h1 h3 h2 => b.sep x (fun e => h1 (a.hh.back e)) (fun xs e => by cases q : H x with | none => exact h1 q | some u => rw [a.hh x u q] at e; cases e; exact h3 xs q) (a.sep x h1 h3 h2)⟩
/-- a new frozen object -/
theorem Ext.new {B H : Hp} {p : Addr} {o : HO} (h : Ex B H) (hp : H p = none) : Ext B H (upd B p o) (upd H p o) :=
  ⟨.new hp, .new (h.back hp), h.both hp, fun a h1 _ h2 => by
    rw [upd_ne (fun e => h1 (by rw [e]; exact hp))]; exact h2⟩
/-- a new object of one's own -/
theorem Ext.own {B H : Hp} {p : Addr} {o : HO} (h : Ex B H) (hp : H p = none) : Ext B H B (upd H p o) :=
  ⟨.new hp, .refl _, h.mut (h.back hp), fun _ _ _ h => h⟩

/-! ### what a value means -/
/-- a deque's object -/
def DqO (a : Addr) (xs : List V) : HO := .ext fun h => ∃ its, Vals xs its ∧ xs.length ≤ sizeLine ∧ IsDq h a its
def KsOk (ks : List Key) : Prop := ∀ x : Str, (Sum.inr x : Key) ∈ ks → PySem.PyData.strOk x = true ∧ x.length ≤ sizeLine
def KsOkT (ks : List (List Key)) : Prop := ∀ k ∈ ks, KsOk k
def okS (x : Str) : Prop := PySem.PyData.strOk x = true ∧ x.length ≤ sizeLine
mutual
inductive Rep (K : PySem.W.Frag) (B : Hp) : V → D → Prop
  | non : Rep K B .non .non
  | bl (b : Bool) : Rep K B (.bl b) (.bl b)
  | int (i : Int) : Rep K B (.int i) (.int i)
  | str (x : Str) : okS x → Rep K B (.str x) (.str x)
  | tup {a : Addr} {xs : List V} {ds : List D} : B a = some (.tup xs) → Reps K B xs ds → Rep K B (.ref a) (.tup ds)
  | lst {a : Addr} {xs : List V} {ds : List D} : B a = some (.lst xs) → Reps K B xs ds → Rep K B (.ref a) (.lst ds)
  | scr {a : Addr} {xs : List V} {ds : List D} : SqL K B a xs → Reps K B xs ds → Rep K B (.ref a) (.scr ds)
  | dic {a : Addr} {kvs : List (Key × V)} {ks : List Key} {ds : List D} : B a = some (.dK kvs) → kvs.map (·.1) = ks → KsOk ks → Reps K B (kvs.map (·.2)) ds → Rep K B (.ref a) (.dic ks ds)
  | dit {a : Addr} {kvs : List (List Key × V)} {ks : List (List Key)} {ds : List D} : B a = some (.dT kvs) → kvs.map (·.1) = ks → KsOkT ks → Reps K B (kvs.map (·.2)) ds → Rep K B (.ref a) (.dit ks ds)
  | deq {a : Addr} {xs : List V} {ds : List D} : B a = some (DqO a xs) → Reps K B xs ds → Rep K B (.ref a) (.deq ds)
inductive Reps (K : PySem.W.Frag) (B : Hp) : List V → List D → Prop
  | nil : Reps K B [] []
  | cons {v : V} {vs : List V} {d : D} {ds : List D} : Rep K B v d → Reps K B vs ds → Reps K B (v :: vs) (d :: ds)
end
theorem Rd.ex {H H' : Hp} {a : Addr} {u : HO} (e : Ex H H') (h : Rd H a u) : Rd H' a u := by
  rcases h with h | ⟨o, h⟩
  · exact .inl (e a _ h)
  · exact .inr ⟨o, e a _ h⟩
theorem sqT_ex {K : PySem.W.Frag} {H H' : Hp} {a : Addr} {xs : List V} (e : Ex H H') (h : SqT K H a xs) : SqT K H' a xs := by
  rcases h with h | h
  · exact .inl (Rd.ex e h)
  · exact .inr h
theorem sqL_ex {K : PySem.W.Frag} {H H' : Hp} {a : Addr} {xs : List V} (e : Ex H H') (h : SqL K H a xs) : SqL K H' a xs := by
  rcases h with h | h
  · exact .inl (Rd.ex e h)
  · exact .inr h
mutual
theorem Rep.mono {K : PySem.W.Frag} {B B' : Hp} (e : Ex B B') : ∀ {v : V} {d : D}, Rep K B v d → Rep K B' v d
  | _, _, .non => .non
  | _, _, .bl b => .bl b
  | _, _, .int b => .int b
  | _, _, .str b h => .str b h
  | _, _, .tup h r => .tup (e _ _ h) (Reps.mono e r)
  | _, _, .scr h r => .scr (sqL_ex e h) (Reps.mono e r)
  | _, _, .lst h r => .lst (e _ _ h) (Reps.mono e r)
  | _, _, .dic h k o r => .dic (e _ _ h) k o (Reps.mono e r)
  | _, _, .dit h k o r => .dit (e _ _ h) k o (Reps.mono e r)
  | _, _, .deq h r => .deq (e _ _ h) (Reps.mono e r)
theorem Reps.mono {K : PySem.W.Frag} {B B' : Hp} (e : Ex B B') : ∀ {v : List V} {d : List D}, Reps K B v d → Reps K B' v d
  | _, _, .nil => .nil
  | _, _, .cons h t => .cons (Rep.mono e h) (Reps.mono e t)
end
section
variable {K : PySem.W.Frag} {B : Hp}
theorem Reps.length : ∀ {vs : List V} {ds : List D}, Reps K B vs ds → vs.length = ds.length
  | _, _, .nil => rfl
  | _, _, .cons _ t => by rw [List.length_cons, List.length_cons, Reps.length t]
theorem Reps.append : ∀ {vs ws : List V} {ds es : List D}, Reps K B vs ds → Reps K B ws es → Reps K B (vs ++ ws) (ds ++ es)
  | _, _, _, _, .nil, h => h
  | _, _, _, _, .cons r t, h => .cons r (Reps.append t h)
theorem Reps.get : ∀ {vs : List V} {ds : List D} {i : Nat} {v : V}, Reps K B vs ds → vs[i]? = some v → ∃ d, ds[i]? = some d ∧ Rep K B v d
  | _, _, _, _, .nil, e => by simp at e
  | _, _, 0, _, .cons r _, e => by simp at e; subst e; exact ⟨_, rfl, r⟩
  | _, _, i + 1, v, .cons _ t, e => by
    obtain ⟨d, h1, h2⟩ := Reps.get (i := i) (v := v) t (by simpa using e)
    exact ⟨d, by simpa using h1, h2⟩
theorem Reps.getD : ∀ {vs : List V} {ds : List D} {i : Nat} {d : D}, Reps K B vs ds → ds[i]? = some d → ∃ v, vs[i]? = some v ∧ Rep K B v d
  | _, _, _, _, .nil, e => by simp at e
  | _, _, 0, _, .cons r _, e => by simp at e; subst e; exact ⟨_, rfl, r⟩
  | _, _, i + 1, d, .cons _ t, e => by
    obtain ⟨v, h1, h2⟩ := Reps.getD (i := i) (d := d) t (by simpa using e)
    exact ⟨v, by simpa using h1, h2⟩
theorem Reps.take : ∀ {vs : List V} {ds : List D} (n : Nat), Reps K B vs ds → Reps K B (vs.take n) (ds.take n)
  | _, _, 0, _ => by simp; exact .nil
  | _, _, _ + 1, .nil => .nil
  | _, _, n + 1, .cons r t => .cons r (Reps.take n t)
theorem Reps.drop : ∀ {vs : List V} {ds : List D} (n : Nat), Reps K B vs ds → Reps K B (vs.drop n) (ds.drop n)
  | _, _, 0, r => by simpa using r
  | _, _, _ + 1, .nil => .nil
  | _, _, n + 1, .cons r t => by simpa using Reps.drop n t
theorem Reps.set {v : V} {d : D} (r : Rep K B v d) : ∀ {vs : List V} {ds : List D} (i : Nat), Reps K B vs ds → Reps K B (vs.set i v) (ds.set i d)
  | _, _, _, .nil => .nil
  | _, _, 0, .cons _ t => .cons r t
  | _, _, i + 1, .cons q t => .cons q (Reps.set r i t)
theorem Reps.rev {vs : List V} {ds : List D} (h : Reps K B vs ds) : Reps K B vs.reverse ds.reverse := by
  induction vs generalizing ds with
  | nil => cases h; exact .nil
  | cons v vs ih => cases h with | cons r t => rw [List.reverse_cons, List.reverse_cons]; exact (ih t).append (.cons r .nil)
end

/-- what may be read though it may change later: a list, a dict, a deque of one's own or of the caller -/
inductive Top (K : PySem.W.Frag) (B H : Hp) (p : Addr) : D → Prop
  | lst {vs : List V} {ds : List D} : H p = some (.lst vs) → Reps K B vs ds → Top K B H p (.lst ds)
  | dic {kvs : List (Key × V)} {ks : List Key} {ds : List D} : H p = some (.dK kvs) → kvs.map (·.1) = ks → KsOk ks → Reps K B (kvs.map (·.2)) ds → Top K B H p (.dic ks ds)
  | dit {kvs : List (List Key × V)} {ks : List (List Key)} {ds : List D} : H p = some (.dT kvs) → kvs.map (·.1) = ks → KsOkT ks → Reps K B (kvs.map (·.2)) ds → Top K B H p (.dit ks ds)
  | deq {vs : List V} {ds : List D} : H p = some (DqO p vs) → Reps K B vs ds → Top K B H p (.deq ds)
def Bor (K : PySem.W.Frag) (B H : Hp) (v : V) (d : D) : Prop := Rep K B v d ∨ ∃ p, v = .ref p ∧ Top K B H p d
/-- one's own -/
abbrev Own := Top
theorem Top.at {K : PySem.W.Frag} {B H B' H' : Hp} {p : Addr} {d : D} (eb : Ex B B') (eh : ∀ o, H p = some o → H' p = some o) (h : Top K B H p d) : Top K B' H' p d := by
  cases h with
  | lst h r => exact .lst (eh _ h) (r.mono eb)
  | dic h k o r => exact .dic (eh _ h) k o (r.mono eb)
  | dit h k o r => exact .dit (eh _ h) k o (r.mono eb)
  | deq h r => exact .deq (eh _ h) (r.mono eb)
theorem Own.top {K : PySem.W.Frag} {B H : Hp} {p : Addr} {d : D} (h : Own K B H p d) : Top K B H p d := h
theorem Top.mono {K : PySem.W.Frag} {B H B' H' : Hp} {p : Addr} {d : D} (eb : Ex B B') (eh : Ex H H') (h : Top K B H p d) : Top K B' H' p d := h.at eb fun o q => eh _ _ q
theorem Bor.mono {K : PySem.W.Frag} {B H B' H' : Hp} {v : V} {d : D} (eb : Ex B B') (eh : Ex H H') (h : Bor K B H v d) : Bor K B' H' v d := by
  rcases h with h | ⟨p, e, h⟩
  · exact .inl (h.mono eb)
  · exact .inr ⟨p, e, h.mono eb eh⟩
theorem Own.keep {K : PySem.W.Frag} {B H B' H' : Hp} {p : Addr} {d : D} (eb : Ex B B') (eh : H' p = H p) (h : Own K B H p d) : Own K B' H' p d := Top.at eb (fun o q => by rw [eh]; exact q) h
theorem Own.there {K : PySem.W.Frag} {B H : Hp} {p : Addr} {d : D} (h : Own K B H p d) : H p ≠ none := by
  cases h with
  | lst h _ => rw [h]; simp
  | dic h _ _ _ => rw [h]; simp
  | dit h _ _ _ => rw [h]; simp
  | deq h _ => rw [h]; simp
theorem Own.noT {K : PySem.W.Frag} {B H : Hp} {p : Addr} {d : D} (h : Own K B H p d) : ∀ xs, H p ≠ some (.tup xs) := by
  cases h with
  | lst h _ => rw [h]; simp
  | dic h _ _ _ => rw [h]; simp
  | dit h _ _ _ => rw [h]; simp
  | deq h _ => rw [h]; simp [DqO]

/-! ### one's own, with lists of one's own in it -/
inductive Inn (K : PySem.W.Frag) (B H : Hp) : List Addr → List (List D) → Prop
  | nil : Inn K B H [] []
  | cons {q : Addr} {qs : List Addr} {vs : List V} {l : List D} {ls : List (List D)} : H q = some (.lst vs) → Reps K B vs l → q ∉ qs → Inn K B H qs ls → Inn K B H (q :: qs) (l :: ls)
/-- fp: the lists in it -/
inductive OwnD (K : PySem.W.Frag) (B H : Hp) (p : Addr) (fp : List Addr) : D → Prop
  | lst {ls : List (List D)} : H p = some (.lst (fp.map V.ref)) → p ∉ fp → Inn K B H fp ls → OwnD K B H p fp (.lst (ls.map .lst))
  | dic {kvs : List (Key × V)} {ks : List Key} {ls : List (List D)} : H p = some (.dK kvs) → kvs.map (·.1) = ks → KsOk ks → kvs.map (·.2) = fp.map V.ref → p ∉ fp → Inn K B H fp ls → OwnD K B H p fp (.dic ks (ls.map .lst))
  | dit {kvs : List (List Key × V)} {ks : List (List Key)} {ls : List (List D)} : H p = some (.dT kvs) → kvs.map (·.1) = ks → KsOkT ks → kvs.map (·.2) = fp.map V.ref → p ∉ fp → Inn K B H fp ls → OwnD K B H p fp (.dit ks (ls.map .lst))
theorem Inn.at {K : PySem.W.Frag} {B H B' H' : Hp} (eb : Ex B B') : ∀ {qs : List Addr} {ls : List (List D)}, (∀ a ∈ qs, ∀ o, H a = some o → H' a = some o) → Inn K B H qs ls → Inn K B' H' qs ls
  | _, _, _, .nil => .nil
  | _, _, eh, .cons h r n t => .cons (eh _ (by simp) _ h) (r.mono eb) n (Inn.at eb (fun a ha => eh a (by simp [ha])) t)
theorem Inn.there {K : PySem.W.Frag} {B H : Hp} : ∀ {qs : List Addr} {ls : List (List D)}, Inn K B H qs ls → ∀ a ∈ qs, ∃ vs, H a = some (.lst vs)
  | _, _, .nil, _, h => by cases h
  | _, _, .cons h _ _ t, a, ha => by
    rcases List.mem_cons.mp ha with rfl | ha
    · exact ⟨_, h⟩
    · exact t.there a ha
theorem OwnD.at {K : PySem.W.Frag} {B H B' H' : Hp} {p : Addr} {fp : List Addr} {d : D} (eb : Ex B B') (eh : ∀ a ∈ p :: fp, ∀ o, H a = some o → H' a = some o) (h : OwnD K B H p fp d) : OwnD K B' H' p fp d := by
  have ei : ∀ a ∈ fp, ∀ o, H a = some o → H' a = some o := fun a ha => eh a (by simp [ha])
  cases h with
  | lst h n i => exact .lst (eh _ (by simp) _ h) n (i.at eb ei)
  | dic h k o v n i => exact .dic (eh _ (by simp) _ h) k o v n (i.at eb ei)
  | dit h k o v n i => exact .dit (eh _ (by simp) _ h) k o v n (i.at eb ei)
theorem OwnD.there {K : PySem.W.Frag} {B H : Hp} {p : Addr} {fp : List Addr} {d : D} (h : OwnD K B H p fp d) : ∀ a ∈ p :: fp, H a ≠ none ∧ ∀ xs, H a ≠ some (.tup xs) := by
  intro a ha
  rcases List.mem_cons.mp ha with rfl | ha
  · cases h with
    | lst h _ _ => rw [h]; simp
    | dic h _ _ _ _ _ => rw [h]; simp
    | dit h _ _ _ _ _ => rw [h]; simp
  · have : ∃ vs, H a = some (.lst vs) := by
      cases h with
      | lst _ _ i => exact i.there a ha
      | dic _ _ _ _ _ i => exact i.there a ha
      | dit _ _ _ _ _ i => exact i.there a ha
    obtain ⟨vs, h⟩ := this
    rw [h]; simp

/-! ### where one stands -/
inductive Md where | sh | ow | bo | od deriving DecidableEq
abbrev DEnv := List (Option D)
abbrev MEnv := List Md

def BoR (K : PySem.W.Frag) (B H : Hp) (t : Bool) (v : V) (d : D) : Prop := match t with
  | true => ∃ p, v = .ref p ∧ Top K B H p d
  | false => Bor K B H v d
theorem BoR.bor {K : PySem.W.Frag} {B H : Hp} {t : Bool} {v : V} {d : D} (h : BoR K B H t v d) : Bor K B H v d := by
  cases t with
  | true => exact .inr h
  | false => exact h
theorem BoR.mono {K : PySem.W.Frag} {B H B' H' : Hp} {t : Bool} {v : V} {d : D} (eb : Ex B B') (eh : Ex H H') (h : BoR K B H t v d) : BoR K B' H' t v d := by
  cases t with
  | true => obtain ⟨p, e, h⟩ := h; exact ⟨p, e, h.mono eb eh⟩
  | false => exact Bor.mono eb eh h
/-- the code objects whose tables are kept in sight, with their tables -/
class TbC where ts : List (Addr × Addr)
/-- a code object's table that may have grown -/
def TblO (P : Addr) : HO := .ext fun h => ∃ ps : Array Value, h.get? P = some { cls := .none, data := .fields ps } ∧ PySem.TriplesOk ps.toList
variable [TbC]
def Tabs (B : Hp) : Prop := ∀ p ∈ TbC.ts, B p.2 = some (TblO p.2)
theorem Tabs.mono {B B' : Hp} (e : Ex B B') (h : Tabs B) : Tabs B' := fun p hp => e _ _ (h p hp)
structure Stt (K : PySem.W.Frag) (Γ : MEnv) (lv : Nat → Option (V × Bool × Hp)) (B0 H0 B H : Hp) (σ : L2.St) (ρ : DEnv) : Prop where
  ext : Ext B0 H0 B H
  lvx : ∀ (i : Nat) (v : V) (t : Bool) (h : Hp), lv i = some (v, t, h) → Ex h H0
  len : σ.length = ρ.length
  mlen : Γ.length = ρ.length
  sh : ∀ (i : Nat) (d : D), Γ[i]? = some Md.sh → ρ[i]? = some (some d) → ∃ v, σ[i]? = some (some v) ∧ Rep K B v d
  ow : ∀ (i : Nat) (d : D), Γ[i]? = some Md.ow → ρ[i]? = some (some d) → ∃ p, σ[i]? = some (some (V.ref p)) ∧ H0 p = none ∧ B p = none ∧ Own K B H p d
  bo : ∀ (i : Nat) (d : D), Γ[i]? = some Md.bo → ρ[i]? = some (some d) → ∃ v t h, lv i = some (v, t, h) ∧ σ[i]? = some (some v) ∧ BoR K B h t v d
  apart : ∀ (i j : Nat) (p : Addr) (d e : D), i ≠ j → Γ[i]? = some Md.ow → Γ[j]? = some Md.ow → ρ[i]? = some (some d) → ρ[j]? = some (some e) → σ[i]? = some (some (V.ref p)) → σ[j]? ≠ some (some (V.ref p))
  od : ∀ (i : Nat) (d : D), Γ[i]? = some Md.od → ρ[i]? = some (some d) → ∃ p fp, σ[i]? = some (some (V.ref p)) ∧ (∀ a ∈ p :: fp, H0 a = none ∧ B a = none) ∧ OwnD K B H p fp d ∧ ∀ (j : Nat) (e : D) (q : Addr), Γ[j]? = some Md.ow → ρ[j]? = some (some e) → σ[j]? = some (some (V.ref q)) → q ∉ p :: fp
  one : ∀ (i j : Nat), Γ[i]? = some Md.od → Γ[j]? = some Md.od → i = j
  tabs : Tabs B0
section
variable {K : PySem.W.Frag} {Γ : MEnv} {lv : Nat → Option (V × Bool × Hp)} {B0 H0 B H B' H' : Hp} {σ : L2.St} {ρ : DEnv}
theorem Stt.grow (S : Stt K Γ lv B0 H0 B H σ ρ) (x : Ext B H B' H') : Stt K Γ lv B0 H0 B' H' σ ρ where
  ext := S.ext.trans x
  lvx := S.lvx
  len := S.len
  mlen := S.mlen
  sh := fun i d h1 h2 => let ⟨v, a, b⟩ := S.sh i d h1 h2; ⟨v, a, b.mono x.bb⟩
  ow := fun i d h1 h2 => by
    obtain ⟨p, a, b, c, o⟩ := S.ow i d h1 h2
    refine ⟨p, a, b, x.sep p o.there o.noT c, o.keep x.bb ?_⟩
    cases q : H p with
    | none => exact absurd q o.there
    | some u => exact x.hh _ _ q
  bo := fun i d h1 h2 => let ⟨v, t, h, a, b, c⟩ := S.bo i d h1 h2; ⟨v, t, h, a, b, c.mono x.bb (.refl _)⟩
  apart := S.apart
  od := fun i d h1 h2 => by
    obtain ⟨p, fp, a, b, o, f⟩ := S.od i d h1 h2
    refine ⟨p, fp, a, fun c hc => ⟨(b c hc).1, x.sep c (o.there c hc).1 (o.there c hc).2 (b c hc).2⟩, o.at x.bb (fun c _ u q => x.hh _ _ q), f⟩
  one := S.one
  tabs := S.tabs
/-- any variable may be read -/
theorem Stt.read (S : Stt K Γ lv B0 H0 B H σ ρ) {i : Nat} {d : D} (h : ρ[i]? = some (some d)) (hno : Γ[i]? ≠ some Md.od) : ∃ v, σ[i]? = some (some v) ∧ Bor K B H v d := by
  have hi : i < Γ.length := by rw [S.mlen]; exact (List.getElem?_eq_some_iff.mp h).1
  cases m : Γ[i]? with
  | none => simp at m; omega
  | some k => cases k with
    | sh => obtain ⟨v, a, b⟩ := S.sh i d m h; exact ⟨v, a, .inl b⟩
    | ow => obtain ⟨p, a, _, _, o⟩ := S.ow i d m h; exact ⟨_, a, .inr ⟨p, rfl, o.top⟩⟩
    | bo => obtain ⟨v, t, h, l, a, b⟩ := S.bo i d m h; exact ⟨v, a, b.bor.mono (.refl _) ((S.lvx i v t h l).trans S.ext.hh)⟩
    | od => exact absurd m hno
end
end DL

set_option Elab.async false
set_option linter.all false
set_option maxRecDepth 100000
set_option maxHeartbeats 4000000
/-! The little language that a def's body is read as, and what it gives over plain data. -/
namespace DL
open PySem PySem.Spec L2

def lim : Nat := 100000
theorem lim_le {n : Nat} (h : n ≤ lim) : n ≤ sizeLine := Nat.le_trans h (by decide)
theorem lim_lt {n : Nat} (h : n < lim) : n < sizeLine := Nat.lt_of_lt_of_le h (by decide)

inductive Op1 where
  | len | list | tuple | int | isi (t : String) | items | neg | sorted
  deriving DecidableEq
inductive Op2 where
  | add | sub | mul | fdiv | mod | eq | ne | lt | le | gt | ge | isin | notin | is_ | isnot | ix | starts | join | index | max2 | min2
  deriving DecidableEq
inductive Op3 where
  | get
  deriving DecidableEq
inductive T where
  | nm (i : Nat) | tp (l : T) | nl | cn (h t : T)
inductive E where
  | var (i : Nat) | con (d : D)
  | op1 (o : Op1) (a : E) | op2 (o : Op2) (a b : E) | op3 (o : Op3) (a b c : E)
  | chain (o o' : Op2) (a b c : E)
  | and (a b : E) | or (a b : E) | not (a : E) | ite (c a b : E)
  | sl (a lo hi : E) | nop
  | lst (as : E) | tup (as : E) | dnew
  | lc (t : T) (vs : List Nat) (elt it c : E)
  | dc (t : T) (vs : List Nat) (k elt it c : E)
  | lc2 (t : T) (vs : List Nat) (t1 : T) (vs1 : List Nat) (elt it c it1 c1 : E)
  | ss2 (t : T) (vs : List Nat) (t1 : T) (vs1 : List Nat) (elt it c it1 c1 : E) | ss1 (t : T) (vs : List Nat) (elt it c : E)
  | call (f : Nat) (as : E)
  | nil | cons (h t : E) | star (h t : E)
  | dput (i : Nat) (k e : E) | dnewT | dcT (t : T) (vs : List Nat) (k elt it c : E) | deq (a : E) | d1 (k e : E) | qin (all : Bool) (it : E) (i : Nat)
  | iV (e : E) | iR1 (a : E) | iR2 (a b : E) | iEn (e : E) | iZip (a b : E)
inductive S where
  | asg (t : T) (e : E) | asgO (i : Nat) (e : E) | asgC (i f : Nat) (as : E) | app (i : Nat) (e : E) | ext (i : Nat) (e : E) | setk (i : Nat) (k e : E)
  | popl (t i : Nat) | newd (i : Nat) (t : Bool) | sdef (i : Nat) (k e : E) | drop (e : E) | ret (e : E) | retN | ite (c : E) (a b : S) | for_ (pins : List Nat) (t : T) (it : E) (body : S) | while_ (c : E) (body : S)
  | brk | cnt | nx | err | seq (a b : S)

/-! ### data -/
mutual
def eqv : D → D → Bool
  | .non, .non => true
  | .bl a, .bl b => a == b
  | .bl a, .int j => (if a then 1 else 0) == j
  | .int i, .bl b => i == (if b then 1 else 0)
  | .int i, .int j => i == j
  | .str x, .str y => x == y
  | .lst xs, .lst ys => eqvs xs ys
  | .tup xs, .tup ys => eqvs xs ys
  | _, _ => false
def eqvs : List D → List D → Bool
  | [], [] => true
  | x :: xs, y :: ys => eqv x y && eqvs xs ys
  | _, _ => false
end
mutual
/-- no dict in it, at most n deep -/
def dOk : Nat → D → Bool
  | _, .non => true
  | _, .bl _ => true
  | _, .int _ => true
  | _, .str _ => true
  | 0, .lst _ => false
  | 0, .tup _ => false
  | n + 1, .lst l => dOks n l
  | n + 1, .tup l => dOks n l
  | _, .dic _ _ => false
  | _, .dit _ _ => false
  | _, .deq _ => false
  | _, .scr _ => false
def dOks : Nat → List D → Bool
  | _, [] => true
  | n, x :: xs => dOk n x && dOks n xs
end
def keyD : D → Option Key
  | .int i => some (.inl i)
  | .str x => some (.inr x)
  | _ => none
def keyE : Key → D
  | .inl i => .int i
  | .inr x => .str x
def idxK {κ : Type} [DecidableEq κ] (k : κ) : List κ → Option Nat
  | [] => none
  | k' :: ks => if k' = k then some 0 else (idxK k ks).map (· + 1)
def keyTs : List D → Option (List Key)
  | [] => some []
  | d :: ds => (keyD d).bind fun k => (keyTs ds).map (k :: ·)
/-- a tuple of ints and texts as a key -/
def keyT : D → Option (List Key)
  | .tup ds => keyTs ds
  | _ => none
def keysL : List D → Option (List (List Key))
  | [] => some []
  | d :: ds => (keyT d).bind fun k => (keysL ds).map (k :: ·)
section
variable {κ : Type} [DecidableEq κ]
def lookD (k : κ) : List κ → List D → Option D
  | k' :: ks, d :: ds => if k' = k then some d else lookD k ks ds
  | _, _ => none
def repD (k : κ) (v : D) : List κ → List D → List D
  | k' :: ks, d :: ds => (if k' = k then v else d) :: repD k v ks ds
  | _, _ => []
def putD (k : κ) (v : D) (ks : List κ) (ds : List D) : List D := if (ks.any fun k' => decide (k' = k)) = true then repD k v ks ds else ds ++ [v]
def putKs (k : κ) (ks : List κ) : List κ := if (ks.any fun k' => decide (k' = k)) = true then ks else ks ++ [k]
end
def truD : D → Option Bool
  | .non => some false
  | .bl b => some b
  | .int i => some (i != 0)
  | .str x => some ((x.length : Int) != 0)
  | .lst l => some (!l.isEmpty)
  | .tup l => some (!l.isEmpty)
  | .dic ks _ => some (!ks.isEmpty)
  | .dit _ _ => none
  | .deq l => some (!l.isEmpty)
  | .scr l => some (!l.isEmpty)
def seqD : D → Option (List D)
  | .lst l => some l
  | .tup l => some l
  | .scr l => some l
  | _ => none
def seqL (d : D) : Option (List D) := (seqD d).bind fun l => if l.length ≤ lim then some l else none
def typD (t : String) : D → Option Bool
  | .non => some false
  | .bl _ => some (t == "bool" || t == "int")
  | .int _ => some (t == "int")
  | .str _ => some (t == "str")
  | .lst _ => some (t == "list")
  | .tup _ => some (t == "tuple")
  | .dic _ _ => some (t == "dict")
  | .dit _ _ => none
  | .deq _ => none
  | .scr _ => none
def strsD : List D → Option (List Str)
  | [] => some []
  | .str x :: ds => (strsD ds).map (x :: ·)
  | _ => none
/-- the texts in order -/
def insS (x : Str) : List Str → List Str
  | [] => [x]
  | y :: r => if PySem.Spec.ltCps y.cps.toList x.cps.toList then y :: insS x r else x :: y :: r
def sortS : List Str → List Str
  | [] => []
  | x :: r => insS x (sortS r)
/-- rows of texts, and their order -/
def ltK : List Str → List Str → Bool
  | _, [] => false
  | [], _ :: _ => true
  | x :: r, y :: t => PySem.Spec.ltCps x.cps.toList y.cps.toList || (!PySem.Spec.ltCps y.cps.toList x.cps.toList && ltK r t)
def insK (x : List Str) : List (List Str) → List (List Str)
  | [] => [x]
  | y :: r => if ltK y x then y :: insK x r else x :: y :: r
def sortK : List (List Str) → List (List Str)
  | [] => []
  | x :: r => insK x (sortK r)
def strT : D → Option (List Str)
  | .tup ds => (strsD ds).bind fun k => if k = [] then none else some k
  | _ => none
def rowsD : List D → Option (List (List Str))
  | [] => some []
  | d :: ds => (strT d).bind fun k => (rowsD ds).map (k :: ·)
def tupK (k : List Str) : D := .tup (k.map .str)
def starL : D → Option (List D)
  | .lst l => some l
  | .tup l => some l
  | _ => none
def tyKnown : List String := ["list", "tuple", "dict", "str", "int", "bool"]
def op1D : Op1 → D → Option D
  | .len, .lst l => some (.int l.length)
  | .len, .tup l => some (.int l.length)
  | .len, .scr l => some (.int l.length)
  | .len, .str x => some (.int x.length)
  | .list, .lst l => some (.lst l)
  | .list, .tup l => some (.lst l)
  | .list, .scr l => some (.lst l)
  | .tuple, .lst l => some (.tup l)
  | .tuple, .tup l => some (.tup l)
  | .int, .int i => some (.int i)
  | .int, .bl b => some (.int (if b then 1 else 0))
  | .isi t, d => if t ∈ tyKnown then (typD t d).map .bl else none
  | .items, .dic ks ds => some (.lst ((ks.zip ds).map fun p => .tup [keyE p.1, p.2]))
  | .neg, .int i => some (.int (-i))
  | .sorted, .lst l => (match strsD l with | some xs => if xs.length < 64 then some (.lst ((sortS xs).map .str)) else none | none => (rowsD l).map fun ks => .lst ((sortK ks).map tupK))
  | _, _ => none
def mulOk (i j : Int) : Bool := decide (-(2 ^ 64) < i ∧ i < 2 ^ 64) || decide (-(2 ^ 64) < j ∧ j < 2 ^ 64)
def clsN : D → Nat
  | .non => 0 | .bl _ => 1 | .int _ => 2 | .str _ => 3 | .lst _ => 4 | .tup _ => 5 | .scr _ => 6 | .dic _ _ => 7 | .dit _ _ => 8 | .deq _ => 9
def flatD : D → Bool
  | .non => true | .bl _ => true | .int _ => true | .str _ => true
  | _ => false
/-- each entry of the one stands in the other; what is told is only «alike» -/
def subK (ls : List Key) (es : List D) : List Key → List D → Bool
  | k :: ks, d :: ds => (match lookD k ls es with | some e => flatD d && flatD e && eqv d e && decide (clsN d = clsN e) | none => false) && subK ls es ks ds
  | _, _ => true
def eqD (x y : D) : Option Bool := match x, y with
  | .dic ks ds, .dic ls es => if ks.length = ls.length ∧ subK ls es ks ds = true then some true else none
  | x, y => if dOk 60 x && dOk 60 y then some (eqv x y) else none
def indexD (y : D) : List D → Nat → Option Nat
  | [], _ => none
  | x :: xs, i => if eqv x y then some i else indexD y xs (i + 1)
def inD (x y : D) : Option Bool := (match y with
  | .lst l => if dOk 59 x && dOk 60 y then some (l.any fun z => eqv z x) else none
  | .tup l => if dOk 59 x && dOk 60 y then some (l.any fun z => eqv z x) else none
  | .dic ks _ => (keyD x).map fun k => ks.any fun k' => decide (k' = k)
  | .dit ks _ => (keyT x).map fun k => ks.any fun k' => decide (k' = k)
  | _ => none)
def catS (i j : Str) : Option D := if i.length + j.length ≤ lim then some (.str (i ++ j)) else none
def op2D : Op2 → D → D → Option D
  | .add, .int i, .int j => some (.int (i + j))
  | .add, .str i, .str j => catS i j
  | .add, .lst i, .lst j => if i.length + j.length ≤ lim then some (.lst (i ++ j)) else none
  | .add, .tup i, .tup j => if i.length + j.length ≤ lim then some (.tup (i ++ j)) else none
  | .sub, .int i, .int j => some (.int (i - j))
  | .mul, .int i, .int j => if mulOk i j then some (.int (i * j)) else none
  | .mul, .str x, .int n => if -(lim : Int) ≤ n ∧ n ≤ lim ∧ x.length * n.toNat ≤ lim then some (.str (Txt.mul x n)) else none
  | .max2, .int i, .int j => some (.int (if j > i then j else i))
  | .min2, .int i, .int j => some (.int (if j < i then j else i))
  | .fdiv, .int i, .int j => if 0 < j ∧ j < 1073741824 then some (.int (i / j)) else none
  | .mod, .int i, .int j => if 0 < j then some (.int (i % j)) else none
  | .eq, x, y => (eqD x y).map .bl
  | .ne, x, y => (eqD x y).map fun b => .bl (!b)
  | .lt, .int i, .int j => some (.bl (decide (i < j)))
  | .le, .int i, .int j => some (.bl (decide (i ≤ j)))
  | .gt, .int i, .int j => some (.bl (decide (j < i)))
  | .ge, .int i, .int j => some (.bl (decide (j ≤ i)))
  | .isin, x, y => (inD x y).map .bl
  | .notin, x, y => (inD x y).map fun b => .bl (!b)
  | .is_, x, .non => (match x with | .non => some (.bl true) | _ => some (.bl false))
  | .isnot, x, .non => (match x with | .non => some (.bl false) | _ => some (.bl true))
  | .ix, .lst l, .int i => atI l i
  | .ix, .tup l, .int i => atI l i
  | .ix, .scr l, .int i => atI l i
  | .ix, .str x, .int i => (atI x.cps.toList i).map fun c => .str ⟨#[c]⟩
  | .ix, .dic ks ds, y => (keyD y).bind fun k => lookD k ks ds
  | .ix, .dit ks ds, y => (keyT y).bind fun k => lookD k ks ds
  | .index, .lst l, y => if dOk 60 y && dOk 60 (.lst l) then (indexD y l 0).map (fun (j : Nat) => D.int (Int.ofNat j)) else none
  | .starts, .str x, .str y => some (.bl (Txt.startswith x y))
  | .join, .str s, .lst l => (strsD l).bind fun xs => if (xs.map (·.length)).sum + xs.length * s.length ≤ lim then some (.str (Txt.join s xs)) else none
  | _, _, _ => none
def isL : D → Bool
  | .lst _ => true
  | .dic _ _ => true
  | .dit _ _ => true
  | .deq _ => true
  | _ => false
def op3D : Op3 → D → D → D → Option D
  | .get, .dic ks ds, y, z => (keyD y).map fun k => (lookD k ks ds).getD z
  | .get, .dit ks ds, y, z => (keyT y).map fun k => (lookD k ks ds).getD z
  | _, _, _, _ => none
def cutD (l : List D) (lo hi : Option Int) : List D := (l.drop (HT.sIx l.length 0 lo)).take (HT.sIx l.length l.length hi - HT.sIx l.length 0 lo)
def slD : D → Option Int → Option Int → Option D
  | .lst l, lo, hi => some (.lst (cutD l lo hi))
  | .tup l, lo, hi => some (.tup (cutD l lo hi))
  | .scr l, lo, hi => some (.lst (cutD l lo hi))
  | .str x, lo, hi => some (.str (cutS x lo hi))
  | _, _, _ => none

/-! ### running -/
def wipeD (ρ : DEnv) : List Nat → DEnv
  | [] => ρ
  | v :: vs => (wipeD ρ vs).set v none
mutual
def asgT : T → D → DEnv → Option DEnv
  | .nm i, d, ρ => some (ρ.set i (some d))
  | .tp l, .tup ds, ρ => asgTs l ds ρ
  | _, _, _ => none
def asgTs : T → List D → DEnv → Option DEnv
  | .nl, [], ρ => some ρ
  | .cn h t, d :: ds, ρ => (asgT h d ρ).bind fun ρ' => asgTs t ds ρ'
  | _, _, _ => none
end
def lcG (f : D → Option (Option D)) : List D → Option (List D)
  | [] => some []
  | x :: xs => (f x).bind fun r => (lcG f xs).map fun ys => (match r with | none => ys | some y => y :: ys)
def dcG (f : D → Option (Option (Key × D))) : List D → List Key → List D → Option (List Key × List D)
  | [], ks, ds => some (ks, ds)
  | x :: xs, ks, ds => (f x).bind fun r => (match r with | none => dcG f xs ks ds | some (k, y) => dcG f xs (putKs k ks) (putD k y ks ds))
/-! two clauses: what is gathered goes along -/
def foldG {A : Type} (f : D → A → Option A) : List D → A → Option A
  | [], a => some a
  | x :: xs, a => (f x a).bind (foldG f xs)
/-- the turn of the last clause; of the first of two -/
def f1G {A : Type} (t1 : T) (vs1 : List Nat) (tst1 : DEnv → Option Bool) (em : DEnv → A → Option A) (ρ : DEnv) : D → A → Option A := fun y a => (asgT t1 y (wipeD ρ vs1)).bind fun ρ' => (tst1 ρ').bind fun k => if k then em ρ' a else some a
def f0G {A : Type} (t : T) (vs : List Nat) (tst : DEnv → Option Bool) (src : DEnv → Option (List D)) (f1 : DEnv → D → A → Option A) (ρ : DEnv) : D → A → Option A := fun x a => (asgT t x (wipeD ρ vs)).bind fun ρ' => (tst ρ').bind fun k => if k then (src ρ').bind fun l1 => foldG (f1 ρ') l1 a else some a
def emL (ev : DEnv → Option D) (ρ : DEnv) (a : List D) : Option (List D) := (ev ρ).bind fun y => if a.length < lim then some (a ++ [y]) else none
def emS (ev : DEnv → Option D) (ρ : DEnv) (a : List Str) : Option (List Str) := (ev ρ).bind fun y => (match y with | .str x => if a.length < 4000 then some (if x ∈ a then a else x :: a) else none | _ => none)
def emU (ev : DEnv → Option D) (ρ : DEnv) (a : List (List Str)) : Option (List (List Str)) := (ev ρ).bind fun y => (strT y).bind fun k => if a.length < 62 then some (if k ∈ a then a else k :: a) else none
def emDT (ek ev : DEnv → Option D) (ρ : DEnv) (a : List (List Key) × List D) : Option (List (List Key) × List D) := (ek ρ).bind fun kd => (keyT kd).bind fun k => (ev ρ).bind fun y => if a.1.length < lim then some (putKs k a.1, putD k y a.1 a.2) else none
def emDK (ek ev : DEnv → Option D) (ρ : DEnv) (a : List Key × List D) : Option (List Key × List D) := (ek ρ).bind fun kd => (keyD kd).bind fun k => (ev ρ).bind fun y => if a.1.length < lim then some (putKs k a.1, putD k y a.1 a.2) else none
def zipD : D → D → Option (List D)
  | .tup l, .tup m => some ((l.zip m).map fun p => .tup [p.1, p.2])
  | _, _ => none
def enumD (l : List D) : List D := l.zipIdx.map fun p => .tup [.int (p.2 : Nat), p.1]
def rngD (lo : Int) (n : Nat) : List D := (List.range n).map fun (k : Nat) => .int (lo + (k : Int))
variable (Φ : Nat → List D → Option D)
mutual
def evE : E → DEnv → Option D
  | .var i, ρ => (ρ[i]?).bind id
  | .con d, _ => some d
  | .op1 o a, ρ => (evE a ρ).bind (op1D o)
  | .op2 o a b, ρ => (evE a ρ).bind fun x => (evE b ρ).bind fun y => op2D o x y
  | .op3 o a b c, ρ => (evE a ρ).bind fun x => (evE b ρ).bind fun y => (evE c ρ).bind fun z => op3D o x y z
  | .chain o o' a b c, ρ => (evE a ρ).bind fun x => (evE b ρ).bind fun y => (op2D o x y).bind fun r => (match r with
      | .bl true => (evE c ρ).bind fun z => op2D o' y z
      | .bl false => some (.bl false)
      | _ => none)
  | .and a b, ρ => (evE a ρ).bind fun x => (match x with | .bl true => evE b ρ | .bl false => some (.bl false) | _ => none)
  | .or a b, ρ => (evE a ρ).bind fun x => (match x with | .bl true => some (.bl true) | .bl false => evE b ρ | _ => none)
  | .not a, ρ => (evE a ρ).bind fun x => (match x with | .bl c => some (.bl (!c)) | _ => none)
  | .ite c a b, ρ => (evT c ρ).bind fun k => if k then evE a ρ else evE b ρ
  | .sl a lo hi, ρ => (evE a ρ).bind fun x => (evO lo ρ).bind fun l => (evO hi ρ).bind fun h => slD x l h
  | .lst as, ρ => (evA as ρ).bind fun l => if l.length ≤ lim then some (.lst l) else none
  | .tup as, ρ => (evA as ρ).bind fun l => if l.length ≤ lim then some (.tup l) else none
  | .dnew, _ => some (.dic [] [])
  | .lc t vs elt it c, ρ => (evI it ρ).bind fun l => (lcG (fun x => (asgT t x (wipeD ρ vs)).bind fun ρ' => (evT c ρ').bind fun k => if k then (evE elt ρ').map some else some none) l).map .lst
  | .dc t vs ke elt it c, ρ => (evI it ρ).bind fun l => (dcG (fun x => (asgT t x (wipeD ρ vs)).bind fun ρ' => (evT c ρ').bind fun k => if k then (evE ke ρ').bind fun kd => (keyD kd).bind fun key => (evE elt ρ').map fun y => some (key, y) else some none) l [] []).map fun p => .dic p.1 p.2
  | .lc2 t vs t1 vs1 elt it c it1 c1, ρ => (evI it ρ).bind fun l => (foldG (f0G t vs (evT c) (evI it1) (f1G t1 vs1 (evT c1) (emL (evE elt))) ρ) l []).map .lst
  | .ss2 t vs t1 vs1 elt it c it1 c1, ρ => (evI it ρ).bind fun l => (foldG (f0G t vs (evT c) (evI it1) (f1G t1 vs1 (evT c1) (emS (evE elt))) ρ) l []).bind fun xs => if xs.length < 4000 then some (.lst ((sortS xs).map .str)) else none
  | .ss1 t vs elt it c, ρ => (evI it ρ).bind fun l => (foldG (f1G t vs (evT c) (emU (evE elt)) ρ) l []).map fun ks => .lst ((sortK ks).map tupK)
  | .dnewT, _ => some (.dit [] [])
  | .deq a, ρ => (evE a ρ).bind fun x => (match x with | .lst l => if l.length ≤ lim then some (.deq l) else none | _ => none)
  | .dcT t vs ke elt it c, ρ => (evI it ρ).bind fun l => (foldG (f1G t vs (evT c) (emDT (evE ke) (evE elt)) ρ) l ([], [])).map fun p => .dit p.1 p.2
  | .qin all it i, ρ => (evE it ρ).bind fun x => (match x, ρ[i]? with | .tup l, some (some (.dit ks _)) => (keysL l).map fun kks => .bl (if all = true then kks.all (fun k => ks.any fun k' => decide (k' = k)) else kks.any (fun k => ks.any fun k' => decide (k' = k))) | _, _ => none)
  | .call f as, ρ => (evA as ρ).bind (Φ f)
  | .d1 k e, ρ => (evE k ρ).bind fun kd => (evE e ρ).bind fun y => (keyD kd).map fun key => .dic [key] [y]
  | .dput i k e, ρ => (evE k ρ).bind fun kd => (evE e ρ).bind fun y => (match ρ[i]? with | some (some (.dic ks ds)) => (keyD kd).bind fun key => if ks.length < lim then some (.dic (putKs key ks) (putD key y ks ds)) else none | _ => none)
  | _, _ => none
def evT : E → DEnv → Option Bool
  | .and a b, ρ => (evT a ρ).bind fun k => if k then evT b ρ else some false
  | .or a b, ρ => (evT a ρ).bind fun k => if k then some true else evT b ρ
  | .not a, ρ => (evT a ρ).map (!·)
  | .nop, _ => some true
  | .var i, ρ => ((ρ[i]?).bind id).bind truD
  | .con d, _ => truD d
  | .op1 o a, ρ => ((evE a ρ).bind (op1D o)).bind truD
  | .op2 o a b, ρ => ((evE a ρ).bind fun x => (evE b ρ).bind fun y => op2D o x y).bind truD
  | .op3 o a b c, ρ => ((evE a ρ).bind fun x => (evE b ρ).bind fun y => (evE c ρ).bind fun z => op3D o x y z).bind truD
  | .chain o o' a b c, ρ => (evE a ρ).bind fun x => (evE b ρ).bind fun y => (op2D o x y).bind fun r => (match r with
      | .bl true => ((evE c ρ).bind fun z => op2D o' y z).bind truD
      | .bl false => some false
      | _ => none)
  | .call f as, ρ => ((evA as ρ).bind (Φ f)).bind truD
  | .qin all it i, ρ => ((evE it ρ).bind fun x => (match x, ρ[i]? with | .tup l, some (some (.dit ks _)) => (keysL l).map fun kks => .bl (if all = true then kks.all (fun k => ks.any fun k' => decide (k' = k)) else kks.any (fun k => ks.any fun k' => decide (k' = k))) | _, _ => none)).bind truD
  | _, _ => none
def evA : E → DEnv → Option (List D)
  | .nil, _ => some []
  | .cons h t, ρ => (evE h ρ).bind fun x => (evA t ρ).map (x :: ·)
  | .star h t, ρ => (evE h ρ).bind fun x => (starL x).bind fun l => (evA t ρ).map (l ++ ·)
  | _, _ => none
def evO : E → DEnv → Option (Option Int)
  | .nop, _ => some none
  | .cons h _, ρ => (evE h ρ).bind fun x => (match x with | .int i => some (some i) | _ => none)
  | _, _ => none
def evI : E → DEnv → Option (List D)
  | .iV e, ρ => (evE e ρ).bind seqL
  | .iR1 a, ρ => (evE a ρ).bind fun x => (match x with | .int j => if j ≤ lim ∧ -(lim : Int) ≤ j then some (rngD 0 j.toNat) else none | _ => none)
  | .iR2 a b, ρ => (evE a ρ).bind fun x => (evE b ρ).bind fun y => (match x, y with | .int i, .int j => if 0 ≤ i ∧ i ≤ lim ∧ j ≤ lim ∧ -(lim : Int) ≤ j then some (rngD i (j - i).toNat) else none | _, _ => none)
  | .iEn e, ρ => (evE e ρ).bind fun d => (match d with | .lst l => if l.length ≤ lim then some (enumD l) else none | _ => none)
  | .iZip a b, ρ => (evE a ρ).bind fun x => (evE b ρ).bind fun y => (zipD x y).bind fun l => if l.length ≤ lim then some l else none
  | _, _ => none
end
inductive Out where
  | nx (ρ : DEnv) | ret (d : D) | brk (ρ : DEnv) | cnt (ρ : DEnv)
def forG (f : D → DEnv → Option Out) : List D → DEnv → Option Out
  | [], ρ => some (.nx ρ)
  | x :: xs, ρ => (f x ρ).bind fun o => (match o with
      | .nx ρ' => forG f xs ρ'
      | .cnt ρ' => forG f xs ρ'
      | .brk ρ' => some (.nx ρ')
      | .ret d => some (.ret d))
def whileG (t : DEnv → Option Bool) (f : DEnv → Option Out) : Nat → DEnv → Option Out
  | 0, _ => none
  | n + 1, ρ => (t ρ).bind fun k => if k then (f ρ).bind fun o => (match o with
      | .nx ρ' => whileG t f n ρ'
      | .cnt ρ' => whileG t f n ρ'
      | .brk ρ' => some (.nx ρ')
      | .ret d => some (.ret d)) else some (.nx ρ)
/-- what stands behind setdefault(k, []), and where -/
def sdefP {κ : Type} [DecidableEq κ] (key : κ) (ks : List κ) (ds : List D) : Option (Nat × List κ × List D) := if ks.length < lim then (match idxK key ks with
  | some j => some (j, ks, ds)
  | none => some (ds.length, ks ++ [key], ds ++ [.lst []])) else none
def sdefQ (j : Nat) (y : D) (ds : List D) : Option (List D) := match ds[j]? with
  | some (.lst l) => if l.length < lim then some (ds.set j (.lst (l ++ [y]))) else none
  | _ => none
def exS (n : Nat) : S → DEnv → Option Out
  | .asg t e, ρ => (evE Φ e ρ).bind fun d => (asgT t d ρ).map .nx
  | .asgO i e, ρ => (evE Φ e ρ).bind fun d => if isL d then some (.nx (ρ.set i (some d))) else none
  | .asgC i f as, ρ => ((evA Φ as ρ).bind (Φ f)).bind fun d => if isL d then some (.nx (ρ.set i (some d))) else none
  | .app i e, ρ => (evE Φ e ρ).bind fun d => (match ρ[i]? with | some (some (.lst l)) => if l.length < lim then some (.nx (ρ.set i (some (.lst (l ++ [d]))))) else none | some (some (.deq l)) => if l.length < lim then some (.nx (ρ.set i (some (.deq (l ++ [d]))))) else none | _ => none)
  | .ext i e, ρ => (evE Φ e ρ).bind fun d => (match ρ[i]?, d with | some (some (.lst l)), .lst m => if l.length + m.length ≤ lim then some (.nx (ρ.set i (some (.lst (l ++ m))))) else none | some (some (.deq l)), .lst m => if l.length + m.length ≤ lim then some (.nx (ρ.set i (some (.deq (l ++ m))))) else none | _, _ => none)
  | .setk i k e, ρ => (evE Φ e ρ).bind fun d => (evE Φ k ρ).bind fun kd => (match ρ[i]? with
      | some (some (.dic ks ds)) => (keyD kd).bind fun key => if ks.length < lim then some (.nx (ρ.set i (some (.dic (putKs key ks) (putD key d ks ds))))) else none
      | some (some (.dit ks ds)) => (keyT kd).bind fun key => if ks.length < lim then some (.nx (ρ.set i (some (.dit (putKs key ks) (putD key d ks ds))))) else none
      | some (some (.lst l)) => (match kd with | .int z => (ixN l.length z).map fun j => .nx (ρ.set i (some (.lst (l.set j d)))) | _ => none)
      | _ => none)
  | .popl t i, ρ => (match ρ[i]? with | some (some (.deq (x :: l))) => some (.nx ((ρ.set i (some (.deq l))).set t (some x))) | _ => none)
  | .newd i t, ρ => some (.nx (ρ.set i (some (if t then .dit [] [] else .dic [] []))))
  | .sdef i k e, ρ => (evE Φ k ρ).bind fun kd => (match ρ[i]? with
      | some (some (.dit ks ds)) => (keyT kd).bind fun key => (sdefP key ks ds).bind fun r => (evE Φ e (ρ.set i (some (.dit r.2.1 r.2.2)))).bind fun y => (sdefQ r.1 y r.2.2).map fun ds2 => .nx (ρ.set i (some (.dit r.2.1 ds2)))
      | _ => none)
  | .drop e, ρ => (evE Φ e ρ).map fun _ => .nx ρ
  | .ret e, ρ => (evE Φ e ρ).map .ret
  | .retN, _ => some (.ret .non)
  | .ite c a b, ρ => (evT Φ c ρ).bind fun k => if k then exS n a ρ else exS n b ρ
  | .for_ _ t it body, ρ => (evI Φ it ρ).bind fun l => forG (fun x ρ => (asgT t x ρ).bind (exS n body)) l ρ
  | .while_ c body, ρ => whileG (evT Φ c) (exS n body) n ρ
  | .brk, ρ => some (.brk ρ)
  | .cnt, ρ => some (.cnt ρ)
  | .nx, ρ => some (.nx ρ)
  | .err, _ => none
  | .seq a b, ρ => (exS n a ρ).bind fun o => (match o with | .nx ρ' => exS n b ρ' | o => some o)
/-- a def called -/
def runF (n : Nat) (many : Nat) (body : S) (ds : List D) : Option D :=
  (exS Φ n body (ds.map some ++ List.replicate (many - ds.length) none)).bind fun o => (match o with
    | .ret d => some d
    | .nx _ => some .non
    | _ => none)
end DL

set_option Elab.async false
set_option linter.all false
set_option maxRecDepth 100000
set_option maxHeartbeats 4000000
/-! What the rules of the hand layer say of data. -/
namespace DL
open PySem PySem.Spec L2
variable [TbC]

/-! ### where a piece of the text stands -/
def visS (sc : Scope) (x : Str) : Bool := match sc.names.lookup x with | some .local => true | some .cell => true | some .free => true | _ => false
def glS (sc : Scope) (x : Str) : Bool := match sc.names.lookup x with | some .globalImplicit => true | _ => false
def stS (sc : Scope) (x : Str) : Bool := match sc.names.lookup x with | some .local => true | some .cell => true | _ => false
def loS (sc : Scope) (x : Str) : Bool := match sc.names.lookup x with | some .local => true | _ => false
def ceS (sc : Scope) (x : Str) : Bool := match sc.names.lookup x with | some .cell => true | _ => false
def cfS (sc : Scope) (x : Str) : Bool := match sc.names.lookup x with | some .free => true | some .cell => true | _ => false
structure Good (X : Cx) (N : List Str) (sc : Scope) (k : Nat) : Prop where
  hN : X.N = N
  nd : N.Nodup
  calm : X.calm = true
  room : Room k X.A
  kind : X.env.scope.kind = .function
  vis : ∀ x, visS sc x = true → Vis X.env.scope x
  gl : ∀ x, glS sc x = true → Gl X x
  st : ∀ x, stS sc x = true → Loc X.env.scope x ∧ (X.fn x = true ∨ X.env.scope.names.lookup x = some .local)
  lo : ∀ x, loS sc x = true → X.env.scope.names.lookup x = some .local
  ce : ∀ x, ceS sc x = true → X.env.scope.names.lookup x = some .cell
  cf : ∀ x, cfS sc x = true → X.env.scope.names.lookup x = some .cell ∨ X.env.scope.names.lookup x = some .free
theorem Good.hu {X : Cx} {N : List Str} {sc : Scope} {k : Nat} (g : Good X N sc k) : X.A.units + 65 < cLine := by
  have := g.room.un; omega

/-! ### the widest reading of an expression -/
def tOf (X : Cx) (e : Expr) : TE := fun σ H Q => ∀ (pins : List (Addr × Obj)) (s : Shared), Inv X pins σ H s → wpAny (model X.prog X.w) X.A (eval e X.env) (EP X pins σ Q) X.xe s
theorem pe_of {X : Cx} {e : Expr} : PE X e (tOf X e) := ⟨fun pins s σ H Q I h => h pins s I⟩
theorem of_pe {X : Cx} {e : Expr} {t : TE} {σ : L2.St} {H : Hp} {Q : VK} (p : PE X e t) (h : t σ H Q) : tOf X e σ H Q := fun pins s I => p.run pins s σ H Q I h
def tTOf (X : Cx) (e : Expr) : TT := fun σ H Q => ∀ (pins : List (Addr × Obj)) (s : Shared), Inv X pins σ H s → wpAny (model X.prog X.w) X.A (isTrue e X.env (eval e X.env)) (TP X pins σ Q) X.xe s
theorem pt_of {X : Cx} {e : Expr} : PT X e (tTOf X e) := ⟨fun pins s σ H Q I h => h pins s I⟩
theorem of_pt {X : Cx} {e : Expr} {t : TT} {σ : L2.St} {H : Hp} {Q : Bool → Hp → Prop} (p : PT X e t) (h : t σ H Q) : tTOf X e σ H Q := fun pins s I => p.run pins s σ H Q I h
def tAOf (X : Cx) (es : List Expr) : TA := fun σ H Q => ∀ (pos : Pos) (pins : List (Addr × Obj)) (s : Shared), Inv X pins σ H s → wpAny (model X.prog X.w) X.A (spliced (backTo pos (starEach es X.env))) (AP X pins σ Q) X.xe s
theorem pa_of {X : Cx} {e : List Expr} : PA X e (tAOf X e) := ⟨fun pos pins s σ H Q I h => h pos pins s I⟩
theorem of_pa {X : Cx} {e : List Expr} {t : TA} {σ : L2.St} {H : Hp} {Q : List V → Hp → Prop} (p : PA X e t) (h : t σ H Q) : tAOf X e σ H Q := fun pos pins s I => p.run pos pins s σ H Q I h
def tSOf (X : Cx) (st : Stmt) : TS := fun D σ H => ∀ (pins : List (Addr × Obj)) (s : Shared), Inv X pins σ H s → wpAny (model X.prog X.w) X.A (exec st X.env) (SP X pins D) X.xe s
theorem ps_of {X : Cx} {st : Stmt} : PS X st (tSOf X st) := ⟨fun pins s σ H D I h => h pins s I⟩
theorem of_ps {X : Cx} {st : Stmt} {t : TS} {σ : L2.St} {H : Hp} {D : Ends} (p : PS X st t) (h : t D σ H) : tSOf X st D σ H := fun pins s I => p.run pins s σ H D I h
def tBOf (X : Cx) (sts : List Stmt) : TS := fun D σ H => ∀ (pins : List (Addr × Obj)) (s : Shared), Inv X pins σ H s → wpAny (model X.prog X.w) X.A (execs sts X.env) (SP X pins D) X.xe s
theorem pss_of {X : Cx} {sts : List Stmt} : PSs X sts (tBOf X sts) := ⟨fun pins s σ H D I h => h pins s I⟩
theorem of_pss {X : Cx} {sts : List Stmt} {t : TS} {σ : L2.St} {H : Hp} {D : Ends} (p : PSs X sts t) (h : t D σ H) : tBOf X sts D σ H := fun pins s I => p.run pins s σ H D I h

/-! ### a result: shared, one's own and new, or borrowed -/
def RM (K : PySem.W.Frag) (m : Md) (H B' H' : Hp) (v : V) (d : D) : Prop := match m with
  | .sh => Rep K B' v d
  | .bo => Bor K B' H' v d
  | .od => Bor K B' H' v d
  | .ow => ∃ p, v = .ref p ∧ H p = none ∧ B' p = none ∧ Own K B' H' p d
theorem fresh_sh {K : PySem.W.Frag} {B H B' H' : Hp} {v : V} {d : D} (x : Ext B H B' H') (r : RM K .ow H B' H' v d) : ∃ B2, Ext B H B2 H' ∧ Ex B' B2 ∧ Rep K B2 v d := by
  obtain ⟨p, rfl, hp, hb, o⟩ := r
  have key : ∀ o, H' p = some o → Ext B H (upd B' p o) H' := fun o ho => ⟨x.hh, x.bb.trans (.new hb), fun a u ha => by
      by_cases q : a = p
      · subst q; rw [upd_same] at ha; cases ha; exact ho
      · rw [upd_ne q] at ha; exact x.bh a u ha, fun a h1 h3 h2 => by
      rw [upd_ne (fun e => h1 (by rw [e]; exact hp))]; exact x.sep a h1 h3 h2⟩
  cases o with
  | lst h r => exact ⟨_, key _ h, .new hb, .lst upd_same (r.mono (.new hb))⟩
  | dic h k o r => exact ⟨_, key _ h, .new hb, .dic upd_same k o (r.mono (.new hb))⟩
  | dit h k o r => exact ⟨_, key _ h, .new hb, .dit upd_same k o (r.mono (.new hb))⟩
  | deq h r => exact ⟨_, key _ h, .new hb, .deq upd_same (r.mono (.new hb))⟩
def EvM (m : Md) (X : Cx) (e : Expr) (Γ : MEnv) (ρ : DEnv) (d : D) : Prop :=
  ∀ lv B0 H0 B H σ, Stt X.K Γ lv B0 H0 B H σ ρ → ∀ Q : VK, (∀ v B' H', Ext B H B' H' → RM X.K m H B' H' v d → Q v H') → tOf X e σ H Q
def EvT (X : Cx) (e : Expr) (Γ : MEnv) (ρ : DEnv) (b : Bool) : Prop :=
  ∀ lv B0 H0 B H σ, Stt X.K Γ lv B0 H0 B H σ ρ → ∀ Q : Bool → Hp → Prop, (∀ B' H', Ext B H B' H' → Q b H') → tTOf X e σ H Q
section
variable {X : Cx} {e : Expr} {Γ : MEnv} {ρ : DEnv} {d : D}
theorem EvM.sh_of (h : EvM .ow X e Γ ρ d) : EvM .sh X e Γ ρ d := fun lv B0 H0 B H σ S Q q => h lv B0 H0 B H σ S Q fun v B' H' x r =>
  let ⟨B2, x2, _, r2⟩ := fresh_sh x r; q v B2 H' x2 r2
theorem EvM.bo_of (h : EvM .sh X e Γ ρ d) : EvM .bo X e Γ ρ d := fun lv B0 H0 B H σ S Q q => h lv B0 H0 B H σ S Q fun v B' H' x r => q v B' H' x (.inl r)
/-- a new one serves everywhere -/
theorem EvM.all_of (h : EvM .ow X e Γ ρ d) : ∀ m, EvM m X e Γ ρ d
  | .ow => h
  | .od => h.sh_of.bo_of
  | .sh => h.sh_of
  | .bo => h.sh_of.bo_of
theorem EvM.shbo (h : EvM .sh X e Γ ρ d) : ∀ m, m ≠ .ow → EvM m X e Γ ρ d
  | .ow, n => absurd rfl n
  | .od, _ => h.bo_of
  | .sh, _ => h
  | .bo, _ => h.bo_of
end
end DL

set_option Elab.async false
set_option linter.all false
set_option maxRecDepth 100000
set_option maxHeartbeats 4000000
namespace DL
open PySem PySem.Spec L2
variable [TbC]

/-! ### texts -/
theorem okS_len {x : Str} (h : okS x) : x.length ≤ sizeLine := h.2
theorem okS_of {x : Str} (h : x.cps.all (· < 0x110000) = true) (h2 : x.length ≤ sizeLine) : okS x := ⟨h, h2⟩
theorem okS_iff {x : Str} : okS x ↔ (∀ c ∈ x.cps.toList, c < 0x110000) ∧ x.cps.toList.length ≤ sizeLine := by
  unfold okS PyData.strOk
  rw [Array.all_eq_true_iff_forall_mem]
  constructor
  · rintro ⟨a, b⟩
    refine ⟨fun c hc => ?_, ?_⟩
    · exact of_decide_eq_true (a c (Array.mem_toList_iff.mp hc))
    · rw [Array.length_toList]; exact b
  · rintro ⟨a, b⟩
    refine ⟨fun c hc => ?_, ?_⟩
    · exact decide_eq_true (a c (Array.mem_toList_iff.mpr hc))
    · rw [Array.length_toList] at b; exact b
theorem str_app (i j : Str) : (i ++ j).cps.toList = i.cps.toList ++ j.cps.toList := by
  show (i.cps ++ j.cps).toList = _
  rw [Array.toList_append]
omit [TbC] in
theorem str_len (i : Str) : i.cps.toList.length = i.length := by rw [Array.length_toList]; rfl
theorem okS_app {i j : Str} (hi : okS i) (hj : okS j) (h : i.length + j.length ≤ sizeLine) : okS (i ++ j) := by
  rw [okS_iff] at hi hj ⊢
  rw [str_app]
  refine ⟨fun c hc => ?_, ?_⟩
  · rcases List.mem_append.mp hc with q | q
    · exact hi.1 c q
    · exact hj.1 c q
  · rw [List.length_append, str_len, str_len]; exact h
theorem okS_one {x : Str} {c : Nat} (h : okS x) (hc : c ∈ x.cps.toList) : okS ⟨#[c]⟩ := by
  rw [okS_iff] at h ⊢
  refine ⟨fun d hd => ?_, by show 1 ≤ sizeLine; decide⟩
  have : d = c := by simpa using hd
  rw [this]; exact h.1 c hc
theorem okS_sub {x y : Str} (h : okS x) (hs : ∀ c ∈ y.cps.toList, c ∈ x.cps.toList) (hl : y.length ≤ x.length) : okS y := by
  rw [okS_iff] at h ⊢
  refine ⟨fun c hc => h.1 c (hs c hc), ?_⟩
  have := h.2
  rw [str_len] at this ⊢; omega
theorem okS_cut {x : Str} (lo hi : Option Int) (h : okS x) : okS (cutS x lo hi) := by
  have e : ∃ a b, (cutS x lo hi).cps.toList = (x.cps.toList.drop a).take b := ⟨HT.sIx x.length 0 lo, HT.sIx x.length x.length hi - HT.sIx x.length 0 lo, by
    unfold cutS
    simp [Str.length]⟩
  obtain ⟨a, b, e⟩ := e
  refine okS_sub h (fun c hc => ?_) ?_
  · rw [e] at hc
    exact List.mem_of_mem_drop (List.mem_of_mem_take hc)
  · rw [← str_len, ← str_len, e, List.length_take, List.length_drop]; omega

/-! ### data as the library's data -/
mutual
def toPy : D → PyData
  | .non => .none
  | .bl b => .bool b
  | .int i => .int i
  | .str x => .str x
  | .lst l => .list (toPys l)
  | .tup l => .tuple (toPys l)
  | .dic _ _ => .none
  | .dit _ _ => .none
  | .deq _ => .none
  | .scr _ => .none
def toPys : List D → List PyData
  | [] => []
  | x :: xs => toPy x :: toPys xs
end
mutual
theorem eqv_py : ∀ (n m : Nat) (x y : D), dOk n x = true → dOk m y = true → PyData.eqv (toPy x) (toPy y) = eqv x y
  | n, m, .non, y, _, h => by cases y <;> simp_all [toPy, PyData.eqv, eqv, dOk]
  | n, m, .bl b, y, _, h => by cases y <;> simp_all [toPy, PyData.eqv, eqv, dOk]
  | n, m, .int b, y, _, h => by cases y <;> simp_all [toPy, PyData.eqv, eqv, dOk]
  | n, m, .str b, y, _, h => by cases y <;> simp_all [toPy, PyData.eqv, eqv, dOk]
  | 0, m, .lst l, y, h, _ => by simp [dOk] at h
  | 0, m, .tup l, y, h, _ => by simp [dOk] at h
  | n, m, .dic _ _, y, h, _ => by cases n <;> simp [dOk] at h
  | n, m, .scr _, y, h, _ => by cases n <;> simp [dOk] at h
  | n + 1, m, .lst l, .lst k, h, h' => by
    cases m with
    | zero => simp [dOk] at h'
    | succ m => rw [dOk] at h h'; simp only [toPy, PyData.eqv, eqv]; exact eqvs_py n m l k h h'
  | n + 1, m, .tup l, .tup k, h, h' => by
    cases m with
    | zero => simp [dOk] at h'
    | succ m => rw [dOk] at h h'; simp only [toPy, PyData.eqv, eqv]; exact eqvs_py n m l k h h'
  | n + 1, m, .lst l, .non, _, _ => by simp [toPy, PyData.eqv, eqv]
  | n + 1, m, .lst l, .bl _, _, _ => by simp [toPy, PyData.eqv, eqv]
  | n + 1, m, .lst l, .int _, _, _ => by simp [toPy, PyData.eqv, eqv]
  | n + 1, m, .lst l, .str _, _, _ => by simp [toPy, PyData.eqv, eqv]
  | n + 1, m, .lst l, .tup _, _, _ => by simp [toPy, PyData.eqv, eqv]
  | n + 1, m, .lst l, .dic _ _, _, h => by cases m <;> simp [dOk] at h
  | n + 1, m, .lst l, .scr _, _, h => by cases m <;> simp [dOk] at h
  | n + 1, m, .tup l, .non, _, _ => by simp [toPy, PyData.eqv, eqv]
  | n + 1, m, .tup l, .bl _, _, _ => by simp [toPy, PyData.eqv, eqv]
  | n + 1, m, .tup l, .int _, _, _ => by simp [toPy, PyData.eqv, eqv]
  | n + 1, m, .tup l, .str _, _, _ => by simp [toPy, PyData.eqv, eqv]
  | n + 1, m, .tup l, .lst _, _, _ => by simp [toPy, PyData.eqv, eqv]
  | n + 1, m, .tup l, .dic _ _, _, h => by cases m <;> simp [dOk] at h
  | n + 1, m, .tup l, .scr _, _, h => by cases m <;> simp [dOk] at h
theorem eqvs_py : ∀ (n m : Nat) (x y : List D), dOks n x = true → dOks m y = true → PyData.eqvAll (toPys x) (toPys y) = eqvs x y
  | _, _, [], [], _, _ => by simp [toPys, PyData.eqvAll, eqvs]
  | _, _, [], _ :: _, _, _ => by simp [toPys, PyData.eqvAll, eqvs]
  | _, _, _ :: _, [], _, _ => by simp [toPys, PyData.eqvAll, eqvs]
  | n, m, x :: xs, y :: ys, h, h' => by
    simp only [dOks, Bool.and_eq_true] at h h'
    simp only [toPys, PyData.eqvAll, eqvs]
    rw [eqv_py n m x y h.1 h'.1, eqvs_py n m xs ys h.2 h'.2]
end
mutual
theorem depth_py : ∀ (n : Nat) (x : D), dOk n x = true → (toPy x).depth ≤ n
  | n, .non, _ => by simp [toPy, PyData.depth]
  | n, .bl _, _ => by simp [toPy, PyData.depth]
  | n, .int _, _ => by simp [toPy, PyData.depth]
  | n, .str _, _ => by simp [toPy, PyData.depth]
  | 0, .lst l, h => by simp [dOk] at h
  | 0, .tup l, h => by simp [dOk] at h
  | n, .dic _ _, h => by cases n <;> simp [dOk] at h
  | n, .scr _, h => by cases n <;> simp [dOk] at h
  | n + 1, .lst l, h => by rw [dOk] at h; simp only [toPy, PyData.depth]; have := depths_py n l h; omega
  | n + 1, .tup l, h => by rw [dOk] at h; simp only [toPy, PyData.depth]; have := depths_py n l h; omega
theorem depths_py : ∀ (n : Nat) (x : List D), dOks n x = true → PyData.depthAll (toPys x) ≤ n
  | n, [], _ => by simp [toPys, PyData.depthAll]
  | n, x :: xs, h => by
    simp only [dOks, Bool.and_eq_true] at h
    simp only [toPys, PyData.depthAll]
    have h1 := depth_py n x h.1
    have h2 := depths_py n xs h.2
    omega
end
mutual
theorem lay_py {K : PySem.W.Frag} {B : Hp} : ∀ {n : Nat} {v : V} {x : D}, dOk n x = true → Rep K B v x → (toPy x).canLay0 = true
  | n, _, _, _, .non => by simp [toPy, PyData.canLay0]
  | n, _, _, _, .bl _ => by simp [toPy, PyData.canLay0]
  | n, _, _, _, .int _ => by simp [toPy, PyData.canLay0]
  | n, _, _, _, .str _ h => by simp [toPy, PyData.canLay0]; exact h.1
  | 0, _, _, h, .lst _ _ => by simp [dOk] at h
  | 0, _, _, h, .tup _ _ => by simp [dOk] at h
  | n, _, _, h, .dic _ _ _ _ => by cases n <;> simp [dOk] at h
  | n, _, _, h, .dit _ _ _ _ => by cases n <;> simp [dOk] at h
  | n, _, _, h, .deq _ _ => by cases n <;> simp [dOk] at h
  | n, _, _, h, .scr _ _ => by cases n <;> simp [dOk] at h
  | n + 1, _, _, h, .lst _ r => by rw [dOk] at h; simp only [toPy, PyData.canLay0]; exact lays_py h r
  | n + 1, _, _, h, .tup _ r => by rw [dOk] at h; simp only [toPy, PyData.canLay0]; exact lays_py h r
theorem lays_py {K : PySem.W.Frag} {B : Hp} : ∀ {n : Nat} {v : List V} {x : List D}, dOks n x = true → Reps K B v x → PyData.canLayAll0 (toPys x) = true
  | _, _, _, _, .nil => by simp [toPys, PyData.canLayAll0]
  | n, _, _, h, .cons r t => by
    simp only [dOks, Bool.and_eq_true] at h
    simp only [toPys, PyData.canLayAll0, Bool.and_eq_true]
    exact ⟨lay_py h.1 r, lays_py h.2 t⟩
end
mutual
theorem dp_of {K : PySem.W.Frag} {B H : Hp} (e : Ex B H) : ∀ {n : Nat} {v : V} {x : D}, dOk n x = true → Rep K B v x → Dp K H v (toPy x)
  | n, _, _, _, .non => by simp only [toPy]; exact .non
  | n, _, _, _, .bl _ => by simp only [toPy]; exact .bl _
  | n, _, _, _, .int _ => by simp only [toPy]; exact .int _
  | n, _, _, _, .str _ h => by simp only [toPy]; exact .str _
  | 0, _, _, h, .lst _ _ => by simp [dOk] at h
  | 0, _, _, h, .tup _ _ => by simp [dOk] at h
  | n, _, _, h, .dic _ _ _ _ => by cases n <;> simp [dOk] at h
  | n, _, _, h, .dit _ _ _ _ => by cases n <;> simp [dOk] at h
  | n, _, _, h, .deq _ _ => by cases n <;> simp [dOk] at h
  | n, _, _, h, .scr _ _ => by cases n <;> simp [dOk] at h
  | n + 1, _, _, h, .lst l r => by rw [dOk] at h; simp only [toPy]; exact .lst (SqL.of (e _ _ l)) (dps_of e h r)
  | n + 1, _, _, h, .tup l r => by rw [dOk] at h; simp only [toPy]; exact .tup (SqT.of (e _ _ l)) (dps_of e h r)
theorem dps_of {K : PySem.W.Frag} {B H : Hp} (e : Ex B H) : ∀ {n : Nat} {v : List V} {x : List D}, dOks n x = true → Reps K B v x → DpAll K H v (toPys x)
  | _, _, _, _, .nil => by simp only [toPys]; exact .nil
  | n, _, _, h, .cons r t => by
    simp only [dOks, Bool.and_eq_true] at h
    simp only [toPys]
    exact .cons (dp_of e h.1 r) (dps_of e h.2 t)
end
theorem shaped_of {n : Nat} {x : D} (hn : n ≤ 64) (h : dOk n x = true) (hl : (toPy x).canLay0 = true) : SeqAt.shaped (toPy x) = true := by
  unfold SeqAt.shaped
  rw [Bool.and_eq_true]
  exact ⟨hl, decide_eq_true (Nat.le_trans (depth_py n x h) hn)⟩
/-- borrowed data too -/
theorem bor_dp {K : PySem.W.Frag} {B H : Hp} {n : Nat} {v : V} {x : D} (e : Ex B H) (hn : n ≤ 64) (h : dOk n x = true) (r : Bor K B H v x) : Dp K H v (toPy x) ∧ SeqAt.shaped (toPy x) = true := by
  rcases r with r | ⟨p, rfl, r⟩
  · exact ⟨dp_of e h r, shaped_of hn h (lay_py h r)⟩
  · cases r with
    | lst hp r =>
      cases n with
      | zero => simp [dOk] at h
      | succ n =>
        have h0 := h
        rw [dOk] at h
        refine ⟨by simp only [toPy]; exact .lst (SqL.of hp) (dps_of e h r), shaped_of hn h0 ?_⟩
        simp only [toPy, PyData.canLay0]; exact lays_py h r
    | dic _ _ _ _ => cases n <;> simp [dOk] at h
    | dit _ _ _ _ => cases n <;> simp [dOk] at h
    | deq _ _ => cases n <;> simp [dOk] at h
theorem any_py {n m : Nat} {x : D} (hx : dOk m x = true) : ∀ {l : List D}, dOks n l = true → ((toPys l).any fun z => PyData.eqv z (toPy x)) = l.any fun z => eqv z x
  | [], _ => by simp [toPys]
  | y :: ys, h => by
    simp only [dOks, Bool.and_eq_true] at h
    simp only [toPys, List.any_cons]
    rw [eqv_py n m y x h.1 hx, any_py hx h.2]
end DL

set_option Elab.async false
set_option linter.all false
set_option maxRecDepth 100000
set_option maxHeartbeats 4000000
namespace DL
open PySem PySem.Spec L2
variable [TbC]

section
variable {K : PySem.W.Frag} {B H B' H' : Hp} {v x y : V} {d : D}
theorem bor_int {i : Int} (h : Bor K B H x (.int i)) : x = .int i := by
  rcases h with h | ⟨p, _, h⟩
  · cases h; rfl
  · cases h
theorem bor_bl {i : Bool} (h : Bor K B H x (.bl i)) : x = .bl i := by
  rcases h with h | ⟨p, _, h⟩
  · cases h; rfl
  · cases h
theorem bor_non (h : Bor K B H x .non) : x = .non := by
  rcases h with h | ⟨p, _, h⟩
  · cases h; rfl
  · cases h
theorem bor_str {i : Str} (h : Bor K B H x (.str i)) : x = .str i ∧ okS i := by
  rcases h with h | ⟨p, _, h⟩
  · cases h with | str _ h => exact ⟨rfl, h⟩
  · cases h
theorem bor_lst {l : List D} (e : Ex B H) (h : Bor K B H x (.lst l)) : ∃ a vs, x = .ref a ∧ H a = some (.lst vs) ∧ Reps K B vs l := by
  rcases h with h | ⟨p, rfl, h⟩
  · cases h with | lst h r => exact ⟨_, _, rfl, e _ _ h, r⟩
  · cases h with | lst hp r => exact ⟨_, _, rfl, hp, r⟩
theorem bor_tup {l : List D} (h : Bor K B H x (.tup l)) : ∃ a vs, x = .ref a ∧ B a = some (.tup vs) ∧ Reps K B vs l := by
  rcases h with h | ⟨p, rfl, h⟩
  · cases h with | tup h r => exact ⟨_, _, rfl, h, r⟩
  · cases h
theorem bor_scr {l : List D} (h : Bor K B H x (.scr l)) : ∃ a vs, x = .ref a ∧ SqL K B a vs ∧ Reps K B vs l := by
  rcases h with h | ⟨p, rfl, h⟩
  · cases h with | scr h r => exact ⟨_, _, rfl, h, r⟩
  · cases h
theorem bor_dic {ks : List Key} {ds : List D} (e : Ex B H) (h : Bor K B H x (.dic ks ds)) : ∃ a kvs, x = .ref a ∧ H a = some (.dK kvs) ∧ kvs.map (·.1) = ks ∧ KsOk ks ∧ Reps K B (kvs.map (·.2)) ds := by
  rcases h with h | ⟨p, rfl, h⟩
  · cases h with | dic h k o r => exact ⟨_, _, rfl, e _ _ h, k, o, r⟩
  · cases h with | dic hp k o r => exact ⟨_, _, rfl, hp, k, o, r⟩
theorem bor_dit {ks : List (List Key)} {ds : List D} (e : Ex B H) (h : Bor K B H x (.dit ks ds)) : ∃ a kvs, x = .ref a ∧ H a = some (.dT kvs) ∧ kvs.map (·.1) = ks ∧ KsOkT ks ∧ Reps K B (kvs.map (·.2)) ds := by
  rcases h with h | ⟨p, rfl, h⟩
  · cases h with | dit h k o r => exact ⟨_, _, rfl, e _ _ h, k, o, r⟩
  · cases h with | dit hp k o r => exact ⟨_, _, rfl, hp, k, o, r⟩
theorem bor_deq {l : List D} (e : Ex B H) (h : Bor K B H x (.deq l)) : ∃ a vs, x = .ref a ∧ H a = some (DqO a vs) ∧ Reps K B vs l := by
  rcases h with h | ⟨p, rfl, h⟩
  · cases h with | deq h r => exact ⟨_, _, rfl, e _ _ h, r⟩
  · cases h with | deq hp r => exact ⟨_, _, rfl, hp, r⟩
theorem RM.back {m : Md} {H0 : Hp} (e : Ex H0 H) (r : RM K m H B' H' v d) : RM K m H0 B' H' v d := by
  cases m with
  | sh => exact r
  | bo => exact r
  | od => exact r
  | ow => obtain ⟨p, a, b, c⟩ := r; exact ⟨p, a, e.back b, c⟩
/-- a new list -/
theorem new_lst {vs : List V} {ds : List D} (e : Ex B H) (r : Reps K B vs ds) {Q : VK} (q : ∀ v B' H', Ext B H B' H' → RM K .ow H B' H' v (.lst ds) → Q v H') : ∀ p, H p = none → Q (.ref p) (upd H p (.lst vs)) := fun p hp =>
  q _ _ _ (.own e hp) ⟨p, rfl, hp, e.back hp, .lst upd_same r⟩
theorem new_tup {vs : List V} {ds : List D} (e : Ex B H) (r : Reps K B vs ds) {Q : VK} (q : ∀ v B' H', Ext B H B' H' → RM K .sh H B' H' v (.tup ds) → Q v H') : ∀ p, H p = none → Q (.ref p) (upd H p (.tup vs)) := fun p hp =>
  q _ _ _ (.new e hp) (.tup upd_same (r.mono (.new (e.back hp))))
theorem same_val (e : Ex B H) (r : Rep K B v d) {Q : VK} (q : ∀ v B' H', Ext B H B' H' → RM K .sh H B' H' v d → Q v H') : Q v H := q _ _ _ (.refl e) r
end

/-- what an operation on values gives of data -/
def OpSem (K : PySem.W.Frag) (r : R2) (m : Md) (x y d : D) : Prop := ∀ B H v w, Ex B H → Bor K B H v x → Bor K B H w y → ∀ Q : VK, (∀ u B' H', Ext B H B' H' → RM K m H B' H' u d → Q u H') → r v w H Q
section
variable {X : Cx} {e a b c : Expr} {Γ : MEnv} {ρ : DEnv} {d x y z : D} {m : Md} {pos : Pos}
theorem ev_op2 {r : R2} (pe : PE X e (tOp r (tOf X a) (tOf X b))) (sem : OpSem X.K r m x y d) (ha : EvM .bo X a Γ ρ x) (hb : EvM .bo X b Γ ρ y) : EvM m X e Γ ρ d := fun lv B0 H0 B H σ S Q q => by
  refine of_pe pe ?_
  refine ha lv B0 H0 B H σ S _ fun v1 B1 H1 x1 r1 => ?_
  refine hb lv B0 H0 B1 H1 σ (S.grow x1) _ fun v2 B2 H2 x2 r2 => ?_
  exact sem B2 H2 v1 v2 x2.bh (Bor.mono x2.bb x2.hh r1) r2 Q fun v B' H' x3 r3 => q v B' H' ((x1.trans x2).trans x3) (r3.back (x1.hh.trans x2.hh))
theorem ev_tst {r : R2} {k : Bool} (pe : PT X e (tTest (tOp r (tOf X a) (tOf X b)))) (sem : OpSem X.K r .sh x y (.bl k)) (ha : EvM .bo X a Γ ρ x) (hb : EvM .bo X b Γ ρ y) : EvT X e Γ ρ k := fun lv B0 H0 B H σ S Q q => by
  refine of_pt pe ?_
  refine ha lv B0 H0 B H σ S _ fun v1 B1 H1 x1 r1 => ?_
  refine hb lv B0 H0 B1 H1 σ (S.grow x1) _ fun v2 B2 H2 x2 r2 => ?_
  refine sem B2 H2 v1 v2 x2.bh (Bor.mono x2.bb x2.hh r1) r2 _ fun v B' H' x3 r3 => ?_
  cases r3
  exact ⟨k, rfl, q B' H' ((x1.trans x2).trans x3)⟩
end

section
variable {K : PySem.W.Frag} {x y d : D}
theorem sm_int0 {g : Int → Int → Int} {i j : Int} : OpSem K (rI0 fun i j => .int (g i j)) .sh (.int i) (.int j) (.int (g i j)) := fun B H v w e hv hw Q q => by
  cases bor_int hv; cases bor_int hw
  exact ⟨i, j, rfl, rfl, same_val e (.int _) q⟩
theorem sm_bl0 {g : Int → Int → Bool} {i j : Int} : OpSem K (rI0 fun i j => .bl (g i j)) .sh (.int i) (.int j) (.bl (g i j)) := fun B H v w e hv hw Q q => by
  cases bor_int hv; cases bor_int hw
  exact ⟨i, j, rfl, rfl, same_val e (.bl _) q⟩
theorem sm_intC {C : Int → Int → Prop} {g : Int → Int → Int} {i j : Int} (hc : C i j) : OpSem K (rI C fun i j => .int (g i j)) .sh (.int i) (.int j) (.int (g i j)) := fun B H v w e hv hw Q q => by
  cases bor_int hv; cases bor_int hw
  exact ⟨i, j, rfl, rfl, hc, same_val e (.int _) q⟩
def rAddS : R2 := fun x y H Q => ∃ i j, x = .str i ∧ y = .str j ∧ i.length + j.length ≤ sizeLine ∧ Q (.str (i ++ j)) H
theorem sm_addS {i j : Str} (h : i.length + j.length ≤ lim) : OpSem K rAddS .sh (.str i) (.str j) (.str (i ++ j)) := fun B H v w e hv hw Q q => by
  obtain ⟨rfl, oi⟩ := bor_str hv; obtain ⟨rfl, oj⟩ := bor_str hw
  exact ⟨i, j, rfl, rfl, lim_le h, same_val e (.str _ (okS_app oi oj (lim_le h))) q⟩
def rMulS : R2 := fun x y H Q => ∃ z n, x = V.str z ∧ y = V.int n ∧ MulOk z n ∧ Q (.str (Txt.mul z n)) H
theorem op_mulS {X : Cx} : OpR X (binaryOp .Mult) rMulS := by
  intro pins s σ H x y v u Q I rx ry h
  obtain ⟨z, n, rfl, rfl, hk, q⟩ := h
  obtain ⟨t, rfl⟩ := rx
  obtain ⟨t2, rfl⟩ := ry
  exact SB.mul hk fun t' k => ⟨.str _, H, I.tok _, ⟨t', rfl⟩, q⟩
theorem okS_rep {a : Array Nat} (ha : okS ⟨a⟩) : ∀ (k : Nat) (acc : Array Nat), okS ⟨acc⟩ → acc.size + k * a.size ≤ sizeLine → okS ⟨(List.replicate k a).foldl (· ++ ·) acc⟩
  | 0, acc, h, _ => h
  | k + 1, acc, h, hl => by
    rw [List.replicate_succ, List.foldl_cons]
    have e1 : (k + 1) * a.size = k * a.size + a.size := by rw [Nat.add_mul, Nat.one_mul]
    refine okS_rep ha k _ (okS_app (i := ⟨acc⟩) (j := ⟨a⟩) h ha (by show acc.size + a.size ≤ _; omega)) ?_
    rw [Array.size_append]; omega
theorem okS_empty : okS ⟨#[]⟩ := by
  rw [okS_iff]
  exact ⟨fun c hc => by simp at hc, Nat.zero_le _⟩
theorem okS_mul {z : Str} {n : Int} (o : okS z) (h : z.length * n.toNat ≤ lim) : okS (Txt.mul z n) := by
  unfold Txt.mul
  split
  · exact okS_empty
  · split
    · exact o
    · refine okS_rep o _ _ okS_empty ?_
      have : lim ≤ sizeLine := by decide
      have e : z.cps.size = z.length := rfl
      rw [e, Nat.mul_comm]
      show 0 + _ ≤ _
      omega
theorem sm_mulS {z : Str} {n : Int} (h1 : -(lim : Int) ≤ n) (h2 : n ≤ lim) (h : z.length * n.toNat ≤ lim) : OpSem K rMulS .sh (.str z) (.int n) (.str (Txt.mul z n)) := fun B H v w e hv hw Q q => by
  obtain ⟨rfl, oz⟩ := bor_str hv; cases bor_int hw
  have hl : (lim : Int) = 100000 := rfl
  refine ⟨z, n, rfl, rfl, ⟨?_, fun g1 g2 => ?_, fun _ _ => ?_⟩, same_val e (.str _ (okS_mul oz h)) q⟩
  · rw [Bool.or_eq_false_iff, decide_eq_false_iff_not, decide_eq_false_iff_not]; omega
  · have hn : (n.toNat : Int) = n := by omega
    have h' : (z.length : Int) * n ≤ 100000 := by rw [← hn, ← Int.natCast_mul]; exact Int.ofNat_le.mpr h
    have : (z.length : Int) ≤ (2 ^ 63 - 1) / n := by
      rw [Int.le_ediv_iff_mul_le (by omega)]
      omega
    omega
  · show decide (_ > sizeLine) = false
    have : lim ≤ sizeLine := by decide
    rw [decide_eq_false_iff_not]; omega
theorem sm_cat {i j : List D} (h : i.length + j.length ≤ lim) : OpSem K rCat .ow (.lst i) (.lst j) (.lst (i ++ j)) := fun B H v w e hv hw Q q => by
  obtain ⟨a, vs, rfl, ha, ra⟩ := bor_lst e hv; obtain ⟨b, ws, rfl, hb, rb⟩ := bor_lst e hw
  refine ⟨a, b, vs, ws, rfl, rfl, ha, hb, ?_, new_lst e (ra.append rb) q⟩
  rw [ra.length, rb.length]; exact lim_le h
theorem sm_catT {i j : List D} (h : i.length + j.length ≤ lim) : OpSem K (rCatA K) .sh (.tup i) (.tup j) (.tup (i ++ j)) := fun B H v w e hv hw Q q => by
  obtain ⟨a, vs, rfl, ha, ra⟩ := bor_tup hv; obtain ⟨b, ws, rfl, hb, rb⟩ := bor_tup hw
  refine ⟨a, b, vs, ws, rfl, rfl, SqT.of (e _ _ ha), SqT.of (e _ _ hb), by rw [ra.length, rb.length]; exact lim_le h, fun z => ?_, fun _ z => ?_, fun _ _ => new_tup e (ra.append rb) q⟩
  · subst z; cases ra; exact same_val e (.tup hb rb) q
  · subst z; cases rb; rw [List.append_nil] at q; exact same_val e (.tup ha ra) q
theorem eqD_nd {b : Bool} (h : eqD x y = some b) (hn : ¬ ∃ ks ds ls es, x = .dic ks ds ∧ y = .dic ls es) : dOk 60 x = true ∧ dOk 60 y = true ∧ b = eqv x y := by
  unfold eqD at h
  split at h
  · rename_i ks ds ls es; exact absurd ⟨ks, ds, ls, es, rfl, rfl⟩ hn
  · split at h
    · rename_i hk
      simp only [Bool.and_eq_true] at hk
      cases h
      exact ⟨hk.1, hk.2, rfl⟩
    · cases h
theorem sm_eq {b : Bool} (h : eqD x y = some b) (hn : ¬ ∃ ks ds ls es, x = .dic ks ds ∧ y = .dic ls es) : OpSem K (rEqD K) .sh x y (.bl b) := fun B H v w e hv hw Q q => by
  obtain ⟨k1, k2, rfl⟩ := eqD_nd h hn
  obtain ⟨d1, s1⟩ := bor_dp e (by decide) k1 hv
  obtain ⟨d2, s2⟩ := bor_dp e (by decide) k2 hw
  refine ⟨_, _, d1, d2, s1, s2, ?_⟩
  rw [eqv_py 60 60 x y k1 k2]
  exact same_val e (.bl _) q
theorem sm_ne {b : Bool} (h : eqD x y = some b) (hn : ¬ ∃ ks ds ls es, x = .dic ks ds ∧ y = .dic ls es) : OpSem K (rNeD K) .sh x y (.bl (!b)) := fun B H v w e hv hw Q q => by
  obtain ⟨k1, k2, rfl⟩ := eqD_nd h hn
  obtain ⟨d1, s1⟩ := bor_dp e (by decide) k1 hv
  obtain ⟨d2, s2⟩ := bor_dp e (by decide) k2 hw
  refine ⟨_, _, d1, d2, s1, s2, ?_⟩
  rw [eqv_py 60 60 x y k1 k2]
  exact same_val e (.bl _) q
/-- x in t, t a tuple of data of any depth -/
def rInT (K : PySem.W.Frag) : R2 := fun x y H Q => ∃ d ds, Dp K H x d ∧ Dp K H y (.tuple ds) ∧ SeqAt.shaped d = true ∧ SeqAt.shaped (.tuple ds) = true ∧ Q (.bl (ds.any fun z => PyData.eqv z d)) H
def rNotInT (K : PySem.W.Frag) : R2 := fun x y H Q => ∃ d ds, Dp K H x d ∧ Dp K H y (.tuple ds) ∧ SeqAt.shaped d = true ∧ SeqAt.shaped (.tuple ds) = true ∧ Q (.bl (!ds.any fun z => PyData.eqv z d)) H
theorem lay_tuple {ds : List PyData} (h : PyData.canLay0 (.tuple ds) = true) : PyData.canLayAll0 ds = true := by simpa [PyData.canLay0] using h
theorem op_inT {X : Cx} (hu : X.A.units + 65 < cLine) : OpR X (compareOp .In) (rInT X.K) := by
  intro pins s σ H x y v u Q I rx ry h
  obtain ⟨d, ds, hd, he, sd, se, q⟩ := h
  obtain ⟨as, r1⟩ := Dp.reads I d x v hd rx
  obtain ⟨bs, r2⟩ := Dp.reads I (.tuple ds) y u he ry
  exact SeqAt.in_tuple_reads r2 r1 (lay_tuple (SeqAt.canLay_of_shaped se)) (SeqAt.canLay_of_shaped sd) (by have h1 := SeqAt.depth_of_shaped sd; have h2 := Nat.min_le_right (PyData.depthAll ds) d.depth; omega) ⟨.bl _, H, I, rfl, q⟩
theorem op_notInT {X : Cx} (hu : X.A.units + 65 < cLine) : OpR X (compareOp .NotIn) (rNotInT X.K) := by
  intro pins s σ H x y v u Q I rx ry h
  obtain ⟨d, ds, hd, he, sd, se, q⟩ := h
  obtain ⟨as, r1⟩ := Dp.reads I d x v hd rx
  obtain ⟨bs, r2⟩ := Dp.reads I (.tuple ds) y u he ry
  exact SeqAt.notIn_tuple_reads r2 r1 (lay_tuple (SeqAt.canLay_of_shaped se)) (SeqAt.canLay_of_shaped sd) (by have h1 := SeqAt.depth_of_shaped sd; have h2 := Nat.min_le_right (PyData.depthAll ds) d.depth; omega) ⟨.bl _, H, I, rfl, q⟩
theorem inD_l {l : List D} {b : Bool} (h : inD x (.lst l) = some b) : dOk 59 x = true ∧ dOk 60 (.lst l) = true ∧ b = l.any fun z => eqv z x := by
  unfold inD at h
  dsimp only at h
  split at h
  · rename_i hk
    simp only [Bool.and_eq_true] at hk
    cases h
    exact ⟨hk.1, hk.2, rfl⟩
  · cases h
theorem inD_t {l : List D} {b : Bool} (h : inD x (.tup l) = some b) : dOk 59 x = true ∧ dOk 60 (.tup l) = true ∧ b = l.any fun z => eqv z x := by
  unfold inD at h
  dsimp only at h
  split at h
  · rename_i hk
    simp only [Bool.and_eq_true] at hk
    cases h
    exact ⟨hk.1, hk.2, rfl⟩
  · cases h
theorem any_in {l : List D} (h1 : dOk 59 x = true) (h2 : dOks 59 l = true) : ((toPys l).any fun z => PyData.eqv z (toPy x)) = l.any fun z => eqv z x := any_py h1 h2
theorem sm_inL {l : List D} {b : Bool} (h : inD x (.lst l) = some b) : OpSem K (rInD K) .sh x (.lst l) (.bl b) := fun B H v w e hv hw Q q => by
  obtain ⟨h1, h2, rfl⟩ := inD_l h
  obtain ⟨d1, s1⟩ := bor_dp e (by decide) h1 hv
  obtain ⟨d2, s2⟩ := bor_dp e (by decide) h2 hw
  simp only [toPy] at d2 s2
  refine ⟨_, _, d1, d2, s1, s2, ?_⟩
  rw [any_in h1 (by simpa [dOk] using h2)]
  exact same_val e (.bl _) q
theorem sm_niL {l : List D} {b : Bool} (h : inD x (.lst l) = some b) : OpSem K (rNotInD K) .sh x (.lst l) (.bl (!b)) := fun B H v w e hv hw Q q => by
  obtain ⟨h1, h2, rfl⟩ := inD_l h
  obtain ⟨d1, s1⟩ := bor_dp e (by decide) h1 hv
  obtain ⟨d2, s2⟩ := bor_dp e (by decide) h2 hw
  simp only [toPy] at d2 s2
  refine ⟨_, _, d1, d2, s1, s2, ?_⟩
  rw [any_in h1 (by simpa [dOk] using h2)]
  exact same_val e (.bl _) q
theorem sm_inT {l : List D} {b : Bool} (h : inD x (.tup l) = some b) : OpSem K (rInT K) .sh x (.tup l) (.bl b) := fun B H v w e hv hw Q q => by
  obtain ⟨h1, h2, rfl⟩ := inD_t h
  obtain ⟨d1, s1⟩ := bor_dp e (by decide) h1 hv
  obtain ⟨d2, s2⟩ := bor_dp e (by decide) h2 hw
  simp only [toPy] at d2 s2
  refine ⟨_, _, d1, d2, s1, s2, ?_⟩
  rw [any_in h1 (by simpa [dOk] using h2)]
  exact same_val e (.bl _) q
theorem sm_niT {l : List D} {b : Bool} (h : inD x (.tup l) = some b) : OpSem K (rNotInT K) .sh x (.tup l) (.bl (!b)) := fun B H v w e hv hw Q q => by
  obtain ⟨h1, h2, rfl⟩ := inD_t h
  obtain ⟨d1, s1⟩ := bor_dp e (by decide) h1 hv
  obtain ⟨d2, s2⟩ := bor_dp e (by decide) h2 hw
  simp only [toPy] at d2 s2
  refine ⟨_, _, d1, d2, s1, s2, ?_⟩
  rw [any_in h1 (by simpa [dOk] using h2)]
  exact same_val e (.bl _) q
def rIsN : R2 := fun x y H Q => y = .non ∧ Q (.bl (decide (x = .non))) H
def rNotN : R2 := fun x y H Q => y = .non ∧ Q (.bl (!decide (x = .non))) H
def isN : D → Bool
  | .non => true
  | _ => false
theorem bor_isN {B H : Hp} {v : V} (h : Bor K B H v x) : decide (v = .non) = isN x := by
  rcases h with h | ⟨p, rfl, h⟩
  · cases h <;> rfl
  · cases h <;> rfl
theorem sm_isN : OpSem K rIsN .sh x .non (.bl (isN x)) := fun B H v w e hv hw Q q => by
  cases bor_non hw
  exact ⟨rfl, by rw [bor_isN hv]; exact same_val e (.bl _) q⟩
theorem sm_notN : OpSem K rNotN .sh x .non (.bl (!isN x)) := fun B H v w e hv hw Q q => by
  cases bor_non hw
  exact ⟨rfl, by rw [bor_isN hv]; exact same_val e (.bl _) q⟩

/-! ### an item -/
theorem atI_reps {B : Hp} {vs : List V} {l : List D} {i : Int} {d : D} (r : Reps K B vs l) (h : atI l i = some d) : ∃ v, atI vs i = some v ∧ Rep K B v d := by
  unfold atI at h ⊢
  rw [r.length]
  cases q : ixN l.length i with
  | none => rw [q] at h; cases h
  | some j =>
    rw [q] at h
    obtain ⟨v, h1, h2⟩ := r.getD (i := j) (d := d) h
    exact ⟨v, h1, h2⟩
theorem sm_ixL {l : List D} {i : Int} (h : atI l i = some d) : OpSem K (rIxL K) .sh (.lst l) (.int i) d := fun B H v w e hv hw Q q => by
  obtain ⟨a, vs, rfl, ha, r⟩ := bor_lst e hv
  cases bor_int hw
  obtain ⟨u, h1, h2⟩ := atI_reps r h
  exact ⟨a, vs, i, u, rfl, rfl, SqL.of ha, h1, same_val e h2 q⟩
theorem sm_ixZ {l : List D} {i : Int} (h : atI l i = some d) : OpSem K (rIxL K) .sh (.scr l) (.int i) d := fun B H v w e hv hw Q q => by
  obtain ⟨a, vs, rfl, ha, r⟩ := bor_scr hv
  cases bor_int hw
  obtain ⟨u, h1, h2⟩ := atI_reps r h
  exact ⟨a, vs, i, u, rfl, rfl, sqL_ex e ha, h1, same_val e h2 q⟩
theorem sm_ixT {l : List D} {i : Int} (h : atI l i = some d) : OpSem K (rIxT K) .sh (.tup l) (.int i) d := fun B H v w e hv hw Q q => by
  obtain ⟨a, vs, rfl, ha, r⟩ := bor_tup hv
  cases bor_int hw
  obtain ⟨u, h1, h2⟩ := atI_reps r h
  exact ⟨a, vs, i, u, rfl, rfl, SqT.of (e _ _ ha), h1, same_val e h2 q⟩
theorem atI_mem {α : Type} {xs : List α} {i : Int} {x : α} (h : atI xs i = some x) : x ∈ xs := by
  obtain ⟨j, _, h1, _⟩ := atI_get h
  exact List.mem_of_getElem? h1
theorem sm_ixS {z : Str} {i : Int} {c : Nat} (h : atI z.cps.toList i = some c) : OpSem K rIxS .sh (.str z) (.int i) (.str ⟨#[c]⟩) := fun B H v w e hv hw Q q => by
  obtain ⟨rfl, o⟩ := bor_str hv
  cases bor_int hw
  exact ⟨z, i, c, rfl, rfl, o.2, h, same_val e (.str _ (okS_one o (atI_mem h))) q⟩
/-- a dict's entry -/
theorem valV_look {κ : Type} [DecidableEq κ] {B : Hp} {k : κ} : ∀ {kvs : List (κ × V)} {ds : List D}, Reps K B (kvs.map (·.2)) ds → (∀ d, lookD k (kvs.map (·.1)) ds = some d → ∃ v, valV kvs k = some v ∧ Rep K B v d) ∧ (lookD k (kvs.map (·.1)) ds = none → valV kvs k = none)
  | [], _, h => by
    constructor
    · intro d q; simp [lookD] at q
    · intro _; rfl
  | (k', v) :: r, ds, h => by
    cases h with
    | cons h1 h2 =>
      obtain ⟨i1, i2⟩ := valV_look (k := k) h2
      simp only [List.map_cons, lookD]
      by_cases q : k' = k
      · simp only [if_pos q]
        constructor
        · intro d e; cases e
          refine ⟨v, ?_, h1⟩
          unfold valV
          rw [List.find?_cons_of_pos (by simp [q])]
          rfl
        · intro e; cases e
      · simp only [if_neg q]
        have e : valV ((k', v) :: r) k = valV r k := by
          unfold valV
          rw [List.find?_cons_of_neg (by simp [q])]
        rw [e]
        exact ⟨i1, i2⟩
/-! two dicts -/
theorem flat_val {B : Hp} {v w : V} {d e : D} (hd : flatD d = true) (he : flatD e = true) (hq : eqv d e = true) (hc : clsN d = clsN e) (r : Rep K B v d) (r' : Rep K B w e) : v = w ∧ flatB v = true := by
  cases d <;> simp [flatD] at hd <;> cases e <;> simp [clsN] at hc <;> cases r <;> cases r' <;> simp [eqv] at hq <;> simp [flatB, hq]
theorem sub_val {B : Hp} {lvs : List (Key × V)} {es : List D} (rl : Reps K B (lvs.map (·.2)) es) : ∀ {kvs : List (Key × V)} {ds : List D}, Reps K B (kvs.map (·.2)) ds → subK (lvs.map (·.1)) es (kvs.map (·.1)) ds = true → ∀ p ∈ kvs, valV lvs p.1 = some p.2 ∧ flatB p.2 = true
  | [], _, _, _ => by simp
  | p :: kvs, _, .cons r rs, h => by
    simp only [List.map_cons, subK, Bool.and_eq_true] at h
    obtain ⟨h1, h2⟩ := h
    intro q hq
    rcases List.mem_cons.mp hq with rfl | hq
    · split at h1
      · rename_i e he
        simp only [Bool.and_eq_true, decide_eq_true_eq] at h1
        obtain ⟨v, hv, rv⟩ := (valV_look (k := q.1) rl).1 e he
        obtain ⟨e1, e2⟩ := flat_val h1.1.1.1 h1.1.1.2 h1.1.2 h1.2 r rv
        rw [hv, ← e1]
        exact ⟨rfl, e2⟩
      · cases h1
    · exact sub_val rl rs h2 q hq
theorem sm_eqK {ks ls : List Key} {ds es : List D} (h1 : ks.length = ls.length) (h2 : subK ls es ks ds = true) : OpSem K rEqDA .sh (.dic ks ds) (.dic ls es) (.bl true) := fun B H v w e hv hw Q q => by
  obtain ⟨a, kvs, rfl, ha, rfl, _, r⟩ := bor_dic e hv
  obtain ⟨b, lvs, rfl, hb, rfl, _, rl⟩ := bor_dic e hw
  exact ⟨a, b, kvs, lvs, rfl, rfl, ha, hb, by simpa using h1, sub_val rl r h2, same_val e (.bl _) q⟩
theorem sm_neK {ks ls : List Key} {ds es : List D} (h1 : ks.length = ls.length) (h2 : subK ls es ks ds = true) : OpSem K rNeDA .sh (.dic ks ds) (.dic ls es) (.bl false) := fun B H v w e hv hw Q q => by
  obtain ⟨a, kvs, rfl, ha, rfl, _, r⟩ := bor_dic e hv
  obtain ⟨b, lvs, rfl, hb, rfl, _, rl⟩ := bor_dic e hw
  exact ⟨a, b, kvs, lvs, rfl, rfl, ha, hb, by simpa using h1, sub_val rl r h2, same_val e (.bl _) q⟩
theorem keyD_V {B H : Hp} {v : V} {k : Key} (h : keyD x = some k) (r : Bor K B H v x) : v = kV k := by
  cases x with
  | int i => cases h; exact bor_int r
  | str s => cases h; exact (bor_str r).1
  | _ => cases h
def rDGet : R2 := fun x y H Q => ∃ a v, x = .ref a ∧ DGet H a y (some v) ∧ Q v H
theorem sm_ixD {ks : List Key} {ds : List D} {k : Key} (hk : keyD y = some k) (h : lookD k ks ds = some d) : OpSem K rDGet .sh (.dic ks ds) y d := fun B H v w e hv hw Q q => by
  obtain ⟨a, kvs, rfl, ha, rfl, o, r⟩ := bor_dic e hv
  obtain ⟨u, h1, h2⟩ := (valV_look r).1 d h
  refine ⟨a, u, rfl, ?_, same_val e h2 q⟩
  rw [keyD_V hk hw, ← h1]
  exact DGet.k ha
theorem look_any {κ : Type} [DecidableEq κ] {k : κ} : ∀ {ks : List κ} {ds : List D}, ks.length = ds.length → (lookD k ks ds).isSome = ks.any fun k' => decide (k' = k)
  | [], _, _ => by simp [lookD]
  | k' :: ks, [], h => by simp at h
  | k' :: ks, d :: ds, h => by
    simp only [lookD, List.any_cons]
    by_cases q : k' = k
    · simp [q]
    · simp only [if_neg q, decide_eq_false q, Bool.false_or]
      exact look_any (by simpa using h)
theorem dget_isSome {B H : Hp} {a : Addr} {ks : List Key} {ds : List D} {k : Key} {kvs : List (Key × V)} (ha : H a = some (.dK kvs)) (hk : kvs.map (·.1) = ks) (r : Reps K B (kvs.map (·.2)) ds) : ∃ o, DGet H a (kV k) o ∧ o.isSome = ks.any fun k' => decide (k' = k) := by
  refine ⟨_, DGet.k (k := k) ha, ?_⟩
  subst hk
  have hl : (kvs.map (·.1)).length = ds.length := by rw [← r.length]; simp
  rw [← look_any hl]
  obtain ⟨i1, i2⟩ := valV_look (k := k) r
  cases q : lookD k (kvs.map (·.1)) ds with
  | none => rw [i2 q]; rfl
  | some d => obtain ⟨v, h, _⟩ := i1 d q; rw [h]; rfl
def rDIn : R2 := fun y x H Q => ∃ a o, x = .ref a ∧ DGet H a y o ∧ Q (.bl o.isSome) H
def rDNi : R2 := fun y x H Q => ∃ a o, x = .ref a ∧ DGet H a y o ∧ Q (.bl (!o.isSome)) H
theorem sm_inK {ks : List Key} {ds : List D} {k : Key} (hk : keyD x = some k) : OpSem K rDIn .sh x (.dic ks ds) (.bl (ks.any fun k' => decide (k' = k))) := fun B H v w e hv hw Q q => by
  obtain ⟨a, kvs, rfl, ha, hks, o, r⟩ := bor_dic e hw
  obtain ⟨o', g, e'⟩ := dget_isSome (k := k) ha hks r
  refine ⟨a, o', rfl, by rw [keyD_V hk hv]; exact g, ?_⟩
  rw [e']; exact same_val e (.bl _) q
theorem sm_niK {ks : List Key} {ds : List D} {k : Key} (hk : keyD x = some k) : OpSem K rDNi .sh x (.dic ks ds) (.bl (!ks.any fun k' => decide (k' = k))) := fun B H v w e hv hw Q q => by
  obtain ⟨a, kvs, rfl, ha, hks, o, r⟩ := bor_dic e hw
  obtain ⟨o', g, e'⟩ := dget_isSome (k := k) ha hks r
  refine ⟨a, o', rfl, by rw [keyD_V hk hv]; exact g, ?_⟩
  rw [e']; exact same_val e (.bl _) q
/-! ### dicts with tuple keys -/
theorem keys_V : ∀ {ds : List D} {ks : List Key} {vs : List V} {B : Hp}, keyTs ds = some ks → Reps K B vs ds → vs = ks.map kV
  | [], ks, vs, B, h, r => by cases h; cases r; rfl
  | d :: ds, ks, _, B, h, r => by
    cases r with
    | cons r1 r2 =>
      simp only [keyTs] at h
      obtain ⟨k, h1, h⟩ := Option.bind_eq_some_iff.mp h
      obtain ⟨ks', h2, rfl⟩ := Option.map_eq_some_iff.mp h
      have hk := keyD_V (B := B) (H := B) h1 (.inl r1)
      subst hk
      rw [List.map_cons, keys_V h2 r2]
theorem keys_ok : ∀ {ds : List D} {ks : List Key} {vs : List V} {B : Hp}, keyTs ds = some ks → Reps K B vs ds → KsOk ks
  | [], ks, vs, B, h, r => by cases h; intro x hx; cases hx
  | d :: ds, ks, _, B, h, r => by
    cases r with
    | cons r1 r2 =>
      simp only [keyTs] at h
      obtain ⟨k, h1, h⟩ := Option.bind_eq_some_iff.mp h
      obtain ⟨ks', h2, rfl⟩ := Option.map_eq_some_iff.mp h
      intro x hx
      rcases List.mem_cons.mp hx with q | q
      · subst q
        cases d with
        | str s => cases h1; cases r1 with | str _ o => exact o
        | _ => cases h1
      · exact keys_ok h2 r2 x q
theorem keyT_V {B H : Hp} {v : V} {k : List Key} (e : Ex B H) (h : keyT x = some k) (r : Bor K B H v x) : ∃ b, v = .ref b ∧ H b = some (.tup (k.map kV)) ∧ KsOk k := by
  cases x with
  | tup ds =>
    obtain ⟨a, vs, rfl, ha, r⟩ := bor_tup r
    have := keys_V (show keyTs ds = some k from h) r
    subst this
    exact ⟨a, rfl, e _ _ ha, keys_ok (show keyTs ds = some k from h) r⟩
  | _ => cases h
theorem dgetT_isSome {B H : Hp} {a b : Addr} {ks : List (List Key)} {ds : List D} {k : List Key} {kvs : List (List Key × V)} (ha : H a = some (.dT kvs)) (hb : H b = some (.tup (k.map kV))) (hk : kvs.map (·.1) = ks) (r : Reps K B (kvs.map (·.2)) ds) : ∃ o, DGet H a (.ref b) o ∧ o.isSome = ks.any fun k' => decide (k' = k) := by
  refine ⟨_, DGet.t (k := k) ha hb, ?_⟩
  subst hk
  have hl : (kvs.map (·.1)).length = ds.length := by rw [← r.length]; simp
  rw [← look_any hl]
  obtain ⟨i1, i2⟩ := valV_look (k := k) r
  cases q : lookD k (kvs.map (·.1)) ds with
  | none => rw [i2 q]; rfl
  | some d => obtain ⟨v, h, _⟩ := i1 d q; rw [h]; rfl
theorem sm_ixQ {ks : List (List Key)} {ds : List D} {k : List Key} (hk : keyT y = some k) (h : lookD k ks ds = some d) : OpSem K rDGet .sh (.dit ks ds) y d := fun B H v w e hv hw Q q => by
  obtain ⟨a, kvs, rfl, ha, rfl, o, r⟩ := bor_dit e hv
  obtain ⟨u, h1, h2⟩ := (valV_look r).1 d h
  obtain ⟨b, rfl, hb, _⟩ := keyT_V e hk hw
  refine ⟨a, u, rfl, ?_, same_val e h2 q⟩
  rw [← h1]
  exact DGet.t ha hb
theorem sm_inQ {ks : List (List Key)} {ds : List D} {k : List Key} (hk : keyT x = some k) : OpSem K rDIn .sh x (.dit ks ds) (.bl (ks.any fun k' => decide (k' = k))) := fun B H v w e hv hw Q q => by
  obtain ⟨a, kvs, rfl, ha, hks, o, r⟩ := bor_dit e hw
  obtain ⟨b, rfl, hb, _⟩ := keyT_V e hk hv
  obtain ⟨o', g, e'⟩ := dgetT_isSome (k := k) ha hb hks r
  refine ⟨a, o', rfl, g, ?_⟩
  rw [e']; exact same_val e (.bl _) q
theorem sm_niQ {ks : List (List Key)} {ds : List D} {k : List Key} (hk : keyT x = some k) : OpSem K rDNi .sh x (.dit ks ds) (.bl (!ks.any fun k' => decide (k' = k))) := fun B H v w e hv hw Q q => by
  obtain ⟨a, kvs, rfl, ha, hks, o, r⟩ := bor_dit e hw
  obtain ⟨b, rfl, hb, _⟩ := keyT_V e hk hv
  obtain ⟨o', g, e'⟩ := dgetT_isSome (k := k) ha hb hks r
  refine ⟨a, o', rfl, g, ?_⟩
  rw [e']; exact same_val e (.bl _) q
end
end DL

set_option Elab.async false
set_option linter.all false
set_option maxRecDepth 100000
set_option maxHeartbeats 4000000
namespace DL
open PySem PySem.Spec L2
variable [TbC]

/-! ### operators by data -/
def binO : Operator → Option Op2
  | .Add => some .add | .Sub => some .sub | .Mult => some .mul | .FloorDiv => some .fdiv | .Mod => some .mod
  | _ => none
def cmpO : CmpOp → Op2
  | .Eq => .eq | .NotEq => .ne | .Lt => .lt | .LtE => .le | .Gt => .gt | .GtE => .ge | .Is => .is_ | .IsNot => .isnot | .In => .isin | .NotIn => .notin
def mdR : D → Md
  | .lst _ => .ow
  | .dic _ _ => .ow
  | .dit _ _ => .ow
  | .deq _ => .ow
  | _ => .sh
theorem cmul_of {i j : Int} (h : mulOk i j = true) : CMul i j := by
  unfold mulOk at h
  rw [Bool.or_eq_true, decide_eq_true_eq, decide_eq_true_eq] at h
  exact h
theorem bin_sem {X : Cx} {op : Operator} {o : Op2} {x y d : D} (ho : binO op = some o) (h : op2D o x y = some d) : ∃ r, OpR X (binaryOp op) r ∧ OpSem X.K r (mdR d) x y d := by
  cases op <;> cases ho
  · cases x <;> cases y <;> simp [op2D, catS] at h
    · subst h; exact ⟨_, op_add, sm_int0⟩
    · obtain ⟨h1, rfl⟩ := h; exact ⟨_, op_add_str, sm_addS h1⟩
    · obtain ⟨h1, rfl⟩ := h; exact ⟨_, op_catA, sm_catT h1⟩
    · obtain ⟨h1, rfl⟩ := h; exact ⟨_, op_cat, sm_cat h1⟩
  · cases x <;> cases y <;> simp [op2D] at h
    subst h; exact ⟨_, op_sub, sm_int0⟩
  · cases x <;> cases y <;> simp [op2D] at h
    · obtain ⟨h1, rfl⟩ := h; exact ⟨_, op_mul, sm_intC (cmul_of h1)⟩
    · obtain ⟨⟨h1, h2, h3⟩, rfl⟩ := h; exact ⟨_, op_mulS, sm_mulS h1 h2 h3⟩
  · cases x <;> cases y <;> simp [op2D] at h
    obtain ⟨h1, rfl⟩ := h; exact ⟨_, op_mod, sm_intC h1⟩
  · cases x <;> cases y <;> simp [op2D] at h
    obtain ⟨h1, rfl⟩ := h; exact ⟨_, op_fdiv, sm_intC h1⟩
theorem op_dIn {X : Cx} (hu : X.A.units + 65 < cLine) : OpR X (compareOp .In) rDIn := by
  intro pins s σ H x y v u Q I rx ry h
  obtain ⟨a, o, rfl, g, q⟩ := h
  cases ry
  exact d_in (by omega) I g rx fun s' I' => ⟨.bl _, H, I', rfl, q⟩
theorem op_dNi {X : Cx} (hu : X.A.units + 65 < cLine) : OpR X (compareOp .NotIn) rDNi := by
  intro pins s σ H x y v u Q I rx ry h
  obtain ⟨a, o, rfl, g, q⟩ := h
  cases ry
  exact d_notIn (by omega) I g rx fun s' I' => ⟨.bl _, H, I', rfl, q⟩
theorem cmp_sem {X : Cx} (hu : X.A.units + 65 < cLine) {op : CmpOp} {x y d : D} (h : op2D (cmpO op) x y = some d) : ∃ (r : R2) (k : Bool), d = .bl k ∧ OpR X (compareOp op) r ∧ OpSem X.K r .sh x y d := by
  cases op <;> simp only [cmpO] at h
  · obtain ⟨b, h1, rfl⟩ := Option.map_eq_some_iff.mp (show (eqD x y).map D.bl = some d from h)
    by_cases hn : ∃ ks ds ls es, x = .dic ks ds ∧ y = .dic ls es
    · obtain ⟨ks, ds, ls, es, rfl, rfl⟩ := hn
      simp only [eqD] at h1
      split at h1
      · rename_i hc; cases h1; exact ⟨_, _, rfl, op_eq_dictA (by omega), sm_eqK hc.1 hc.2⟩
      · cases h1
    · exact ⟨_, _, rfl, op_eqD (by omega), sm_eq h1 hn⟩
  · obtain ⟨b, h1, rfl⟩ := Option.map_eq_some_iff.mp (show (eqD x y).map (fun b => D.bl (!b)) = some d from h)
    by_cases hn : ∃ ks ds ls es, x = .dic ks ds ∧ y = .dic ls es
    · obtain ⟨ks, ds, ls, es, rfl, rfl⟩ := hn
      simp only [eqD] at h1
      split at h1
      · rename_i hc; cases h1; exact ⟨_, _, rfl, op_ne_dictA (by omega), sm_neK hc.1 hc.2⟩
      · cases h1
    · exact ⟨_, _, rfl, op_neD (by omega), sm_ne h1 hn⟩
  · cases x <;> cases y <;> simp [op2D] at h
    subst h; exact ⟨_, _, rfl, op_lt, sm_bl0 (g := fun i j => decide (i < j))⟩
  · cases x <;> cases y <;> simp [op2D] at h
    subst h; exact ⟨_, _, rfl, op_le, sm_bl0 (g := fun i j => decide (i ≤ j))⟩
  · cases x <;> cases y <;> simp [op2D] at h
    subst h; exact ⟨_, _, rfl, op_gt, sm_bl0 (g := fun i j => decide (j < i))⟩
  · cases x <;> cases y <;> simp [op2D] at h
    subst h; exact ⟨_, _, rfl, op_ge, sm_bl0 (g := fun i j => decide (j ≤ i))⟩
  · cases y <;> simp [op2D] at h
    have : d = .bl (isN x) := by cases x <;> cases h <;> rfl
    subst this; exact ⟨_, _, rfl, op_isN, sm_isN⟩
  · cases y <;> simp [op2D] at h
    have : d = .bl (!isN x) := by cases x <;> cases h <;> rfl
    subst this; exact ⟨_, _, rfl, op_notN, sm_notN⟩
  · obtain ⟨b, h1, rfl⟩ := Option.map_eq_some_iff.mp (show (inD x y).map D.bl = some d from h)
    cases y with
    | lst l => exact ⟨_, _, rfl, op_inD hu, sm_inL h1⟩
    | tup l => exact ⟨_, _, rfl, op_inT hu, sm_inT h1⟩
    | dic ks ds =>
      obtain ⟨k, hk, rfl⟩ := Option.map_eq_some_iff.mp (show (keyD x).map (fun k => ks.any fun k' => decide (k' = k)) = some b from h1)
      exact ⟨_, _, rfl, op_dIn hu, sm_inK hk⟩
    | dit ks ds =>
      obtain ⟨k, hk, rfl⟩ := Option.map_eq_some_iff.mp (show (keyT x).map (fun k => ks.any fun k' => decide (k' = k)) = some b from h1)
      exact ⟨_, _, rfl, op_dIn hu, sm_inQ hk⟩
    | _ => simp [inD] at h1
  · obtain ⟨b, h1, rfl⟩ := Option.map_eq_some_iff.mp (show (inD x y).map (fun b => D.bl (!b)) = some d from h)
    cases y with
    | lst l => exact ⟨_, _, rfl, op_notInD hu, sm_niL h1⟩
    | tup l => exact ⟨_, _, rfl, op_notInT hu, sm_niT h1⟩
    | dic ks ds =>
      obtain ⟨k, hk, rfl⟩ := Option.map_eq_some_iff.mp (show (keyD x).map (fun k => ks.any fun k' => decide (k' = k)) = some b from h1)
      exact ⟨_, _, rfl, op_dNi hu, sm_niK hk⟩
    | dit ks ds =>
      obtain ⟨k, hk, rfl⟩ := Option.map_eq_some_iff.mp (show (keyT x).map (fun k => ks.any fun k' => decide (k' = k)) = some b from h1)
      exact ⟨_, _, rfl, op_dNi hu, sm_niQ hk⟩
    | _ => simp [inD] at h1

/-! ### plain pieces of the text -/
def plainE : Expr → Bool
  | .Starred _ _ => false
  | .Slice _ _ _ _ => false
  | .Set _ _ _ => false
  | _ => true
theorem star1 {e : Expr} {es : List Expr} {env : Env} (h : plainE e = true) : starEach (e :: es) env = (false, eval e env) :: starEach es env := by
  cases e <;> first | rfl | cases h
theorem plainIx {b : Expr} (h : plainE b = true) : PlainIx b := by
  cases b <;> first | exact fun _ _ => rfl | cases h
theorem plainMark {op : CmpOp} {b : Expr} (h : plainE b = true) : behindInMarks op b = false := by
  cases b <;> first | rfl | cases h
theorem plainFold {e : Expr} {env : Env} (h : plainE e = true) : ∀ x, foldedSetIterable e env x = pure x := by
  cases e <;> first | exact fun _ => rfl | cases h
def plainB : Expr → Bool
  | .Call _ _ _ _ => false
  | e => plainE e
theorem plainBase {e : Expr} {m : Str} {env : Env} (h : plainB e = true) : attributeBase e m env (eval e env) = eval e env := by
  cases e <;> first | rfl | cases h

section
variable {X : Cx} {N : List Str} {sc : Scope} {k : Nat} {e a b c : Expr} {Γ : MEnv} {ρ : DEnv} {d x y z : D} {m : Md} {pos apos : Pos}
theorem ev_var {i : Nat} {x : Str} (hN : X.N[i]? = some x) (hv : Vis X.env.scope x) (hd : (x == ("__debug__" : Str)) = false) (hcd : (x == ("__classdict__" : Str)) = false) (h : ρ[i]? = some (some d)) (hno : Γ[i]? ≠ some Md.od) : EvM .bo X (.Name x pos) Γ ρ d := fun lv B0 H0 B H σ S Q q => by
  refine of_pe (pe_var hN hv hd hcd) ?_
  obtain ⟨v, hv, r⟩ := S.read h hno
  exact ⟨v, hv, q v B H (.refl S.ext.bh) r⟩
theorem ev_varS {i : Nat} {x : Str} (hN : X.N[i]? = some x) (hv : Vis X.env.scope x) (hd : (x == ("__debug__" : Str)) = false) (hcd : (x == ("__classdict__" : Str)) = false) (h : ρ[i]? = some (some d)) (hm : Γ[i]? = some Md.sh) : EvM .sh X (.Name x pos) Γ ρ d := fun lv B0 H0 B H σ S Q q => by
  refine of_pe (pe_var hN hv hd hcd) ?_
  obtain ⟨v, hv, r⟩ := S.sh i d hm h
  exact ⟨v, hv, q v B H (.refl S.ext.bh) r⟩
theorem ev_const {v : V} (pe : PE X e (tC v)) (r : ∀ B, Rep X.K B v d) : EvM .sh X e Γ ρ d := fun lv B0 H0 B H σ S Q q => of_pe pe (q v B H (.refl S.ext.bh) (r B))
theorem ev_bin {op : Operator} {o : Op2} (ho : binO op = some o) (h : op2D o x y = some d) (ha : EvM .bo X a Γ ρ x) (hb : EvM .bo X b Γ ρ y) : EvM (mdR d) X (.BinOp a op b pos) Γ ρ d := by
  obtain ⟨r, h1, h2⟩ := bin_sem (X := X) ho h
  exact ev_op2 (pe_op h1 pe_of pe_of) h2 ha hb
theorem ev_cmp {op : CmpOp} (g : Good X N sc k) (hb' : plainE b = true) (h : op2D (cmpO op) x y = some d) (ha : EvM .bo X a Γ ρ x) (hb : EvM .bo X b Γ ρ y) : EvM .sh X (.Compare a [op] [b] pos) Γ ρ d := by
  obtain ⟨r, j, rfl, h1, h2⟩ := cmp_sem (X := X) g.hu h
  exact ev_op2 (pe_cmpR h1 pe_of pe_of (plainMark hb')) h2 ha hb
theorem ev_cmpT {op : CmpOp} {j : Bool} (g : Good X N sc k) (hb' : plainE b = true) (h : op2D (cmpO op) x y = some (.bl j)) (ha : EvM .bo X a Γ ρ x) (hb : EvM .bo X b Γ ρ y) : EvT X (.Compare a [op] [b] pos) Γ ρ j := by
  obtain ⟨r, j', e, h1, h2⟩ := cmp_sem (X := X) g.hu h
  exact ev_tst (pt_cmpR h1 pe_of pe_of (plainMark hb')) h2 ha hb
/-- a comparison of three -/
theorem lastM {op op' : CmpOp} (hc : plainE c = true) : lastMarks [op, op'] [b, c] = false := plainMark hc
theorem ev_chain {op op' : CmpOp} (g : Good X N sc k) (hc' : plainE c = true) {j : Bool} (h : op2D (cmpO op) x y = some (.bl j)) (ha : EvM .bo X a Γ ρ x) (hb : EvM .bo X b Γ ρ y)
    (h1 : j = true → EvM .bo X c Γ ρ z ∧ op2D (cmpO op') y z = some d) (h0 : j = false → d = .bl false) : EvM .sh X (.Compare a [op, op'] [b, c] pos) Γ ρ d := fun lv B0 H0 B H σ S Q q => by
  obtain ⟨r, j', e, p1, p2⟩ := cmp_sem (X := X) g.hu h
  cases j with
  | true =>
    obtain ⟨hc, h'⟩ := h1 rfl
    obtain ⟨r', j2, e2, p3, p4⟩ := cmp_sem (X := X) g.hu h'
    refine of_pe (pe_chain p1 p3 pe_of pe_of pe_of (lastM hc')) ?_
    refine ha lv B0 H0 B H σ S _ fun v1 B1 H1 x1 r1 => ?_
    refine hb lv B0 H0 B1 H1 σ (S.grow x1) _ fun v2 B2 H2 x2 r2 => ?_
    refine p2 B2 H2 v1 v2 x2.bh (Bor.mono x2.bb x2.hh r1) r2 _ fun v3 B3 H3 x3 r3 => ?_
    cases r3
    refine ⟨true, rfl, iteT ?_⟩
    have x12 := (x1.trans x2).trans x3
    refine hc lv B0 H0 B3 H3 σ (S.grow x12) _ fun v4 B4 H4 x4 r4 => ?_
    exact p4 B4 H4 v2 v4 x4.bh (Bor.mono (x3.bb.trans x4.bb) (x3.hh.trans x4.hh) r2) r4 Q fun v B' H' x5 r5 => q v B' H' ((x12.trans x4).trans x5) r5
  | false =>
    refine of_pe (pe_chain (op' := op') (r' := fun _ _ _ _ => False) p1 (fun _ _ _ _ _ _ _ _ _ _ _ _ h => h.elim) pe_of pe_of pe_of (lastM hc')) ?_
    cases h0 rfl
    refine ha lv B0 H0 B H σ S _ fun v1 B1 H1 x1 r1 => ?_
    refine hb lv B0 H0 B1 H1 σ (S.grow x1) _ fun v2 B2 H2 x2 r2 => ?_
    refine p2 B2 H2 v1 v2 x2.bh (Bor.mono x2.bb x2.hh r1) r2 _ fun v3 B3 H3 x3 r3 => ?_
    cases r3
    exact ⟨false, rfl, iteF (q _ B3 H3 ((x1.trans x2).trans x3) (.bl _))⟩
end
end DL

set_option Elab.async false
set_option linter.all false
set_option maxRecDepth 100000
set_option maxHeartbeats 4000000
/-! A deque over the abstract heap. -/
namespace DL
open PySem PySem.Spec L2 PyProof.Rows
theorem dqO_ok {P : Program} {w : World} {H : Hp} {h : Heap} {a : Addr} {xs : List V} {its : List Value} (r : Vals xs its) (z : xs.length ≤ sizeLine) (d : IsDq h a its) : ObjOk P w H h a (DqO a xs) :=
  ⟨⟨its, r, z, d⟩, let ⟨_, e⟩ := d; ⟨_, e⟩, fun h1 h2 ⟨its, r, z, n, e⟩ k => ⟨its, r, z, n, k _ e⟩⟩
section
variable {X : Cx} {pins : List (Addr × Obj)} {σ : L2.St} {H : Hp} {s : Shared} {a : Addr} {xs : List V}
theorem dq_inv (I : Inv X pins σ H s) (e : H a = some (DqO a xs)) : ∃ its, Vals xs its ∧ xs.length ≤ sizeLine ∧ IsDq s.heap a its := (I.hok a _ e).1
theorem vals_len {xs : List V} {its : List Value} (r : Vals xs its) : its.length = xs.length := by
  induction r with
  | nil => rfl
  | cons _ _ ih => simp [ih]
theorem vals_emp {xs : List V} {its : List Value} (r : Vals xs its) : its.isEmpty = xs.isEmpty := by
  cases r <;> rfl
theorem tru_dq : TruR X (fun x H Q => (∃ k, TruV X.K x H k ∧ Q k H) ∨ ∃ a xs, x = .ref a ∧ H a = some (DqO a xs) ∧ Q (!xs.isEmpty) H) := by
  intro pins s σ H x v Q I rx h
  rcases h with h | ⟨a, xs, rfl, e, q⟩
  · exact tru_ok pins s σ H x v Q I rx h
  · cases rx
    obtain ⟨its, r, z, d⟩ := dq_inv I e
    refine dq_test d (by rw [vals_len r]; exact z) ?_
    rw [vals_emp r]
    exact ⟨H, I.tok _, q⟩
/-- deque(xs) -/
def rDeque : List V → Hp → VK → Prop := fun vs H Q => ∃ a xs, vs = [V.ref a] ∧ H a = some (.lst xs) ∧ ∀ p, H p = none → Q (.ref p) (upd H p (DqO p xs))
theorem cr_deque (hh : X.A.handled = none) : CallR X (.type "collections.deque") rDeque := by
  intro pins s σ H vs us Q I r h
  obtain ⟨a, xs, rfl, e, q⟩ := h
  cases r with
  | cons r1 r2 =>
    cases r2
    cases r1
    obtain ⟨z, its, n, r, hl, g⟩ := I.lstM e
    have hil : s.heap.IsList a its.toArray := ⟨_, g, rfl, _, rfl⟩
    have hz : its.toArray.size ≤ sizeLine := by rw [List.size_toArray, vals_len r]; exact z
    refine dq_of_list hh hil hz fun h' tk d k => ⟨.ref s.heap.objs.size, _, ?_, rfl, q _ (I.hok.fresh (Nat.le_refl _))⟩
    exact I.laid (t' := tk) k (Nat.le_refl _) (dqO_ok (by simpa using r) z (by simpa using d))
theorem dq_write {h' : Heap} {t' : Nat} {ys : List V} {its' : List Value} (I : Inv X pins σ H s) (e : H a = some (DqO a xs)) (k : ∀ b u, b ≠ a → s.heap.get? b = some u → h'.get? b = some u) (r : Vals ys its') (z : ys.length ≤ sizeLine) (d : IsDq h' a its') :
    Inv X pins σ (upd H a (DqO a ys)) { s with heap := h', toks := t' } :=
  I.write (x := a) (e := a) (by rw [e]; exact True.intro) (.inl rfl) k (let ⟨_, e⟩ := d; ⟨_, e⟩) (dqO_ok r z d)
def rDqApp : V → List V → Hp → VK → Prop := fun x vs H Q => ∃ a xs y, x = .ref a ∧ vs = [y] ∧ H a = some (DqO a xs) ∧ xs.length < sizeLine ∧ Q .non (upd H a (DqO a (xs ++ [y])))
theorem mt_dqApp : MtR X "collections.deque.append" rDqApp := by
  intro pins s σ H x vs v us Q I rx rv h
  obtain ⟨a, xs, y, rfl, rfl, e, hz, q⟩ := h
  cases rx
  cases rv with
  | cons r1 r2 =>
    cases r2
    obtain ⟨its, r, z, d⟩ := dq_inv I e
    refine dq_append d (by rw [vals_len r]; exact hz) fun h' d' sb => ⟨.non, _, dq_write (t' := s.toks) I e (fun b u hb g => (sb.2 b hb).trans g) (r.append (.cons r1 .nil)) (by simp; omega) d', rfl, q⟩
def rDqExt : V → List V → Hp → VK → Prop := fun x vs H Q => ∃ a xs b ys, x = .ref a ∧ vs = [.ref b] ∧ H a = some (DqO a xs) ∧ H b = some (.lst ys) ∧ xs.length + ys.length ≤ sizeLine ∧ Q .non (upd H a (DqO a (xs ++ ys)))
theorem mt_dqExt (hh : X.A.handled = none) : MtR X "collections.deque.extend" rDqExt := by
  intro pins s σ H x vs v us Q I rx rv h
  obtain ⟨a, xs, b, ys, rfl, rfl, e, eb, hz, q⟩ := h
  cases rx
  cases rv with
  | cons r1 r2 =>
    cases r2
    cases r1
    obtain ⟨its, r, z, d⟩ := dq_inv I e
    obtain ⟨z2, its2, n, r', hl, g⟩ := I.lstM eb
    have hil : s.heap.IsList b its2.toArray := ⟨_, g, rfl, _, rfl⟩
    have hab : a ≠ b := fun z => by rw [z, eb] at e; cases e
    refine dq_extend hh hab d hil (by rw [List.size_toArray, vals_len r, vals_len r']; exact hz) fun h' tk d' k => ⟨.non, _, dq_write (t' := tk) I e k (r.append (by simpa using r')) (by simpa using hz) (by simpa using d'), rfl, q⟩
def rDqPop : V → List V → Hp → VK → Prop := fun x vs H Q => ∃ a y xs, x = .ref a ∧ vs = [] ∧ H a = some (DqO a (y :: xs)) ∧ Q y (upd H a (DqO a xs))
theorem mt_dqPop : MtR X "collections.deque.popleft" rDqPop := by
  intro pins s σ H x vs v us Q I rx rv h
  obtain ⟨a, y, xs, rfl, rfl, e, q⟩ := h
  cases rx
  cases rv
  obtain ⟨its, r, z, d⟩ := dq_inv I e
  cases r with
  | @cons y' u ys its' ry r =>
    have hz : xs.length ≤ sizeLine := by simp at z; omega
    refine dq_popleft d (by rw [vals_len r]; exact hz) fun h' d' sb => ⟨y, _, dq_write (t' := s.toks) I e (fun b u hb g => (sb.2 b hb).trans g) r hz d', ry, q⟩
/-! ### methods -/
def tDqM0 (r : V → List V → Hp → VK → Prop) (to : TE) : TE := fun σ H Q => to σ H fun x H1 => (∃ a xs, x = .ref a ∧ H1 a = some (DqO a xs)) ∧ r x [] H1 Q
def tDqM (r : V → List V → Hp → VK → Prop) (to te : TE) : TE := fun σ H Q => to σ H fun x H1 => (∃ a xs, x = .ref a ∧ H1 a = some (DqO a xs)) ∧ te σ H1 fun y H2 => r x [y] H2 Q
theorem dq_ty {y : V} {v : Value} (I : Inv X pins σ H s) (r : RelV y v) (ty : ∃ a xs, y = .ref a ∧ H a = some (DqO a xs)) :
    s.TypeIs v "collections.deque" ∧ ∀ a, v = .ref a → ∃ ob, s.heap.get? a = some ob ∧ ob.dict = none := by
  obtain ⟨a, xs, rfl, e⟩ := ty
  cases r
  obtain ⟨its, r, z, d⟩ := dq_inv I e
  refine ⟨d.ty, fun b hb => ?_⟩
  cases hb
  obtain ⟨n, g⟩ := d
  exact ⟨_, g, rfl⟩
variable {o e : Expr} {to te : TE} {name : Str} {apos cpos : Pos} {id : String} {r : V → List V → Hp → VK → Prop}
theorem pe_dq0 (pa : PlainAttrs "collections.deque") (slot : Slot "collections.deque" name id) (hty : typeOf (.builtin id) = pure (.type "method_descriptor")) (hm : MtR X id r) (ho : PE X o to)
    (hbase : attributeBase o name X.env (eval o X.env) = eval o X.env := by rfl) (hline : (apos.endLine == cpos.line) = true := by rfl) : PE X (.Call (.Attribute o name apos) [] [] cpos) (tDqM0 r to) := by
  refine ⟨fun pins s σ H Q I h => ?_⟩
  refine wpAny_Call_method0_late hbase hline (thn (ho.run pins s σ H _ I h) fun v s1 ⟨x, H1, I1, r1, ty, q1⟩ => ?_)
  obtain ⟨h1, h2⟩ := dq_ty I1 r1 ty
  exact ⟨_, id, pa, slot, hty, h1, h2, Calls.callWith_builtin rfl (PySem.evalArgs_none (hm pins s1 σ H1 x [] v [] Q I1 r1 .nil q1))⟩
theorem pe_dq1 (pa : PlainAttrs "collections.deque") (slot : Slot "collections.deque" name id) (hty : typeOf (.builtin id) = pure (.type "method_descriptor")) (hm : MtR X id r) (ho : PE X o to) (he : PE X e te)
    (m : M1 X o name apos e cpos) : PE X (.Call (.Attribute o name apos) [e] [] cpos) (tDqM r to te) := by
  refine ⟨fun pins s σ H Q I h => ?_⟩
  refine wpAny_Call_method_late m.base m.few m.line rfl (thn (ho.run pins s σ H _ I h) fun v s1 ⟨x, H1, I1, r1, ty, q1⟩ => ?_)
  obtain ⟨h1, h2⟩ := dq_ty I1 r1 ty
  refine ⟨_, id, pa, slot, hty, h1, h2, ?_⟩
  rw [m.trees]
  refine Calls.callWith_builtin rfl (Calls.evalArgs_plain (Calls.spliced_cons (thn (he.run pins s1 σ H1 _ I1 q1) fun u s2 ⟨y, H2, I2, r2, q2⟩ => Calls.spliced_nil ?_)))
  exact hm pins s2 σ H2 x [y] v [u] Q I2 r1 (.cons r2 .nil) q2
theorem dq_plain : PlainAttrs "collections.deque" :=
  ⟨⟨"collections.deque.__getattribute__", by rw [typeLookup_type, builtinLookup_eq_fast]; kernel_rfl, by decide +kernel⟩, by rw [typeLookup_type, builtinLookup_eq_fast]; kernel_rfl⟩
theorem dq_ty_append : typeOf (.builtin "collections.deque.append") = pure (.type "method_descriptor") := by show builtinType _ = _; rw [builtinType_eq_fast]; kernel_rfl
theorem dq_ty_extend : typeOf (.builtin "collections.deque.extend") = pure (.type "method_descriptor") := by show builtinType _ = _; rw [builtinType_eq_fast]; kernel_rfl
theorem dq_ty_popleft : typeOf (.builtin "collections.deque.popleft") = pure (.type "method_descriptor") := by show builtinType _ = _; rw [builtinType_eq_fast]; kernel_rfl
end
end DL

set_option Elab.async false
set_option linter.all false
set_option maxRecDepth 100000
set_option maxHeartbeats 4000000
namespace DL
open PySem PySem.Spec L2
variable [TbC]

def plainT : Expr → Bool
  | .UnaryOp .Not _ _ => false
  | .BoolOp _ _ _ => false
  | .IfExp _ _ _ _ => false
  | .Compare _ _ _ _ => false
  | e => plainE e
theorem plainTru {e : Expr} {env : Env} (h : plainT e = true) : ∀ whole, isTrue e env whole = (do let v ← whole; standAt e.pos; holding [v] (truthy v)) := by
  cases e with
  | UnaryOp op _ _ => cases op <;> first | exact fun _ => rfl | cases h
  | _ => first | exact fun _ => rfl | cases h
theorem isEmpty_reps {K : PySem.W.Frag} {B : Hp} {vs : List V} {l : List D} (r : Reps K B vs l) : vs.isEmpty = l.isEmpty := by cases r <;> rfl
theorem tru_of {K : PySem.W.Frag} {B H : Hp} {v : V} {d : D} {k : Bool} (e : Ex B H) (r : Bor K B H v d) (h : truD d = some k) (hn : ∀ l, d ≠ .deq l) : TruV K v H k := by
  cases d with
  | non => cases bor_non r; cases h; rfl
  | bl b => cases bor_bl r; cases h; rfl
  | int i => cases bor_int r; cases h; rfl
  | str x => obtain ⟨rfl, o⟩ := bor_str r; cases h; exact ⟨o.2, rfl⟩
  | lst l =>
    obtain ⟨a, vs, rfl, ha, q⟩ := bor_lst e r; cases h
    exact .inl ⟨vs, SqL.of ha, by rw [isEmpty_reps q]⟩
  | tup l =>
    obtain ⟨a, vs, rfl, ha, q⟩ := bor_tup r; cases h
    exact .inr (.inl ⟨vs, SqT.of (e _ _ ha), by rw [isEmpty_reps q]⟩)
  | scr l =>
    obtain ⟨a, vs, rfl, ha, q⟩ := bor_scr r; cases h
    exact .inl ⟨vs, sqL_ex e ha, by rw [isEmpty_reps q]⟩
  | dic ks ds =>
    obtain ⟨a, kvs, rfl, ha, rfl, o, q⟩ := bor_dic e r; cases h
    exact .inr (.inr ⟨kvs, ha, by cases kvs <;> rfl⟩)
  | dit ks ds => cases h
  | deq l => exact absurd rfl (hn l)

section
variable {X : Cx} {N : List Str} {sc : Scope} {k : Nat} {e a b c : Expr} {Γ : MEnv} {ρ : DEnv} {d x y z : D} {m : Md} {pos apos : Pos} {rest : List Expr}
theorem ev_truth {j : Bool} (hp : plainT e = true) (h : truD d = some j) (he : EvM .bo X e Γ ρ d) : EvT X e Γ ρ j := fun lv B0 H0 B H σ S Q q => by
  refine of_pt (pt_truthR pe_of tru_dq (plainTru hp)) ?_
  refine he lv B0 H0 B H σ S _ fun v B1 H1 x1 r1 => ?_
  by_cases hn : ∀ l, d ≠ .deq l
  · exact .inl ⟨j, tru_of x1.bh r1 h hn, q B1 H1 x1⟩
  · have : ∃ l, d = .deq l := by
      cases d with
      | deq l => exact ⟨l, rfl⟩
      | _ => exact absurd (fun l z => by cases z) hn
    obtain ⟨l, rfl⟩ := this
    obtain ⟨a, vs, rfl, ha, r⟩ := bor_deq x1.bh r1
    cases h
    exact .inr ⟨a, vs, rfl, ha, by rw [isEmpty_reps r]; exact q B1 H1 x1⟩
theorem ev_tAnd {j : Bool} {p q : Bool} (ha : EvT X a Γ ρ p) (hb : p = true → EvT X (.BoolOp .And (b :: rest) pos) Γ ρ q) (hj : j = (p && q)) (hw : ∀ t, PT X (.BoolOp .And (b :: rest) pos) t → PW X (.BoolOp .And (b :: rest) pos) t) : EvT X (.BoolOp .And (a :: b :: rest) pos) Γ ρ j := fun lv B0 H0 B H σ S Q k => by
  refine of_pt (PW.pt (pw_and pt_of (hw _ pt_of))) ?_
  refine ha lv B0 H0 B H σ S _ fun B1 H1 x1 => ?_
  cases p with
  | true => exact iteT (hb rfl lv B0 H0 B1 H1 σ (S.grow x1) _ fun B2 H2 x2 => by rw [hj, Bool.true_and] at k; exact k B2 H2 (x1.trans x2))
  | false => exact iteF (by rw [hj, Bool.false_and] at k; exact k B1 H1 x1)
theorem ev_tOr {j : Bool} {p q : Bool} (ha : EvT X a Γ ρ p) (hb : p = false → EvT X (.BoolOp .Or (b :: rest) pos) Γ ρ q) (hj : j = (p || q)) (hw : ∀ t, PT X (.BoolOp .Or (b :: rest) pos) t → PW X (.BoolOp .Or (b :: rest) pos) t) : EvT X (.BoolOp .Or (a :: b :: rest) pos) Γ ρ j := fun lv B0 H0 B H σ S Q k => by
  refine of_pt (PW.pt (pw_or pt_of (hw _ pt_of))) ?_
  refine ha lv B0 H0 B H σ S _ fun B1 H1 x1 => ?_
  cases p with
  | true => exact iteT (by rw [hj, Bool.true_or] at k; exact k B1 H1 x1)
  | false => exact iteF (hb rfl lv B0 H0 B1 H1 σ (S.grow x1) _ fun B2 H2 x2 => by rw [hj, Bool.false_or] at k; exact k B2 H2 (x1.trans x2))
/-- isTrue of a BoolOp does not look at the whole -/
theorem pw_bool {op : BoolOp} {vs : List Expr} {t : TT} (h : PT X (.BoolOp op vs pos) t) : PW X (.BoolOp op vs pos) t := ⟨fun whole pins s σ H Q I q => h.run pins s σ H Q I q⟩
theorem ev_tOne {op : BoolOp} {j : Bool} (ha : EvT X a Γ ρ j) : EvT X (.BoolOp op [a] pos) Γ ρ j := fun lv B0 H0 B H σ S Q q => by
  cases op with
  | And => exact of_pt (PW.pt (pw_and1 pt_of)) (ha lv B0 H0 B H σ S Q q)
  | Or => exact of_pt (PW.pt (pw_or1 pt_of)) (ha lv B0 H0 B H σ S Q q)
theorem ev_tNot {j : Bool} (ha : EvT X a Γ ρ j) : EvT X (.UnaryOp .Not a pos) Γ ρ (!j) := fun lv B0 H0 B H σ S Q q => of_pt (pt_not pt_of) (ha lv B0 H0 B H σ S _ fun B1 H1 x1 => q B1 H1 x1)
theorem ev_one {op : BoolOp} (ha : EvM m X a Γ ρ d) : EvM m X (.BoolOp op [a] pos) Γ ρ d := fun lv B0 H0 B H σ S Q q => of_pe (pe_one pe_of) (ha lv B0 H0 B H σ S Q q)
theorem ev_and {p : Bool} (ha : EvM .bo X a Γ ρ (.bl p)) (hb : p = true → EvM .sh X (.BoolOp .And (b :: rest) pos) Γ ρ d) (h0 : p = false → d = .bl false) : EvM .sh X (.BoolOp .And (a :: b :: rest) pos) Γ ρ d := fun lv B0 H0 B H σ S Q q => by
  refine of_pe (pe_and pe_of pe_of) ?_
  refine ha lv B0 H0 B H σ S _ fun v1 B1 H1 x1 r1 => ?_
  cases bor_bl r1
  refine ⟨p, rfl, ?_⟩
  cases p with
  | true => exact iteT (hb rfl lv B0 H0 B1 H1 σ (S.grow x1) _ fun v2 B2 H2 x2 r2 => q v2 B2 H2 (x1.trans x2) r2)
  | false => cases h0 rfl; exact iteF (q _ B1 H1 x1 (.bl _))
theorem ev_or {p : Bool} (ha : EvM .bo X a Γ ρ (.bl p)) (hb : p = false → EvM .sh X (.BoolOp .Or (b :: rest) pos) Γ ρ d) (h1 : p = true → d = .bl true) : EvM .sh X (.BoolOp .Or (a :: b :: rest) pos) Γ ρ d := fun lv B0 H0 B H σ S Q q => by
  refine of_pe (pe_or pe_of pe_of) ?_
  refine ha lv B0 H0 B H σ S _ fun v1 B1 H1 x1 r1 => ?_
  cases bor_bl r1
  refine ⟨p, rfl, ?_⟩
  cases p with
  | true => cases h1 rfl; exact iteT (q _ B1 H1 x1 (.bl _))
  | false => exact iteF (hb rfl lv B0 H0 B1 H1 σ (S.grow x1) _ fun v2 B2 H2 x2 r2 => q v2 B2 H2 (x1.trans x2) r2)
theorem ev_not {p : Bool} (ha : EvM .bo X a Γ ρ (.bl p)) : EvM .sh X (.UnaryOp .Not a pos) Γ ρ (.bl (!p)) := fun lv B0 H0 B H σ S Q q => by
  refine of_pe (pe_not pe_of) ?_
  refine ha lv B0 H0 B H σ S _ fun v1 B1 H1 x1 r1 => ?_
  cases bor_bl r1
  exact ⟨p, rfl, q _ B1 H1 x1 (.bl _)⟩
theorem ev_neg {i : Int} (ha : EvM .bo X a Γ ρ (.int i)) : EvM .sh X (.UnaryOp .USub a pos) Γ ρ (.int (-i)) := fun lv B0 H0 B H σ S Q q => by
  refine of_pe (pe_un un_neg pe_of) ?_
  refine ha lv B0 H0 B H σ S _ fun v1 B1 H1 x1 r1 => ?_
  cases bor_int r1
  exact ⟨i, rfl, q _ B1 H1 x1 (.int _)⟩
theorem ev_ite {p : Bool} (hc : EvT X c Γ ρ p) (h1 : p = true → EvM m X a Γ ρ d) (h0 : p = false → EvM m X b Γ ρ d) : EvM m X (.IfExp c a b pos) Γ ρ d := fun lv B0 H0 B H σ S Q q => by
  refine of_pe (pe_ifExp pt_of pe_of pe_of) ?_
  refine hc lv B0 H0 B H σ S _ fun B1 H1 x1 => ?_
  cases p with
  | true => exact iteT (h1 rfl lv B0 H0 B1 H1 σ (S.grow x1) _ fun v2 B2 H2 x2 r2 => q v2 B2 H2 (x1.trans x2) (r2.back x1.hh))
  | false => exact iteF (h0 rfl lv B0 H0 B1 H1 σ (S.grow x1) _ fun v2 B2 H2 x2 r2 => q v2 B2 H2 (x1.trans x2) (r2.back x1.hh))

/-! ### items, slices -/
theorem ix_sem (g : Good X N sc k) (hb : plainE b = true) (h : op2D .ix x y = some d) : ∃ r, PE X (.Subscript a b pos) (tOp r (tOf X a) (tOf X b)) ∧ OpSem X.K r .sh x y d := by
  cases x with
  | lst l => cases y <;> simp [op2D] at h; exact ⟨_, pe_ix ix_list pe_of pe_of (plainIx hb), sm_ixL h⟩
  | tup l => cases y <;> simp [op2D] at h; exact ⟨_, pe_ix ix_tup pe_of pe_of (plainIx hb), sm_ixT h⟩
  | scr l => cases y <;> simp [op2D] at h; exact ⟨_, pe_ix ix_list pe_of pe_of (plainIx hb), sm_ixZ h⟩
  | str s =>
    cases y <;> simp [op2D] at h
    obtain ⟨c, h, rfl⟩ := h
    exact ⟨_, pe_ix ix_str pe_of pe_of (plainIx hb), sm_ixS h⟩
  | dic ks ds =>
    have h' : (keyD y).bind (fun k => lookD k ks ds) = some d := h
    obtain ⟨key, h1, h2⟩ := Option.bind_eq_some_iff.mp h'
    exact ⟨rDGet, pe_dget (by have := g.hu; omega) pe_of pe_of (plainIx hb), sm_ixD h1 h2⟩
  | dit ks ds =>
    have h' : (keyT y).bind (fun k => lookD k ks ds) = some d := h
    obtain ⟨key, h1, h2⟩ := Option.bind_eq_some_iff.mp h'
    exact ⟨rDGet, pe_dget (by have := g.hu; omega) pe_of pe_of (plainIx hb), sm_ixQ h1 h2⟩
  | _ => cases y <;> simp [op2D] at h
theorem ev_ix (g : Good X N sc k) (hb' : plainE b = true) (h : op2D .ix x y = some d) (ha : EvM .bo X a Γ ρ x) (hb : EvM .bo X b Γ ρ y) : EvM .sh X (.Subscript a b pos) Γ ρ d := by
  obtain ⟨r, p, s⟩ := ix_sem (a := a) (pos := pos) g hb' h
  exact ev_op2 p s ha hb
/-- a part of a slice -/
def EvO (X : Cx) (o : Option Expr) (Γ : MEnv) (ρ : DEnv) (r : Option Int) : Prop := match o with
  | none => r = none
  | some e => ∃ i, r = some i ∧ EvM .bo X e Γ ρ (.int i)
def tOOf (X : Cx) : Option Expr → TO
  | none => tNoPart
  | some e => tPart (tOf X e)
theorem po_of {o : Option Expr} : PO X o (tOOf X o) := by
  cases o with
  | none => exact po_none
  | some e => exact po_some pe_of
theorem ev_o {o : Option Expr} {r : Option Int} (h : EvO X o Γ ρ r) : ∀ lv B0 H0 B H σ, Stt X.K Γ lv B0 H0 B H σ ρ → ∀ Q : Option Int → Hp → Prop, (∀ B' H', Ext B H B' H' → Q r H') → tOOf X o σ H Q := by
  intro lv B0 H0 B H σ S Q q
  cases o with
  | none => cases h; exact q B H (.refl S.ext.bh)
  | some e =>
    obtain ⟨i, rfl, h⟩ := h
    refine h lv B0 H0 B H σ S _ fun v B1 H1 x1 r1 => ?_
    cases bor_int r1
    exact ⟨i, rfl, q B1 H1 x1⟩
def SlSem (K : PySem.W.Frag) (r : V → Option Int → Option Int → Hp → VK → Prop) (m : Md) (x : D) (lo hi : Option Int) (d : D) : Prop := ∀ B H v, Ex B H → Bor K B H v x → ∀ Q : VK, (∀ u B' H', Ext B H B' H' → RM K m H B' H' u d → Q u H') → r v lo hi H Q
theorem cut_reps {K : PySem.W.Frag} {B : Hp} {vs : List V} {l : List D} {lo hi : Option Int} (r : Reps K B vs l) : Reps K B (cutV vs lo hi) (cutD l lo hi) := by
  unfold cutV cutD
  rw [r.length]
  exact (r.drop _).take _
theorem cut_whole {l : List D} {lo hi : Option Int} (h : HT.sIx l.length 0 lo = 0 ∧ HT.sIx l.length l.length hi = l.length) : cutD l lo hi = l := by
  unfold cutD
  rw [h.1, h.2]
  simp
theorem sl_sem {lo hi : Option Int} (h : slD x lo hi = some d) : ∃ r, SlR X r ∧ SlSem X.K r (mdR d) x lo hi d := by
  cases x <;> simp [slD] at h <;> subst h
  · refine ⟨_, sl_str, fun B H v e hv Q q => ?_⟩
    obtain ⟨rfl, o⟩ := bor_str hv
    exact ⟨_, rfl, o.2, same_val e (.str _ (okS_cut lo hi o)) q⟩
  · refine ⟨_, sl_tupA, fun B H v e hv Q q => ?_⟩
    obtain ⟨a, vs, rfl, ha, r⟩ := bor_tup hv
    refine ⟨a, vs, rfl, SqT.of (e _ _ ha), fun z => ?_, fun _ => new_tup e (cut_reps r) q⟩
    rw [r.length] at z
    rw [cut_whole z] at q
    exact same_val e (.tup ha r) q
  · refine ⟨_, sl_list, fun B H v e hv Q q => ?_⟩
    obtain ⟨a, vs, rfl, ha, r⟩ := bor_lst e hv
    exact ⟨a, vs, rfl, SqL.of ha, new_lst e (cut_reps r) q⟩
  · refine ⟨_, sl_list, fun B H v e hv Q q => ?_⟩
    obtain ⟨a, vs, rfl, ha, r⟩ := bor_scr hv
    exact ⟨a, vs, rfl, sqL_ex e ha, new_lst e (cut_reps r) q⟩
theorem ev_sl {lo hi : Option Expr} {l h' : Option Int} {p2 : Pos} (h : slD x l h' = some d) (ha : EvM .bo X a Γ ρ x) (hl : EvO X lo Γ ρ l) (hh : EvO X hi Γ ρ h') : EvM (mdR d) X (.Subscript a (.Slice lo hi none p2) pos) Γ ρ d := fun lv B0 H0 B H σ S Q q => by
  obtain ⟨r, p, s⟩ := sl_sem (X := X) h
  refine of_pe (pe_slice p pe_of po_of po_of) ?_
  refine ha lv B0 H0 B H σ S _ fun v1 B1 H1 x1 r1 => ?_
  refine ev_o hl lv B0 H0 B1 H1 σ (S.grow x1) _ fun B2 H2 x2 => ?_
  refine ev_o hh lv B0 H0 B2 H2 σ (S.grow (x1.trans x2)) _ fun B3 H3 x3 => ?_
  have x123 := (x1.trans x2).trans x3
  exact s B3 H3 v1 x3.bh (Bor.mono (x2.trans x3).bb (x2.trans x3).hh r1) Q fun u B' H' x4 r4 => q u B' H' (x123.trans x4) (r4.back x123.hh)
end
end DL

set_option Elab.async false
set_option linter.all false
set_option maxRecDepth 100000
set_option maxHeartbeats 4000000
namespace DL
open PySem PySem.Spec L2
variable [TbC]

/-! ### arguments -/
def RA (K : PySem.W.Frag) (m : Md) (B H : Hp) (v : V) (d : D) : Prop := match m with
  | .sh => Rep K B v d
  | _ => Bor K B H v d
theorem RA.mono {K : PySem.W.Frag} {m : Md} {B H B' H' : Hp} {v : V} {d : D} (eb : Ex B B') (eh : Ex H H') (r : RA K m B H v d) : RA K m B' H' v d := by
  cases m with
  | sh => exact Rep.mono eb r
  | ow => exact Bor.mono eb eh r
  | bo => exact Bor.mono eb eh r
  | od => exact Bor.mono eb eh r
inductive RAs (K : PySem.W.Frag) (B H : Hp) : List Md → List V → List D → Prop
  | nil : RAs K B H [] [] []
  | cons {m : Md} {ms : List Md} {v : V} {vs : List V} {d : D} {ds : List D} : RA K m B H v d → RAs K B H ms vs ds → RAs K B H (m :: ms) (v :: vs) (d :: ds)
theorem RAs.len {K : PySem.W.Frag} {B H : Hp} {ms : List Md} {vs : List V} {ds : List D} (r : RAs K B H ms vs ds) : vs.length = ms.length ∧ ds.length = ms.length := by
  induction r with
  | nil => exact ⟨rfl, rfl⟩
  | cons _ _ ih => simp [ih.1, ih.2]
theorem RAs.reps {K : PySem.W.Frag} {B H : Hp} {ms : List Md} {vs : List V} {ds : List D} (h : ∀ m ∈ ms, m = .sh) (r : RAs K B H ms vs ds) : Reps K B vs ds := by
  induction r with
  | nil => exact .nil
  | @cons m ms v vs d ds r t ih =>
    have : m = .sh := h m (by simp)
    subst this
    exact .cons r (ih fun m hm => h m (by simp [hm]))
def EvAs (ms : List Md) (X : Cx) (es : List Expr) (Γ : MEnv) (ρ : DEnv) (ds : List D) : Prop :=
  ∀ lv B0 H0 B H σ, Stt X.K Γ lv B0 H0 B H σ ρ → ∀ Q : List V → Hp → Prop, (∀ vs B' H', Ext B H B' H' → RAs X.K B' H' ms vs ds → Q vs H') → tAOf X es σ H Q
section
variable {X : Cx} {N : List Str} {sc : Scope} {k : Nat} {e a b c : Expr} {es : List Expr} {Γ : MEnv} {ρ : DEnv} {d x y z : D} {ds : List D} {m : Md} {ms : List Md} {pos apos : Pos}
theorem ea_nil : EvAs [] X [] Γ ρ [] := fun lv B0 H0 B H σ S Q q => of_pa pa_nil (q [] B H (.refl S.ext.bh) .nil)
theorem ea_cons (hp : plainE e = true) (hm : m ≠ .ow) (he : EvM m X e Γ ρ d) (ht : EvAs ms X es Γ ρ ds) : EvAs (m :: ms) X (e :: es) Γ ρ (d :: ds) := fun lv B0 H0 B H σ S Q q => by
  refine of_pa (pa_cons pe_of pa_of (star1 hp)) ?_
  refine he lv B0 H0 B H σ S _ fun v1 B1 H1 x1 r1 => ?_
  refine ht lv B0 H0 B1 H1 σ (S.grow x1) _ fun vs B2 H2 x2 r2 => ?_
  refine q (v1 :: vs) B2 H2 (x1.trans x2) (.cons ?_ r2)
  cases m with
  | sh => exact Rep.mono x2.bb r1
  | ow => exact absurd rfl hm
  | bo => exact Bor.mono x2.bb x2.hh r1
  | od => exact Bor.mono x2.bb x2.hh r1
theorem RAs.of_reps {K : PySem.W.Frag} {B H : Hp} : ∀ {vs : List V} {ds : List D}, Reps K B vs ds → RAs K B H (List.replicate ds.length .sh) vs ds
  | _, _, .nil => .nil
  | _, _, .cons r t => .cons r (RAs.of_reps t)
theorem RAs.append {K : PySem.W.Frag} {B H : Hp} {m1 m2 : List Md} {v1 v2 : List V} {d1 d2 : List D} (h1 : RAs K B H m1 v1 d1) (h2 : RAs K B H m2 v2 d2) : RAs K B H (m1 ++ m2) (v1 ++ v2) (d1 ++ d2) := by
  induction h1 with
  | nil => exact h2
  | cons r _ ih => exact .cons r ih
theorem ea_star {l : List D} {p : Pos} (he : EvM .bo X e Γ ρ d) (hd : starL d = some l) (ht : EvAs ms X es Γ ρ ds) : EvAs (List.replicate l.length .sh ++ ms) X (.Starred e p :: es) Γ ρ (l ++ ds) := fun lv B0 H0 B H σ S Q q => by
  refine of_pa (StX.pa_star pe_of pa_of rfl) ?_
  refine he lv B0 H0 B H σ S _ fun v1 B1 H1 x1 r1 => ?_
  have key : ∃ a xs, v1 = V.ref a ∧ (SqT X.K H1 a xs ∨ SqL X.K H1 a xs) ∧ Reps X.K B1 xs l := by
    cases d with
    | lst l' =>
      cases hd
      obtain ⟨a, vs, rfl, ha, r⟩ := bor_lst x1.bh r1
      exact ⟨a, vs, rfl, .inr (SqL.of ha), r⟩
    | tup l' =>
      cases hd
      obtain ⟨a, vs, rfl, ha, r⟩ := bor_tup r1
      exact ⟨a, vs, rfl, .inl (SqT.of (x1.bh _ _ ha)), r⟩
    | _ => cases hd
  obtain ⟨a, xs, rfl, hx, r⟩ := key
  refine ⟨a, xs, rfl, hx, ?_⟩
  refine ht lv B0 H0 B1 H1 σ (S.grow x1) _ fun vs B2 H2 x2 r2 => ?_
  exact q _ B2 H2 (x1.trans x2) ((RAs.of_reps (r.mono x2.bb)).append r2)
theorem all_sh {n : Nat} : ∀ m ∈ List.replicate n Md.sh, m = .sh := fun m hm => (List.mem_replicate.mp hm).2
theorem ev_tup {n x1 : Nat} (hl : ds.length ≤ lim) (h : EvAs (List.replicate n .sh) X es Γ ρ ds) : EvM .sh X (.Tuple es x1 pos) Γ ρ (.tup ds) := fun lv B0 H0 B H σ S Q q => by
  refine of_pe (pe_tup pa_of) ?_
  refine h lv B0 H0 B H σ S _ fun vs B1 H1 x1 r1 => ?_
  have r := r1.reps all_sh
  exact ⟨by rw [r.length]; exact lim_le hl, new_tup x1.bh r fun v B' H' x2 r2 => q v B' H' (x1.trans x2) r2⟩
theorem ev_lst {n : Nat} (hl : ds.length ≤ lim) (h : EvAs (List.replicate n .sh) X es Γ ρ ds) : EvM .ow X (.List es pos) Γ ρ (.lst ds) := fun lv B0 H0 B H σ S Q q => by
  refine of_pe (pe_lst pa_of) ?_
  refine h lv B0 H0 B H σ S _ fun vs B1 H1 x1 r1 => ?_
  have r := r1.reps all_sh
  exact ⟨by rw [r.length]; exact lim_le hl, new_lst x1.bh r fun v B' H' x2 r2 => q v B' H' (x1.trans x2) (r2.back x1.hh)⟩
theorem ev_dnew : EvM .ow X (.Dict [] [] pos) Γ ρ (.dic [] []) := fun lv B0 H0 B H σ S Q q => by
  refine of_pe pe_dnewK ?_
  intro p hp
  exact q _ _ _ (.own S.ext.bh hp) ⟨p, rfl, hp, S.ext.bh.back hp, .dic (kvs := []) upd_same rfl (fun x hx => by cases hx) .nil⟩
theorem ev_dnewT : EvM .ow X (.Dict [] [] pos) Γ ρ (.dit [] []) := fun lv B0 H0 B H σ S Q q => by
  refine of_pe pe_dnewT ?_
  intro p hp
  exact q _ _ _ (.own S.ext.bh hp) ⟨p, rfl, hp, S.ext.bh.back hp, .dit (kvs := []) upd_same rfl (fun x hx => by cases hx) .nil⟩

/-! ### own defs -/
def spD (K : PySem.W.Frag) (ms : List Md) (sem : List D → Option D) : Sp := fun vs H Q _ =>
  ∃ B ds d, Ex B H ∧ Tabs B ∧ RAs K B H ms vs ds ∧ sem ds = some d ∧ ∀ v B' H', Ext B H B' H' → Rep K B' v d → Q v H'
/-- .. what is given is new, the caller's own -/
def spO (K : PySem.W.Frag) (ms : List Md) (sem : List D → Option D) : Sp := fun vs H Q _ =>
  ∃ B ds d, Ex B H ∧ Tabs B ∧ RAs K B H ms vs ds ∧ sem ds = some d ∧ ∀ v B' H', Ext B H B' H' → RM K .ow H B' H' v d → Q v H'
theorem spO_of {K : PySem.W.Frag} {ms : List Md} {sem : List D → Option D} : ∀ vs H Q E, spD K ms sem vs H Q E → spO K ms sem vs H Q E := fun vs H Q E ⟨B, ds, d, h1, h2, h3, h4, q⟩ =>
  ⟨B, ds, d, h1, h2, h3, h4, fun v B' H' x r => let ⟨B2, x2, _, r2⟩ := fresh_sh x r; q v B2 H' x2 r2⟩
def plainEs : List Expr → Bool
  | [] => true
  | e :: es => plainE e && plainEs es
theorem backTo_plain {env : Env} (pos : Pos) : ∀ {es : List Expr}, plainEs es = true → (backTo pos (starEach es env)).any (·.1) = false
  | [], _ => rfl
  | e :: es, h => by
    simp only [plainEs, Bool.and_eq_true] at h
    rw [star1 h.1]
    have ih := backTo_plain (env := env) pos h.2
    show (false || (backTo pos (starEach es env)).any (·.1)) = false
    rw [ih]; rfl
structure FnAt (X : Cx) (k : Nat) (nm : Str) (ms : List Md) (sem : List D → Option D) : Prop where
  ex : ∃ (f : Addr) (fd : FuncData) (ps : List Str) (j : Nat), j ≤ k ∧ X.mg nm = some (.ref f) ∧ PySem.W.keepIn X.K (.ref f) = true ∧ Binds X.K fd ps [] ∧ FnOk X.prog X.w X.K X.mg X.base CX0 j f fd ps (spD X.K ms sem)
theorem ev_call {nm : Str} {p : Pos} {sem : List D → Option D} (g : Good X N sc k) (F : FnAt X k nm ms sem) (hg : glS sc nm = true) (hd : (nm == ("__debug__" : Str)) = false) (hp : plainEs es = true) (hne : es ≠ []) (h : sem ds = some d) (ha : EvAs ms X es Γ ρ ds) : EvM .sh X (.Call (.Name nm p) es [] pos) Γ ρ d := by
  obtain ⟨f, fd, ps, j, hj, hm, hk, hb, F⟩ := F.ex
  intro lv B0 H0 B H σ S Q q
  have key : tAOf X es σ H fun vs H1 => spD X.K ms sem (vs ++ []) H1 Q E0 := ha lv B0 H0 B H σ S _ fun vs B1 H1 x1 r1 => by
    rw [List.append_nil]
    exact ⟨B1, ds, d, x1.bh, S.tabs.mono (S.ext.bb.trans x1.bb), r1, h, fun v B' H' x2 r2 => q v B' H' (x1.trans x2) r2⟩
  cases es with
  | nil => exact absurd rfl hne
  | cons e es =>
    simp only [plainEs, Bool.and_eq_true] at hp
    exact of_pe (pe_call F (g.room.mono hj) (g.gl _ hg) hm hk hb .nil pass0 pa_of hd (star1 hp.1) (backTo_plain _ hp.2)) key
theorem RM_back {K : PySem.W.Frag} {H H1 B' H' : Hp} {v : V} {d : D} (e : Ex H H1) (r : RM K .ow H1 B' H' v d) : RM K .ow H B' H' v d :=
  let ⟨p, a, b, c, o⟩ := r; ⟨p, a, e.back b, c, o⟩
structure FnAtO (X : Cx) (k : Nat) (nm : Str) (ms : List Md) (sem : List D → Option D) : Prop where
  ex : ∃ (f : Addr) (fd : FuncData) (ps : List Str) (j : Nat), j ≤ k ∧ X.mg nm = some (.ref f) ∧ PySem.W.keepIn X.K (.ref f) = true ∧ Binds X.K fd ps [] ∧ FnOk X.prog X.w X.K X.mg X.base CX0 j f fd ps (spO X.K ms sem)
theorem ev_callO {nm : Str} {p : Pos} {sem : List D → Option D} (g : Good X N sc k) (F : FnAtO X k nm ms sem) (hg : glS sc nm = true) (hd : (nm == ("__debug__" : Str)) = false) (hp : plainEs es = true) (hne : es ≠ []) (h : sem ds = some d) (ha : EvAs ms X es Γ ρ ds) : EvM .ow X (.Call (.Name nm p) es [] pos) Γ ρ d := by
  obtain ⟨f, fd, ps, j, hj, hm, hk, hb, F⟩ := F.ex
  intro lv B0 H0 B H σ S Q q
  have key : tAOf X es σ H fun vs H1 => spO X.K ms sem (vs ++ []) H1 Q E0 := ha lv B0 H0 B H σ S _ fun vs B1 H1 x1 r1 => by
    rw [List.append_nil]
    exact ⟨B1, ds, d, x1.bh, S.tabs.mono (S.ext.bb.trans x1.bb), r1, h, fun v B' H' x2 r2 => q v B' H' (x1.trans x2) (RM_back x1.hh r2)⟩
  cases es with
  | nil => exact absurd rfl hne
  | cons e es =>
    simp only [plainEs, Bool.and_eq_true] at hp
    exact of_pe (pe_call F (g.room.mono hj) (g.gl _ hg) hm hk hb .nil pass0 pa_of hd (star1 hp.1) (backTo_plain _ hp.2)) key
theorem ev_call0 {nm : Str} {p : Pos} {sem : List D → Option D} (g : Good X N sc k) (F : FnAt X k nm [] sem) (hg : glS sc nm = true) (hd : (nm == ("__debug__" : Str)) = false) (h : sem [] = some d) : EvM .sh X (.Call (.Name nm p) [] [] pos) Γ ρ d := by
  obtain ⟨f, fd, ps, j, hj, hm, hk, hb, F⟩ := F.ex
  intro lv B0 H0 B H σ S Q q
  refine of_pe (pe_call0 F (g.room.mono hj) (g.gl _ hg) hm hk hb .nil pass0 hd) ?_
  show spD X.K [] sem ([] ++ []) H Q E0
  exact ⟨B, [], d, S.ext.bh, S.tabs.mono S.ext.bb, .nil, h, fun v B' H' x2 r2 => q v B' H' x2 r2⟩
end

/-! ### what is walked -/
/-- J gives l, as long as the heap holds what Bs, Hs hold -/
def Walks (K : PySem.W.Frag) (J : It) (Bs Hs : Hp) (l : List D) : Prop :=
  ∀ B H, Ext Bs Hs B H → ∀ i, (i < l.length → J.go i H ∧ ∀ x H', J.yld i H x H' → ∃ B' d, Ext B H B' H' ∧ l[i]? = some d ∧ Rep K B' x d) ∧ (l.length ≤ i → J.stop i H)
theorem walks_list {K : PySem.W.Frag} {Bs Hs : Hp} {a : Addr} {vs : List V} {l : List D} (h : SqL K Hs a vs) (r : Reps K Bs vs l) : Walks K (Itl K a) Bs Hs l := fun B H x i => by
  have h' := sqL_ex x.hh h
  refine ⟨fun hi => ?_, fun hi => ⟨vs, h', by rw [r.length]; exact hi⟩⟩
  have hi' : i < vs.length := by rw [r.length]; exact hi
  refine ⟨⟨vs, vs[i], h', List.getElem?_eq_getElem hi'⟩, ?_⟩
  rintro y H' ⟨rfl, hy⟩
  obtain ⟨d, h1, h2⟩ := r.get (hy vs h')
  exact ⟨B, d, .refl x.bh, h1, h2.mono x.bb⟩
theorem walks_tup {K : PySem.W.Frag} {Bs Hs : Hp} {a : Addr} {vs : List V} {l : List D} (h : SqT K Hs a vs) (r : Reps K Bs vs l) : Walks K (Itt K a) Bs Hs l := fun B H x i => by
  have h' := sqT_ex x.hh h
  refine ⟨fun hi => ?_, fun hi => ⟨vs, h', by rw [r.length]; exact hi⟩⟩
  have hi' : i < vs.length := by rw [r.length]; exact hi
  refine ⟨⟨vs, vs[i], h', List.getElem?_eq_getElem hi'⟩, ?_⟩
  rintro y H' ⟨rfl, hy⟩
  obtain ⟨d, h1, h2⟩ := r.get (hy vs h')
  exact ⟨B, d, .refl x.bh, h1, h2.mono x.bb⟩
theorem rng_get {lo : Int} {n i : Nat} (h : i < n) : (rngD lo n)[i]? = some (.int (lo + (i : Int))) := by
  unfold rngD
  rw [List.getElem?_map, List.getElem?_range h]; rfl
theorem rng_len {lo : Int} {n : Nat} : (rngD lo n).length = n := by unfold rngD; simp
theorem walks_rng {K : PySem.W.Frag} {Bs Hs : Hp} {lo : Int} {n : Nat} : Walks K (Itr lo n) Bs Hs (rngD lo n) := fun B H x i => by
  rw [rng_len]
  refine ⟨fun hi => ⟨hi, ?_⟩, fun hi => hi⟩
  rintro y H' ⟨rfl, rfl⟩
  exact ⟨B, _, .refl x.bh, rng_get hi, .int _⟩
/-- z: nothing but the frozen part and what the caller holds is leaned on -/
def EvI (z : Bool) (X : Cx) (tg iter : Expr) (Γ : MEnv) (ρ : DEnv) (l : List D) : Prop := l.length ≤ sizeLine ∧ ∃ wi, PI X tg iter wi ∧
  ∀ lv B0 H0 B H σ, Stt X.K Γ lv B0 H0 B H σ ρ → ∀ R : It → Hp → Prop, (∀ J B' H', Ext B H B' H' → (∀ Hs, (if z = true then Ex H0 Hs else Ex H' Hs) → Ex B' Hs → Walks X.K J B' Hs l) → R J H') → wi σ H R
/-- frozen, or the caller's -/
def EvB (z : Bool) (X : Cx) (e : Expr) (Γ : MEnv) (ρ : DEnv) (d : D) : Prop :=
  ∀ lv B0 H0 B H σ, Stt X.K Γ lv B0 H0 B H σ ρ → ∀ Q : VK, (∀ v B' H', Ext B H B' H' → Bor X.K B' (if z = true then H0 else H') v d → Q v H') → tOf X e σ H Q
section
variable {X : Cx} {N : List Str} {sc : Scope} {k : Nat} {e a b c tg : Expr} {Γ : MEnv} {ρ : DEnv} {d x y : D} {l : List D} {z : Bool} {pos apos p : Pos}
theorem EvB.of_sh (h : EvM .sh X e Γ ρ d) : EvB z X e Γ ρ d := fun lv B0 H0 B H σ S Q q => h lv B0 H0 B H σ S Q fun v B' H' x r => q v B' H' x (.inl r)
theorem EvB.of_bo (h : EvM .bo X e Γ ρ d) : EvB false X e Γ ρ d := fun lv B0 H0 B H σ S Q q => h lv B0 H0 B H σ S Q fun v B' H' x r => q v B' H' x r
theorem EvB.var {i : Nat} {x : Str} (hN : X.N[i]? = some x) (hv : Vis X.env.scope x) (hd : (x == ("__debug__" : Str)) = false) (hcd : (x == ("__classdict__" : Str)) = false) (h : ρ[i]? = some (some d)) (hm : Γ[i]? = some Md.bo) : EvB z X (.Name x pos) Γ ρ d := fun lv B0 H0 B H σ S Q q => by
  refine of_pe (pe_var hN hv hd hcd) ?_
  obtain ⟨v, t, h0, hl, hv, r⟩ := S.bo i d hm h
  have r := r.bor.mono (.refl _) (S.lvx i v t h0 hl)
  refine ⟨v, hv, q v B H (.refl S.ext.bh) ?_⟩
  cases z with
  | true => exact r
  | false => exact r.mono (.refl _) S.ext.hh
theorem key_list {K : PySem.W.Frag} {B' H0 H' : Hp} {v : V} {l : List D} (bh : Ex B' H') (e0 : Ex (if z = true then H0 else H') H') (r : Bor K B' (if z = true then H0 else H') v d) (hd : d = .lst l ∨ d = .scr l) :
    ∃ a vs, v = .ref a ∧ Reps K B' vs l ∧ SqL K H' a vs ∧ ∀ Hs, (if z = true then Ex H0 Hs else Ex H' Hs) → Ex B' Hs → SqL K Hs a vs := by
  rcases hd with rfl | rfl
  · rcases r with r | ⟨p, rfl, r⟩
    · cases r with | lst h r => exact ⟨_, _, rfl, r, SqL.of (bh _ _ h), fun Hs _ e2 => SqL.of (e2 _ _ h)⟩
    · cases r with
      | @lst vs _ hp r =>
        refine ⟨p, vs, rfl, r, SqL.of (e0 _ _ hp), fun Hs e1 _ => ?_⟩
        cases z with
        | true => exact SqL.of (e1 _ _ hp)
        | false => exact SqL.of (e1 _ _ hp)
  · obtain ⟨a, vs, rfl, ha, r⟩ := bor_scr r
    exact ⟨a, vs, rfl, r, sqL_ex bh ha, fun Hs _ e2 => sqL_ex e2 ha⟩
theorem ei_list {l : List D} (hl : l.length ≤ sizeLine) (h : EvB z X e Γ ρ d) (hd : d = .lst l ∨ d = .scr l) : EvI z X tg e Γ ρ l := by
  refine ⟨hl, _, pi_list pe_of, fun lv B0 H0 B H σ S R q => h lv B0 H0 B H σ S _ fun v B' H' x r => ?_⟩
  have e0 : Ex (if z = true then H0 else H') H' := by
    cases z with
    | true => exact S.ext.hh.trans x.hh
    | false => exact .refl _
  obtain ⟨a, vs, rfl, r1, r2, r3⟩ := key_list x.bh e0 r hd
  exact ⟨a, rfl, ⟨vs, r2⟩, q _ B' H' x fun Hs e1 e2 => walks_list (r3 Hs e1 e2) r1⟩
theorem ei_tup {l : List D} (hl : l.length ≤ sizeLine) (h : EvM .bo X e Γ ρ (.tup l)) : EvI z X tg e Γ ρ l := by
  refine ⟨hl, _, pi_tup pe_of, fun lv B0 H0 B H σ S R q => h lv B0 H0 B H σ S _ fun v B' H' x r => ?_⟩
  obtain ⟨a, vs, rfl, ha, r⟩ := bor_tup r
  exact ⟨a, rfl, ⟨vs, SqT.of (x.bh _ _ ha)⟩, q _ B' H' x fun Hs e1 e2 => walks_tup (SqT.of (e2 _ _ ha)) r⟩
theorem lim62 {j : Int} (h : j ≤ lim) : j < 2 ^ 62 := by
  have : (lim : Int) < 2 ^ 62 := by decide
  omega
theorem ei_rng1 (g : Good X N sc k) (hm : X.mg "range" = none) (hg : glS sc "range" = true) (hp : plainE a = true) {j : Int} (hj : j ≤ lim) (hj0 : -(2 ^ 62) ≤ j) (h : EvM .bo X a Γ ρ (.int j)) : EvI z X tg (.Call (.Name "range" p) [a] [] pos) Γ ρ (rngD 0 j.toNat) := by
  refine ⟨by rw [rng_len]; have : (lim : Int) = (lim : Nat) := rfl; exact Nat.le_trans (by omega : j.toNat ≤ lim) (by decide), _, pi_range1 (g.gl _ hg) hm pa_of (star1 hp), fun lv B0 H0 B H σ S R q => ?_⟩
  refine ea_cons hp (by decide) h ea_nil lv B0 H0 B H σ S _ fun vs B' H' x r => ?_
  cases r with
  | cons r1 r2 =>
    cases r2
    cases bor_int r1
    exact ⟨j, rfl, hj0, lim62 hj, q _ B' H' x fun Hs _ _ => walks_rng⟩
theorem ei_rng2 (g : Good X N sc k) (hm : X.mg "range" = none) (hg : glS sc "range" = true) (hp : plainE a = true) (hp2 : plainE b = true) {i j : Int} (hi : 0 ≤ i) (hj : j ≤ lim) (hj0 : -(2 ^ 62) ≤ j) (hi2 : i < 2 ^ 62) (h : EvM .bo X a Γ ρ (.int i)) (h2 : EvM .bo X b Γ ρ (.int j)) : EvI z X tg (.Call (.Name "range" p) [a, b] [] pos) Γ ρ (rngD i (j - i).toNat) := by
  refine ⟨by rw [rng_len]; exact Nat.le_trans (by omega : (j - i).toNat ≤ lim) (by decide), _, pi_range2 (g.gl _ hg) hm pa_of (by rw [star1 hp, star1 hp2]; rfl) (by rw [star1 hp2]; rfl), fun lv B0 H0 B H σ S R q => ?_⟩
  refine ea_cons hp (by decide) h (ea_cons hp2 (by decide) h2 ea_nil) lv B0 H0 B H σ S _ fun vs B' H' x r => ?_
  cases r with
  | cons r1 r2 =>
    cases r2 with
    | cons r2 r3 =>
      cases r3
      cases bor_int r1
      cases bor_int r2
      exact ⟨i, j, rfl, ⟨by omega, hi2, hj0, lim62 hj⟩, q _ B' H' x fun Hs _ _ => walks_rng⟩
end
end DL

set_option Elab.async false
set_option linter.all false
set_option maxRecDepth 100000
set_option maxHeartbeats 4000000
namespace DL
open PySem PySem.Spec L2
variable [TbC]

/-! ### the context of a comprehension -/
def rl (env : Env) (x : Str) (k : NameKind) : NameKind := if (k == NameKind.free && env.scope.kind == .function && env.kindOf x == some .cell) = true then .cell else k
theorem lookup_relabel {env : Env} : ∀ {names : List (Str × NameKind)} {x : Str},
    (names.map fun (n, k) => if (k == NameKind.free && env.scope.kind == .function && env.kindOf n == some .cell) = true then (n, NameKind.cell) else (n, k)).lookup x = (names.lookup x).map (rl env x)
  | [], _ => rfl
  | (n, k) :: r, x => by
    have ih := @lookup_relabel env r x
    rw [List.map_cons]
    by_cases hx : x = n
    · subst hx
      rw [List.lookup_cons_self]
      show List.lookup x ((if (k == NameKind.free && env.scope.kind == .function && env.kindOf x == some .cell) = true then (x, NameKind.cell) else (x, k)) :: _) = some (rl env x k)
      unfold rl
      split <;> rw [List.lookup_cons_self]
    · have hb : (x == n) = false := beq_eq_false_iff_ne.mpr hx
      have e1 : List.lookup x ((n, k) :: r) = List.lookup x r := by rw [List.lookup_cons, hb]
      rw [e1, ← ih]
      show List.lookup x ((if (k == NameKind.free && env.scope.kind == .function && env.kindOf n == some .cell) = true then (n, NameKind.cell) else (n, k)) :: _) = _
      split <;> rw [List.lookup_cons, hb]
theorem relabel_at {scope : Scope} {env : Env} {x : Str} : (relabel scope env).names.lookup x = (scope.names.lookup x).map (rl env x) := lookup_relabel
theorem Good.blkOk {X : Cx} {N : List Str} {sc scope : Scope} {k : Nat} {own : List (Str × Nat)} (g : Good X N sc k) (hb : blkC N sc scope own = true) : BlkOk X.N X.env.scope scope own := by
  have o := blkOk_by hb
  refine ⟨o.kind, o.uniq, by rw [g.hN]; exact o.ix, fun y hy e => ?_, by rw [g.hN]; exact o.own⟩
  apply g.cf
  unfold cfS
  rcases o.free y hy e with h | h <;> rw [h]
theorem Good.blk {X : Cx} {N : List Str} {sc scope : Scope} {k : Nat} {own : List (Str × Nat)} (g : Good X N sc k) (hb : blkC N sc scope own = true) (s : Shared) (H : Hp) (C : Addr) (cl : List (Str × Addr)) (fp : List Addr) :
    Good (X.blk s H scope (compEnvC scope cl C X.env) fp) N scope k where
  hN := g.hN
  nd := g.nd
  calm := g.calm
  room := g.room
  kind := (blkOk_by hb).kind
  vis := fun x h => by
    show _ ∨ _ ∨ _
    show (relabel scope X.env).names.lookup x = _ ∨ (relabel scope X.env).names.lookup x = _ ∨ (relabel scope X.env).names.lookup x = _
    rw [relabel_at]
    unfold visS at h
    split at h <;> rename_i e <;> first | (rw [e]; simp only [Option.map_some, rl]; split <;> simp) | cases h
  gl := fun x h => by
    show (relabel scope X.env).names.lookup x = _
    rw [relabel_at]
    unfold glS at h
    split at h <;> rename_i e <;> first | (rw [e]; rfl) | cases h
  st := fun x h => by
    have : ((relabel scope X.env).names.lookup x = some .local ∨ (relabel scope X.env).names.lookup x = some .cell) ∧ ((scope.names.lookup x == some .cell) = true ∨ (relabel scope X.env).names.lookup x = some .local) := by
      rw [relabel_at]
      unfold stS at h
      split at h <;> rename_i e <;> first | (rw [e]; constructor <;> simp [rl]) | cases h
    exact this
  lo := fun x h => by
    show (relabel scope X.env).names.lookup x = _
    rw [relabel_at]
    unfold loS at h
    split at h <;> rename_i e <;> first | (rw [e]; rfl) | cases h
  ce := fun x h => by
    show (relabel scope X.env).names.lookup x = _
    rw [relabel_at]
    unfold ceS at h
    split at h <;> rename_i e <;> first | (rw [e]; rfl) | cases h
  cf := fun x h => by
    show (relabel scope X.env).names.lookup x = _ ∨ (relabel scope X.env).names.lookup x = _
    rw [relabel_at]
    unfold cfS at h
    split at h <;> rename_i e <;> first | (rw [e]; simp only [Option.map_some, rl]; split <;> simp) | cases h

/-! ### targets -/
def lenT : T → Nat
  | .cn _ t => lenT t + 1
  | _ => 0
mutual
def gOf (K : PySem.W.Frag) : T → TG
  | .nm i => gName i
  | .tp l => gTup K (lenT l) (gsOf K l)
  | _ => fun _ _ _ _ => False
def gsOf (K : PySem.W.Frag) : T → TGs
  | .nl => gNil
  | .cn h t => gCons (gOf K h) (gsOf K t)
  | _ => fun _ _ _ _ => False
end
def slT : T → List Nat
  | .nm i => [i]
  | .tp l => slT l
  | .nl => []
  | .cn h t => slT h ++ slT t
/-- the slots stored to hold what is shared -/
def shT (Γ : MEnv) : T → Bool
  | .nm i => decide (Γ[i]? = some Md.sh)
  | .tp l => shT Γ l
  | .nl => true
  | .cn h t => shT Γ h && shT Γ t
theorem Stt.setSh {K : PySem.W.Frag} {Γ : MEnv} {lv : Nat → Option (V × Bool × Hp)} {B0 H0 B H : Hp} {σ : L2.St} {ρ : DEnv} {i : Nat} {v : V} {d : D} (S : Stt K Γ lv B0 H0 B H σ ρ) (hm : Γ[i]? = some Md.sh) (r : Rep K B v d) : Stt K Γ lv B0 H0 B H (σ.set i (some v)) (ρ.set i (some d)) where
  ext := S.ext
  lvx := S.lvx
  len := by rw [List.length_set, List.length_set]; exact S.len
  mlen := by rw [List.length_set]; exact S.mlen
  sh := fun j e h1 h2 => by
    by_cases q : i = j
    · subst q
      have hi : i < ρ.length := by rw [← S.mlen]; exact (List.getElem?_eq_some_iff.mp hm).1
      rw [List.getElem?_set_self hi] at h2
      cases h2
      exact ⟨v, List.getElem?_set_self (by rw [S.len]; exact hi), r⟩
    · rw [List.getElem?_set_ne q] at h2 ⊢; exact S.sh j e h1 h2
  ow := fun j e h1 h2 => by
    have q : i ≠ j := fun q => by subst q; rw [hm] at h1; cases h1
    rw [List.getElem?_set_ne q] at h2 ⊢; exact S.ow j e h1 h2
  bo := fun j e h1 h2 => by
    have q : i ≠ j := fun q => by subst q; rw [hm] at h1; cases h1
    rw [List.getElem?_set_ne q] at h2 ⊢; exact S.bo j e h1 h2
  apart := fun a b p d e hab h1 h2 h3 h4 h5 => by
    have q1 : i ≠ a := fun q => by subst q; rw [hm] at h1; cases h1
    have q2 : i ≠ b := fun q => by subst q; rw [hm] at h2; cases h2
    rw [List.getElem?_set_ne q1] at h3 h5
    rw [List.getElem?_set_ne q2] at h4 ⊢
    exact S.apart a b p d e hab h1 h2 h3 h4 h5
  od := fun j e h1 h2 => by
    have q : i ≠ j := fun q => by subst q; rw [hm] at h1; cases h1
    rw [List.getElem?_set_ne q] at h2 ⊢
    obtain ⟨p, fp, a, b, o, f⟩ := S.od j e h1 h2
    refine ⟨p, fp, a, b, o, fun c e' q' g1 g2 g3 => ?_⟩
    have q2 : i ≠ c := fun q => by subst q; rw [hm] at g1; cases g1
    rw [List.getElem?_set_ne q2] at g2 g3
    exact f c e' q' g1 g2 g3
  one := S.one
  tabs := S.tabs
mutual
theorem asg_ok {K : PySem.W.Frag} {Γ : MEnv} {lv : Nat → Option (V × Bool × Hp)} {B0 H0 B H : Hp} : ∀ {t : T} {d : D} {ρ ρ' : DEnv} {σ : L2.St} {v : V} {Q : L2.St → Hp → Prop}, shT Γ t = true → asgT t d ρ = some ρ' → Stt K Γ lv B0 H0 B H σ ρ → Rep K B v d →
    (∀ σ', Stt K Γ lv B0 H0 B H σ' ρ' → (∀ i, i ∉ slT t → σ'[i]? = σ[i]?) → σ'.length = σ.length → Q σ' H) → gOf K t v σ H Q
  | .nm i, d, ρ, ρ', σ, v, Q, hs, h, S, r, q => by
    simp only [asgT, Option.some.injEq] at h
    subst h
    exact q _ (S.setSh (of_decide_eq_true hs) r) (fun j hj => List.getElem?_set_ne (by simpa [slT, eq_comm] using hj)) (List.length_set ..)
  | .tp l, d, ρ, ρ', σ, v, Q, hs, h, S, r, q => by
    cases d with
    | tup ds =>
      cases r with
      | tup ha r =>
        refine ⟨_, _, rfl, SqT.of (S.ext.bh _ _ ha), ?_, asgs_ok hs h S r q⟩
        exact asgs_len h r
    | _ => simp [asgT] at h
  | .nl, _, _, _, _, _, _, _, h, _, _, _ => by simp [asgT] at h
  | .cn _ _, _, _, _, _, _, _, _, h, _, _, _ => by simp [asgT] at h
theorem asgs_ok {K : PySem.W.Frag} {Γ : MEnv} {lv : Nat → Option (V × Bool × Hp)} {B0 H0 B H : Hp} : ∀ {t : T} {ds : List D} {ρ ρ' : DEnv} {σ : L2.St} {vs : List V} {Q : L2.St → Hp → Prop}, shT Γ t = true → asgTs t ds ρ = some ρ' → Stt K Γ lv B0 H0 B H σ ρ → Reps K B vs ds →
    (∀ σ', Stt K Γ lv B0 H0 B H σ' ρ' → (∀ i, i ∉ slT t → σ'[i]? = σ[i]?) → σ'.length = σ.length → Q σ' H) → gsOf K t vs σ H Q
  | .nl, ds, ρ, ρ', σ, vs, Q, hs, h, S, r, q => by
    cases ds with
    | nil => simp only [asgTs, Option.some.injEq] at h; subst h; cases r; exact ⟨rfl, q σ S (fun _ _ => rfl) rfl⟩
    | cons _ _ => simp [asgTs] at h
  | .cn hd t, ds, ρ, ρ', σ, vs, Q, hs, h, S, r, q => by
    cases ds with
    | nil => simp [asgTs] at h
    | cons d ds =>
      simp only [asgTs] at h
      obtain ⟨ρ1, h1, h2⟩ := Option.bind_eq_some_iff.mp h
      simp only [shT, Bool.and_eq_true] at hs
      cases r with
      | cons r1 r2 =>
        refine ⟨_, _, rfl, asg_ok hs.1 h1 S r1 fun σ1 S1 k1 l1 => asgs_ok hs.2 h2 S1 r2 fun σ2 S2 k2 l2 => q σ2 S2 (fun i hi => ?_) (l2.trans l1)⟩
        simp only [slT, List.mem_append, not_or] at hi
        rw [k2 i hi.2, k1 i hi.1]
  | .nm _, _, _, _, _, _, _, _, h, _, _, _ => by simp [asgTs] at h
  | .tp _, _, _, _, _, _, _, _, h, _, _, _ => by simp [asgTs] at h
theorem asgs_len {K : PySem.W.Frag} {B : Hp} : ∀ {t : T} {ds : List D} {ρ ρ' : DEnv} {vs : List V}, asgTs t ds ρ = some ρ' → Reps K B vs ds → vs.length = lenT t
  | .nl, ds, _, _, _, h, r => by
    cases ds with
    | nil => cases r; rfl
    | cons _ _ => simp [asgTs] at h
  | .cn hd t, ds, _, _, _, h, r => by
    cases ds with
    | nil => simp [asgTs] at h
    | cons d ds =>
      simp only [asgTs] at h
      obtain ⟨ρ1, h1, h2⟩ := Option.bind_eq_some_iff.mp h
      cases r with
      | cons r1 r2 => rw [List.length_cons, asgs_len h2 r2]; rfl
  | .nm _, _, _, _, _, h, _ => by simp [asgTs] at h
  | .tp _, _, _, _, _, h, _ => by simp [asgTs] at h
end
/-! ### a list comprehension -/
def wipeOk (Γ : MEnv) (vs : List Nat) : Bool := vs.all fun i => decide (Γ[i]? = some Md.sh)
theorem wipeD_len (ρ : DEnv) : ∀ vs : List Nat, (wipeD ρ vs).length = ρ.length
  | [] => rfl
  | v :: vs => by unfold wipeD; rw [List.length_set, wipeD_len ρ vs]
theorem wipeD_some {ρ : DEnv} {i : Nat} {d : D} : ∀ {vs : List Nat}, (wipeD ρ vs)[i]? = some (some d) → ρ[i]? = some (some d) ∧ i ∉ vs
  | [], h => ⟨h, by simp⟩
  | v :: vs, h => by
    unfold wipeD at h
    by_cases hi : v = i
    · subst hi
      by_cases hv : v < (wipeD ρ vs).length
      · rw [List.getElem?_set_self hv] at h; cases h
      · rw [List.getElem?_eq_none (by simpa using hv)] at h; cases h
    · rw [List.getElem?_set_ne hi] at h
      obtain ⟨h1, h2⟩ := wipeD_some h
      exact ⟨h1, by simp only [List.mem_cons, not_or]; exact ⟨fun e => hi e.symm, h2⟩⟩
theorem Stt.wiped {K : PySem.W.Frag} {Γ : MEnv} {lv : Nat → Option (V × Bool × Hp)} {B0 H0 B H : Hp} {σ : L2.St} {ρ : DEnv} {vs : List Nat} (S : Stt K Γ lv B0 H0 B H σ ρ) : Stt K Γ lv B0 H0 B H (wipe σ vs) (wipeD ρ vs) where
  ext := S.ext
  lvx := S.lvx
  len := by rw [wipe_length, wipeD_len]; exact S.len
  mlen := by rw [wipeD_len]; exact S.mlen
  sh := fun i d h1 h2 => by
    obtain ⟨h2, n⟩ := wipeD_some h2
    rw [wipe_out n]; exact S.sh i d h1 h2
  ow := fun i d h1 h2 => by
    obtain ⟨h2, n⟩ := wipeD_some h2
    rw [wipe_out n]; exact S.ow i d h1 h2
  bo := fun i d h1 h2 => by
    obtain ⟨h2, n⟩ := wipeD_some h2
    rw [wipe_out n]; exact S.bo i d h1 h2
  apart := fun i j p d e hab h1 h2 h3 h4 h5 => by
    obtain ⟨h3, n3⟩ := wipeD_some h3
    obtain ⟨h4, n4⟩ := wipeD_some h4
    rw [wipe_out n3] at h5
    rw [wipe_out n4]
    exact S.apart i j p d e hab h1 h2 h3 h4 h5
  od := fun i d h1 h2 => by
    obtain ⟨h2, n⟩ := wipeD_some h2
    rw [wipe_out n]
    obtain ⟨p, fp, a, b, o, f⟩ := S.od i d h1 h2
    refine ⟨p, fp, a, b, o, fun c e' q' g1 g2 g3 => ?_⟩
    obtain ⟨g2, n2⟩ := wipeD_some g2
    rw [wipe_out n2] at g3
    exact f c e' q' g1 g2 g3
  one := S.one
  tabs := S.tabs
theorem wipe_in {σ : L2.St} {i : Nat} : ∀ {vs : List Nat}, i ∈ vs → (wipe σ vs)[i]? = if i < σ.length then some none else none
  | [], h => by cases h
  | v :: vs, h => by
    unfold wipe
    by_cases hv : v = i
    · subst hv
      by_cases hl : v < σ.length
      · rw [if_pos hl, List.getElem?_set_self (by rw [wipe_length]; exact hl)]
      · rw [if_neg hl, List.getElem?_eq_none (by rw [List.length_set, wipe_length]; omega)]
    · rw [List.getElem?_set_ne hv]
      exact wipe_in (by simpa [Ne.symm hv, eq_comm, hv] using h)
theorem wipe_eq {σ σ' : L2.St} {vs : List Nat} (h : ∀ i, i ∉ vs → σ'[i]? = σ[i]?) (hl : σ'.length = σ.length) : wipe σ' vs = wipe σ vs := by
  apply List.ext_getElem?
  intro i
  by_cases hi : i ∈ vs
  · rw [wipe_in hi, wipe_in hi, hl]
  · rw [wipe_out hi, wipe_out hi, h i hi]
theorem wipe_wipe {σ : L2.St} {vs : List Nat} : wipe (wipe σ vs) vs = wipe σ vs := wipe_eq (fun i hi => wipe_out hi) (wipe_length σ vs)
def EvTs (X : Cx) (ifs : List Expr) (Γ : MEnv) (ρ : DEnv) (b : Bool) : Prop := match ifs with
  | [] => b = true
  | [c] => EvT X c Γ ρ b
  | _ => False
/-- the readings that hold in every block of the comprehension -/
def tBlk (X : Cx) (scope : Scope) (e : Expr) : TE := fun σ H Q => ∀ (s : Shared) (H0 : Hp) (C : Addr) (cl : List (Str × Addr)) (fp : List Addr), tOf (X.blk s H0 scope (compEnvC scope cl C X.env) fp) e σ H Q
def tTBlk (X : Cx) (scope : Scope) : List Expr → TT
  | [] => tYes
  | [c] => fun σ H Q => ∀ (s : Shared) (H0 : Hp) (C : Addr) (cl : List (Str × Addr)) (fp : List Addr), tTOf (X.blk s H0 scope (compEnvC scope cl C X.env) fp) c σ H Q
  | _ => fun _ _ _ => False
section
variable {X : Cx} {N : List Str} {sc scope : Scope} {k : Nat} {own : List (Str × Nat)} {elt tg iter : Expr} {ifs : List Expr} {Γ : MEnv} {ρ : DEnv} {t : T} {l r : List D} {pos : Pos} {f : D → Option (Option D)}
theorem lcG_cons {f : D → Option (Option D)} {x : D} {xs r : List D} (h : lcG f (x :: xs) = some r) : ∃ o rest, f x = some o ∧ lcG f xs = some rest ∧ r = (match o with | none => rest | some y => y :: rest) := by
  simp only [lcG] at h
  obtain ⟨o, h1, h2⟩ := Option.bind_eq_some_iff.mp h
  obtain ⟨rest, h3, h4⟩ := Option.map_eq_some_iff.mp h2
  exact ⟨o, rest, h1, h3, by rw [← h4]; cases o <;> rfl⟩
theorem pts_blk {s : Shared} {H : Hp} {C : Addr} {cl : List (Str × Addr)} {fp : List Addr} {b : Bool} (hE : ∃ Γ ρ, EvTs (X.blk s H scope (compEnvC scope cl C X.env) fp) ifs Γ ρ b) : PTs (X.blk s H scope (compEnvC scope cl C X.env) fp) ifs (tTBlk X scope ifs) := by
  obtain ⟨Γ, ρ, h⟩ := hE
  match ifs, h with
  | [], _ => exact pts_nil
  | [c], _ => exact pts_one ⟨fun pins s' σ H' Q I h => h s H C cl fp pins s' I⟩
  | _ :: _ :: _, h => exact h.elim
theorem lc_read {wi : TI} (hl : l.length ≤ sizeLine) (hif : ifs.length ≤ 1)
    (hwi : ∀ lv B0 H0 B H σ, Stt X.K Γ lv B0 H0 B H σ ρ → ∀ R : It → Hp → Prop, (∀ J B' H', Ext B H B' H' → (∀ Hs, (if false = true then Ex H0 Hs else Ex H' Hs) → Ex B' Hs → Walks X.K J B' Hs l) → R J H') → wi σ H R)
    (hs : shT Γ t = true) (hin : ∀ i ∈ slT t, i ∈ own.map (·.2))
    (hf : ∀ x ∈ l, ∀ o, f x = some o → ∃ ρ' j, asgT t x (wipeD ρ (own.map (·.2))) = some ρ' ∧ (ifs = [] → j = true) ∧ (∀ (s : Shared) (H : Hp) (C : Addr) (cl : List (Str × Addr)) (fp : List Addr), EvTs (X.blk s H scope (compEnvC scope cl C X.env) fp) ifs Γ ρ' j) ∧
      (j = false → o = none) ∧ (j = true → ∃ y, o = some y ∧ ∀ (s : Shared) (H : Hp) (C : Addr) (cl : List (Str × Addr)) (fp : List Addr), EvM .sh (X.blk s H scope (compEnvC scope cl C X.env) fp) elt Γ ρ' y))
    (hr : lcG f l = some r) : ∀ lv B0 H0 B H σ, Stt X.K Γ lv B0 H0 B H σ ρ → ∀ Q : VK, (∀ v B' H', Ext B H B' H' → RM X.K .ow H B' H' v (.lst r) → Q v H') → tLc wi (gOf X.K t) (tTBlk X scope ifs) (tBlk X scope elt) (own.map (·.2)) σ H Q := by
  intro lv B0 H0 B H σ S Q q
  show wi σ H fun J H1 => _
  refine hwi lv B0 H0 B H σ S _ fun J B1 H1 x1 hw => ?_
  have W1 := hw H1 (.refl _) x1.bh
  intro Dl hD
  refine ⟨fun i m H' => m = l.length - i ∧ i ≤ l.length ∧ ∃ B' acc rs rest, Ext B1 H1 B' H' ∧ B' Dl = none ∧ H' Dl = some (.lst acc) ∧ Reps X.K B' acc rs ∧ lcG f (l.drop i) = some rest ∧ rs ++ rest = r ∧ acc.length ≤ i,
    ⟨l.length, by omega, by omega, B1, [], [], r, .own x1.bh hD, x1.bh.back hD, upd_same, .nil, by rw [List.drop_zero]; exact hr, rfl, Nat.le_refl _⟩, ?_⟩
  rintro i m H' ⟨rfl, hil, B', acc, rs, rest, x2, b2, h2, r2, hrest, hrs, hacc⟩
  obtain ⟨w1, w2⟩ := W1 B' H' x2 i
  by_cases hlt : i < l.length
  · right
    obtain ⟨w3, w4⟩ := w1 hlt
    refine ⟨w3, _, fun H'' hN => ⟨l.length - (i + 1), by omega, hN⟩, fun x H2 hy => ?_⟩
    obtain ⟨B2, d, x3, hd, rd⟩ := w4 x H2 hy
    have hdrop : l.drop i = d :: l.drop (i + 1) := by
      rw [List.drop_eq_getElem_cons hlt]
      rw [List.getElem?_eq_getElem hlt] at hd
      cases hd; rfl
    rw [hdrop] at hrest
    obtain ⟨o, rest', ho, hrest', e⟩ := lcG_cons hrest
    obtain ⟨ρ', j, ha, hn, ht, h0, h1⟩ := hf d (List.mem_of_getElem? hd) o ho
    have S2 : Stt X.K Γ lv B0 H0 B2 H2 (wipe σ (own.map (·.2))) (wipeD ρ (own.map (·.2))) := (S.grow ((x1.trans x2).trans x3)).wiped
    have hH2 : H2 Dl = some (.lst acc) := x3.hh _ _ h2
    have hB2 : B2 Dl = none := x3.sep Dl (by rw [h2]; simp) (by rw [h2]; simp) b2
    refine asg_ok hs ha S2 rd fun σ' S' k' l' => ⟨?_, ?_⟩
    · rw [wipe_eq (σ := wipe σ (own.map (·.2))) (fun z hz => k' z fun hz' => hz (hin z hz')) l', wipe_wipe]
    · have fin : ∀ B3 H3, Ext B2 H2 B3 H3 → (if j = true then tBlk X scope elt σ' H3 fun y H4 => ∃ acc, H4 Dl = some (.lst acc) ∧ acc.length < sizeLine ∧ (fun H' => l.length - (i + 1) = l.length - (i + 1) ∧ i + 1 ≤ l.length ∧ ∃ B' acc rs rest, Ext B1 H1 B' H' ∧ B' Dl = none ∧ H' Dl = some (.lst acc) ∧ Reps X.K B' acc rs ∧ lcG f (l.drop (i + 1)) = some rest ∧ rs ++ rest = r ∧ acc.length ≤ i + 1) (upd H4 Dl (.lst (acc ++ [y]))) else (fun H' => l.length - (i + 1) = l.length - (i + 1) ∧ i + 1 ≤ l.length ∧ ∃ B' acc rs rest, Ext B1 H1 B' H' ∧ B' Dl = none ∧ H' Dl = some (.lst acc) ∧ Reps X.K B' acc rs ∧ lcG f (l.drop (i + 1)) = some rest ∧ rs ++ rest = r ∧ acc.length ≤ i + 1) H3) := fun B3 H3 x4 => by
        have hH3 : H3 Dl = some (.lst acc) := x4.hh _ _ hH2
        have hB3 : B3 Dl = none := x4.sep Dl (by rw [hH2]; simp) (by rw [hH2]; simp) hB2
        cases j with
        | false =>
          refine iteF ⟨rfl, by omega, B3, acc, rs, rest', (x2.trans x3).trans x4, hB3, hH3, (r2.mono x3.bb).mono x4.bb, hrest', ?_, by omega⟩
          rw [h0 rfl] at e
          rw [← hrs, e]
        | true =>
          obtain ⟨y, rfl, hy⟩ := h1 rfl
          refine iteT fun s0 Hh0 C cl fp => hy s0 Hh0 C cl fp lv B0 H0 B3 H3 σ' (S'.grow x4) _ fun v B4 H4 x5 r5 => ?_
          have hH4 : H4 Dl = some (.lst acc) := x5.hh _ _ hH3
          have hB4 : B4 Dl = none := x5.sep Dl (by rw [hH3]; simp) (by rw [hH3]; simp) hB3
          have xx := (x2.trans x3).trans (x4.trans x5)
          refine ⟨acc, hH4, by omega, rfl, by omega, B4, acc ++ [v], rs ++ [y], rest', ⟨fun a u ha => ?_, xx.bb, fun a u ha => ?_, xx.sep⟩, hB4, upd_same, (((r2.mono x3.bb).mono x4.bb).mono x5.bb).append (.cons r5 .nil), hrest', ?_, by rw [List.length_append]; simp; omega⟩
          · rw [upd_ne (ne_of_none ha hD)]; exact xx.hh a u ha
          · rw [upd_ne (ne_of_none ha hB4)]; exact xx.bh a u ha
          · rw [← hrs, e, List.append_assoc]; rfl
      match ifs, ht, hif, hn with
      | [], ht, _, hn =>
        have : j = true := hn rfl
        subst this
        exact fin B2 H2 (.refl x3.bh)
      | [c], ht, _, _ => exact fun s0 Hh0 C cl fp => ht s0 Hh0 C cl fp lv B0 H0 B2 H2 σ' S' _ fun B3 H3 x4 => fin B3 H3 x4
  · left
    have hi' : i = l.length := by omega
    subst hi'
    refine ⟨w2 (Nat.le_refl _), ?_⟩
    rw [List.drop_length] at hrest
    cases hrest
    rw [List.append_nil] at hrs
    subst hrs
    exact q _ B' H' (x1.trans x2) ⟨Dl, rfl, x1.hh.back hD, b2, .lst h2 r2⟩
theorem pts_of (hif : ifs.length ≤ 1) : ∀ (s : Shared) (H : Hp) (C : Addr) (cl : List (Str × Addr)) (fp : List Addr), PTs (X.blk s H scope (compEnvC scope cl C X.env) fp) ifs (tTBlk X scope ifs) := fun s H C cl fp => by
  match ifs, hif with
  | [], _ => exact pts_nil
  | [c], _ => exact pts_one ⟨fun pins s' σ H' Q I h => h s H C cl fp pins s' I⟩
theorem pe_blk : ∀ (s : Shared) (H : Hp) (C : Addr) (cl : List (Str × Addr)) (fp : List Addr), PE (X.blk s H scope (compEnvC scope cl C X.env) fp) elt (tBlk X scope elt) := fun s H C cl fp => ⟨fun pins s' σ H' Q I h => h s H C cl fp pins s' I⟩
theorem ev_lc (g : Good X N sc k) (hb : blkC N sc scope own = true) (hpl : plainE iter = true) (hif : ifs.length ≤ 1) (hi : EvI false X tg iter Γ ρ l)
    (hg : ∀ (s : Shared) (H : Hp) (C : Addr) (cl : List (Str × Addr)) (fp : List Addr), PG (X.blk s H scope (compEnvC scope cl C X.env) fp) tg (gOf X.K t)) (hs : shT Γ t = true) (hin : ∀ i ∈ slT t, i ∈ own.map (·.2))
    (hf : ∀ x ∈ l, ∀ o, f x = some o → ∃ ρ' j, asgT t x (wipeD ρ (own.map (·.2))) = some ρ' ∧ (ifs = [] → j = true) ∧ (∀ (s : Shared) (H : Hp) (C : Addr) (cl : List (Str × Addr)) (fp : List Addr), EvTs (X.blk s H scope (compEnvC scope cl C X.env) fp) ifs Γ ρ' j) ∧
      (j = false → o = none) ∧ (j = true → ∃ y, o = some y ∧ ∀ (s : Shared) (H : Hp) (C : Addr) (cl : List (Str × Addr)) (fp : List Addr), EvM .sh (X.blk s H scope (compEnvC scope cl C X.env) fp) elt Γ ρ' y))
    (hr : lcG f l = some r) : EvM .ow X (.ListComp elt [⟨tg, iter, ifs, 0⟩] scope pos) Γ ρ (.lst r) := by
  obtain ⟨hl, wi, hpi, hwi⟩ := hi
  intro lv B0 H0 B H σ S Q q
  exact of_pe (pe_lc g.calm (by rw [g.hN]; exact g.nd) hpi (g.blkOk hb) hg (pts_of hif) pe_blk (plainFold hpl)) (lc_read hl hif hwi hs hin hf hr lv B0 H0 B H σ S Q q)
end
end DL

set_option Elab.async false
set_option linter.all false
set_option maxRecDepth 100000
set_option maxHeartbeats 4000000
namespace DL
open PySem PySem.Spec L2
variable [TbC]

theorem joinL_mem {S : List Nat} {c : Nat} : ∀ {ps : List (List Nat)}, c ∈ TL.joinL S ps → c ∈ S ∨ ∃ p ∈ ps, c ∈ p
  | [], h => by simp [TL.joinL] at h
  | [p], h => .inr ⟨p, by simp, h⟩
  | p :: q :: r, h => by
    simp only [TL.joinL, List.mem_append] at h
    rcases h with h | h | h
    · exact .inr ⟨p, by simp, h⟩
    · exact .inl h
    · rcases joinL_mem h with h | ⟨p', hp, h⟩
      · exact .inl h
      · exact .inr ⟨p', by simp only [List.mem_cons] at hp ⊢; exact .inr hp, h⟩
theorem joinL_len {S : List Nat} : ∀ {ps : List (List Nat)}, (TL.joinL S ps).length ≤ (ps.map List.length).sum + ps.length * S.length
  | [] => by simp [TL.joinL]
  | [p] => by simp [TL.joinL]
  | p :: q :: r => by
    have ih := joinL_len (S := S) (ps := q :: r)
    simp only [TL.joinL, List.length_append, List.map_cons, List.sum_cons, List.length_cons] at ih ⊢
    rw [Nat.add_mul, Nat.one_mul]
    omega
theorem okS_join {s : Str} {xs : List Str} (hs : okS s) (hx : ∀ x ∈ xs, okS x) (h : (xs.map (·.length)).sum + xs.length * s.length ≤ lim) : okS (Txt.join s xs) := by
  rw [TL.join_eq, okS_iff]
  have e : (Str.join s xs).cps.toList = TL.joinL (TL.tl s) (xs.map TL.tl) := TL.tl_join s xs
  rw [e]
  refine ⟨fun c hc => ?_, ?_⟩
  · rcases joinL_mem hc with h | ⟨p, hp, h⟩
    · exact (okS_iff.mp hs).1 c h
    · obtain ⟨x, hx', rfl⟩ := List.mem_map.mp hp
      exact (okS_iff.mp (hx x hx')).1 c h
  · refine Nat.le_trans joinL_len (Nat.le_trans ?_ (lim_le h))
    rw [List.map_map, List.length_map]
    have e1 : (List.map (List.length ∘ TL.tl) xs) = xs.map (·.length) := by
      apply List.map_congr_left; intro x _; exact str_len x
    rw [e1, str_len]
    exact Nat.le_refl _
theorem reps_strs {K : PySem.W.Frag} {B : Hp} : ∀ {vs : List V} {l : List D} {xs : List Str}, Reps K B vs l → strsD l = some xs → vs = xs.map V.str ∧ ∀ x ∈ xs, okS x
  | _, _, _, .nil, h => by simp [strsD] at h; subst h; simp
  | _, _, _, .cons (d := d) r t, h => by
    cases r with
    | str x ox =>
      simp only [strsD] at h
      obtain ⟨ys, h1, rfl⟩ := Option.map_eq_some_iff.mp h
      obtain ⟨e, o⟩ := reps_strs t h1
      subst e
      refine ⟨rfl, fun z hz => ?_⟩
      rcases List.mem_cons.mp hz with rfl | hz
      · exact ox
      · exact o z hz
    | _ => simp [strsD] at h

/-! ### built-ins -/
def CbSem (K : PySem.W.Frag) (r : List V → Hp → VK → Prop) (m : Md) (x d : D) : Prop := ∀ B H v, Ex B H → Bor K B H v x → ∀ Q : VK, (∀ u B' H', Ext B H B' H' → RM K m H B' H' u d → Q u H') → r [v] H Q
section
variable {X : Cx} {N : List Str} {sc : Scope} {k : Nat} {e a b c : Expr} {es : List Expr} {Γ : MEnv} {ρ : DEnv} {d x y z : D} {ds : List D} {m : Md} {pos apos p cpos : Pos} {nm : Str}
theorem ev_cb {r : List V → Hp → VK → Prop} (pe : PE X e (tCB r (tAOf X [a]))) (sem : CbSem X.K r m x d) (hp : plainE a = true) (ha : EvM .bo X a Γ ρ x) : EvM m X e Γ ρ d := fun lv B0 H0 B H σ S Q q => by
  refine of_pe pe ?_
  refine ea_cons hp (by decide) ha ea_nil lv B0 H0 B H σ S _ fun vs B1 H1 x1 r1 => ?_
  cases r1 with
  | cons r1 r2 =>
    cases r2
    exact sem B1 H1 _ x1.bh r1 Q fun u B' H' x2 r => q u B' H' (x1.trans x2) (r.back x1.hh)
theorem len_sem (h : op1D .len x = some d) : CbSem X.K (fun xs H Q => ∃ x n, xs = [x] ∧ LenV X.K x H n ∧ Q (.int n) H) .sh x d := fun B H v e hv Q q => by
  cases x <;> simp [op1D] at h <;> subst h
  · obtain ⟨rfl, o⟩ := bor_str hv
    exact ⟨_, _, rfl, ⟨o.2, rfl⟩, same_val e (.int _) q⟩
  · obtain ⟨a, vs, rfl, ha, r⟩ := bor_tup hv
    exact ⟨_, _, rfl, .inr ⟨vs, SqT.of (e _ _ ha), rfl⟩, by rw [r.length]; exact same_val e (.int _) q⟩
  · obtain ⟨a, vs, rfl, ha, r⟩ := bor_lst e hv
    exact ⟨_, _, rfl, .inl ⟨vs, SqL.of ha, rfl⟩, by rw [r.length]; exact same_val e (.int _) q⟩
  · obtain ⟨a, vs, rfl, ha, r⟩ := bor_scr hv
    exact ⟨_, _, rfl, .inl ⟨vs, sqL_ex e ha, rfl⟩, by rw [r.length]; exact same_val e (.int _) q⟩
theorem ev_len (g : Good X N sc k) (hm : X.mg "len" = none) (hg : glS sc "len" = true) (hp : plainE a = true) (h : op1D .len x = some d) (ha : EvM .bo X a Γ ρ x) : EvM .sh X (.Call (.Name "len" p) [a] [] pos) Γ ρ d :=
  ev_cb (pe_callB call_len (g.gl _ hg) hm PySem.boot_len pa_of (he := star1 hp)) (len_sem h) hp ha
theorem list_sem (h : op1D .list x = some d) : CbSem X.K (fun xs H Q => ∃ p ys, xs = [.ref p] ∧ (SqL X.K H p ys ∨ SqT X.K H p ys) ∧ ∀ l, H l = none → Q (.ref l) (upd H l (.lst ys))) .ow x d := fun B H v e hv Q q => by
  cases x <;> simp [op1D] at h <;> subst h
  · obtain ⟨a, vs, rfl, ha, r⟩ := bor_tup hv
    exact ⟨_, vs, rfl, .inr (SqT.of (e _ _ ha)), new_lst e r q⟩
  · obtain ⟨a, vs, rfl, ha, r⟩ := bor_lst e hv
    exact ⟨_, vs, rfl, .inl (SqL.of ha), new_lst e r q⟩
  · obtain ⟨a, vs, rfl, ha, r⟩ := bor_scr hv
    exact ⟨_, vs, rfl, .inl (sqL_ex e ha), new_lst e r q⟩
theorem ev_list (g : Good X N sc k) (hm : X.mg "list" = none) (hg : glS sc "list" = true) (hp : plainE a = true) (h : op1D .list x = some d) (ha : EvM .bo X a Γ ρ x) : EvM .ow X (.Call (.Name "list" p) [a] [] pos) Γ ρ d :=
  ev_cb (pe_callTy call_list_of (g.gl _ hg) hm PyProof.Rows.boot_list pa_of (he := star1 hp)) (list_sem h) hp ha
theorem tuple_sem (h : op1D .tuple x = some d) : CbSem X.K (fun xs H Q => ∃ p ys, xs = [.ref p] ∧ ((SqL X.K H p ys ∧ ∀ l, H l = none → Q (.ref l) (upd H l (.tup ys))) ∨ (SqT X.K H p ys ∧ Q (.ref p) H))) .sh x d := fun B H v e hv Q q => by
  cases x <;> simp [op1D] at h <;> subst h
  · obtain ⟨a, vs, rfl, ha, r⟩ := bor_tup hv
    exact ⟨_, vs, rfl, .inr ⟨SqT.of (e _ _ ha), same_val e (.tup ha r) q⟩⟩
  · obtain ⟨a, vs, rfl, ha, r⟩ := bor_lst e hv
    exact ⟨_, vs, rfl, .inl ⟨SqL.of ha, new_tup e r q⟩⟩
theorem ev_tuple (g : Good X N sc k) (hm : X.mg "tuple" = none) (hg : glS sc "tuple" = true) (hp : plainE a = true) (h : op1D .tuple x = some d) (ha : EvM .bo X a Γ ρ x) : EvM .sh X (.Call (.Name "tuple" p) [a] [] pos) Γ ρ d :=
  ev_cb (pe_callTy call_tuple_of (g.gl _ hg) hm PyProof.Rows.boot_tuple pa_of (he := star1 hp)) (tuple_sem h) hp ha
theorem int_sem (h : op1D .int x = some d) : CbSem X.K (fun xs H Q => (∃ i, xs = [.int i] ∧ Q (.int i) H) ∨ ∃ k, xs = [.bl k] ∧ Q (.int (if k then 1 else 0)) H) .sh x d := fun B H v e hv Q q => by
  cases x <;> simp only [op1D, Option.some.injEq, reduceCtorEq] at h
  · subst h; cases bor_bl hv; exact .inr ⟨_, rfl, same_val e (.int _) q⟩
  · subst h; cases bor_int hv; exact .inl ⟨_, rfl, same_val e (.int _) q⟩
theorem ev_int (g : Good X N sc k) (hm : X.mg "int" = none) (hg : glS sc "int" = true) (hp : plainE a = true) (h : op1D .int x = some d) (ha : EvM .bo X a Γ ρ x) : EvM .sh X (.Call (.Name "int" p) [a] [] pos) Γ ρ d :=
  ev_cb (pe_callTy call_int1 (g.gl _ hg) hm PyProof.Rows.boot_int pa_of (he := star1 hp)) (int_sem h) hp ha

/-! ### isinstance of a built-in class -/
theorem boot_ty {t : String} (h : t ∈ tyKnown) : bootBuiltins (Str.ofString t) = some (.type t) := by
  simp only [tyKnown, List.mem_cons, List.not_mem_nil, or_false] at h
  rcases h with rfl | rfl | rfl | rfl | rfl | rfl
  · exact PyProof.Rows.boot_list
  · exact PyProof.Rows.boot_tuple
  · exact PyProof.Rows.boot_dict
  · exact PyProof.Rows.boot_str
  · exact PyProof.Rows.boot_int
  · exact PyProof.Rows.boot_bool
theorem boot_isi : bootBuiltins "isinstance" = some (.builtin "isinstance") := by decide +kernel
def clsD : D → Option String
  | .non => some "NoneType" | .bl _ => some "bool" | .int _ => some "int" | .str _ => some "str"
  | .lst _ => some "list" | .tup _ => some "tuple" | .dic _ _ => some "dict"
  | .scr _ => none | .dit _ _ => none | .deq _ => none
theorem tyx_of {K : PySem.W.Frag} {B H : Hp} {v : V} {c : String} (e : Ex B H) (r : Bor K B H v x) (h : clsD x = some c) : TyX K H v (.type c) := by
  cases x <;> simp only [clsD, Option.some.injEq, reduceCtorEq] at h <;> subst h
  · cases bor_non r; exact .base .non
  · cases bor_bl r; exact .base (.bl _)
  · cases bor_int r; exact .base (.int _)
  · obtain ⟨rfl, _⟩ := bor_str r; exact .base (.str _)
  · obtain ⟨a, vs, rfl, ha, _⟩ := bor_tup r
    exact .base (.tup (e _ _ ha))
  · obtain ⟨a, vs, rfl, ha, _⟩ := bor_lst e r; exact .base (.lst ha)
  · obtain ⟨a, kvs, rfl, ha, _⟩ := bor_dic e r; exact .base (.dK ha)
theorem kitB_known : ∀ t ∈ tyKnown, kitB "NoneType" t = some false ∧ kitB "bool" t = some (t == "bool" || t == "int") ∧ kitB "int" t = some (t == "int") ∧ kitB "str" t = some (t == "str") ∧ kitB "list" t = some (t == "list") ∧ kitB "tuple" t = some (t == "tuple") ∧ kitB "dict" t = some (t == "dict") := by
  intro t h
  simp only [tyKnown, List.mem_cons, List.not_mem_nil, or_false] at h
  rcases h with rfl | rfl | rfl | rfl | rfl | rfl <;> decide +kernel
theorem isi_sem {t : String} (h : op1D (.isi t) x = some d) : t ∈ tyKnown ∧ ∃ (b : Bool) (c : String), d = .bl b ∧ clsD x = some c ∧ kitB c t = some b := by
  simp only [op1D] at h
  split at h
  · rename_i ht
    refine ⟨ht, ?_⟩
    obtain ⟨h1, h2, h3, h4, h5, h6, h7⟩ := kitB_known t ht
    cases x <;> simp only [typD, Option.map_some, Option.map_none, Option.some.injEq, reduceCtorEq] at h <;> subst h
    · exact ⟨_, _, rfl, rfl, h1⟩
    · exact ⟨_, _, rfl, rfl, h2⟩
    · exact ⟨_, _, rfl, rfl, h3⟩
    · exact ⟨_, _, rfl, rfl, h4⟩
    · exact ⟨_, _, rfl, rfl, h6⟩
    · exact ⟨_, _, rfl, rfl, h5⟩
    · exact ⟨_, _, rfl, rfl, h7⟩
  · cases h
theorem tyS_ne : ∀ t ∈ tyKnown, (Str.ofString t ≠ "__name__") ∧ ((Str.ofString t == ("__debug__" : Str)) = false) := by
  intro t h
  simp only [tyKnown, List.mem_cons, List.not_mem_nil, or_false] at h
  rcases h with rfl | rfl | rfl | rfl | rfl | rfl <;> decide +kernel
theorem ev_isi {t : String} {p2 : Pos} (g : Good X N sc k) (hm : X.mg "isinstance" = none) (hg : glS sc "isinstance" = true) (hm2 : X.mg (Str.ofString t) = none) (hg2 : glS sc (Str.ofString t) = true) (hp : plainE a = true) (h : op1D (.isi t) x = some d) (ha : EvM .bo X a Γ ρ x) :
    EvM .sh X (.Call (.Name "isinstance" p) [a, .Name (Str.ofString t) p2] [] pos) Γ ρ d := fun lv B0 H0 B H σ S Q q => by
  obtain ⟨ht, b, c, rfl, hc, hk⟩ := isi_sem h
  have pt : PE X (.Name (Str.ofString t) p2) (tC (.ty t)) := pe_bltn (g.gl _ hg2) hm2 (boot_ty ht) rfl (tyS_ne t ht).1 (tyS_ne t ht).2
  refine of_pe (pe_callB call_isi (g.gl _ hg) hm boot_isi (pa_cons pe_of (pa_cons pt pa_nil) (star1 hp)) (he := star1 hp)) ?_
  refine ha lv B0 H0 B H σ S _ fun v1 B1 H1 x1 r1 => ?_
  exact ⟨v1, .ty t, .type c, .type t, b, rfl, .ty t, tyx_of x1.bh r1 hc, kit_ty hk, q _ B1 H1 x1 (.bl _)⟩

/-! ### methods -/
theorem ev_starts {s t : Str} (hb : plainB a = true) (hp : plainE b = true) (hl : (apos.endLine == pos.line) = true) (ha : EvM .bo X a Γ ρ (.str s)) (hb' : EvM .bo X b Γ ρ (.str t)) : EvM .sh X (.Call (.Attribute a "startswith" apos) [b] [] pos) Γ ρ (.bl (Txt.startswith s t)) := fun lv B0 H0 B H σ S Q q => by
  refine of_pe (pe_m1 PySem.F.slot_str_startswith PySem.F.type_str_startswith mt_startswith pe_of pe_of (by rw [star1 hp]; rfl) (plainBase hb) hl) ?_
  refine ha lv B0 H0 B H σ S _ fun v1 B1 H1 x1 r1 => ?_
  obtain ⟨rfl, o⟩ := bor_str r1
  refine ⟨⟨s, rfl⟩, ?_⟩
  refine hb' lv B0 H0 B1 H1 σ (S.grow x1) _ fun v2 B2 H2 x2 r2 => ?_
  obtain ⟨rfl, o2⟩ := bor_str r2
  exact ⟨s, t, rfl, rfl, q _ B2 H2 (x1.trans x2) (.bl _)⟩
theorem ev_join {s : Str} {l : List D} {xs : List Str} (hb : plainB a = true) (hp : plainE b = true) (hl : (apos.endLine == pos.line) = true) (hx : strsD l = some xs) (hz : (xs.map (·.length)).sum + xs.length * s.length ≤ lim) (ha : EvM .bo X a Γ ρ (.str s)) (hb' : EvM .bo X b Γ ρ (.lst l)) : EvM .sh X (.Call (.Attribute a "join" apos) [b] [] pos) Γ ρ (.str (Txt.join s xs)) := fun lv B0 H0 B H σ S Q q => by
  refine of_pe (pe_join pe_of pe_of (by rw [star1 hp]; rfl) (plainBase hb) hl) ?_
  refine ha lv B0 H0 B H σ S _ fun v1 B1 H1 x1 r1 => ?_
  obtain ⟨rfl, o⟩ := bor_str r1
  refine ⟨⟨s, rfl⟩, ?_⟩
  refine hb' lv B0 H0 B1 H1 σ (S.grow x1) _ fun v2 B2 H2 x2 r2 => ?_
  obtain ⟨p, vs, rfl, hv, r⟩ := bor_lst x2.bh r2
  obtain ⟨rfl, ok⟩ := reps_strs r hx
  exact ⟨s, p, xs, rfl, rfl, .inl (SqL.of hv), Nat.le_trans hz (by decide), q _ B2 H2 (x1.trans x2) (.str _ (okS_join o ok hz))⟩
theorem m2_of {env : Env} {o e f : Expr} {m : Str} (hb : plainB o = true) (h1 : plainE e = true) (h2 : plainE f = true) (hl : (apos.endLine == cpos.line) = true) (hX : X.env = env) : starEach [e, f] env = [(false, eval e env), (false, eval f env)] := by
  rw [star1 h1, star1 h2]; rfl
theorem ev_get {ks : List Key} {ds : List D} {key : Key} (g : Good X N sc k) (hb : plainB a = true) (hpb : plainE b = true) (hpc : plainE c = true) (hl : (apos.endLine == pos.line) = true) (hk : keyD y = some key)
    (ha : EvM .bo X a Γ ρ (.dic ks ds)) (hy : EvM .bo X b Γ ρ y) (hz : EvM .sh X c Γ ρ z) : EvM .sh X (.Call (.Attribute a "get" apos) [b, c] [] pos) Γ ρ ((lookD key ks ds).getD z) := fun lv B0 H0 B H σ S Q q => by
  have st : starEach [b, c] X.env = [(false, eval b X.env), (false, eval c X.env)] := by rw [star1 hpb, star1 hpc]; rfl
  refine of_pe (pe_dget2 (by have := g.hu; omega) pe_of pe_of pe_of ⟨plainBase hb, by rw [st]; rfl, hl, by rw [st]; rfl⟩) ?_
  refine ha lv B0 H0 B H σ S _ fun v1 B1 H1 x1 r1 => ?_
  obtain ⟨p, kvs, rfl, hd, hks, o, r⟩ := bor_dic x1.bh r1
  refine ⟨p, rfl, .inl ⟨kvs, .inl hd⟩, ?_⟩
  refine hy lv B0 H0 B1 H1 σ (S.grow x1) _ fun v2 B2 H2 x2 r2 => ?_
  refine hz lv B0 H0 B2 H2 σ (S.grow (x1.trans x2)) _ fun v3 B3 H3 x3 r3 => ?_
  have hd3 : H3 p = some (.dK kvs) := (x2.trans x3).hh _ _ hd
  have r' := (r.mono x2.bb).mono x3.bb
  refine ⟨valV kvs key, ?_, ?_⟩
  · rw [keyD_V hk r2]; exact DGet.k hd3
  · subst hks
    obtain ⟨i1, i2⟩ := valV_look (k := key) r'
    cases hq : lookD key (kvs.map (·.1)) ds with
    | none =>
      rw [i2 hq]
      rw [hq] at q
      exact q _ B3 H3 ((x1.trans x2).trans x3) r3
    | some d =>
      obtain ⟨v, hv, rv⟩ := i1 d hq
      rw [hv]
      rw [hq] at q
      exact q _ B3 H3 ((x1.trans x2).trans x3) rv
theorem rep_key {K : PySem.W.Frag} {B : Hp} {ks : List Key} (o : KsOk ks) {k : Key} (h : k ∈ ks) : Rep K B (kV k) (keyE k) := by
  cases k with
  | inl i => exact .int i
  | inr x => exact .str x (o x h)
theorem items_reps {K : PySem.W.Frag} {B B' H' : Hp} (eb : Ex B B') {ks : List Key} (o : KsOk ks) : ∀ {ts : List Addr} {kvs : List (Key × V)} {ds : List D}, Paired (fun (t : Addr) (q : Key × V) => H' t = some (.tup [kV q.1, q.2])) ts kvs → (∀ t ∈ ts, B' t = H' t) → Reps K B (kvs.map (·.2)) ds → (∀ p ∈ kvs, p.1 ∈ ks) →
    Reps K B' (ts.map V.ref) (((kvs.map (·.1)).zip ds).map fun p => D.tup [keyE p.1, p.2])
  | [], [], _, _, _, .nil, _ => .nil
  | t :: ts, q :: kvs, d :: ds, .cons h p, hb, .cons r rs, hk => by
    refine .cons (.tup ((hb t (by simp)).trans h) (.cons (rep_key o (hk q (by simp))) (.cons (r.mono eb) .nil))) ?_
    exact items_reps eb o p (fun t ht => hb t (by simp [ht])) rs fun p hp => hk p (by simp [hp])
theorem ev_items {ks : List Key} (g : Good X N sc k) (hm : X.mg "list" = none) (hg : glS sc "list" = true) (hb : plainB a = true) (hl : (apos.endLine == cpos.line) = true) (ha : EvM .bo X a Γ ρ (.dic ks ds)) :
    EvM .ow X (.Call (.Name "list" p) [.Call (.Attribute a "items" apos) [] [] cpos] [] pos) Γ ρ (.lst ((ks.zip ds).map fun p => .tup [keyE p.1, p.2])) := fun lv B0 H0 B H σ S Q q => by
  refine of_pe (LiI.pe_listItems g.calm pe_of (g.gl _ hg) hm PyProof.Rows.boot_list (plainBase hb) hl (by rfl)) ?_
  refine ha lv B0 H0 B H σ S _ fun v1 B1 H1 x1 r1 => ?_
  obtain ⟨d, kvs, rfl, hd, hks, o, r⟩ := bor_dic x1.bh r1
  refine ⟨d, kvs, rfl, hd, fun H' p ts eh hp hts hpt hlst hpr => ?_⟩
  let B' : Hp := fun a => if a ∈ ts then H' a else B1 a
  have hB1 : ∀ t ∈ ts, B1 t = none := fun t ht => x1.bh.back (hts t ht)
  have eb : Ex B1 B' := fun a u ha => by
    show (if a ∈ ts then H' a else B1 a) = some u
    rw [if_neg (fun h => by rw [hB1 a h] at ha; cases ha)]; exact ha
  have x2 : Ext B1 H1 B' H' := ⟨eh, eb, fun a u ha => by
    by_cases h : a ∈ ts
    · have : B' a = H' a := if_pos h
      rw [← this]; exact ha
    · have : B' a = B1 a := if_neg h
      rw [this] at ha; exact eh _ _ (x1.bh _ _ ha), fun a h1 _ h2 => by
    have : B' a = B1 a := if_neg fun h => h1 (hts a h)
    rw [this]; exact h2⟩
  have hBp : B' p = none := by
    have : B' p = B1 p := if_neg hpt
    rw [this]; exact x1.bh.back hp
  subst hks
  refine q _ B' H' (x1.trans x2) ⟨p, rfl, x1.hh.back hp, hBp, .lst (vs := ts.map V.ref) hlst ?_⟩
  exact items_reps eb o hpr (fun t ht => if_pos ht) r fun q hq => List.mem_map_of_mem hq
end
end DL

set_option Elab.async false
set_option linter.all false
set_option maxRecDepth 100000
set_option maxHeartbeats 4000000
namespace DL
open PySem PySem.Spec L2
variable [TbC]

/-! ### how the state changes -/
section
variable {K : PySem.W.Frag} {Γ : MEnv} {lv : Nat → Option (V × Bool × Hp)} {B0 H0 B H B' H' : Hp} {σ : L2.St} {ρ : DEnv}
/-- one's own list or dict changes -/
theorem Stt.mutOw {i : Nat} {p : Addr} {d d' : D} {o : HO} (S : Stt K Γ lv B0 H0 B H σ ρ) (hm : Γ[i]? = some Md.ow) (hi : ρ[i]? = some (some d)) (hp : σ[i]? = some (some (V.ref p))) (n : Own K B (upd H p o) p d') : Stt K Γ lv B0 H0 B (upd H p o) σ (ρ.set i (some d')) := by
  obtain ⟨p', e1, h0, hb, _⟩ := S.ow i d hm hi
  rw [hp] at e1
  cases e1
  have il : i < ρ.length := (List.getElem?_eq_some_iff.mp hi).1
  refine ⟨⟨S.ext.hh.mut h0, S.ext.bb, S.ext.bh.mut hb, S.ext.sep⟩, S.lvx, by rw [List.length_set]; exact S.len, by rw [List.length_set]; exact S.mlen, fun j e h1 h2 => ?_, fun j e h1 h2 => ?_, fun j e h1 h2 => ?_, fun a b q d1 d2 hab h1 h2 h3 h4 h5 => ?_, fun j e h1 h2 => ?_, S.one, S.tabs⟩
  · have q : i ≠ j := fun q => by subst q; rw [hm] at h1; cases h1
    rw [List.getElem?_set_ne q] at h2; exact S.sh j e h1 h2
  · by_cases q : i = j
    · subst q
      rw [List.getElem?_set_self il] at h2
      cases h2
      exact ⟨p, hp, h0, hb, n⟩
    · rw [List.getElem?_set_ne q] at h2
      obtain ⟨r, a, b, c, o'⟩ := S.ow j e h1 h2
      have hne : r ≠ p := fun z => by subst z; exact S.apart i j r d e q hm h1 hi h2 hp a
      exact ⟨r, a, b, c, o'.keep (.refl _) (upd_ne hne)⟩
  · have q : i ≠ j := fun q => by subst q; rw [hm] at h1; cases h1
    rw [List.getElem?_set_ne q] at h2; exact S.bo j e h1 h2
  · have f : ∀ (c : Nat) (e : D), (ρ.set i (some d'))[c]? = some (some e) → ∃ e', ρ[c]? = some (some e') := fun c e h => by
      by_cases q : i = c
      · subst q; exact ⟨d, hi⟩
      · rw [List.getElem?_set_ne q] at h; exact ⟨e, h⟩
    obtain ⟨e1, h3⟩ := f a d1 h3
    obtain ⟨e2, h4⟩ := f b d2 h4
    exact S.apart a b q e1 e2 hab h1 h2 h3 h4 h5
  · have q : i ≠ j := fun q => by subst q; rw [hm] at h1; cases h1
    rw [List.getElem?_set_ne q] at h2
    obtain ⟨r, fp, a, b, o', f⟩ := S.od j e h1 h2
    have hn : ∀ c ∈ r :: fp, c ≠ p := fun c hc z => f i d p hm hi hp (z ▸ hc)
    refine ⟨r, fp, a, b, o'.at (.refl _) (fun c hc u hu => by rw [upd_ne (hn c hc)]; exact hu), fun c e' q' g1 g2 g3 => ?_⟩
    by_cases qc : i = c
    · subst qc
      rw [hp] at g3; cases g3
      exact f i d p hm hi hp
    · rw [List.getElem?_set_ne qc] at g2
      exact f c e' q' g1 g2 g3
/-- a new list or dict of one's own is named -/
theorem Stt.setOw {i : Nat} {p : Addr} {d : D} (S : Stt K Γ lv B0 H0 B H σ ρ) (x : Ext B H B' H') (hm : Γ[i]? = some Md.ow) (hp : H p = none) (hb : B' p = none) (n : Own K B' H' p d) : Stt K Γ lv B0 H0 B' H' (σ.set i (some (.ref p))) (ρ.set i (some d)) := by
  have S' := S.grow x
  have il : i < ρ.length := by rw [← S.mlen]; exact (List.getElem?_eq_some_iff.mp hm).1
  have h0 : H0 p = none := S.ext.hh.back hp
  have far : ∀ (j : Nat) (e : D) (q : Addr), i ≠ j → Γ[j]? = some Md.ow → ρ[j]? = some (some e) → σ[j]? = some (some (V.ref q)) → q ≠ p := fun j e q hij h1 h2 h3 z => by
    obtain ⟨r, a, _, _, o⟩ := S.ow j e h1 h2
    rw [h3] at a; cases a
    exact o.there (by rw [z]; exact hp)
  refine ⟨S'.ext, S'.lvx, by rw [List.length_set, List.length_set]; exact S.len, by rw [List.length_set]; exact S.mlen, fun j e h1 h2 => ?_, fun j e h1 h2 => ?_, fun j e h1 h2 => ?_, fun a b q d1 d2 hab h1 h2 h3 h4 h5 => ?_, fun j e h1 h2 => ?_, S.one, S'.tabs⟩
  · have q : i ≠ j := fun q => by subst q; rw [hm] at h1; cases h1
    rw [List.getElem?_set_ne q] at h2 ⊢; exact S'.sh j e h1 h2
  · by_cases q : i = j
    · subst q
      rw [List.getElem?_set_self il] at h2
      cases h2
      exact ⟨p, List.getElem?_set_self (by rw [S.len]; exact il), h0, hb, n⟩
    · rw [List.getElem?_set_ne q] at h2 ⊢; exact S'.ow j e h1 h2
  · have q : i ≠ j := fun q => by subst q; rw [hm] at h1; cases h1
    rw [List.getElem?_set_ne q] at h2 ⊢; exact S'.bo j e h1 h2
  · by_cases qa : i = a
    · subst qa
      rw [List.getElem?_set_self (by rw [S.len]; exact il)] at h5
      cases h5
      rw [List.getElem?_set_ne hab] at h4 ⊢
      intro h6
      exact far b d2 p hab h2 h4 h6 rfl
    · rw [List.getElem?_set_ne qa] at h3 h5
      by_cases qb : i = b
      · subst qb
        rw [List.getElem?_set_self (by rw [S.len]; exact il)]
        intro h6
        cases h6
        exact far a d1 p qa h1 h3 h5 rfl
      · rw [List.getElem?_set_ne qb] at h4 ⊢
        exact S.apart a b q d1 d2 hab h1 h2 h3 h4 h5
  · have q : i ≠ j := fun q => by subst q; rw [hm] at h1; cases h1
    rw [List.getElem?_set_ne q] at h2 ⊢
    obtain ⟨r, fp, a, b, o, f⟩ := S.od j e h1 h2
    refine ⟨r, fp, a, fun c hc => ⟨(b c hc).1, x.sep c (o.there c hc).1 (o.there c hc).2 (b c hc).2⟩, o.at x.bb (fun c _ u q => x.hh _ _ q), fun c e' q' g1 g2 g3 => ?_⟩
    by_cases qc : i = c
    · subst qc
      rw [List.getElem?_set_self (by rw [S.len]; exact il)] at g3
      cases g3
      exact fun hc => (o.there p hc).1 hp
    · rw [List.getElem?_set_ne qc] at g2 g3
      exact f c e' q' g1 g2 g3
theorem Inn.rep {K : PySem.W.Frag} {B H B2 : Hp} (eb : Ex B B2) : ∀ {qs : List Addr} {ls : List (List D)}, (∀ a ∈ qs, B2 a = H a) → Inn K B H qs ls → Reps K B2 (qs.map V.ref) (ls.map .lst)
  | _, _, _, .nil => .nil
  | _, _, e, .cons h r _ t => .cons (.lst ((e _ (by simp)).trans h) (r.mono eb)) (Inn.rep eb (fun a ha => e a (by simp [ha])) t)
theorem OwnD.rep {K : PySem.W.Frag} {B H B2 : Hp} {p : Addr} {fp : List Addr} {d : D} (eb : Ex B B2) (e : ∀ a ∈ p :: fp, B2 a = H a) (o : OwnD K B H p fp d) : Rep K B2 (.ref p) d := by
  have ep := e p (by simp)
  have ef : ∀ a ∈ fp, B2 a = H a := fun a ha => e a (by simp [ha])
  cases o with
  | lst h _ i => exact .lst (ep.trans h) (i.rep eb ef)
  | dic h k o v _ i => exact .dic (ep.trans h) k o (by rw [v]; exact i.rep eb ef)
  | dit h k o v _ i => exact .dit (ep.trans h) k o (by rw [v]; exact i.rep eb ef)
/-- all of one's own is frozen -/
def frM : Md → Md
  | .ow => .sh
  | .od => .sh
  | m => m
theorem Stt.freeze (S : Stt K Γ lv B0 H0 B H σ ρ) : ∃ B2, Ex B B2 ∧ Stt K (Γ.map frM) lv B0 H0 B2 H σ ρ := by
  classical
  let mine : Addr → Prop := fun a => (∃ (i : Nat) (d : D), Γ[i]? = some Md.ow ∧ ρ[i]? = some (some d) ∧ σ[i]? = some (some (V.ref a))) ∨ ∃ (i : Nat) (d : D) (p : Addr) (fp : List Addr), Γ[i]? = some Md.od ∧ ρ[i]? = some (some d) ∧ σ[i]? = some (some (V.ref p)) ∧ (∀ a ∈ p :: fp, H0 a = none ∧ B a = none) ∧ OwnD K B H p fp d ∧ a ∈ p :: fp
  have hm : ∀ a, mine a → H0 a = none ∧ B a = none := fun a h => by
    rcases h with ⟨i, d, h1, h2, h3⟩ | ⟨i, d, p, fp, h1, h2, h3, h4, h5, h6⟩
    · obtain ⟨p, e, h4, h5, _⟩ := S.ow i d h1 h2
      rw [h3] at e; cases e; exact ⟨h4, h5⟩
    · exact h4 a h6
  let B2 : Hp := fun a => if mine a then H a else B a
  have eb : Ex B B2 := fun a u ha => by
    show (if mine a then H a else B a) = some u
    split
    · exact S.ext.bh _ _ ha
    · exact ha
  have bh : Ex B2 H := fun a u ha => by
    have ha : (if mine a then H a else B a) = some u := ha
    split at ha
    · exact ha
    · exact S.ext.bh _ _ ha
  have x0 : Ext B0 H0 B2 H := ⟨S.ext.hh, S.ext.bb.trans eb, bh, fun a h1 h3 h2 => by
    have : ¬ mine a := fun h => h1 (hm a h).1
    show (if mine a then H a else B a) = none
    rw [if_neg this]; exact S.ext.sep a h1 h3 h2⟩
  have at_ : ∀ (i : Nat) (m : Md), (Γ.map frM)[i]? = some m → (m = .sh ∧ (Γ[i]? = some .sh ∨ Γ[i]? = some .ow ∨ Γ[i]? = some .od)) ∨ (m = .bo ∧ Γ[i]? = some .bo) := fun i m h => by
    rw [List.getElem?_map] at h
    cases q : Γ[i]? with
    | none => rw [q] at h; cases h
    | some k => rw [q] at h; cases k <;> cases h <;> simp [frM]
  refine ⟨B2, eb, x0, S.lvx, S.len, by rw [List.length_map]; exact S.mlen, fun i d h1 h2 => ?_, fun i d h1 _ => ?_, fun i d h1 h2 => ?_, fun i j p d e _ h1 _ => ?_, fun i d h1 _ => ?_, fun i j h1 _ => ?_, S.tabs⟩
  · rcases at_ i _ h1 with ⟨_, h | h | h⟩ | ⟨h, _⟩
    · obtain ⟨v, a, b⟩ := S.sh i d h h2; exact ⟨v, a, b.mono eb⟩
    · obtain ⟨p, a, _, _, o⟩ := S.ow i d h h2
      have hp : B2 p = H p := if_pos (.inl ⟨i, d, h, h2, a⟩)
      refine ⟨_, a, ?_⟩
      cases o with
      | lst hh r => exact .lst (hp.trans hh) (r.mono eb)
      | dic hh k o r => exact .dic (hp.trans hh) k o (r.mono eb)
      | dit hh k o r => exact .dit (hp.trans hh) k o (r.mono eb)
      | deq hh r => exact .deq (hp.trans hh) (r.mono eb)
    · obtain ⟨p, fp, a, b, o, _⟩ := S.od i d h h2
      exact ⟨_, a, o.rep eb fun c hc => if_pos (.inr ⟨i, d, p, fp, h, h2, a, b, o, hc⟩)⟩
    · cases h
  · rcases at_ i _ h1 with ⟨h, _⟩ | ⟨h, _⟩ <;> cases h
  · rcases at_ i _ h1 with ⟨h, _⟩ | ⟨_, h⟩
    · cases h
    · obtain ⟨v, t, h', a, b, c⟩ := S.bo i d h h2; exact ⟨v, t, h', a, b, c.mono eb (.refl _)⟩
  · rcases at_ i _ h1 with ⟨h, _⟩ | ⟨h, _⟩ <;> cases h
  · rcases at_ i _ h1 with ⟨h, _⟩ | ⟨h, _⟩ <;> cases h
  · rcases at_ i _ h1 with ⟨h, _⟩ | ⟨h, _⟩ <;> cases h

/-- the loop's own ground: what is frozen, what the caller holds, and what of one's own does not change in the loop -/
def pinM (pins : List Nat) (Γ : MEnv) : MEnv := Γ.mapIdx fun i m => if i ∈ pins ∧ m = .ow then .bo else m
theorem pinM_at {pins : List Nat} {i : Nat} {m : Md} (h : (pinM pins Γ)[i]? = some m) : (Γ[i]? = some m ∧ ¬ (i ∈ pins ∧ m = .ow)) ∨ (m = .bo ∧ Γ[i]? = some .ow ∧ i ∈ pins) := by
  unfold pinM at h
  rw [List.getElem?_mapIdx] at h
  cases q : Γ[i]? with
  | none => rw [q] at h; cases h
  | some k =>
    rw [q] at h
    simp only [Option.map_some, Option.some.injEq] at h
    split at h
    · rename_i hk; obtain ⟨a, rfl⟩ := hk; subst h; exact .inr ⟨rfl, rfl, a⟩
    · rename_i hk; subst h; exact .inl ⟨rfl, hk⟩
theorem pinM_len {pins : List Nat} : (pinM pins Γ).length = Γ.length := by unfold pinM; rw [List.length_mapIdx]
theorem Stt.pin (pins : List Nat) (S : Stt K Γ lv B0 H0 B H σ ρ) : ∃ lv' H1, Ex H0 H1 ∧ Ex B H1 ∧ Ex H1 H ∧ Stt K (pinM pins Γ) lv' B H1 B H σ ρ ∧
    ∀ B' H' σ' ρ', Stt K (pinM pins Γ) lv' B H1 B' H' σ' ρ' → Stt K Γ lv B0 H0 B' H' σ' ρ' := by
  classical
  let mine : Addr → Prop := fun a => ∃ (i : Nat) (d : D), i ∈ pins ∧ Γ[i]? = some Md.ow ∧ ρ[i]? = some (some d) ∧ σ[i]? = some (some (V.ref a))
  have hm : ∀ a, mine a → H0 a = none ∧ B a = none ∧ H a ≠ none := fun a ⟨i, d, _, h1, h2, h3⟩ => by
    obtain ⟨p, e, h4, h5, o⟩ := S.ow i d h1 h2
    rw [h3] at e; cases e; exact ⟨h4, h5, o.there⟩
  let H1 : Hp := fun a => if mine a then H a else if B a = none then H0 a else B a
  let lv' : Nat → Option (V × Bool × Hp) := fun i => if Γ[i]? = some Md.ow then (if ((ρ[i]?).bind id).isSome = true then ((σ[i]?).bind id).map fun v => (v, true, H1) else none) else lv i
  have e01 : Ex H0 H1 := fun a u ha => by
    have n : ¬ mine a := fun h => by rw [(hm a h).1] at ha; cases ha
    show (if mine a then H a else if B a = none then H0 a else B a) = some u
    rw [if_neg n]
    split
    · exact ha
    · rename_i hb
      cases q : B a with
      | none => exact absurd q hb
      | some w =>
        have := S.ext.bh _ _ q
        rw [S.ext.hh _ _ ha] at this
        exact this.symm
  have eb1 : Ex B H1 := fun a u ha => by
    have n : ¬ mine a := fun h => by rw [(hm a h).2.1] at ha; cases ha
    show (if mine a then H a else if B a = none then H0 a else B a) = some u
    rw [if_neg n, if_neg (by rw [ha]; simp)]; exact ha
  have e1 : Ex H1 H := fun a u ha => by
    have ha : (if mine a then H a else if B a = none then H0 a else B a) = some u := ha
    split at ha
    · exact ha
    · split at ha
      · exact S.ext.hh _ _ ha
      · exact S.ext.bh _ _ ha
  have far : ∀ (i : Nat) (d : D) (p : Addr), Γ[i]? = some Md.ow → ¬ i ∈ pins → ρ[i]? = some (some d) → σ[i]? = some (some (V.ref p)) → H1 p = none := fun i d p h1 hn h2 h3 => by
    obtain ⟨p', e, h4, h5, o⟩ := S.ow i d h1 h2
    rw [h3] at e; cases e
    have n : ¬ mine p := fun ⟨j, d', hj, g1, g2, g3⟩ => S.apart i j p d d' (fun z => hn (z ▸ hj)) h1 g1 h2 g2 h3 g3
    show (if mine p then H p else if B p = none then H0 p else B p) = none
    rw [if_neg n, if_pos h5]; exact h4
  have lvx' : ∀ (i : Nat) (v : V) (t : Bool) (h : Hp), lv' i = some (v, t, h) → Ex h H1 := fun i v t h hl => by
    have hl : (if Γ[i]? = some Md.ow then (if ((ρ[i]?).bind id).isSome = true then ((σ[i]?).bind id).map fun v => (v, true, H1) else none) else lv i) = some (v, t, h) := hl
    split at hl
    · split at hl
      · obtain ⟨w, _, e⟩ := Option.map_eq_some_iff.mp hl
        cases e; exact .refl _
      · cases hl
    · exact (S.lvx i v t h hl).trans e01
  refine ⟨lv', H1, e01, eb1, e1, ⟨⟨e1, .refl _, S.ext.bh, fun _ _ _ h => h⟩, lvx', S.len, by rw [pinM_len]; exact S.mlen, fun i d h1 h2 => ?_, fun i d h1 h2 => ?_, fun i d h1 h2 => ?_, fun i j p d e hij h1 h2 h3 h4 h5 => ?_, fun i d h1 h2 => ?_, fun i j h1 h2 => ?_, S.tabs.mono S.ext.bb⟩, fun B' H' σ' ρ' S' => ?_⟩
  · rcases pinM_at h1 with ⟨h, _⟩ | ⟨h, _⟩
    · exact S.sh i d h h2
    · cases h
  · rcases pinM_at h1 with ⟨h, n⟩ | ⟨h, _⟩
    · obtain ⟨p, a, _, c, o⟩ := S.ow i d h h2
      exact ⟨p, a, far i d p h (fun z => n ⟨z, rfl⟩) h2 a, c, o⟩
    · cases h
  · rcases pinM_at h1 with ⟨h, _⟩ | ⟨_, h, hp⟩
    · obtain ⟨v, t, h', a, b, c⟩ := S.bo i d h h2
      refine ⟨v, t, h', ?_, b, c⟩
      show (if Γ[i]? = some Md.ow then _ else lv i) = some _
      rw [if_neg (by rw [h]; simp)]; exact a
    · obtain ⟨p, a, b, c, o⟩ := S.ow i d h h2
      refine ⟨.ref p, true, H1, ?_, a, ⟨p, rfl, ?_⟩⟩
      · show (if Γ[i]? = some Md.ow then (if ((ρ[i]?).bind id).isSome = true then ((σ[i]?).bind id).map fun v => (v, true, H1) else none) else lv i) = some _
        rw [if_pos h, h2, a]; rfl
      · have hp1 : H1 p = H p := if_pos ⟨i, d, hp, h, h2, a⟩
        exact (o.keep (.refl _) hp1).top
  · rcases pinM_at h1 with ⟨h1, _⟩ | ⟨h, _⟩
    · rcases pinM_at h2 with ⟨h2, _⟩ | ⟨h, _⟩
      · exact S.apart i j p d e hij h1 h2 h3 h4 h5
      · cases h
    · cases h
  · rcases pinM_at h1 with ⟨h, _⟩ | ⟨h, _⟩
    · obtain ⟨p, fp, a, b, o, f⟩ := S.od i d h h2
      refine ⟨p, fp, a, fun c hc => ⟨?_, (b c hc).2⟩, o, fun j e q g1 g2 g3 => ?_⟩
      · have n : ¬ mine c := fun ⟨j, d', _, g1, g2, g3⟩ => f j d' c g1 g2 g3 hc
        show (if mine c then H c else if B c = none then H0 c else B c) = none
        rw [if_neg n, if_pos (b c hc).2]; exact (b c hc).1
      · rcases pinM_at g1 with ⟨g, _⟩ | ⟨g, _⟩
        · exact f j e q g g2 g3
        · cases g
    · cases h
  · rcases pinM_at h1 with ⟨h, _⟩ | ⟨h, _⟩
    · rcases pinM_at h2 with ⟨g, _⟩ | ⟨g, _⟩
      · exact S.one i j h g
      · cases g
    · cases h
  · have up : ∀ (i : Nat) (m : Md), Γ[i]? = some m → ¬ (i ∈ pins ∧ m = .ow) → (pinM pins Γ)[i]? = some m := fun i m h n => by
      unfold pinM; rw [List.getElem?_mapIdx, h]; simp [n]
    have up2 : ∀ (i : Nat), Γ[i]? = some Md.ow → i ∈ pins → (pinM pins Γ)[i]? = some Md.bo := fun i h n => by
      unfold pinM; rw [List.getElem?_mapIdx, h]; simp [n]
    -- a pinned one behind the loop
    have back : ∀ (i : Nat) (d : D), Γ[i]? = some Md.ow → i ∈ pins → ρ'[i]? = some (some d) → ∃ p d0, ρ[i]? = some (some d0) ∧ σ[i]? = some (some (V.ref p)) ∧ σ'[i]? = some (some (V.ref p)) ∧ H0 p = none ∧ B' p = none ∧ Own K B' H' p d ∧ H1 p ≠ none := fun i d h hp h2 => by
      obtain ⟨v, t, h', a, b, c⟩ := S'.bo i d (up2 i h hp) h2
      have a : (if Γ[i]? = some Md.ow then (if ((ρ[i]?).bind id).isSome = true then ((σ[i]?).bind id).map fun v => (v, true, H1) else none) else lv i) = some (v, t, h') := a
      rw [if_pos h] at a
      cases q : ρ[i]? with
      | none => rw [q] at a; simp at a
      | some w =>
        cases w with
        | none => rw [q] at a; simp at a
        | some d0 =>
          obtain ⟨p, e1', e2, e3, o⟩ := S.ow i d0 h q
          rw [q, e1'] at a
          simp at a
          obtain ⟨rfl, rfl, rfl⟩ := a
          obtain ⟨p', e4, c⟩ := c
          cases e4
          have hp1 : H1 p = H p := if_pos ⟨i, d0, hp, h, q, e1'⟩
          have hn : H1 p ≠ none := by rw [hp1]; exact o.there
          refine ⟨p, d0, rfl, e1', b, e2, S'.ext.sep p hn (Own.noT c) e3, ?_, hn⟩
          exact Top.at (.refl _) (fun u hu => S'.ext.hh _ _ hu) c
    have own' : ∀ (i : Nat) (d : D), Γ[i]? = some Md.ow → ρ'[i]? = some (some d) → ∃ p, σ'[i]? = some (some (V.ref p)) ∧ H0 p = none ∧ B' p = none ∧ Own K B' H' p d ∧ (i ∈ pins → H1 p ≠ none ∧ σ[i]? = some (some (V.ref p)) ∧ ∃ d0, ρ[i]? = some (some d0)) ∧ (¬ i ∈ pins → H1 p = none ∧ (pinM pins Γ)[i]? = some Md.ow) := fun i d h h2 => by
      by_cases hp : i ∈ pins
      · obtain ⟨p, d0, q, a, b, c, e, o, n⟩ := back i d h hp h2
        exact ⟨p, b, c, e, o, fun _ => ⟨n, a, d0, q⟩, fun z => absurd hp z⟩
      · have hu := up i .ow h (fun z => hp z.1)
        obtain ⟨p, a, b, c, o⟩ := S'.ow i d hu h2
        exact ⟨p, a, e01.back b, c, o, fun z => absurd z hp, fun _ => ⟨b, hu⟩⟩
    refine ⟨⟨e01.trans S'.ext.hh, S.ext.bb.trans S'.ext.bb, S'.ext.bh, fun a h1 h3 h2 => S'.ext.sep a (fun z => h1 (e01.back z)) (e01.noT h1 h3) (S.ext.sep a h1 h3 h2)⟩, S.lvx, S'.len, by rw [← pinM_len (pins := pins)]; exact S'.mlen, fun i d h1 h2 => S'.sh i d (up i .sh h1 (fun z => by cases z.2)) h2, fun i d h1 h2 => ?_, fun i d h1 h2 => ?_, fun i j p d e hij h1 h2 h3 h4 h5 h6 => ?_, fun i d h1 h2 => ?_, S.one, S.tabs⟩
    · obtain ⟨p, a, b, c, o, _, _⟩ := own' i d h1 h2
      exact ⟨p, a, b, c, o⟩
    · obtain ⟨v, t, h', a, b, c⟩ := S'.bo i d (up i .bo h1 (fun z => by cases z.2)) h2
      have a : (if Γ[i]? = some Md.ow then _ else lv i) = some (v, t, h') := a
      rw [if_neg (by rw [h1]; simp)] at a
      exact ⟨v, t, h', a, b, c⟩
    · obtain ⟨p1, a1, _, _, _, f1, g1⟩ := own' i d h1 h3
      obtain ⟨p2, a2, _, _, _, f2, g2⟩ := own' j e h2 h4
      rw [h5] at a1; cases a1
      rw [h6] at a2; cases a2
      by_cases hi : i ∈ pins <;> by_cases hj : j ∈ pins
      · obtain ⟨_, s1, d1, r1⟩ := f1 hi
        obtain ⟨_, s2, d2, r2⟩ := f2 hj
        exact S.apart i j p d1 d2 hij h1 h2 r1 r2 s1 s2
      · exact (f1 hi).1 (g2 hj).1
      · exact (f2 hj).1 (g1 hi).1
      · exact S'.apart i j p d e hij (g1 hi).2 (g2 hj).2 h3 h4 h5 h6
    · obtain ⟨p, fp, a, b, o, f⟩ := S'.od i d (up i .od h1 (fun z => by cases z.2)) h2
      refine ⟨p, fp, a, fun c hc => ⟨e01.back (b c hc).1, (b c hc).2⟩, o, fun j e q g1 g2 g3 hc => ?_⟩
      obtain ⟨p1, a1, _, _, _, f1, k1⟩ := own' j e g1 g2
      rw [g3] at a1; cases a1
      by_cases hj : j ∈ pins
      · exact (f1 hj).1 (b q hc).1
      · exact f j e q (k1 hj).2 g2 g3 hc
end
end DL

set_option Elab.async false
set_option linter.all false
set_option maxRecDepth 100000
set_option maxHeartbeats 4000000
namespace DL
open PySem PySem.Spec L2
variable [TbC]

theorem putK_keys {κ : Type} [DecidableEq κ] {kvs : List (κ × V)} {ks : List κ} {key : κ} {v : V} (h : kvs.map (·.1) = ks) : (putK kvs key v).map (·.1) = putKs key ks := by
  subst h
  unfold putK putKs
  have e : ((kvs.map (·.1)).any fun k' => decide (k' = key)) = kvs.any fun kv => decide (kv.1 = key) := by rw [List.any_map]; rfl
  rw [e]
  split
  · rw [List.map_map]
    apply List.map_congr_left
    intro p _
    show (if p.1 = key then (p.1, v) else p).1 = p.1
    split <;> rfl
  · rw [List.map_append]; rfl
theorem rep_reps {κ : Type} [DecidableEq κ] {K : PySem.W.Frag} {B : Hp} {key : κ} {v : V} {d : D} (rv : Rep K B v d) : ∀ {kvs : List (κ × V)} {ds : List D}, Reps K B (kvs.map (·.2)) ds → Reps K B ((kvs.map fun kv => if kv.1 = key then (kv.1, v) else kv).map (·.2)) (repD key d (kvs.map (·.1)) ds)
  | [], _, h => by cases h; exact .nil
  | p :: r, _, h => by
    cases h with
    | cons h1 h2 =>
      simp only [List.map_cons, repD]
      refine .cons ?_ (rep_reps rv h2)
      by_cases q : p.1 = key
      · simp only [if_pos q]; exact rv
      · simp only [if_neg q]; exact h1
theorem putK_reps {κ : Type} [DecidableEq κ] {K : PySem.W.Frag} {B : Hp} {kvs : List (κ × V)} {ks : List κ} {ds : List D} {key : κ} {v : V} {d : D} (h : kvs.map (·.1) = ks) (rv : Rep K B v d) (r : Reps K B (kvs.map (·.2)) ds) : Reps K B ((putK kvs key v).map (·.2)) (putD key d ks ds) := by
  subst h
  unfold putK putD
  have e : ((kvs.map (·.1)).any fun k' => decide (k' = key)) = kvs.any fun kv => decide (kv.1 = key) := by rw [List.any_map]; rfl
  rw [e]
  split
  · exact rep_reps rv r
  · rw [List.map_append]; exact r.append (.cons rv .nil)

/-! ### statements -/
def Post (K : PySem.W.Frag) (Γ : MEnv) (lv : Nat → Option (V × Bool × Hp)) (B0 H0 : Hp) (D : Ends) : Out → Prop
  | .nx ρ => ∀ σ B H, Stt K Γ lv B0 H0 B H σ ρ → D.nx σ H
  | .cnt ρ => ∀ σ B H, Stt K Γ lv B0 H0 B H σ ρ → D.ct σ H
  | .brk ρ => ∀ σ B H, Stt K Γ lv B0 H0 B H σ ρ → D.bk σ H
  | .ret d => ∀ v B H, Ext B0 H0 B H → Rep K B v d → D.rt v H
def StO (X : Cx) (st : Stmt) (Γ : MEnv) (ρ : DEnv) (o : Out) : Prop :=
  ∀ lv B0 H0 B H σ, Stt X.K Γ lv B0 H0 B H σ ρ → ∀ D : Ends, Post X.K Γ lv B0 H0 D o → tSOf X st D σ H
def StS (X : Cx) (sts : List Stmt) (Γ : MEnv) (ρ : DEnv) (o : Out) : Prop :=
  ∀ lv B0 H0 B H σ, Stt X.K Γ lv B0 H0 B H σ ρ → ∀ D : Ends, Post X.K Γ lv B0 H0 D o → tBOf X sts D σ H
section
variable {X : Cx} {N : List Str} {sc : Scope} {k : Nat} {st : Stmt} {sts : List Stmt} {e a b c tg : Expr} {Γ : MEnv} {ρ ρ' : DEnv} {d x y z : D} {o : Out} {t : T} {pos apos p : Pos} {i : Nat} {nm : Str}
theorem ss_nil : StS X [] Γ ρ (.nx ρ) := fun lv B0 H0 B H σ S D q => of_pss pss_nil (q σ B H S)
theorem ss_one (h : StO X st Γ ρ o) : StS X [st] Γ ρ o := fun lv B0 H0 B H σ S D q => of_pss (pss_one ps_of) (h lv B0 H0 B H σ S D q)
theorem ss_cons {o' : Out} (h : StO X st Γ ρ o) (h2 : ∀ ρ', o = .nx ρ' → StS X sts Γ ρ' o') (hn : (∀ ρ', o ≠ .nx ρ') → o' = o) : StS X (st :: sts) Γ ρ o' := fun lv B0 H0 B H σ S D q => by
  refine of_pss (pss_cons ps_of pss_of) ?_
  refine h lv B0 H0 B H σ S _ ?_
  cases o with
  | nx ρ' => exact fun σ' B' H' S' => h2 ρ' rfl lv B0 H0 B' H' σ' S' D q
  | cnt ρ' => cases hn (fun _ z => by cases z); exact q
  | brk ρ' => cases hn (fun _ z => by cases z); exact q
  | ret d => cases hn (fun _ z => by cases z); exact q
def plainA : Expr → Bool
  | .ListComp _ _ _ _ => false
  | .SetComp _ _ _ _ => false
  | .DictComp _ _ _ _ _ => false
  | e => plainE e
theorem plainSw {e : Expr} {tg : Option Expr} {l : Nat} {env : Env} (h : plainA e = true) : swapsWith e tg l env = pure false := by
  cases e <;> first | rfl | cases h
/-- x = e, x shared -/
theorem so_set (g : Good X N sc k) (hi : N[i]? = some nm) (hv : stS sc nm = true) (hp : plainA e = true) (hm : Γ[i]? = some Md.sh) (he : EvM .sh X e Γ ρ d) : StO X (.Assign [.Name nm p] e pos) Γ ρ (.nx (ρ.set i (some d))) := fun lv B0 H0 B H σ S D q => by
  obtain ⟨h1, h2⟩ := g.st nm hv
  refine of_ps (ps_set (by rw [g.hN]; exact g.nd) (by rw [g.hN]; exact hi) h1 pe_of (plainSw hp) h2) ?_
  exact he lv B0 H0 B H σ S _ fun v B' H' x r => q _ B' H' ((S.grow x).setSh hm r)
/-- x = e, x one's own -/
theorem so_setO (g : Good X N sc k) (hi : N[i]? = some nm) (hv : stS sc nm = true) (hp : plainA e = true) (hm : Γ[i]? = some Md.ow) (he : EvM .ow X e Γ ρ d) : StO X (.Assign [.Name nm p] e pos) Γ ρ (.nx (ρ.set i (some d))) := fun lv B0 H0 B H σ S D q => by
  obtain ⟨h1, h2⟩ := g.st nm hv
  refine of_ps (ps_set (by rw [g.hN]; exact g.nd) (by rw [g.hN]; exact hi) h1 pe_of (plainSw hp) h2) ?_
  refine he lv B0 H0 B H σ S _ fun v B' H' x r => ?_
  obtain ⟨a, rfl, ha, hb, o⟩ := r
  exact q _ B' H' (S.setOw x hm ha hb o)
/-- t = e, t a tuple of names -/
theorem so_tup {ts : List Expr} {kt : Nat} {p2 : Pos} (hg : PG X (.Tuple ts kt p2) (gOf X.K t)) (hsh : shT Γ t = true) (hp : plainA e = true) (hw : swappedStores [.Tuple ts kt p2] e X.env = pure none) (he : EvM .sh X e Γ ρ d) (h : asgT t d ρ = some ρ') : StO X (.Assign [.Tuple ts kt p2] e pos) Γ ρ (.nx ρ') := fun lv B0 H0 B H σ S D q => by
  refine of_ps (ps_asg pe_of hg (by cases e <;> first | rfl | cases hp) hw) ?_
  exact he lv B0 H0 B H σ S _ fun v B' H' x r => asg_ok hsh h (S.grow x) r fun σ' S' _ _ => q σ' B' H' S'
theorem so_tupB {ts : List Expr} {kt : Nat} {p2 : Pos} (hg : PG X (.Tuple ts kt p2) (gOf X.K (.tp t))) (hsh : shT Γ (.tp t) = true) (hp : plainA e = true) (hw : swappedStores [.Tuple ts kt p2] e X.env = pure none) (he : EvM .bo X e Γ ρ d) (h : asgT (.tp t) d ρ = some ρ') : StO X (.Assign [.Tuple ts kt p2] e pos) Γ ρ (.nx ρ') := fun lv B0 H0 B H σ S D q => by
  refine of_ps (ps_asg pe_of hg (by cases e <;> first | rfl | cases hp) hw) ?_
  refine he lv B0 H0 B H σ S _ fun v B' H' x r => ?_
  cases d with
  | tup ds =>
    obtain ⟨a, vs, rfl, ha, ra⟩ := bor_tup r
    exact asg_ok hsh h (S.grow x) (.tup ha ra) fun σ' S' _ _ => q σ' B' H' S'
  | _ => simp [asgT] at h
theorem so_drop (hp : plainA e = true) (he : EvM .bo X e Γ ρ d) : StO X (.Expr e pos) Γ ρ (.nx ρ) := fun lv B0 H0 B H σ S D q => by
  refine of_ps (ps_expr pe_of (plainSw hp)) ?_
  exact he lv B0 H0 B H σ S _ fun v B' H' x r => q σ B' H' (S.grow x)
theorem so_ret (he : EvM .sh X e (Γ.map frM) ρ d) : StO X (.Return (some e) pos) Γ ρ (.ret d) := fun lv B0 H0 B H σ S D q => by
  refine of_ps (ps_ret pe_of) ?_
  obtain ⟨B2, eb, S2⟩ := S.freeze
  exact he lv B0 H0 B2 H σ S2 _ fun v B' H' x r => q v B' H' (S2.ext.trans x) r
theorem so_retN : StO X (.Return none pos) Γ ρ (.ret .non) := fun lv B0 H0 B H σ S D q => of_ps ps_retN (q _ B H S.ext .non)
theorem so_pass : StO X (.Pass pos) Γ ρ (.nx ρ) := fun lv B0 H0 B H σ S D q => of_ps ps_pass (q σ B H S)
theorem so_brk : StO X (.Break pos) Γ ρ (.brk ρ) := fun lv B0 H0 B H σ S D q => of_ps ps_break (q σ B H S)
theorem so_cnt : StO X (.Continue pos) Γ ρ (.cnt ρ) := fun lv B0 H0 B H σ S D q => of_ps ps_continue (q σ B H S)
theorem Post.ends {K : PySem.W.Frag} {lv : Nat → Option (V × Bool × Hp)} {B0 H0 : Hp} {D : Ends} (h : Post K Γ lv B0 H0 D o) : Post K Γ lv B0 H0 D o := h
theorem so_if {A1 A2 : List Stmt} {j : Bool} (hc : EvT X c Γ ρ j) (h1 : j = true → StS X A1 Γ ρ o) (h0 : j = false → StS X A2 Γ ρ o) : StO X (.If c A1 A2 pos) Γ ρ o := fun lv B0 H0 B H σ S D q => by
  refine of_ps (ps_if pt_of pss_of pss_of) ?_
  refine hc lv B0 H0 B H σ S _ fun B1 H1 x1 => ?_
  cases j with
  | true => exact iteT (h1 rfl lv B0 H0 B1 H1 σ (S.grow x1) D q)
  | false => exact iteF (h0 rfl lv B0 H0 B1 H1 σ (S.grow x1) D q)
/-- x.append(e) -/
theorem so_app {l : List D} {cpos : Pos} (g : Good X N sc k) (hi : N[i]? = some nm) (hv : visS sc nm = true) (hd : (nm == ("__debug__" : Str)) = false) (hcd : (nm == ("__classdict__" : Str)) = false) (hl : (apos.endLine == cpos.line) = true)
    (hm : Γ[i]? = some Md.ow) (hr : ρ[i]? = some (some (.lst l))) (hz : l.length < lim) (hp : plainE e = true) (he : EvM .sh X e Γ ρ d) : StO X (.Expr (.Call (.Attribute (.Name nm p) "append" apos) [e] [] cpos) pos) Γ ρ (.nx (ρ.set i (some (.lst (l ++ [d]))))) := fun lv B0 H0 B H σ S D q => by
  refine of_ps (ps_expr (pe_bm PySem.F.plainAttrs_list PySem.F.slot_list_append PySem.F.type_list_append mt_append (pe_var (by rw [g.hN]; exact hi) (g.vis nm hv) hd hcd) (pa_cons pe_of pa_nil (star1 hp)) (by rfl) (by rw [star1 hp]; rfl) hl (star1 hp)) (by rfl)) ?_
  obtain ⟨a, ha, h0, hb, o⟩ := S.ow i _ hm hr
  refine ⟨.ref a, ha, ?_⟩
  have key : ∀ {B H : Hp}, Own X.K B H a (.lst l) → ∃ vs, H a = some (.lst vs) ∧ Reps X.K B vs l := fun o => by
    cases o with | lst h r => exact ⟨_, h, r⟩
  obtain ⟨vs0, h0', _⟩ := key o
  refine ⟨.inl ⟨rfl, vs0, SqL.of h0'⟩, ?_⟩
  refine he lv B0 H0 B H σ S _ fun v B' H' x r => ?_
  have S' := S.grow x
  obtain ⟨a', ha', _, hb', o'⟩ := S'.ow i _ hm hr
  rw [ha] at ha'; cases ha'
  obtain ⟨vs, h1, r1⟩ := key o'
  refine ⟨a, vs, v, rfl, rfl, h1, by rw [r1.length]; exact lim_lt hz, ?_⟩
  exact q σ B' _ (S'.mutOw hm hr ha (.lst upd_same (r1.append (.cons r .nil))))
/-- x.extend(e), e a list -/
theorem so_ext {l m : List D} {cpos : Pos} (g : Good X N sc k) (hi : N[i]? = some nm) (hv : visS sc nm = true) (hd : (nm == ("__debug__" : Str)) = false) (hcd : (nm == ("__classdict__" : Str)) = false) (hl : (apos.endLine == cpos.line) = true)
    (hm : Γ[i]? = some Md.ow) (hr : ρ[i]? = some (some (.lst l))) (hz : l.length + m.length ≤ lim) (hp : plainE e = true) (he : EvM .bo X e Γ ρ (.lst m)) : StO X (.Expr (.Call (.Attribute (.Name nm p) "extend" apos) [e] [] cpos) pos) Γ ρ (.nx (ρ.set i (some (.lst (l ++ m))))) := fun lv B0 H0 B H σ S D q => by
  refine of_ps (ps_expr (pe_bm PySem.F.plainAttrs_list PySem.F.slot_list_extend PySem.F.type_list_extend mt_extend (pe_var (by rw [g.hN]; exact hi) (g.vis nm hv) hd hcd) (pa_cons pe_of pa_nil (star1 hp)) (by rfl) (by rw [star1 hp]; rfl) hl (star1 hp)) (by rfl)) ?_
  obtain ⟨a, ha, h0, hb, o⟩ := S.ow i _ hm hr
  refine ⟨.ref a, ha, ?_⟩
  have key : ∀ {B H : Hp}, Own X.K B H a (.lst l) → ∃ vs, H a = some (.lst vs) ∧ Reps X.K B vs l := fun o => by
    cases o with | lst h r => exact ⟨_, h, r⟩
  obtain ⟨vs0, h0', _⟩ := key o
  refine ⟨.inl ⟨rfl, vs0, SqL.of h0'⟩, ?_⟩
  refine he lv B0 H0 B H σ S _ fun v B' H' x r => ?_
  have S' := S.grow x
  obtain ⟨a', ha', _, hb', o'⟩ := S'.ow i _ hm hr
  rw [ha] at ha'; cases ha'
  obtain ⟨vs, h1, r1⟩ := key o'
  obtain ⟨b, ws, rfl, h2, r2⟩ := bor_lst x.bh r
  refine ⟨a, b, vs, ws, rfl, rfl, h1, h2, by rw [r1.length, r2.length]; exact lim_le hz, ?_⟩
  exact q σ B' _ (S'.mutOw hm hr ha (.lst upd_same (r1.append r2)))
/-- x[k] = e, x a dict of one's own -/
theorem so_putK {ks : List Key} {ds : List D} {key : Key} (g : Good X N sc k) (hi : N[i]? = some nm) (hv : visS sc nm = true) (hd : (nm == ("__debug__" : Str)) = false) (hcd : (nm == ("__classdict__" : Str)) = false)
    (hm : Γ[i]? = some Md.ow) (hr : ρ[i]? = some (some (.dic ks ds))) (hz : ks.length < lim) (hp : plainA e = true) (hk : keyD y = some key) (he : EvM .sh X e Γ ρ d) (hy : EvM .sh X b Γ ρ y) : StO X (.Assign [.Subscript (.Name nm p) b apos] e pos) Γ ρ (.nx (ρ.set i (some (.dic (putKs key ks) (putD key d ks ds))))) := fun lv B0 H0 B H σ S D q => by
  refine of_ps (ps_dput (by have := g.hu; omega) (pe_var (by rw [g.hN]; exact hi) (g.vis nm hv) hd hcd) pe_of pe_of (plainSw hp)) ?_
  refine he lv B0 H0 B H σ S _ fun v B1 H1 x1 r1 => ?_
  have S1 := S.grow x1
  obtain ⟨a, ha, _, _, _⟩ := S1.ow i _ hm hr
  refine ⟨.ref a, ha, ?_⟩
  refine hy lv B0 H0 B1 H1 σ S1 _ fun w B2 H2 x2 r2 => ?_
  have S2 := S1.grow x2
  obtain ⟨a', ha', _, _, o⟩ := S2.ow i _ hm hr
  rw [ha] at ha'; cases ha'
  have key1 : ∃ kvs : List (Key × V), H2 a = some (.dK kvs) ∧ kvs.map (·.1) = ks ∧ KsOk ks ∧ Reps X.K B2 (kvs.map (·.2)) ds := by
    cases o with | dic h2 hks ko r => exact ⟨_, h2, hks, ko, r⟩
  obtain ⟨kvs, h2, hks, ko, r⟩ := key1
  have hw : w = kV key := keyD_V (B := B2) (H := H2) hk (.inl r2)
  refine ⟨a, _, rfl, ?_, q σ B2 _ (S2.mutOw hm hr ha (.dic (kvs := putK kvs key v) upd_same (putK_keys hks) ?_ (putK_reps hks ((r1.mono x2.bb)) r)))⟩
  · rw [hw]; exact DPut.k h2 (by rw [← hks, List.length_map] at hz; exact lim_lt hz)
  · intro x hx
    unfold putKs at hx
    split at hx
    · exact ko x hx
    · rcases List.mem_append.mp hx with h | h
      · exact ko x h
      · have : key = .inr x := (List.mem_singleton.mp h).symm
        subst this
        cases y with
        | str s => cases hk; cases r2 with | str _ o => exact o
        | _ => cases hk
/-- x[k] = e, x a dict of one's own with tuple keys -/
theorem so_putT {ks : List (List Key)} {ds : List D} {key : List Key} (g : Good X N sc k) (hi : N[i]? = some nm) (hv : visS sc nm = true) (hd : (nm == ("__debug__" : Str)) = false) (hcd : (nm == ("__classdict__" : Str)) = false)
    (hm : Γ[i]? = some Md.ow) (hr : ρ[i]? = some (some (.dit ks ds))) (hz : ks.length < lim) (hp : plainA e = true) (hk : keyT y = some key) (he : EvM .sh X e Γ ρ d) (hy : EvM .sh X b Γ ρ y) : StO X (.Assign [.Subscript (.Name nm p) b apos] e pos) Γ ρ (.nx (ρ.set i (some (.dit (putKs key ks) (putD key d ks ds))))) := fun lv B0 H0 B H σ S D q => by
  refine of_ps (ps_dput (by have := g.hu; omega) (pe_var (by rw [g.hN]; exact hi) (g.vis nm hv) hd hcd) pe_of pe_of (plainSw hp)) ?_
  refine he lv B0 H0 B H σ S _ fun v B1 H1 x1 r1 => ?_
  have S1 := S.grow x1
  obtain ⟨a, ha, _, _, _⟩ := S1.ow i _ hm hr
  refine ⟨.ref a, ha, ?_⟩
  refine hy lv B0 H0 B1 H1 σ S1 _ fun w B2 H2 x2 r2 => ?_
  have S2 := S1.grow x2
  obtain ⟨a', ha', _, _, o⟩ := S2.ow i _ hm hr
  rw [ha] at ha'; cases ha'
  have key1 : ∃ kvs : List (List Key × V), H2 a = some (.dT kvs) ∧ kvs.map (·.1) = ks ∧ KsOkT ks ∧ Reps X.K B2 (kvs.map (·.2)) ds := by
    cases o with | dit h2 hks ko r => exact ⟨_, h2, hks, ko, r⟩
  obtain ⟨kvs, h2, hks, ko, r⟩ := key1
  obtain ⟨bb, rfl, hbb, hko⟩ := keyT_V (B := B2) x2.bh hk (.inl r2)
  refine ⟨a, _, rfl, ?_, q σ B2 _ (S2.mutOw hm hr ha (.dit (kvs := putK kvs key v) upd_same (putK_keys hks) ?_ (putK_reps hks ((r1.mono x2.bb)) r)))⟩
  · exact DPut.t h2 hbb (by rw [← hks, List.length_map] at hz; exact lim_lt hz)
  · intro x hx
    unfold putKs at hx
    split at hx
    · exact ko x hx
    · rcases List.mem_append.mp hx with h | h
      · exact ko x h
      · rw [List.mem_singleton.mp h]; exact hko
/-! ### a deque of one's own -/
theorem own_deq {K : PySem.W.Frag} {B H : Hp} {a : Addr} {l : List D} (o : Own K B H a (.deq l)) : ∃ vs, H a = some (DqO a vs) ∧ Reps K B vs l := by
  cases o with | deq h r => exact ⟨_, h, r⟩
theorem m1_of {o e : Expr} {m : Str} {apos cpos : Pos} (hb : plainB o = true) (he : plainE e = true) (hl : (apos.endLine == cpos.line) = true) : M1 X o m apos e cpos :=
  ⟨(by cases o <;> first | rfl | cases hb), (by rw [star1 he]; rfl), hl, (by rw [star1 he]; rfl)⟩
theorem so_dqApp {l : List D} {cpos : Pos} (g : Good X N sc k) (hi : N[i]? = some nm) (hv : visS sc nm = true) (hd : (nm == ("__debug__" : Str)) = false) (hcd : (nm == ("__classdict__" : Str)) = false) (hl : (apos.endLine == cpos.line) = true)
    (hm : Γ[i]? = some Md.ow) (hr : ρ[i]? = some (some (.deq l))) (hz : l.length < lim) (hp : plainE e = true) (he : EvM .sh X e Γ ρ d) : StO X (.Expr (.Call (.Attribute (.Name nm p) "append" apos) [e] [] cpos) pos) Γ ρ (.nx (ρ.set i (some (.deq (l ++ [d]))))) := fun lv B0 H0 B H σ S D q => by
  refine of_ps (ps_expr (pe_dq1 dq_plain Fq.slot_append dq_ty_append mt_dqApp (pe_var (by rw [g.hN]; exact hi) (g.vis nm hv) hd hcd) pe_of (m1_of rfl hp hl)) (by rfl)) ?_
  obtain ⟨a, ha, h0, hb, o⟩ := S.ow i _ hm hr
  refine ⟨.ref a, ha, ?_⟩
  obtain ⟨vs0, h0', _⟩ := own_deq o
  refine ⟨⟨a, vs0, rfl, h0'⟩, ?_⟩
  refine he lv B0 H0 B H σ S _ fun v B' H' x r => ?_
  have S' := S.grow x
  obtain ⟨a', ha', _, hb', o'⟩ := S'.ow i _ hm hr
  rw [ha] at ha'; cases ha'
  obtain ⟨vs, h1, r1⟩ := own_deq o'
  refine ⟨a, vs, v, rfl, rfl, h1, by rw [r1.length]; exact lim_lt hz, ?_⟩
  exact q σ B' _ (S'.mutOw hm hr ha (.deq upd_same (r1.append (.cons r .nil))))
theorem so_dqExt {l m : List D} {cpos : Pos} (g : Good X N sc k) (hi : N[i]? = some nm) (hv : visS sc nm = true) (hd : (nm == ("__debug__" : Str)) = false) (hcd : (nm == ("__classdict__" : Str)) = false) (hl : (apos.endLine == cpos.line) = true)
    (hm : Γ[i]? = some Md.ow) (hr : ρ[i]? = some (some (.deq l))) (hz : l.length + m.length ≤ lim) (hp : plainE e = true) (he : EvM .bo X e Γ ρ (.lst m)) : StO X (.Expr (.Call (.Attribute (.Name nm p) "extend" apos) [e] [] cpos) pos) Γ ρ (.nx (ρ.set i (some (.deq (l ++ m))))) := fun lv B0 H0 B H σ S D q => by
  refine of_ps (ps_expr (pe_dq1 dq_plain Fq.slot_extend dq_ty_extend (mt_dqExt g.room.hd) (pe_var (by rw [g.hN]; exact hi) (g.vis nm hv) hd hcd) pe_of (m1_of rfl hp hl)) (by rfl)) ?_
  obtain ⟨a, ha, h0, hb, o⟩ := S.ow i _ hm hr
  refine ⟨.ref a, ha, ?_⟩
  obtain ⟨vs0, h0', _⟩ := own_deq o
  refine ⟨⟨a, vs0, rfl, h0'⟩, ?_⟩
  refine he lv B0 H0 B H σ S _ fun v B' H' x r => ?_
  have S' := S.grow x
  obtain ⟨a', ha', _, hb', o'⟩ := S'.ow i _ hm hr
  rw [ha] at ha'; cases ha'
  obtain ⟨vs, h1, r1⟩ := own_deq o'
  obtain ⟨b, ws, rfl, h2, r2⟩ := bor_lst x.bh r
  refine ⟨a, vs, b, ws, rfl, rfl, h1, h2, by rw [r1.length, r2.length]; exact lim_le hz, ?_⟩
  exact q σ B' _ (S'.mutOw hm hr ha (.deq upd_same (r1.append r2)))
/-- t = x.popleft() -/
theorem so_popl {l : List D} {cpos p3 : Pos} {j : Nat} {tn : Str} (g : Good X N sc k) (hi : N[i]? = some nm) (hv : visS sc nm = true) (hd : (nm == ("__debug__" : Str)) = false) (hcd : (nm == ("__classdict__" : Str)) = false) (hl : (apos.endLine == cpos.line) = true)
    (hm : Γ[i]? = some Md.ow) (hr : ρ[i]? = some (some (.deq (d :: l)))) (ht : N[j]? = some tn) (hvt : stS sc tn = true) (hmt : Γ[j]? = some Md.sh) :
    StO X (.Assign [.Name tn p3] (.Call (.Attribute (.Name nm p) "popleft" apos) [] [] cpos) pos) Γ ρ (.nx ((ρ.set i (some (.deq l))).set j (some d))) := fun lv B0 H0 B H σ S D q => by
  obtain ⟨h1, h2⟩ := g.st tn hvt
  refine of_ps (ps_set (by rw [g.hN]; exact g.nd) (by rw [g.hN]; exact ht) h1 (pe_dq0 dq_plain Fq.slot_popleft dq_ty_popleft mt_dqPop (pe_var (by rw [g.hN]; exact hi) (g.vis nm hv) hd hcd) (by rfl) hl) (by rfl) h2) ?_
  obtain ⟨a, ha, h0, hb, o⟩ := S.ow i _ hm hr
  refine ⟨.ref a, ha, ?_⟩
  obtain ⟨vs, hh, r⟩ := own_deq o
  refine ⟨⟨a, vs, rfl, hh⟩, ?_⟩
  cases r with
  | @cons v vs' _ _ r1 r2 =>
    refine ⟨a, v, vs', rfl, rfl, hh, ?_⟩
    have S' := S.mutOw hm hr ha (d' := .deq l) (o := DqO a vs') (.deq upd_same r2)
    exact q _ B _ (S'.setSh hmt r1)
end

/-! ### loops -/
section
variable {X : Cx} {N : List Str} {sc : Scope} {k : Nat} {body : List Stmt} {e a b c tg iter : Expr} {Γ : MEnv} {ρ ρ' : DEnv} {l : List D} {out : Out} {t : T} {pos : Pos} {pins : List Nat} {f : DEnv → Option Out}
theorem Post.loop {K : PySem.W.Frag} {lv' : Nat → Option (V × Bool × Hp)} {B1 H1 : Hp} {D : Ends} {Γ' : MEnv} {W : L2.St → Hp → Prop} {o : Out}
    (hn : ∀ ρ, (o = .nx ρ ∨ o = .cnt ρ) → ∀ σ B H, Stt K Γ' lv' B1 H1 B H σ ρ → W σ H) (hb : ∀ ρ, o = .brk ρ → ∀ σ B H, Stt K Γ' lv' B1 H1 B H σ ρ → D.nx σ H) (hr : ∀ d, o = .ret d → ∀ v B H, Ext B1 H1 B H → Rep K B v d → D.rt v H) :
    Post K Γ' lv' B1 H1 { D with nx := W, ct := W, bk := D.nx } o := by
  cases o with
  | nx ρ => exact fun σ B H S => hn ρ (.inl rfl) σ B H S
  | cnt ρ => exact fun σ B H S => hn ρ (.inr rfl) σ B H S
  | brk ρ => exact fun σ B H S => hb ρ rfl σ B H S
  | ret d => exact fun v B H x r => hr d rfl v B H x r
theorem forG_cons {F : D → DEnv → Option Out} {x : D} {xs : List D} {ρ : DEnv} {out : Out} (h : forG F (x :: xs) ρ = some out) : ∃ o, F x ρ = some o ∧ (∀ ρ', o = .nx ρ' ∨ o = .cnt ρ' → forG F xs ρ' = some out) ∧ (∀ ρ', o = .brk ρ' → out = .nx ρ') ∧ (∀ d, o = .ret d → out = .ret d) := by
  simp only [forG] at h
  obtain ⟨o, h1, h2⟩ := Option.bind_eq_some_iff.mp h
  refine ⟨o, h1, fun ρ' e => ?_, fun ρ' e => ?_, fun d e => ?_⟩
  · rcases e with rfl | rfl <;> exact h2
  · subst e; cases h2; rfl
  · subst e; cases h2; rfl
theorem so_for (g : Good X N sc k) (hpl : plainE iter = true) (hpo : PassesOwn (model X.prog X.w) X.A X.env X.xe) (hi : EvI true X tg iter (pinM pins Γ) ρ l) (hg : PG X tg (gOf X.K t)) (hsh : shT (pinM pins Γ) t = true)
    (hb : ∀ ρ2 o, f ρ2 = some o → StS X body (pinM pins Γ) ρ2 o) (hr : forG (fun x ρ => (asgT t x ρ).bind f) l ρ = some out) : StO X (.For tg iter body [] pos) Γ ρ out := by
  obtain ⟨hl, wi, hpi, hwi⟩ := hi
  intro lv B0 H0 B H σ S D q
  refine of_ps (ps_for hpo g.calm hpi hg pss_of (plainFold hpl)) ?_
  obtain ⟨lv1, H1, e01, eb1, e1, S1, back1⟩ := S.pin pins
  refine hwi lv1 B H1 B H σ S1 _ fun J B2 H2 x2 hw => ?_
  -- once more: what the walk itself has frozen
  obtain ⟨lv3, H3, e13, eb3, e3, S3, back3⟩ := (S1.grow x2).pin []
  have hpn : pinM [] (pinM pins Γ) = pinM pins Γ := by
    unfold pinM
    apply List.ext_getElem?
    intro i
    rw [List.getElem?_mapIdx]
    cases h : (List.mapIdx (fun i m => if i ∈ pins ∧ m = Md.ow then Md.bo else m) Γ)[i]? <;> simp
  rw [hpn] at S3 back3
  have W1 := hw H3 e13 eb3
  have fin : ∀ B' H' σ' ρ', Stt X.K (pinM pins Γ) lv3 B2 H3 B' H' σ' ρ' → Stt X.K Γ lv B0 H0 B' H' σ' ρ' := fun B' H' σ' ρ' S' => back1 B' H' σ' ρ' (back3 B' H' σ' ρ' S')
  have finR : ∀ {v : V} {B' H' : Hp} {d : DL.D}, Ext B2 H3 B' H' → Rep X.K B' v d → out = .ret d → D.rt v H' := fun {v B' H' d} x r e => by
    subst e
    refine q v B' H' ⟨(e01.trans e13).trans x.hh, (S.ext.bb.trans x2.bb).trans x.bb, x.bh, fun a h1 h9 h2 => ?_⟩ r
    have h3 : H1 a ≠ none := fun z => h1 (e01.back z)
    have h4 : B a = none := S.ext.sep a h1 h9 h2
    have h10 := e01.noT h1 h9
    have h5 : B2 a = none := x2.sep a (fun z => h3 (e1.back z)) (e1.noT h3 h10) h4
    exact x.sep a (fun z => h3 (e13.back z)) (e13.noT h3 h10) h5
  refine ⟨fun i m σ' H' => m = l.length - i ∧ i ≤ l.length ∧ ∃ B' ρ', Stt X.K (pinM pins Γ) lv3 B2 H3 B' H' σ' ρ' ∧ forG (fun x ρ => (asgT t x ρ).bind f) (l.drop i) ρ' = some out,
    ⟨l.length, by omega, by omega, B2, ρ, S3, by rw [List.drop_zero]; exact hr⟩, ?_⟩
  rintro i m σ' H' ⟨rfl, hil, B', ρ', S', hrun⟩
  obtain ⟨w1, w2⟩ := W1 B' H' S'.ext i
  by_cases hlt : i < l.length
  · right
    obtain ⟨w3, w4⟩ := w1 hlt
    refine ⟨w3, _, fun σ2 H2' hN => ⟨l.length - (i + 1), by omega, hN⟩, fun x H4 hy => ?_⟩
    obtain ⟨B4, d, x4, hd, rd⟩ := w4 x H4 hy
    have hdrop : l.drop i = d :: l.drop (i + 1) := by
      rw [List.drop_eq_getElem_cons hlt]
      rw [List.getElem?_eq_getElem hlt] at hd
      cases hd; rfl
    rw [hdrop] at hrun
    obtain ⟨o, ho, c1, c2, c3⟩ := forG_cons hrun
    obtain ⟨ρ5, ha, hfo⟩ := Option.bind_eq_some_iff.mp ho
    refine asg_ok hsh ha (S'.grow x4) rd fun σ5 S5 _ _ => ?_
    refine hb ρ5 o hfo lv3 B2 H3 B4 H4 σ5 S5 _ (Post.loop (fun ρ6 e σ6 B6 H6 S6 => ?_) (fun ρ6 e σ6 B6 H6 S6 => ?_) fun d e v B6 H6 x6 r6 => ?_)
    · exact ⟨rfl, by omega, B6, ρ6, S6, c1 ρ6 e⟩
    · have := c2 ρ6 e
      subst this
      exact q σ6 B6 H6 (fin _ _ _ _ S6)
    · exact finR x6 r6 (c3 d e)
  · left
    have hi' : i = l.length := by omega
    subst hi'
    refine ⟨w2 (Nat.le_refl _), ?_⟩
    rw [List.drop_length] at hrun
    simp only [forG, Option.some.injEq] at hrun
    subst hrun
    exact q σ' B' H' (fin _ _ _ _ S')
theorem whileG_succ {t : DEnv → Option Bool} {f : DEnv → Option Out} {n : Nat} {ρ : DEnv} {out : Out} (h : whileG t f (n + 1) ρ = some out) : ∃ b, t ρ = some b ∧ (b = false → out = .nx ρ) ∧ (b = true → ∃ o, f ρ = some o ∧ (∀ ρ', o = .nx ρ' ∨ o = .cnt ρ' → whileG t f n ρ' = some out) ∧ (∀ ρ', o = .brk ρ' → out = .nx ρ') ∧ (∀ d, o = .ret d → out = .ret d)) := by
  simp only [whileG] at h
  obtain ⟨b, h1, h2⟩ := Option.bind_eq_some_iff.mp h
  refine ⟨b, h1, fun e => ?_, fun e => ?_⟩
  · subst e; cases h2; rfl
  · subst e
    have h2 : (f ρ).bind _ = some out := h2
    obtain ⟨o, h3, h4⟩ := Option.bind_eq_some_iff.mp h2
    refine ⟨o, h3, fun ρ' e => ?_, fun ρ' e => ?_, fun d e => ?_⟩
    · rcases e with rfl | rfl <;> exact h4
    · subst e; cases h4; rfl
    · subst e; cases h4; rfl
theorem so_while {tt : DEnv → Option Bool} {n : Nat} (hpo : PassesOwn (model X.prog X.w) X.A X.env X.xe) (hc : ∀ ρ2 j, tt ρ2 = some j → EvT X c Γ ρ2 j) (hb : ∀ ρ2 o, f ρ2 = some o → StS X body Γ ρ2 o) (hr : whileG tt f n ρ = some out) : StO X (.While c body [] pos) Γ ρ out := by
  intro lv B0 H0 B H σ S D q
  refine of_ps (ps_while hpo pt_of pss_of) ?_
  refine ⟨fun m σ' H' => ∃ B' ρ', Stt X.K Γ lv B0 H0 B' H' σ' ρ' ∧ whileG tt f m ρ' = some out, ⟨n, B, ρ, S, hr⟩, ?_⟩
  rintro m σ' H' ⟨B', ρ', S', hrun⟩
  cases m with
  | zero => simp [whileG] at hrun
  | succ m =>
    obtain ⟨j, h1, h2, h3⟩ := whileG_succ hrun
    refine hc ρ' j h1 lv B0 H0 B' H' σ' S' _ fun B1 H1 x1 => ?_
    cases j with
    | false =>
      have := h2 rfl
      subst this
      exact iteF (q σ' B1 H1 (S'.grow x1))
    | true =>
      obtain ⟨o, ho, c1, c2, c3⟩ := h3 rfl
      refine iteT ⟨fun σ2 H2 => ∃ B' ρ', Stt X.K Γ lv B0 H0 B' H2 σ2 ρ' ∧ whileG tt f m ρ' = some out, fun σ2 H2 hN => ⟨m, Nat.lt_succ_self m, hN⟩, ?_⟩
      refine hb ρ' o ho lv B0 H0 B1 H1 σ' (S'.grow x1) _ (Post.loop (fun ρ6 e σ6 B6 H6 S6 => ?_) (fun ρ6 e σ6 B6 H6 S6 => ?_) fun d e v B6 H6 x6 r6 => ?_)
      · exact ⟨B6, ρ6, S6, c1 ρ6 e⟩
      · have := c2 ρ6 e
        subst this
        exact q σ6 B6 H6 S6
      · have := c3 d e
        subst this
        exact q v B6 H6 x6 r6
end
end DL

set_option Elab.async false
set_option linter.all false
set_option maxRecDepth 100000
set_option maxHeartbeats 4000000
/-! Rows of texts in order; the sorting of tuples of texts in the heap. -/
namespace DL
open PySem PySem.Spec L2
variable [TbC]
/-! ### the order -/
def kL (k : List Str) : List (Int ⊕ List Nat) := k.map fun x => Sum.inr x.cps.toList
theorem ltK_lex : ∀ a b : List Str, ltK a b = PyProof.Rows.lexLt PyProof.Rows.itemOrd (kL a) (kL b)
  | [], [] => rfl
  | _ :: _, [] => rfl
  | [], _ :: _ => rfl
  | x :: a, y :: b => by
    show ltK (x :: a) (y :: b) = (decide (x.cps.toList < y.cps.toList) || (!decide (y.cps.toList < x.cps.toList) && PyProof.Rows.lexLt PyProof.Rows.itemOrd (kL a) (kL b)))
    rw [ltK, PyProof.Rows.ltCps_eq, PyProof.Rows.ltCps_eq, ltK_lex a b]
theorem kL_inj : ∀ {a b : List Str}, kL a = kL b → a = b
  | [], [], _ => rfl
  | x :: a, y :: b, h => by
    simp only [kL, List.map_cons, List.cons.injEq, Sum.inr.injEq] at h
    have e : x = y := by
      cases x; cases y
      simp only [PySem.Str.mk.injEq]
      exact Array.toList_inj.mp h.1
    rw [e, kL_inj (a := a) (b := b) h.2]
  | [], _ :: _, h => by simp [kL] at h
  | _ :: _, [], h => by simp [kL] at h
theorem ltK_irr (a : List Str) : ltK a a = false := by rw [ltK_lex]; exact PyProof.Rows.lex_irrefl _
theorem ltK_neg {a b c : List Str} (h : ltK a c = true) : ltK a b = true ∨ ltK b c = true := by
  simp only [ltK_lex] at h ⊢
  exact PyProof.Rows.lex_negTrans _ _ _ h
theorem ltK_tr {a b c : List Str} (h : ltK a b = true) (h2 : ltK b c = true) : ltK a c = true := by
  simp only [ltK_lex] at h h2 ⊢
  exact PyProof.Rows.lex_trans _ _ _ h h2
theorem ltK_tot {a b : List Str} (h : ltK a b = false) (h2 : ltK b a = false) : a = b := by
  simp only [ltK_lex] at h h2
  exact kL_inj (PyProof.Rows.lex_total _ _ h h2)
def leK (a b : List Str) : Prop := ltK b a = false
theorem leK_tr {a b c : List Str} (h : leK a b) (h2 : leK b c) : leK a c := by
  unfold leK at *
  cases e : ltK c a with
  | false => rfl
  | true => rcases ltK_neg (b := b) e with z | z <;> simp_all
theorem insK_perm (x : List Str) : ∀ l, (insK x l).Perm (x :: l)
  | [] => .refl _
  | y :: r => by
    rw [insK]
    split
    · exact ((insK_perm x r).cons y).trans (.swap x y r)
    · exact .refl _
theorem sortK_perm : ∀ l, (sortK l).Perm l
  | [] => .refl _
  | x :: r => (insK_perm x _).trans ((sortK_perm r).cons x)
theorem insK_pair (x : List Str) : ∀ l : List (List Str), l.Pairwise leK → (insK x l).Pairwise leK
  | [], _ => by simp [insK]
  | y :: r, h => by
    obtain ⟨h1, h2⟩ := List.pairwise_cons.mp h
    rw [insK]
    split
    · rename_i c
      have yx : leK y x := by
        unfold leK
        cases e : ltK x y with
        | false => rfl
        | true => have := ltK_tr e c; rw [ltK_irr] at this; cases this
      refine List.pairwise_cons.mpr ⟨fun z hz => ?_, insK_pair x r h2⟩
      rcases List.mem_cons.mp ((insK_perm x r).mem_iff.mp hz) with rfl | hz
      · exact yx
      · exact h1 z hz
    · rename_i c
      have xy : leK x y := by simpa [leK] using c
      refine List.pairwise_cons.mpr ⟨fun z hz => ?_, h⟩
      rcases List.mem_cons.mp hz with rfl | hz
      · exact xy
      · exact leK_tr xy (h1 z hz)
theorem sortK_pair : ∀ l, (sortK l).Pairwise leK
  | [] => .nil
  | x :: r => insK_pair x _ (sortK_pair r)
theorem sortK_one : ∀ {a b : List (List Str)}, a.Perm b → a.Pairwise leK → b.Pairwise leK → a = b
  | [], b, h, _, _ => h.nil_eq
  | x :: a, [], h, _, _ => absurd h.length_eq (by simp)
  | x :: a, y :: b, h, ha, hb => by
    obtain ⟨a1, a2⟩ := List.pairwise_cons.mp ha
    obtain ⟨b1, b2⟩ := List.pairwise_cons.mp hb
    have e : x = y := by
      rcases List.mem_cons.mp (h.mem_iff.mp (show x ∈ x :: a by simp)) with z | z
      · exact z
      · rcases List.mem_cons.mp (h.mem_iff.mpr (show y ∈ y :: b by simp)) with u | u
        · exact u.symm
        · exact ltK_tot (b1 x z) (a1 y u)
    subst e
    rw [sortK_one (List.Perm.cons_inv h) a2 b2]
theorem sortK_uniq {a b : List (List Str)} (h : b.Perm a) (s : b.Pairwise leK) : b = sortK a := sortK_one (h.trans (sortK_perm a).symm) s (sortK_pair a)
theorem sortK_congr {a b : List (List Str)} (h : b.Perm a) : sortK b = sortK a := sortK_uniq ((sortK_perm b).trans h) (sortK_pair b)
/-! ### in the heap -/
/-- an object and the texts of its tuple -/
abbrev RowS := Addr × List Str
def sAll : Nat → Bool := fun _ => true
/-- the tuple at b holds the texts k, one at least -/
def TupS (h : Heap) (k : List Str) (b : Addr) : Prop := ∃ ob its n, h.get? b = some ob ∧ ob.cls = .type "tuple" ∧ ob.data = .seq its n ∧ PyProof.Rows.StrsAre its.toList k ∧ k ≠ []
theorem strs_items : ∀ {us : List Value} {k : List Str} (i : Nat), PyProof.Rows.StrsAre us k → PyProof.Rows.tupItems sAll i us = some (kL k)
  | _, _, _, .nil => rfl
  | _, _, i, .cons x u r => by
    show (if sAll i = true then (PyProof.Rows.tupItems sAll (i + 1) _).map (Sum.inr x.cps.toList :: ·) else none) = _
    rw [strs_items (i + 1) r]
    rfl
theorem TupS.key {h : Heap} {k : List Str} {b : Addr} (t : TupS h k b) : PyProof.Rows.G.tupKeyC h sAll (.ref b) = some (kL k) := by
  obtain ⟨ob, its, n, h1, h2, h3, h4, _⟩ := t
  exact PyProof.Rows.G.tupKeyC_of h1 h2 h3 (strs_items 0 h4)
theorem TupS.first {h : Heap} {k : List Str} {b : Addr} (t : TupS h k b) : ∃ f, PyProof.Rows.TupOf h sAll (.ref b) f := by
  obtain ⟨ob, its, n, h1, h2, h3, h4, h5⟩ := t
  cases hi : its.toList with
  | nil => rw [hi] at h4; cases h4; exact absurd rfl h5
  | cons f us =>
    rw [hi] at h4
    cases h4 with
    | cons x u r =>
      refine ⟨.str x u, b, ob, its, n, rfl, h1, h2, h3, ?_, (fun z => by cases z), fun _ => ⟨x, u, rfl⟩⟩
      rw [← Array.getElem?_toList, hi]; rfl
theorem TupS.firsts {h : Heap} : ∀ {rs : List RowS}, (∀ r ∈ rs, TupS h r.2 r.1) → ∃ fs, PyProof.Rows.TupsOf h sAll (rs.map fun r => Value.ref r.1) fs
  | [], _ => ⟨[], .nil⟩
  | r :: rs, all => by
    obtain ⟨f, hf⟩ := (all r (by simp)).first
    obtain ⟨fs, hfs⟩ := TupS.firsts (rs := rs) fun q hq => all q (by simp [hq])
    exact ⟨f :: fs, .cons hf hfs⟩
theorem perm_back {α β : Type} {f : α → β} : ∀ {us vs : List β}, us.Perm vs → ∀ {ys : List α}, vs = ys.map f → ∃ zs : List α, us = zs.map f ∧ zs.Perm ys := by
  intro us vs h
  induction h with
  | nil => intro ys e; exact ⟨[], rfl, by have := List.map_eq_nil_iff.mp e.symm; rw [this]⟩
  | cons x _ ih =>
    intro ys e
    cases ys with
    | nil => cases e
    | cons y ys =>
      simp only [List.map_cons, List.cons.injEq] at e
      obtain ⟨zs, h1, h2⟩ := ih e.2
      exact ⟨y :: zs, by rw [List.map_cons, h1, e.1], h2.cons y⟩
  | swap x y l =>
    intro ys e
    match ys, e with
    | a :: b :: ys, e =>
      simp only [List.map_cons, List.cons.injEq] at e
      exact ⟨b :: a :: ys, by rw [List.map_cons, List.map_cons, e.1, e.2.1, e.2.2], .swap a b ys⟩
    | [_], e => simp at e
    | [], e => simp at e
  | trans _ _ ih1 ih2 =>
    intro ys e
    obtain ⟨zs, h1, h2⟩ := ih2 e
    obtain ⟨xs, h3, h4⟩ := ih1 h1
    exact ⟨xs, h3, h4.trans h2⟩
/-- what the sorting leaves -/
theorem sorted_rows {h : Heap} {rs : List RowS} (all : ∀ r ∈ rs, TupS h r.2 r.1) {arr : Array PyProof.Rows.Keyed} (pm : arr.Perm (PyProof.Rows.pairsOf (rs.map fun r => Value.ref r.1)))
    (so : PyProof.Rows.SortedToK (PyProof.Rows.G.tupKindC h sAll) arr (PyProof.Rows.pairsOf (rs.map fun r => Value.ref r.1)).size) :
    ∃ out : List RowS, (arr.map (·.2)).toList = out.map (fun r => Value.ref r.1) ∧ out.Perm rs ∧ (out.map Prod.snd).Pairwise leK := by
  have pl : arr.toList.Perm (rs.map fun r => ((Value.ref r.1, Value.ref r.1) : PyProof.Rows.Keyed)) := by
    have e := Array.perm_iff_toList_perm.mp pm
    rw [PyProof.Rows.pairsOf_toList] at e
    have z : ∀ l : List RowS, (l.map fun r => Value.ref r.1).zip (l.map fun r => Value.ref r.1) = l.map fun r => (Value.ref r.1, Value.ref r.1) := by
      intro l
      induction l with
      | nil => rfl
      | cons x l ih => simp [ih]
    rw [z] at e
    exact e
  obtain ⟨out, e1, e2⟩ := perm_back pl rfl
  refine ⟨out, by rw [Array.toList_map, e1, List.map_map]; rfl, e2, ?_⟩
  rw [List.pairwise_map, List.pairwise_iff_getElem]
  intro i j hi hj hij
  have n : (PyProof.Rows.pairsOf (rs.map fun r => Value.ref r.1)).size = out.length := by
    rw [PyProof.Rows.pairsOf_size, List.length_map, e2.length_eq]
  have at' : ∀ (i : Nat) (hi : i < out.length), PyProof.Rows.KK (PyProof.Rows.G.tupKindC h sAll) arr i = kL out[i].2 := fun i hi => by
    have g : arr[i]? = some (Value.ref out[i].1, Value.ref out[i].1) := by
      rw [← Array.getElem?_toList, e1, List.getElem?_map, List.getElem?_eq_getElem hi]; rfl
    have key : PyProof.Rows.G.tupKeyC h sAll (.ref out[i].1) = some (kL out[i].2) := (all _ (e2.mem_iff.mp (List.getElem_mem hi))).key
    unfold PyProof.Rows.KK
    rw [g]
    show (PyProof.Rows.G.tupKeyC h sAll (.ref out[i].1)).getD [] = _
    rw [key]; rfl
  have z := so i j (by omega) (by omega)
  rw [at' i hi, at' j hj] at z
  show ltK out[j].2 out[i].2 = false
  rw [ltK_lex]
  exact z
section
variable {P : Program} {w : World} {A : Around} {E : Value → Shared → Prop} {s : Shared}
/-- sorted(xs), xs a list of tuples of texts -/
theorem sorted_listS {l : Addr} {rs : List RowS} {Q : Value → Shared → Prop} (hl : s.heap.IsList l (rs.map fun r => Value.ref r.1).toArray) (all : ∀ r ∈ rs, TupS s.heap r.2 r.1) (z : rs.length ≤ sizeLine)
    (q : ∀ h' p (c : Nat) (out : List RowS), out.Perm rs → (out.map Prod.snd).Pairwise leK → (∀ b u, s.heap.get? b = some u → h'.get? b = some u) → s.heap.objs.size ≤ p → h'.get? p = some (PyProof.Rows.seqObj "list" (out.map fun r => Value.ref r.1).toArray c) → Q (.ref p) { s with heap := h' }) :
    wpAny (model P w) A (call (.builtin "sorted") [.ref l]) Q E s := by
  obtain ⟨fs, hfs⟩ := TupS.firsts all
  refine PyProof.Rows.G.sorted_tups hl hfs (fun v hv => ?_) (by rw [List.length_map]; exact z) fun st' pm so _ => ?_
  · obtain ⟨r, hr, rfl⟩ := List.mem_map.mp hv
    exact ⟨_, (all r hr).key⟩
  · obtain ⟨out, e1, e2, e3⟩ := sorted_rows all pm so
    obtain ⟨c, hc⟩ := PyProof.Rows.sortedAll_at s.heap (rs.map fun r => Value.ref r.1) ((PyProof.Rows.arrOf st').map (·.2))
    refine q _ _ c out e2 e3 (fun b u hu => PyProof.Rows.sortedAll_old hu) (Nat.le_succ _) ?_
    have e4 : (PyProof.Rows.arrOf st').map (·.2) = (out.map fun r => Value.ref r.1).toArray := by
      rw [← e1]
    rw [e4] at hc ⊢
    exact hc
end
/-! ### by data -/
theorem tupK_len {l : List (List Str)} : (l.map tupK).length = l.length := List.length_map ..
section
variable {K : PySem.W.Frag} {B H : Hp}
/-- the row r stands in the frozen part -/
def RowB (B : Hp) (r : RowS) : Prop := B r.1 = some (.tup (r.2.map V.str)) ∧ (∀ x ∈ r.2, okS x) ∧ r.2 ≠ []
theorem RowB.mono {B' : Hp} (e : Ex B B') {r : RowS} (h : RowB B r) : RowB B' r := ⟨e _ _ h.1, h.2⟩
theorem strT_row {v : V} {d : D} {k : List Str} (r : Rep K B v d) (h : strT d = some k) : ∃ b, v = .ref b ∧ RowB B (b, k) := by
  cases d with
  | tup ds =>
    cases r with
    | tup hb r =>
      obtain ⟨k', h1, h2⟩ := Option.bind_eq_some_iff.mp h
      split at h2
      · cases h2
      · rename_i hne
        cases h2
        obtain ⟨rfl, ok⟩ := reps_strs r h1
        exact ⟨_, rfl, hb, ok, hne⟩
  | _ => cases h
theorem rows_of : ∀ {vs : List V} {l : List D} {ks : List (List Str)}, Reps K B vs l → rowsD l = some ks → ∃ rs : List RowS, vs = rs.map (fun r => V.ref r.1) ∧ rs.map Prod.snd = ks ∧ ∀ r ∈ rs, RowB B r
  | _, _, _, .nil, h => by cases h; exact ⟨[], rfl, rfl, by simp⟩
  | _, _, _, .cons r t, h => by
    simp only [rowsD] at h
    obtain ⟨k, h1, h⟩ := Option.bind_eq_some_iff.mp h
    obtain ⟨ks, h2, rfl⟩ := Option.map_eq_some_iff.mp h
    obtain ⟨b, rfl, rb⟩ := strT_row r h1
    obtain ⟨rs, rfl, rfl, all⟩ := rows_of t h2
    refine ⟨(b, k) :: rs, rfl, rfl, fun q hq => ?_⟩
    rcases List.mem_cons.mp hq with rfl | hq
    · exact rb
    · exact all q hq
theorem reps_strB : ∀ {k : List Str}, (∀ x ∈ k, okS x) → Reps K B (k.map V.str) (k.map D.str)
  | [], _ => .nil
  | x :: k, h => .cons (.str x (h x (by simp))) (reps_strB fun y hy => h y (by simp [hy]))
theorem reps_rows : ∀ {rs : List RowS}, (∀ r ∈ rs, RowB B r) → Reps K B (rs.map fun r => V.ref r.1) ((rs.map Prod.snd).map tupK)
  | [], _ => .nil
  | r :: rs, all => .cons (.tup (all r (by simp)).1 (reps_strB (all r (by simp)).2.1)) (reps_rows fun q hq => all q (by simp [hq]))
end
section
variable {X : Cx} {pins : List (Addr × Obj)} {σ : L2.St} {H : Hp} {s : Shared}
theorem strs_vals : ∀ {k : List Str} {us : List Value}, Vals (k.map V.str) us → PyProof.Rows.StrsAre us k
  | [], _, .nil => .nil
  | x :: k, _, .cons r t => by
    obtain ⟨u, rfl⟩ := r
    exact .cons x u (strs_vals t)
theorem tupS_of (I : Inv X pins σ H s) {b : Addr} {k : List Str} (h : H b = some (.tup (k.map V.str))) (hne : k ≠ []) : TupS s.heap k b := by
  obtain ⟨its, rv, ⟨ob, h1, h2, n, h3⟩, _⟩ := I.tuple (SqT.of h)
  exact ⟨ob, its.toArray, n, h1, h2, h3, by simpa using strs_vals rv, hne⟩
theorem refs_rows : ∀ {rs : List RowS} {us : List Value}, Vals (rs.map fun r => V.ref r.1) us → us = rs.map fun r => Value.ref r.1
  | [], _, .nil => rfl
  | r :: rs, _, .cons e t => by
    cases e
    rw [refs_rows t]
    rfl
theorem rows_refs : ∀ (rs : List RowS), Vals (rs.map fun r => V.ref r.1) (rs.map fun r => Value.ref r.1)
  | [] => .nil
  | r :: rs => .cons rfl (rows_refs rs)
/-- sorted(xs), xs a list of tuples of texts -/
def rSortLS (K : PySem.W.Frag) : List V → Hp → VK → Prop := fun vs H Q => ∃ (a : Addr) (rs : List RowS), vs = [V.ref a] ∧ SqL K H a (rs.map fun r => V.ref r.1) ∧ (∀ r ∈ rs, H r.1 = some (.tup (r.2.map V.str)) ∧ r.2 ≠ []) ∧
  ∀ (out : List RowS) (p : Addr), out.Perm rs → (out.map Prod.snd).Pairwise leK → H p = none → Q (.ref p) (upd H p (.lst (out.map fun r => V.ref r.1)))
theorem cr_sortLS : CallR X (.builtin "sorted") (rSortLS X.K) := by
  intro pins s σ H vs us Q I r h
  obtain ⟨a, rs, rfl, ha, all, q⟩ := h
  obtain ⟨its, rv, pl, z⟩ := I.list ha
  rw [Vals.ref1 r]
  have e := refs_rows rv
  subst e
  rw [List.length_map] at z
  refine sorted_listS pl.isList (fun r hr => tupS_of I (all r hr).1 (all r hr).2) z fun h' p c out pm so kk hp hat => ?_
  have J : Inv X pins σ (upd H p (.lst (out.map fun r => V.ref r.1))) { s with heap := h' } :=
    I.laid (t' := s.toks) kk hp ⟨by rw [List.length_map, pm.length_eq]; exact z, _, c, rows_refs out, hat⟩
  exact ⟨.ref p, _, J, rfl, q out p pm so (I.hok.fresh hp)⟩
end
theorem sorted_semK {l : List D} {ks : List (List Str)} {K : PySem.W.Frag} (hx : rowsD l = some ks) : CbSem K (rSortLS K) .ow (.lst l) (.lst ((sortK ks).map tupK)) := fun B H v e hv Q q => by
  obtain ⟨a, vs, rfl, ha, r⟩ := bor_lst e hv
  obtain ⟨rs, rfl, rfl, all⟩ := rows_of r hx
  refine ⟨a, rs, rfl, SqL.of ha, fun r hr => ⟨e _ _ (all r hr).1, (all r hr).2.2⟩, fun out p pm so hn => ?_⟩
  rw [← sortK_uniq (pm.map Prod.snd) so] at q
  exact new_lst e (reps_rows fun r hr => all r (pm.mem_iff.mp hr)) q p hn
end DL

set_option Elab.async false
set_option linter.all false
set_option maxRecDepth 100000
set_option maxHeartbeats 4000000
namespace DL
open PySem PySem.Spec L2 PyProof.Rows
variable [TbC]

/-! ### zip -/
theorem zip_len {l m : List D} : ((l.zip m).map fun p => D.tup [p.1, p.2]).length = min l.length m.length := by simp
theorem zip_at {l m : List D} {i : Nat} {d e : D} (h1 : l[i]? = some d) (h2 : m[i]? = some e) : ((l.zip m).map fun p => D.tup [p.1, p.2])[i]? = some (.tup [d, e]) := by
  rw [List.getElem?_map, (List.getElem?_zip_eq_some (z := (d, e))).mpr ⟨h1, h2⟩]; rfl
theorem walks_zipT {K : PySem.W.Frag} {Bs Hs : Hp} {a b : Addr} {vs ws : List V} {l m : List D} (ha : SqT K Hs a vs) (hb : SqT K Hs b ws) (ra : Reps K Bs vs l) (rb : Reps K Bs ws m) : Walks K (RZ.ItzT K a b) Bs Hs ((l.zip m).map fun p => .tup [p.1, p.2]) := fun B H x i => by
  have ha' := sqT_ex x.hh ha
  have hb' := sqT_ex x.hh hb
  rw [zip_len]
  refine ⟨fun hi => ?_, fun hi => ⟨vs, ws, ha', hb', by rw [ra.length, rb.length]; omega⟩⟩
  have hi1 : i < vs.length := by rw [ra.length]; omega
  have hi2 : i < ws.length := by rw [rb.length]; omega
  refine ⟨⟨vs, ws, vs[i], ws[i], ha', hb', List.getElem?_eq_getElem hi1, List.getElem?_eq_getElem hi2⟩, ?_⟩
  rintro y H' ⟨T, v, w, rfl, hT, rfl, h1, h2⟩
  obtain ⟨d, e1, r1⟩ := ra.get (h1 vs ha')
  obtain ⟨e, e2, r2⟩ := rb.get (h2 ws hb')
  exact ⟨_, _, .new x.bh hT, zip_at e1 e2, .tup upd_same (.cons ((r1.mono x.bb).mono (.new (x.bh.back hT))) (.cons ((r2.mono x.bb).mono (.new (x.bh.back hT))) .nil))⟩
theorem walks_zipL {K : PySem.W.Frag} {Bs Hs : Hp} {a b : Addr} {vs ws : List V} {l m : List D} (ha : SqL K Hs a vs) (hb : SqL K Hs b ws) (ra : Reps K Bs vs l) (rb : Reps K Bs ws m) : Walks K (Itz K a b) Bs Hs ((l.zip m).map fun p => .tup [p.1, p.2]) := fun B H x i => by
  have ha' := sqL_ex x.hh ha
  have hb' := sqL_ex x.hh hb
  rw [zip_len]
  refine ⟨fun hi => ?_, fun hi => ⟨vs, ws, ha', hb', by rw [ra.length, rb.length]; omega⟩⟩
  have hi1 : i < vs.length := by rw [ra.length]; omega
  have hi2 : i < ws.length := by rw [rb.length]; omega
  refine ⟨⟨vs, ws, vs[i], ws[i], ha', hb', List.getElem?_eq_getElem hi1, List.getElem?_eq_getElem hi2⟩, ?_⟩
  rintro y H' ⟨T, v, w, rfl, hT, rfl, h1, h2⟩
  obtain ⟨d, e1, r1⟩ := ra.get (h1 vs ha')
  obtain ⟨e, e2, r2⟩ := rb.get (h2 ws hb')
  exact ⟨_, _, .new x.bh hT, zip_at e1 e2, .tup upd_same (.cons ((r1.mono x.bb).mono (.new (x.bh.back hT))) (.cons ((r2.mono x.bb).mono (.new (x.bh.back hT))) .nil))⟩
section
variable {X : Cx} {N : List Str} {sc : Scope} {k : Nat} {e a b c : Expr} {Γ : MEnv} {ρ : DEnv} {d x y : D} {l : List D} {z : Bool} {pos apos p tpos : Pos} {elts : List Expr} {kk : Nat}
theorem ei_zipT {l m : List D} (g : Good X N sc k) (hm : X.mg "zip" = none) (hg : glS sc "zip" = true) (hp : plainE a = true) (hp2 : plainE b = true) (hl : ((l.zip m).map fun p => D.tup [p.1, p.2]).length ≤ sizeLine) (h1 : EvM .bo X a Γ ρ (.tup l)) (h2 : EvM .bo X b Γ ρ (.tup m)) :
    EvI z X (.Tuple elts kk tpos) (.Call (.Name "zip" p) [a, b] [] pos) Γ ρ ((l.zip m).map fun p => .tup [p.1, p.2]) := by
  refine ⟨hl, _, RZ.pi_zipA (g.gl _ hg) hm pa_of (star1 hp) (by rw [star1 hp2]; rfl), fun lv B0 H0 B H σ S R q => ?_⟩
  refine ea_cons hp (by decide) h1 (ea_cons hp2 (by decide) h2 ea_nil) lv B0 H0 B H σ S _ fun vs B' H' x r => ?_
  cases r with
  | cons r1 r2 =>
    cases r2 with
    | cons r2 r3 =>
      cases r3
      obtain ⟨a', vs, rfl, ha, ra⟩ := bor_tup r1
      obtain ⟨b', ws, rfl, hb, rb⟩ := bor_tup r2
      exact ⟨a', b', vs, ws, rfl, .inr ⟨SqT.of (x.bh _ _ ha), SqT.of (x.bh _ _ hb), q _ B' H' x fun Hs _ e2 => walks_zipT (SqT.of (e2 _ _ ha)) (SqT.of (e2 _ _ hb)) ra rb⟩⟩
end

/-! ### enumerate -/
theorem enum_len {l : List D} : (enumD l).length = l.length := by unfold enumD; simp
theorem enum_at {l : List D} {i : Nat} {d : D} (h : l[i]? = some d) : (enumD l)[i]? = some (.tup [.int (i : Nat), d]) := by
  unfold enumD
  rw [List.getElem?_map, List.getElem?_zipIdx, h]
  simp
theorem walks_enum {K : PySem.W.Frag} {Bs Hs : Hp} {a : Addr} {vs : List V} {l : List D} (ha : SqL K Hs a vs) (ra : Reps K Bs vs l) : Walks K (Ite K a) Bs Hs (enumD l) := fun B H x i => by
  have ha' := sqL_ex x.hh ha
  rw [enum_len]
  refine ⟨fun hi => ?_, fun hi => ⟨vs, ha', by rw [ra.length]; exact hi⟩⟩
  have hi1 : i < vs.length := by rw [ra.length]; exact hi
  refine ⟨⟨vs, vs[i], ha', List.getElem?_eq_getElem hi1⟩, ?_⟩
  rintro y H' ⟨T, v, rfl, hT, rfl, h1⟩
  obtain ⟨d, e1, r1⟩ := ra.get (h1 vs ha')
  exact ⟨_, _, .new x.bh hT, enum_at e1, .tup upd_same (.cons (.int _) (.cons ((r1.mono x.bb).mono (.new (x.bh.back hT))) .nil))⟩
section
variable {X : Cx} {N : List Str} {sc : Scope} {k : Nat} {e a b c : Expr} {Γ : MEnv} {ρ : DEnv} {d x y : D} {l : List D} {z : Bool} {pos apos p tpos : Pos} {elts : List Expr} {kk : Nat}
theorem ei_enum (g : Good X N sc k) (hm : X.mg "enumerate" = none) (hg : glS sc "enumerate" = true) (hp : plainE e = true) (hl : l.length ≤ sizeLine) (h : EvB z X e Γ ρ (.lst l)) :
    EvI z X (.Tuple elts kk tpos) (.Call (.Name "enumerate" p) [e] [] pos) Γ ρ (enumD l) := by
  refine ⟨by rw [enum_len]; exact hl, _, pi_enum (g.gl _ hg) hm (pa_cons pe_of pa_nil (star1 hp)) (by rw [star1 hp]; rfl), fun lv B0 H0 B H σ S R q => h lv B0 H0 B H σ S _ fun v B' H' x r => ?_⟩
  have e0 : Ex (if z = true then H0 else H') H' := by
    cases z with
    | true => exact S.ext.hh.trans x.hh
    | false => exact .refl _
  obtain ⟨a, vs, rfl, r1, r2, r3⟩ := key_list x.bh e0 r (.inl rfl)
  exact ⟨a, vs, rfl, r2, q _ B' H' x fun Hs e1 e2 => walks_enum (r3 Hs e1 e2) r1⟩
end

/-! ### a dict comprehension -/
section
variable {X : Cx} {N : List Str} {sc scope : Scope} {k : Nat} {own : List (Str × Nat)} {kx vx tg iter : Expr} {ifs : List Expr} {Γ : MEnv} {ρ : DEnv} {t : T} {l : List D} {pos : Pos} {f : D → Option (Option (Key × D))} {rk : List Key} {rd : List D}
theorem putKs_len (key : Key) (ks : List Key) : (putKs key ks).length ≤ ks.length + 1 := by unfold putKs; split <;> simp
theorem putKs_ok {key : Key} {ks : List Key} (ko : KsOk ks) (h : ∀ x, key = .inr x → okS x) : KsOk (putKs key ks) := by
  intro x hx
  unfold putKs at hx
  split at hx
  · exact ko x hx
  · rcases List.mem_append.mp hx with q | q
    · exact ko x q
    · exact h x (List.mem_singleton.mp q).symm
theorem key_ok {K : PySem.W.Frag} {B : Hp} {v : V} {d : D} {key : Key} (hk : keyD d = some key) (r : Rep K B v d) : ∀ x, key = .inr x → okS x := by
  intro x e
  subst e
  cases d with
  | str s => cases hk; cases r with | str _ o => exact o
  | _ => cases hk
theorem dc_read {wi : TI} (hl : l.length ≤ sizeLine) (hif : ifs.length ≤ 1)
    (hwi : ∀ lv B0 H0 B H σ, Stt X.K Γ lv B0 H0 B H σ ρ → ∀ R : It → Hp → Prop, (∀ J B' H', Ext B H B' H' → (∀ Hs, (if false = true then Ex H0 Hs else Ex H' Hs) → Ex B' Hs → Walks X.K J B' Hs l) → R J H') → wi σ H R)
    (hs : shT Γ t = true) (hin : ∀ i ∈ slT t, i ∈ own.map (·.2))
    (hf : ∀ x ∈ l, ∀ o, f x = some o → ∃ ρ' j, asgT t x (wipeD ρ (own.map (·.2))) = some ρ' ∧ (ifs = [] → j = true) ∧ (∀ (s : Shared) (H : Hp) (C : Addr) (cl : List (Str × Addr)) (fp : List Addr), EvTs (X.blk s H scope (compEnvC scope cl C X.env) fp) ifs Γ ρ' j) ∧
      (j = false → o = none) ∧ (j = true → ∃ key y kd, o = some (key, y) ∧ keyD kd = some key ∧ (∀ (s : Shared) (H : Hp) (C : Addr) (cl : List (Str × Addr)) (fp : List Addr), EvM .sh (X.blk s H scope (compEnvC scope cl C X.env) fp) kx Γ ρ' kd) ∧ ∀ (s : Shared) (H : Hp) (C : Addr) (cl : List (Str × Addr)) (fp : List Addr), EvM .sh (X.blk s H scope (compEnvC scope cl C X.env) fp) vx Γ ρ' y))
    (hr : dcG f l [] [] = some (rk, rd)) : ∀ lv B0 H0 B H σ, Stt X.K Γ lv B0 H0 B H σ ρ → ∀ Q : VK, (∀ v B' H', Ext B H B' H' → RM X.K .ow H B' H' v (.dic rk rd) → Q v H') → tDc wi (gOf X.K t) (tTBlk X scope ifs) (tBlk X scope kx) (tBlk X scope vx) (own.map (·.2)) σ H Q := by
  intro lv B0 H0 B H σ S Q q
  show wi σ H fun J H1 => _
  refine hwi lv B0 H0 B H σ S _ fun J B1 H1 x1 hw => ?_
  have W1 := hw H1 (.refl _) x1.bh
  intro Dl hD
  let Inv' : Nat → Hp → Prop := fun i H' => i ≤ l.length ∧ ∃ B' kvs ks ds, Ext B1 H1 B' H' ∧ B' Dl = none ∧ H' Dl = some (.dK kvs) ∧ kvs.map (·.1) = ks ∧ KsOk ks ∧ Reps X.K B' (kvs.map (·.2)) ds ∧ dcG f (l.drop i) ks ds = some (rk, rd) ∧ kvs.length ≤ i
  refine ⟨fun i m H' => m = l.length - i ∧ Inv' i H', ⟨l.length, by omega, by omega, B1, [], [], [], .own x1.bh hD, x1.bh.back hD, upd_same, rfl, (fun x hx => by cases hx), .nil, by rw [List.drop_zero]; exact hr, Nat.le_refl _⟩, ?_⟩
  rintro i m H' ⟨rfl, hil, B', kvs, ks, ds, x2, b2, h2, hks, ko, r2, hrest, hacc⟩
  obtain ⟨w1, w2⟩ := W1 B' H' x2 i
  by_cases hlt : i < l.length
  · right
    obtain ⟨w3, w4⟩ := w1 hlt
    refine ⟨w3, Inv' (i + 1), fun H'' hN => ⟨l.length - (i + 1), by omega, rfl, hN⟩, fun x H2 hy => ?_⟩
    obtain ⟨B2, d, x3, hd, rd'⟩ := w4 x H2 hy
    have hdrop : l.drop i = d :: l.drop (i + 1) := by
      rw [List.drop_eq_getElem_cons hlt]
      rw [List.getElem?_eq_getElem hlt] at hd
      cases hd; rfl
    rw [hdrop] at hrest
    simp only [dcG] at hrest
    obtain ⟨o, ho, hrest⟩ := Option.bind_eq_some_iff.mp hrest
    obtain ⟨ρ', j, ha, hn, ht, h0, h1⟩ := hf d (List.mem_of_getElem? hd) o ho
    have S2 : Stt X.K Γ lv B0 H0 B2 H2 (wipe σ (own.map (·.2))) (wipeD ρ (own.map (·.2))) := (S.grow ((x1.trans x2).trans x3)).wiped
    have hH2 : H2 Dl = some (.dK kvs) := x3.hh _ _ h2
    have hB2 : B2 Dl = none := x3.sep Dl (by rw [h2]; simp) (by rw [h2]; simp) b2
    refine asg_ok hs ha S2 rd' fun σ' S' k' l' => ⟨?_, ?_⟩
    · rw [wipe_eq (σ := wipe σ (own.map (·.2))) (fun z hz => k' z fun hz' => hz (hin z hz')) l', wipe_wipe]
    · have fin : ∀ B3 H3, Ext B2 H2 B3 H3 → (if j = true then tBlk X scope kx σ' H3 fun y H4 => tBlk X scope vx σ' H4 fun z H5 => ∃ kvs k, y = kV k ∧ H5 Dl = some (.dK kvs) ∧ kvs.length < sizeLine ∧ Inv' (i + 1) (upd H5 Dl (.dK (putK kvs k z))) else Inv' (i + 1) H3) := fun B3 H3 x4 => by
        have hH3 : H3 Dl = some (.dK kvs) := x4.hh _ _ hH2
        have hB3 : B3 Dl = none := x4.sep Dl (by rw [hH2]; simp) (by rw [hH2]; simp) hB2
        cases j with
        | false =>
          have := h0 rfl
          subst this
          exact iteF ⟨by omega, B3, kvs, ks, ds, (x2.trans x3).trans x4, hB3, hH3, hks, ko, (r2.mono x3.bb).mono x4.bb, hrest, by omega⟩
        | true =>
          obtain ⟨key, y, kd, rfl, hkd, hk, hy⟩ := h1 rfl
          refine iteT fun s0 Hh0 C cl fp => hk s0 Hh0 C cl fp lv B0 H0 B3 H3 σ' (S'.grow x4) _ fun v B4 H4 x5 r5 => ?_
          intro s0 Hh0 C cl fp
          refine hy s0 Hh0 C cl fp lv B0 H0 B4 H4 σ' ((S'.grow x4).grow x5) _ fun u B5 H5 x6 r6 => ?_
          have hH5 : H5 Dl = some (.dK kvs) := x6.hh _ _ (x5.hh _ _ hH3)
          have hB5 : B5 Dl = none := x6.sep Dl (by rw [x5.hh _ _ hH3]; simp) (by rw [x5.hh _ _ hH3]; simp) (x5.sep Dl (by rw [hH3]; simp) (by rw [hH3]; simp) hB3)
          have xx := (x2.trans x3).trans ((x4.trans x5).trans x6)
          have hkv : v = kV key := keyD_V (B := B4) (H := H4) hkd (.inl r5)
          refine ⟨kvs, key, hkv, hH5, by omega, by omega, B5, putK kvs key u, putKs key ks, putD key y ks ds, ⟨fun a w ha => ?_, xx.bb, fun a w ha => ?_, xx.sep⟩, hB5, upd_same, putK_keys hks, putKs_ok ko (key_ok hkd r5), putK_reps hks r6 ((((r2.mono x3.bb).mono x4.bb).mono x5.bb).mono x6.bb), hrest, ?_⟩
          · rw [upd_ne (ne_of_none ha hD)]; exact xx.hh a w ha
          · rw [upd_ne (ne_of_none ha hB5)]; exact xx.bh a w ha
          · have h1 := congrArg List.length (putK_keys (v := u) (key := key) hks)
            rw [List.length_map] at h1
            have h2 := putKs_len key ks
            have h3 : ks.length = kvs.length := by rw [← hks, List.length_map]
            omega
      match ifs, ht, hif, hn with
      | [], ht, _, hn =>
        have : j = true := hn rfl
        subst this
        exact fin B2 H2 (.refl x3.bh)
      | [c], ht, _, _ => exact fun s0 Hh0 C cl fp => ht s0 Hh0 C cl fp lv B0 H0 B2 H2 σ' S' _ fun B3 H3 x4 => fin B3 H3 x4
  · left
    have hi' : i = l.length := by omega
    subst hi'
    refine ⟨w2 (Nat.le_refl _), ?_⟩
    rw [List.drop_length] at hrest
    simp only [dcG, Option.some.injEq, Prod.mk.injEq] at hrest
    obtain ⟨rfl, rfl⟩ := hrest
    exact q _ B' H' (x1.trans x2) ⟨Dl, rfl, x1.hh.back hD, b2, .dic h2 hks ko r2⟩
theorem ev_dc (g : Good X N sc k) (hb : blkC N sc scope own = true) (hpl : plainE iter = true) (hif : ifs.length ≤ 1) (hi : EvI false X tg iter Γ ρ l)
    (hg : ∀ (s : Shared) (H : Hp) (C : Addr) (cl : List (Str × Addr)) (fp : List Addr), PG (X.blk s H scope (compEnvC scope cl C X.env) fp) tg (gOf X.K t)) (hs : shT Γ t = true) (hin : ∀ i ∈ slT t, i ∈ own.map (·.2))
    (hf : ∀ x ∈ l, ∀ o, f x = some o → ∃ ρ' j, asgT t x (wipeD ρ (own.map (·.2))) = some ρ' ∧ (ifs = [] → j = true) ∧ (∀ (s : Shared) (H : Hp) (C : Addr) (cl : List (Str × Addr)) (fp : List Addr), EvTs (X.blk s H scope (compEnvC scope cl C X.env) fp) ifs Γ ρ' j) ∧
      (j = false → o = none) ∧ (j = true → ∃ key y kd, o = some (key, y) ∧ keyD kd = some key ∧ (∀ (s : Shared) (H : Hp) (C : Addr) (cl : List (Str × Addr)) (fp : List Addr), EvM .sh (X.blk s H scope (compEnvC scope cl C X.env) fp) kx Γ ρ' kd) ∧ ∀ (s : Shared) (H : Hp) (C : Addr) (cl : List (Str × Addr)) (fp : List Addr), EvM .sh (X.blk s H scope (compEnvC scope cl C X.env) fp) vx Γ ρ' y))
    (hr : dcG f l [] [] = some (rk, rd)) : EvM .ow X (.DictComp kx vx [⟨tg, iter, ifs, 0⟩] scope pos) Γ ρ (.dic rk rd) := by
  obtain ⟨hl, wi, hpi, hwi⟩ := hi
  intro lv B0 H0 B H σ S Q q
  exact of_pe (pe_dc g.calm (by rw [g.hN]; exact g.nd) hpi (g.blkOk hb) hg (pts_of hif) pe_blk pe_blk (plainFold hpl)) (dc_read hl hif hwi hs hin hf hr lv B0 H0 B H σ S Q q)
/-- y = {..} where the target's store stands within the comprehension's frame -/
theorem ps_setDc {i : Nat} {y : Str} {py spos : Pos} {wi : TI} {g : TG} {tt : TT} {tk tv : TE} (hc : X.calm = true) (hN : X.N.Nodup) (hy : X.N[i]? = some y) (hyl : X.env.scope.names.lookup y = some .local)
    (hsw : swapsWith (.DictComp kx vx [⟨tg, iter, ifs, 0⟩] scope pos) (some (.Name y py)) spos.line X.env = pure true) (hi : PI X tg iter wi) (ok : BlkOk X.N X.env.scope scope own)
    (hg : ∀ (s : Shared) (H : Hp) (C : Addr) (cl : List (Str × Addr)) (fp : List Addr), PG (X.blk s H scope (compEnvC scope cl C X.env) fp) tg g) (ht : ∀ (s : Shared) (H : Hp) (C : Addr) (cl : List (Str × Addr)) (fp : List Addr), PTs (X.blk s H scope (compEnvC scope cl C X.env) fp) ifs tt)
    (hk : ∀ (s : Shared) (H : Hp) (C : Addr) (cl : List (Str × Addr)) (fp : List Addr), PE (X.blk s H scope (compEnvC scope cl C X.env) fp) kx tk)
    (he : ∀ (s : Shared) (H : Hp) (C : Addr) (cl : List (Str × Addr)) (fp : List Addr), PE (X.blk s H scope (compEnvC scope cl C X.env) fp) vx tv) (hs : ∀ x, foldedSetIterable iter X.env x = pure x) :
    PS X (.Assign [.Name y py] (.DictComp kx vx [⟨tg, iter, ifs, 0⟩] scope pos) spos) (tAsg (tDc wi g tt tk tv (own.map (·.2))) (gName i)) := by
  refine ⟨fun pins s σ H D I h => ?_⟩
  rw [exec_Assign_Name_used _ _ _ _ hsw]
  refine wpAny_bind (wpAny_standAt (wpAny_bind ?_))
  show wpAny _ X.A (do let _ ← comprehension (.DictComp kx vx [⟨tg, iter, ifs, 0⟩] scope pos) scope X.env (firstIterPos [⟨tg, iter, ifs, 0⟩] pos) newDict false (eval iter X.env) (some (assign (.Name y py) X.env))) _ _ s
  have h : tDc wi g tt tk tv (own.map (·.2)) σ H (fun x H1 => gName i x σ H1 D.nx) := h
  refine wpAny_bind (thn (dc_core (Qf := fun _ s' => SP X pins D .next s') hc hN I hi ok hg ht hk he hs h fun L C s' m H' I' q hn f => ?_) fun _ s' hq => wpAny_pure (wpAny_pure hq))
  show wpAny _ _ (assign (.Name y py) X.env (.ref L)) _ _ _
  refine wpAny_assign_Name (store_ok2 (v := V.ref L) I' hN hy (.inl hyl) rfl (fun s2 I2 ⟨a, sb, ha⟩ => ?_) (.inr hyl))
  obtain ⟨f0, f1, f2, f3, f4, f5⟩ := f
  have haC : C ≠ a := by
    rcases ha with z | z
    · rw [z]; exact f1
    · exact fun e => f4 y a z e.symm
  refine ⟨m, hn.sameBut sb haC, fun h3 sb3 => ?_⟩
  exact ⟨_, H', I2.turned (t' := s2.toks) (fun b o hb e => (sb3.2 b hb).trans e) f0 f1 f3 f4 f5, q⟩
end
/-! ### list.index, a list's item stored -/
theorem toPys_at : ∀ {l : List D} {j : Nat} {d : D}, l[j]? = some d → (toPys l)[j]? = some (toPy d)
  | [], _, _, h => by simp at h
  | x :: xs, 0, d, h => by simp at h; subst h; simp [toPys]
  | x :: xs, j + 1, d, h => by simpa [toPys] using toPys_at (l := xs) (j := j) (by simpa using h)
theorem toPys_of : ∀ {l : List D} {j : Nat} {z : PyData}, (toPys l)[j]? = some z → ∃ d, l[j]? = some d ∧ z = toPy d
  | [], _, _, h => by simp [toPys] at h
  | x :: xs, 0, z, h => by simp [toPys] at h; exact ⟨x, rfl, h.symm⟩
  | x :: xs, j + 1, z, h => by
    obtain ⟨d, h1, h2⟩ := toPys_of (l := xs) (j := j) (by simpa [toPys] using h)
    exact ⟨d, by simpa using h1, h2⟩
theorem indexD_at {y : D} : ∀ {l : List D} {i j : Nat}, indexD y l i = some j → i ≤ j ∧ (∃ x, l[j - i]? = some x ∧ eqv x y = true) ∧ ∀ m x, m < j - i → l[m]? = some x → eqv x y = false
  | [], _, _, h => by simp [indexD] at h
  | x :: xs, i, j, h => by
    simp only [indexD] at h
    split at h
    · rename_i e; cases h
      exact ⟨Nat.le_refl _, ⟨x, by simp, e⟩, fun m x hm => by omega⟩
    · rename_i e
      obtain ⟨h1, ⟨z, h2, h3⟩, h4⟩ := indexD_at h
      refine ⟨by omega, ⟨z, by rw [show j - i = (j - (i + 1)) + 1 by omega]; simpa using h2, h3⟩, fun m w hm hw => ?_⟩
      cases m with
      | zero => simp at hw; subst hw; simpa using e
      | succ m => exact h4 m w (by omega) (by simpa using hw)
theorem dOks_get {n : Nat} : ∀ {l : List D} {j : Nat} {d : D}, dOks n l = true → l[j]? = some d → dOk n d = true
  | [], _, _, _, h => by simp at h
  | x :: xs, 0, d, h0, h => by simp only [dOks, Bool.and_eq_true] at h0; simp at h; subst h; exact h0.1
  | x :: xs, j + 1, d, h0, h => by simp only [dOks, Bool.and_eq_true] at h0; exact dOks_get h0.2 (by simpa using h)
section
variable {X : Cx} {N : List Str} {sc : Scope} {k : Nat} {e a b c : Expr} {Γ : MEnv} {ρ : DEnv} {d x y : D} {l : List D} {pos apos p cpos : Pos} {nm : Str} {i : Nat}
theorem ev_index (g : Good X N sc k) (hb : plainB a = true) (hp : plainE b = true) (hl : (apos.endLine == pos.line) = true) (h : op2D .index (.lst l) y = some d) (ha : EvM .bo X a Γ ρ (.lst l)) (hb' : EvM .bo X b Γ ρ y) : EvM .sh X (.Call (.Attribute a "index" apos) [b] [] pos) Γ ρ d := fun lv B0 H0 B H σ S Q q => by
  simp only [op2D] at h
  split at h
  · rename_i hk
    simp only [Bool.and_eq_true] at hk
    obtain ⟨j, hj, rfl⟩ := Option.map_eq_some_iff.mp h
    obtain ⟨_, ⟨z, hz, hq⟩, hn⟩ := indexD_at hj
    rw [Nat.sub_zero] at hz hn
    have hk2 : dOks 59 l = true := by simpa [dOk] using hk.2
    refine of_pe (pe_bm PySem.F.plainAttrs_list PySem.F.slot_list_index PySem.F.type_list_index (mt_indexD g.hu) pe_of (pa_cons pe_of pa_nil (star1 hp)) (plainBase hb) (by rw [star1 hp]; rfl) hl (star1 hp)) ?_
    refine ha lv B0 H0 B H σ S _ fun v1 B1 H1 x1 r1 => ?_
    obtain ⟨p1, vs, rfl, hv, _⟩ := bor_lst x1.bh r1
    refine ⟨.inl ⟨rfl, vs, SqL.of hv⟩, ?_⟩
    refine hb' lv B0 H0 B1 H1 σ (S.grow x1) _ fun v2 B2 H2 x2 r2 => ?_
    obtain ⟨d1, s1⟩ := bor_dp (K := X.K) x2.bh (by decide) hk.2 (Bor.mono x2.bb x2.hh r1)
    obtain ⟨d2, s2⟩ := bor_dp (K := X.K) x2.bh (by decide) hk.1 r2
    simp only [toPy] at d1 s1
    refine ⟨p1, v2, _, _, j, toPy z, rfl, rfl, d1, d2, s1, s2, toPys_at hz, ?_, fun m z' hm hz' => ?_, q _ B2 H2 (x1.trans x2) (.int _)⟩
    · rw [eqv_py 59 60 z y (dOks_get hk2 hz) hk.1]; exact hq
    · obtain ⟨w, hw, rfl⟩ := toPys_of hz'
      rw [eqv_py 59 60 w y (dOks_get hk2 hw) hk.1]; exact hn m w hm hw
  · cases h
/-- x[k] = e, x a list of one's own -/
theorem so_seti {j : Nat} {z : Int} (g : Good X N sc k) (hi : N[i]? = some nm) (hv : visS sc nm = true) (hd : (nm == ("__debug__" : Str)) = false) (hcd : (nm == ("__classdict__" : Str)) = false)
    (hm : Γ[i]? = some Md.ow) (hr : ρ[i]? = some (some (.lst l))) (hp : plainA e = true) (hpb : plainE b = true) (hj : ixN l.length z = some j) (he : EvM .sh X e Γ ρ d) (hy : EvM .bo X b Γ ρ (.int z)) : StO X (.Assign [.Subscript (.Name nm p) b apos] e pos) Γ ρ (.nx (ρ.set i (some (.lst (l.set j d))))) := fun lv B0 H0 B H σ S D q => by
  have pv1 : PE X (.Name nm p) (tVar i) := pe_var (by rw [g.hN]; exact hi) (g.vis nm hv) hd hcd
  have pgs : PG X (.Subscript (.Name nm p) b apos) (gSub (tVar i) (tOf X b) rSetL) := by
    cases b <;> first | exact pg_sub pv1 pe_of set_list | cases hpb
  refine of_ps (ps_asg (tg := .Subscript (.Name nm p) b apos) pe_of pgs (by cases e <;> first | rfl | cases hp) (by rfl)) ?_
  refine he lv B0 H0 B H σ S _ fun v B1 H1 x1 r1 => ?_
  have S1 := S.grow x1
  obtain ⟨a, ha, _, _, _⟩ := S1.ow i _ hm hr
  refine ⟨.ref a, ha, ?_⟩
  refine hy lv B0 H0 B1 H1 σ S1 _ fun w B2 H2 x2 r2 => ?_
  have S2 := S1.grow x2
  obtain ⟨a', ha', _, _, o⟩ := S2.ow i _ hm hr
  rw [ha] at ha'; cases ha'
  cases bor_int r2
  have key1 : ∃ vs, H2 a = some (.lst vs) ∧ Reps X.K B2 vs l := by cases o with | lst h r => exact ⟨_, h, r⟩
  obtain ⟨vs, h2, r⟩ := key1
  exact ⟨a, vs, z, j, rfl, rfl, h2, by rw [r.length]; exact hj, q σ B2 _ (S2.mutOw hm hr ha (.lst upd_same (r.set (r1.mono x2.bb) j)))⟩
/-! ### sorted texts -/
theorem ltC {a b : List Nat} : ltCps a b = decide (a < b) := PyProof.Rows.ltCps_eq a b
theorem ins_perm (x : Str) : ∀ l : List Str, (insS x l).Perm (x :: l)
  | [] => .refl _
  | y :: r => by
    rw [insS]
    split
    · exact ((ins_perm x r).cons y).trans (.swap x y r)
    · exact .refl _
theorem sort_perm : ∀ l : List Str, (sortS l).Perm l
  | [] => .refl _
  | x :: r => (ins_perm x _).trans ((sort_perm r).cons x)
def leS (a b : Str) : Prop := a.cps.toList ≤ b.cps.toList
theorem ins_pair (x : Str) : ∀ l : List Str, l.Pairwise leS → (insS x l).Pairwise leS
  | [], _ => by simp [insS]
  | y :: r, h => by
    obtain ⟨h1, h2⟩ := List.pairwise_cons.mp h
    rw [insS]
    split
    · rename_i hl
      rw [ltC, decide_eq_true_eq] at hl
      refine List.pairwise_cons.mpr ⟨fun z hz => ?_, ins_pair x r h2⟩
      rcases List.mem_cons.mp ((ins_perm x r).mem_iff.mp hz) with rfl | hz
      · exact List.le_of_lt hl
      · exact h1 z hz
    · rename_i hl
      rw [ltC, decide_eq_true_eq] at hl
      have hxy : leS x y := List.not_lt.mp hl
      refine List.pairwise_cons.mpr ⟨fun z hz => ?_, h⟩
      rcases List.mem_cons.mp hz with rfl | hz
      · exact hxy
      · exact List.le_trans hxy (h1 z hz)
theorem sort_pair : ∀ l : List Str, (sortS l).Pairwise leS
  | [] => .nil
  | x :: r => ins_pair x _ (sort_pair r)
theorem rising_pair : ∀ (r : List Str) (x : Str), risingS x r = true → (x :: r).Pairwise leS
  | [], _, _ => by simp
  | y :: r, x, h => by
    simp only [risingS, Bool.and_eq_true, Bool.not_eq_true', ltC, decide_eq_false_iff_not] at h
    have ih := rising_pair r y h.2
    have hxy : leS x y := List.not_lt.mp h.1
    obtain ⟨h1, _⟩ := List.pairwise_cons.mp ih
    refine List.pairwise_cons.mpr ⟨fun z hz => ?_, ih⟩
    rcases List.mem_cons.mp hz with rfl | hz
    · exact hxy
    · exact List.le_trans hxy (h1 z hz)
theorem sorted_pairS {l : List Str} (h : sortedS l = true) : l.Pairwise leS := by
  cases l with
  | nil => exact .nil
  | cons x r => exact rising_pair r x h
theorem leS_anti {a b : Str} (h1 : leS a b) (h2 : leS b a) : a = b := by
  have : a.cps.toList = b.cps.toList := List.le_antisymm h1 h2
  cases a; cases b
  simp only [PySem.Str.mk.injEq]
  exact Array.toList_inj.mp this
theorem perm_sorted : ∀ {a b : List Str}, a.Perm b → a.Pairwise leS → b.Pairwise leS → a = b
  | [], b, h, _, _ => h.nil_eq
  | x :: a, [], h, _, _ => absurd h.length_eq (by simp)
  | x :: a, y :: b, h, ha, hb => by
    obtain ⟨a1, a2⟩ := List.pairwise_cons.mp ha
    obtain ⟨b1, b2⟩ := List.pairwise_cons.mp hb
    have e : x = y := by
      have hx : x ∈ y :: b := h.mem_iff.mp (by simp)
      have hy : y ∈ x :: a := h.mem_iff.mpr (by simp)
      rcases List.mem_cons.mp hx with q | q
      · exact q
      · rcases List.mem_cons.mp hy with r | r
        · exact r.symm
        · exact leS_anti (a1 y r) (b1 x q)
    subst e
    rw [perm_sorted (List.Perm.cons_inv h) a2 b2]
theorem sort_uniq {xs ys : List Str} (h : ys.Perm xs) (hs : sortedS ys = true) : ys = sortS xs := perm_sorted (h.trans (sort_perm xs).symm) (sorted_pairS hs) (sort_pair xs)
theorem reps_ofS {K : PySem.W.Frag} {B : Hp} : ∀ {xs : List Str}, (∀ x ∈ xs, okS x) → Reps K B (xs.map V.str) (xs.map D.str)
  | [], _ => .nil
  | x :: xs, h => .cons (.str x (h x (by simp))) (reps_ofS fun y hy => h y (by simp [hy]))
theorem sorted_semS {l : List D} {xs : List Str} {K : PySem.W.Frag} (hx : strsD l = some xs) (h64 : xs.length < 64) : CbSem K (rSortedS K) .ow (.lst l) (.lst ((sortS xs).map .str)) := fun B H v e hv Q q => by
  obtain ⟨a, vs, rfl, ha, r⟩ := bor_lst e hv
  obtain ⟨rfl, ok⟩ := reps_strs r hx
  refine ⟨a, xs, rfl, SqL.of ha, h64, fun ys p hp hs hn => ?_⟩
  rw [sort_uniq hp hs]
  exact new_lst e (reps_ofS fun x hx => ok x ((sort_perm xs).mem_iff.mp hx)) q p hn
theorem ev_sorted (g : Good X N sc k) (hm : X.mg "sorted" = none) (hg : glS sc "sorted" = true) (hp : plainE a = true) (h : op1D .sorted x = some d) (ha : EvM .bo X a Γ ρ x) : EvM .ow X (.Call (.Name "sorted" p) [a] [] pos) Γ ρ d := by
  cases x <;> simp only [op1D, reduceCtorEq] at h
  split at h
  · rename_i xs hx
    split at h
    · rename_i h64
      cases h
      exact ev_cb (pe_callB cr_sortedS (g.gl _ hg) hm PyProof.Rows.boot_sorted pa_of (he := star1 hp)) (sorted_semS hx h64) hp ha
    · cases h
  · obtain ⟨ks, hx, rfl⟩ := Option.map_eq_some_iff.mp h
    exact ev_cb (pe_callB cr_sortLS (g.gl _ hg) hm PyProof.Rows.boot_sorted pa_of (he := star1 hp)) (sorted_semK hx) hp ha
theorem ev_max2 {i j : Int} (g : Good X N sc k) (hm : X.mg "max" = none) (hg : glS sc "max" = true) (hp : plainE a = true) (hp2 : plainE b = true) (ha : EvM .bo X a Γ ρ (.int i)) (hb : EvM .bo X b Γ ρ (.int j)) : EvM .sh X (.Call (.Name "max" p) [a, b] [] pos) Γ ρ (.int (if j > i then j else i)) := fun lv B0 H0 B H σ S Q q => by
  refine of_pe (pe_callB (call_max2 g.calm) (g.gl _ hg) hm PyProof.Rows.boot_max pa_of (he := star1 hp) (hpl := by rw [star1 hp2]; rfl)) ?_
  refine ea_cons hp (by decide) ha (ea_cons hp2 (by decide) hb ea_nil) lv B0 H0 B H σ S _ fun vs B' H' x r => ?_
  cases r with
  | cons r1 r2 =>
    cases r2 with
    | cons r2 r3 =>
      cases r3
      cases bor_int r1; cases bor_int r2
      exact ⟨i, j, rfl, q _ B' H' x (.int _)⟩
theorem ev_min2 {i j : Int} (g : Good X N sc k) (hm : X.mg "min" = none) (hg : glS sc "min" = true) (hp : plainE a = true) (hp2 : plainE b = true) (ha : EvM .bo X a Γ ρ (.int i)) (hb : EvM .bo X b Γ ρ (.int j)) : EvM .sh X (.Call (.Name "min" p) [a, b] [] pos) Γ ρ (.int (if j < i then j else i)) := fun lv B0 H0 B H σ S Q q => by
  refine of_pe (pe_callB (call_min2 g.calm) (g.gl _ hg) hm PyProof.Rows.boot_min pa_of (he := star1 hp) (hpl := by rw [star1 hp2]; rfl)) ?_
  refine ea_cons hp (by decide) ha (ea_cons hp2 (by decide) hb ea_nil) lv B0 H0 B H σ S _ fun vs B' H' x r => ?_
  cases r with
  | cons r1 r2 =>
    cases r2 with
    | cons r2 r3 =>
      cases r3
      cases bor_int r1; cases bor_int r2
      exact ⟨i, j, rfl, q _ B' H' x (.int _)⟩
end
end DL

set_option Elab.async false
set_option linter.all false
set_option maxRecDepth 100000
set_option maxHeartbeats 4000000
/-! Comprehensions of any kind and of any number of clauses: one rule for a clause, which takes what stands behind it as a promise. -/
namespace DL
open PySem PySem.Spec L2
variable [TbC]

/-! ### the text of a turn -/
def turnC (tg iter : Expr) (ifs : List Expr) (rest : Sem Fin → Sem Fin) (c : Code) (it : Value) (env : Env) : Sem Fin := do
  standAt iter.pos
  match ← pyNext it with
  | none => pure (.done .next)
  | some v =>
    letOwnedTupleGo tg it v
    assign tg env v
    let ok ← forIn ifs true fun c r => if r = true then do let ok ← isTrue c env (eval c env); pure (ForInStep.yield ok) else pure (ForInStep.yield r)
    if ok = true then rest (again c) else again c
/-- what is behind the clause: a promise for any way that goes on -/
structure Bhd (X : Cx) (rest : Sem Fin → Sem Fin) (vs : List Nat) (t : St → Hp → (Hp → Prop) → Prop) : Prop where
  run : ∀ (pins : List (Addr × Obj)) (s : Shared) (σ : St) (H : Hp) (Q : Hp → Prop) (k : Sem Fin) (P : Fin → Shared → Prop) (E : Value → Shared → Prop), Inv X pins σ H s → t σ H Q →
    (∀ s' H', Inv X pins (wipe σ vs) H' s' → Q H' → wpAny (model X.prog X.w) X.A k P E s') → wpAny (model X.prog X.w) X.A (rest k) P E s
/-- the clause's code, as the model tells it -/
structure CodeC (P : Program) (w : World) (A : Around) (env : Env) (tg iter : Expr) (ifs : List Expr) (rest : Sem Fin → Sem Fin) (c : Value → Code) : Prop where
  quiet : ∀ it, (c it).quiet = true
  under : ∀ it, A.under (c it) = A
  den : ∀ it, (model P w).den (c it) = (turnC tg iter ifs rest (c it) it env).onRaise (fun x => do noteFrame x env; theTreesLotGoes x)
def tClause (g : TG) (tt : TT) (tr : St → Hp → (Hp → Prop) → Prop) (vs : List Nat) (J : It) (σ : St) (H0 : Hp) (Q : Hp → Prop) : Prop :=
  ∃ W : Nat → Nat → Hp → Prop, (∃ m, W 0 m H0) ∧ ∀ i m H, W i m H → (J.stop i H ∧ Q H) ∨ (J.go i H ∧ ∃ Nx : Hp → Prop, (∀ H', Nx H' → ∃ m', m' < m ∧ W (i + 1) m' H') ∧
    ∀ x H', J.yld i H x H' → g x (wipe σ vs) H' fun σ2 H2 => wipe σ2 vs = wipe σ vs ∧ tt σ2 H2 fun b H3 => if b = true then tr σ2 H3 Nx else Nx H3)
theorem clause_run {X : Cx} {tg iter : Expr} {ifs : List Expr} {rest : Sem Fin → Sem Fin} {c : Value → Code} {g : TG} {tt : TT} {tr : St → Hp → (Hp → Prop) → Prop} {vs vr : List Nat} {J : It} {fp : List Addr} {it : Addr} {tn : Nat → Heap → Prop} {pins : List (Addr × Obj)} {s : Shared} {σ : St} {H : Hp} {Q : Hp → Prop} {R : Result → Shared → Prop}
    (hc : X.calm = true) (C : CodeC X.prog X.w X.A X.env tg iter ifs rest c) (pg : PG X tg g) (pt : PTs X ifs tt) (pr : Bhd X rest vr tr) (hv : ∀ i ∈ vr, i ∈ vs) (I : Inv X pins σ H s) (T : Turn X.prog X.w X.K tg J fp it tn) (st : tn 0 s.heap) (nf : ∀ b ∈ fp, FpOk X pins H b)
    (h : tClause g tt tr vs J σ H Q) (hR : ∀ s' H', Inv X pins (wipe σ vs) H' s' → (∀ b ∈ fp, FpOk X pins H' b) → Q H' → R (.ok .next) s')
    (hE : ∀ x s', X.xe x s' → False) : codeAny (model X.prog X.w) X.A (c (.ref it)) R s := by
  obtain ⟨W, ⟨m0, w0⟩, turn⟩ := h
  have stat : ∀ {H' : Hp}, (∀ b ∈ fp, H' b = none) → ∀ b ∈ fp, FpOk X pins H' b := fun hn b hb => ⟨hn b hb, (nf b hb).2⟩
  have noE : ∀ {α : Type} {t : Sem α} {Q' : α → Shared → Prop} {E : Value → Shared → Prop} {s1 : Shared}, wpAny (model X.prog X.w) X.A t Q' X.xe s1 → wpAny (model X.prog X.w) X.A t Q' E s1 := fun h => wpAny_mono h (fun _ _ q => q) fun _ _ z => (hE _ _ z).elim
  refine codeAny_loop (C.quiet _) (fun n s' => ∃ i H', Inv X pins (wipe σ vs) H' s' ∧ tn i s'.heap ∧ (∀ b ∈ fp, H' b = none) ∧ W i n H') (fun n s5 hI => ?_) m0 ⟨0, H, I.weak (wipe_length _ _) (fun j v e => (wipe_some e).1), st, fun b hb => (nf b hb).1, w0⟩
  obtain ⟨i, H5, I5, st5, n5, w5⟩ := hI
  rw [C.under, C.den]
  refine wpAny_noted ?_
  unfold turnC
  refine wpAny_bind (wpAny_standAt (wpAny_bind ?_))
  rcases turn i n H5 w5 with ⟨stop, qq⟩ | ⟨go, Nx, hNx, step⟩
  · refine wpAny_mono (T.done X rfl rfl rfl hc i pins s5 _ H5 _ I5 (stat n5) st5 stop) (fun r s6 ⟨hr, I6⟩ => ?_) fun _ _ z => z
    subst hr
    exact wpAny_pure (hR s6 H5 I6 (stat n5) qq)
  · refine wpAny_mono (T.item X rfl rfl rfl hc i pins s5 _ H5 (fun _ _ => False) I5 (stat n5) st5 go) (fun r s6 ⟨u, hr, h6⟩ => ?_) fun _ _ z => z.elim
    subst hr
    refine wpAny_bind (wpAny_mono h6 (fun _ s7 ⟨x, H7, I7, r7, y7, st7, n7⟩ => ?_) fun _ _ z => z.elim)
    have I7' := I7.pinned (stat n7) (T.obj _ _ st7)
    refine wpAny_bind (wpAny_mono (noE (pg.run _ s7 _ H7 x u _ I7' r7 (step x H7 y7))) (fun _ s8 ⟨σ8, H8, I8, hw8, q8⟩ => ?_) fun _ _ z => z)
    refine wpAny_bind (wpAny_mono (noE (pt.run _ s8 σ8 H8 _ I8 q8)) (fun b s9 ⟨H9, I9, q9⟩ => ?_) fun _ _ z => z)
    have fin : ∀ (s' : Shared) (H' : Hp), Inv X (pins ++ pinsAt fp s7.heap) (wipe σ8 vr) H' s' → Nx H' → wpAny (model X.prog X.w) X.A (again (c (.ref it))) (fun fin s' => match fin with | .done f => R (.ok f) s' | .again c' => c' = c (.ref it) ∧ ∃ m, m < n ∧ ∃ i H', Inv X pins (wipe σ vs) H' s' ∧ tn i s'.heap ∧ (∀ b ∈ fp, H' b = none) ∧ W i m H') (notedBy (model X.prog X.w) X.A X.env fun e s' => R (.error e) s') s' := fun s' H' I' nx => by
      obtain ⟨m', hm, w'⟩ := hNx H' nx
      have pin' : ∀ b ∈ fp, ∀ o, s7.heap.get? b = some o → s'.heap.get? b = some o ∧ H' b = none := fun b hb o e =>
        let z := I'.pin (b, o) (List.mem_append_right _ (List.mem_append_right _ (mem_pinsAt hb e)))
        ⟨z.1, z.2.1⟩
      refine wpAny_pure ⟨rfl, m', hm, i + 1, H', I'.unpinned.weak (by rw [← hw8, wipe_length, wipe_length]) (fun j v e => ?_), T.keep _ _ _ st7 fun b hb o e => (pin' b hb o e).1, fun b hb => ?_, w'⟩
      · rw [← hw8] at e
        obtain ⟨e1, e2⟩ := wipe_some e
        rw [wipe_out fun z => e2 (hv j z)]
        exact e1
      · obtain ⟨o, e, _⟩ := T.obj _ _ st7 b hb
        exact (pin' b hb o e).2
    cases b with
    | false =>
      simp only [Bool.false_eq_true, if_false] at q9 ⊢
      exact fin s9 H9 (I9.weak (wipe_length _ _) fun j v e => (wipe_some e).1) q9
    | true =>
      simp only [if_true] at q9 ⊢
      exact pr.run _ s9 σ8 H9 Nx _ _ _ I9 q9 fin
end DL

set_option Elab.async false
set_option linter.all false
set_option maxRecDepth 100000
set_option maxHeartbeats 4000000
namespace DL
open PySem PySem.Spec L2
variable [TbC]

/-! ### what stands behind the last clause -/
def emitL (elt : Expr) (acc : Value) (env : Env) : Sem Fin → Sem Fin := fun k => (do let _ ← call (.builtin "list.append") [acc, ← eval elt env] : Sem Unit) >>= fun _ => k
def emitS (elt : Expr) (acc : Value) (env : Env) : Sem Fin → Sem Fin := fun k => (do let v ← eval elt env; standAt elt.pos; let _ ← call (.builtin "set.add") [acc, v] : Sem Unit) >>= fun _ => k
/-- another clause -/
def nestC (e : Expr) (i1 : Expr) (acc : Value) (env : Env) : Sem Fin → Sem Fin := fun k => do
  let x ← eval i1 env
  standAt i1.pos
  let x ← foldedSetIterable i1 env x
  let _ ← runOwn (.compStart e 1 (← holding [x] (pyIter x)) acc env) env
  k
section
variable {P : Program} {w : World} {A : Around} {env : Env} {elt t0 i0 t1 i1 : Expr} {f0 f1 : List Expr} {scope : Scope} {pos : Pos} {acc : Value}
theorem code_L1 : CodeC P w A env t0 i0 f0 (emitL elt acc env) (fun it => .compLoop (.ListComp elt [⟨t0, i0, f0, 0⟩] scope pos) 0 it acc env) := ⟨fun _ => rfl, fun _ => rfl, fun _ => rfl⟩
theorem code_S1 : CodeC P w A env t0 i0 f0 (emitS elt acc env) (fun it => .compLoop (.SetComp elt [⟨t0, i0, f0, 0⟩] scope pos) 0 it acc env) := ⟨fun _ => rfl, fun _ => rfl, fun _ => rfl⟩
theorem code_L2o : CodeC P w A env t0 i0 f0 (nestC (.ListComp elt [⟨t0, i0, f0, 0⟩, ⟨t1, i1, f1, 0⟩] scope pos) i1 acc env) (fun it => .compLoop (.ListComp elt [⟨t0, i0, f0, 0⟩, ⟨t1, i1, f1, 0⟩] scope pos) 0 it acc env) := ⟨fun _ => rfl, fun _ => rfl, fun _ => rfl⟩
theorem code_L2i : CodeC P w A env t1 i1 f1 (emitL elt acc env) (fun it => .compLoop (.ListComp elt [⟨t0, i0, f0, 0⟩, ⟨t1, i1, f1, 0⟩] scope pos) 1 it acc env) := ⟨fun _ => rfl, fun _ => rfl, fun _ => rfl⟩
theorem code_S2o : CodeC P w A env t0 i0 f0 (nestC (.SetComp elt [⟨t0, i0, f0, 0⟩, ⟨t1, i1, f1, 0⟩] scope pos) i1 acc env) (fun it => .compLoop (.SetComp elt [⟨t0, i0, f0, 0⟩, ⟨t1, i1, f1, 0⟩] scope pos) 0 it acc env) := ⟨fun _ => rfl, fun _ => rfl, fun _ => rfl⟩
theorem code_S2i : CodeC P w A env t1 i1 f1 (emitS elt acc env) (fun it => .compLoop (.SetComp elt [⟨t0, i0, f0, 0⟩, ⟨t1, i1, f1, 0⟩] scope pos) 1 it acc env) := ⟨fun _ => rfl, fun _ => rfl, fun _ => rfl⟩
end
/-! ### the start of a clause's loop -/
theorem start_ok {P : Program} {w : World} {A : Around} {env : Env} {e : Expr} {d : Nat} {tg iter : Expr} {ifs : List Expr} {it acc : Value} {R : Result → Shared → Prop} {s : Shared}
    (hcl : (clausesOf e)[d]? = some ⟨tg, iter, ifs, 0⟩) (hu : A.under (.compStart e d it acc env) = A) (hden : (model P w).den (.compStart e d it acc env) = (compStart e d it acc env).onRaise (fun x => do noteFrame x env; standAt theWindowsPlace))
    (hq : ∀ it, (Code.compLoop e d it acc env).quiet = true) (h0 : codeAny (model P w) A (.compLoop e d it acc env) R s)
    (h : wpAny (model P w) A (pyIter it) (fun it' s' => codeAny (model P w) A (.compLoop e d it' acc env) R s') (notedBy (model P w) A env fun x s' => R (.error x) s') s) :
    codeAny (model P w) A (.compStart e d it acc env) R s := by
  refine codeAny_of_tree ?_
  rw [hu, hden]
  refine wpAny_notedAt ?_
  unfold compStart
  rw [hcl]
  show wpAny _ _ (ask >>= _) _ _ s
  refine wpAny_bind (wpAny_askSetting (wpAny_ite ?_))
  split
  · exact wpAny_bind (wpAny_pure (wpAny_pure ⟨hq _, h0⟩))
  · exact wpAny_bind (wpAny_rule (wpAny_bind (wpAny_standAt (wpAny_bind (wpAny_mono h (fun it' s' h' => wpAny_pure ⟨hq _, h'⟩) fun _ _ x => x)))))
/-! ### what stands behind, as a promise -/
def tNest (wi : TI) (g : TG) (tt : TT) (tr : St → Hp → (Hp → Prop) → Prop) (vs : List Nat) : St → Hp → (Hp → Prop) → Prop := fun σ H Q => wi σ H fun J H1 => tClause g tt tr vs J σ H1 Q
theorem bhd_nest {X : Cx} {e tg iter : Expr} {ifs : List Expr} {acc : Value} {wi : TI} {g : TG} {tt : TT} {tr : St → Hp → (Hp → Prop) → Prop} {vs vr : List Nat} {rest : Sem Fin → Sem Fin} (hc : X.calm = true) (hE : ∀ x s', X.xe x s' → False)
    (hs : ∀ x, foldedSetIterable iter X.env x = pure x) (hi : PI X tg iter wi) (C : CodeC X.prog X.w X.A X.env tg iter ifs rest (fun it => .compLoop e 1 it acc X.env)) (pg : PG X tg g) (pt : PTs X ifs tt) (pr : Bhd X rest vr tr) (hv : ∀ i ∈ vr, i ∈ vs)
    (hcl : (clausesOf e)[1]? = some ⟨tg, iter, ifs, 0⟩) (hu : ∀ it, X.A.under (.compStart e 1 it acc X.env) = X.A) (hden : ∀ it, (model X.prog X.w).den (.compStart e 1 it acc X.env) = (compStart e 1 it acc X.env).onRaise (fun x => do noteFrame x X.env; standAt theWindowsPlace))
    (hm : X.A.mark none = X.A) : Bhd X (nestC e iter acc X.env) vs (tNest wi g tt tr vs) := by
  refine ⟨fun pins s σ H Q k Pk Ek I h hk => ?_⟩
  have noE : ∀ {α : Type} {t : Sem α} {Q' : α → Shared → Prop} {E : Value → Shared → Prop} {s1 : Shared}, wpAny (model X.prog X.w) X.A t Q' X.xe s1 → wpAny (model X.prog X.w) X.A t Q' E s1 := fun h => wpAny_mono h (fun _ _ q => q) fun _ _ z => (hE _ _ z).elim
  unfold nestC
  refine wpAny_bind (wpAny_mono (noE (hi.run pins s σ H _ I h)) (fun xv s1 hx => ?_) fun _ _ z => z)
  refine wpAny_bind (wpAny_standAt (wpAny_bind (wpAny_of_eq (hs xv) ?_)))
  refine wpAny_bind (wpAny_holding (wpAny_mono (noE hx) (fun itv s2 h2 => ?_) fun _ _ z => z))
  obtain ⟨it, fp, tn, J, H2, e1, I2, T, st2, f2, q⟩ := h2
  subst e1
  have loop : codeAny (model X.prog X.w) X.A (.compLoop e 1 (.ref it) acc X.env) (fun r s' => match r with
      | .ok _ => ∃ H', Inv X pins (wipe σ vs) H' s' ∧ Q H'
      | .error _ => False) s2 := clause_run hc C pg pt pr hv I2 T st2 f2 q (fun s' H' I' _ q' => ⟨H', I', q'⟩) hE
  refine wpAny_bind (wpAny_runOwn ?_)
  rw [Around.mark_none]
  refine codeAny_mono (start_ok hcl (hu _) (hden _) C.quiet loop (T.self _ 0 _ _ _ st2 loop)) fun r s' hr => ?_
  cases r with
  | ok f =>
    obtain ⟨H', I', q'⟩ := hr
    first
      | exact wpAny_bind (wpAny_pure (hk s' H' I' q'))
      | exact hk s' H' I' q'
  | error x => exact hr.elim
/-! ### a comprehension, whole -/
def tCompr (wi : TI) (g : TG) (tt : TT) (tr : Addr → St → Hp → (Hp → Prop) → Prop) (h0 : Addr → HO) (vs : List Nat) : TE := fun σ H Q => wi σ H fun J H1 => ∀ D, H1 D = none → tClause g tt (tr D) vs J σ (upd H1 D (h0 D)) fun H' => Q (.ref D) H'
theorem compr_core {X : Cx} {pins : List (Addr × Obj)} {s : Shared} {σ : St} {H : Hp} {Q : VK} {e tg iter : Expr} {ifs : List Expr} {gs : List Comprehension} {scope : Scope} {own : List (Str × Nat)} {pos' : Pos} {newAcc : Sem Value} {o0 : Obj} {h0 : Addr → HO} {wi : TI} {g : TG} {tt : TT}
    {rest : Value → Env → Sem Fin → Sem Fin} {tr : Addr → St → Hp → (Hp → Prop) → Prop} {vr : List Nat} {use : Option (Value → Sem Unit)} {Qf : Value → Shared → Prop}
    (hcl : clausesOf e = ⟨tg, iter, ifs, 0⟩ :: gs)
    (hnew : ∀ {Q : Value → Shared → Prop} {E : Value → Shared → Prop} {s : Shared}, Q (.ref s.heap.objs.size) { s with heap := s.heap.push o0 } → wpAny (model X.prog X.w) X.A newAcc Q E s)
    (hlay : ∀ {s : Shared} {H : Hp}, Inv X pins σ H s → Inv X pins σ (upd H s.heap.objs.size (h0 s.heap.objs.size)) { s with heap := s.heap.push o0 })
    (code : ∀ (A : Around) (env : Env) (D : Addr), CodeC X.prog X.w A env tg iter ifs (rest (.ref D) env) (fun it => .compLoop e 0 it (.ref D) env))
    (hu : ∀ (A : Around) (env : Env) (it acc : Value), A.under (.compStart e 0 it acc env) = A) (hden : ∀ (env : Env) (it acc : Value), (model X.prog X.w).den (.compStart e 0 it acc env) = (compStart e 0 it acc env).onRaise (fun x => do noteFrame x env; standAt theWindowsPlace))
    (hc : X.calm = true) (hN : X.N.Nodup) (I : Inv X pins σ H s) (hi : PI X tg iter wi) (ok : BlkOk X.N X.env.scope scope own) (hv : ∀ i ∈ vr, i ∈ own.map (·.2))
    (hg : ∀ (s : Shared) (H : Hp) (C : Addr) (cl : List (Str × Addr)) (fp : List Addr), PG (X.blk s H scope (compEnvC scope cl C X.env) fp) tg g) (ht : ∀ (s : Shared) (H : Hp) (C : Addr) (cl : List (Str × Addr)) (fp : List Addr), PTs (X.blk s H scope (compEnvC scope cl C X.env) fp) ifs tt)
    (hr : ∀ (s : Shared) (H : Hp) (C : Addr) (cl : List (Str × Addr)) (fp : List Addr) (D : Addr), Bhd (X.blk s H scope (compEnvC scope cl C X.env) fp) (rest (.ref D) (compEnvC scope cl C X.env)) vr (tr D)) (hs : ∀ x, foldedSetIterable iter X.env x = pure x)
    (h : tCompr wi g tt tr h0 (own.map (·.2)) σ H Q)
    (hRR : ∀ D C s' m H', Inv X pins σ H' s' → Q (.ref D) H' → s'.heap.Ns C m → FpOk X pins H' C → compPost (model X.prog X.w) X.A X.xe use Qf (.ref D) C (.ok .next) s') :
    wpAny (model X.prog X.w) X.A (comprehension e scope X.env pos' newAcc false (eval iter X.env) use) Qf X.xe s := by
  have hfree : ∀ y ∈ scope.names, y.2 = .free → ∃ c, X.env.cells.lookup y.1 = some c := fun y hy e => by
    rcases ok.free y hy e with k | k
    · exact I.ok.has _ (.inl k)
    · exact I.ok.has _ (.inr k)
  refine wpAny_comprehension_free (use := use) hcl hs (closure_ok hfree) ok.kind (fun y hy e => by rw [ok.uniq y hy, e])
    (thn (hi.run pins s σ H _ I h) fun xv s1 hx => thn hx fun itv s2 h2 => ?_)
  obtain ⟨it, fp, tn, J, H2, e1, I2, T, st2, f2, q⟩ := h2
  subst e1
  refine hnew (newEnv_comp ?_)
  have I3 := hlay I2
  generalize hD : s2.heap.objs.size = D at I3 ⊢
  have hDn : H2 D = none := I2.hok.fresh (Nat.le_of_eq hD)
  have qD := q D hDn
  generalize hs3 : ({ s2 with heap := s2.heap.push o0 } : Shared) = s3 at I3 ⊢
  have h3 : s3.heap = s2.heap.push o0 := by rw [← hs3]
  have sz : ∀ b ∈ fp, b < s2.heap.objs.size := fun b hb => by
    obtain ⟨o, e, _⟩ := T.obj _ _ st2 b hb
    exact Heap.lt_size e
  generalize hH3 : upd H2 D (h0 D) = H3 at I3 qD
  have f3 : ∀ b ∈ fp, FpOk X pins H3 b ∧ b < s3.heap.objs.size := fun b hb => by
    have hlt := sz b hb
    refine ⟨⟨?_, (f2 b hb).2⟩, by rw [h3, Heap.size_push]; exact Nat.lt_succ_of_lt hlt⟩
    rw [← hH3, upd_ne (by rw [← hD]; exact Nat.ne_of_lt hlt)]
    exact (f2 b hb).1
  have st3 : tn 0 s3.heap := T.keep _ _ _ st2 fun b _ o e => by rw [h3]; exact Heap.get?_push_of_some _ e
  have I4 := block_start I3 ok hN f3
  have pg := hg s3 H3 s3.heap.objs.size (cellsFrom (s3.heap.objs.size + 1) scope.names (cloFrom X.env.cells scope.names [])) fp
  have pt := ht s3 H3 s3.heap.objs.size (cellsFrom (s3.heap.objs.size + 1) scope.names (cloFrom X.env.cells scope.names [])) fp
  have pr := hr s3 H3 s3.heap.objs.size (cellsFrom (s3.heap.objs.size + 1) scope.names (cloFrom X.env.cells scope.names [])) fp D
  show codeAny _ _ (.compStart e 0 (.ref it) (.ref D) (compEnvC scope (cellsFrom (s3.heap.objs.size + 1) scope.names (cloFrom X.env.cells scope.names [])) s3.heap.objs.size X.env)) (compPost (model X.prog X.w) X.A X.xe use Qf (.ref D) s3.heap.objs.size) { s3 with heap := pushCells (s3.heap.push { cls := .type "dict", data := .dict #[] }) scope.names }
  have nfp : ∀ b ∈ fp, H3 b = none := fun b hb => (f3 b hb).1.1
  generalize hce : compEnvC scope (cellsFrom (s3.heap.objs.size + 1) scope.names (cloFrom X.env.cells scope.names [])) s3.heap.objs.size X.env = ce at I4 pg pt pr ⊢
  have cL : ce.locals = s3.heap.objs.size := by subst hce; rfl
  generalize hs4 : ({ s3 with heap := pushCells (s3.heap.push { cls := .type "dict", data := .dict #[] }) scope.names } : Shared) = s4 at I4 ⊢
  have st4 : tn 0 s4.heap := T.keep _ _ _ st3 fun b _ o e => by rw [← hs4]; exact pushCells_keeps _ _ _ _ (Heap.get?_push_of_some _ e)
  have nf4 : ∀ b ∈ fp, FpOk (X.blk s3 H3 scope ce fp) [] H3 b := fun b hb =>
    ⟨nfp b hb, (I4.ok.exf b hb).1, I4.ok.exfs b hb, .inl hb, fun x c e => (I4.ok.exf b hb).2 x c e, fun p hp => absurd (show p ∈ ([] : List (Addr × Obj)) ++ [] from hp) (by simp)⟩
  have hE : ∀ x s', (X.blk s3 H3 scope ce fp).xe x s' → False := fun _ _ z => z
  have qD' : tClause g tt (tr D) (own.map (·.2)) J (wipe σ (own.map (·.2))) H3 fun H' => Q (.ref D) H' := by
    unfold tClause at qD ⊢
    simpa only [DL.wipe_wipe] using qD
  have loop : codeAny (model X.prog X.w) X.A (.compLoop e 0 (.ref it) (.ref D) ce) (compPost (model X.prog X.w) X.A X.xe use Qf (.ref D) s3.heap.objs.size) s4 := by
    refine clause_run (X := X.blk s3 H3 scope ce fp) (c := fun it => .compLoop e 0 it (.ref D) ce) hc (code _ ce D) pg pt pr hv I4 T st4 nf4 qD' (fun s6 H5 I6 _ qq => ?_) hE
    rw [DL.wipe_wipe] at I6
    have I7 : Inv X pins σ H5 s6 := I3.call' (ch := fp) I6.os I6.base I6.hok I6.bare fun b hb => ⟨(f3 b hb).1.2.2.2.1, (f3 b hb).1.2.1, (f3 b hb).1.2.2.2.2.1, (f3 b hb).1.2.2.2.2.2⟩
    have nC : H5 s3.heap.objs.size = none := by
      have z : H5 ce.locals = none := I6.free
      rw [cL] at z
      exact z
    obtain ⟨m, hn, _⟩ := I6.loc
    have hn : s6.heap.Ns ce.locals m := hn
    rw [cL] at hn
    exact hRR D s3.heap.objs.size s6 m H5 I7 qq hn (I3.fpOk (Nat.le_refl _) nC)
  exact start_ok (by rw [hcl]; rfl) (hu _ _ _ _) (hden _ _ _) (code X.A ce D).quiet loop (T.self X.A 0 _ _ _ st4 loop)
end DL

set_option Elab.async false
set_option linter.all false
set_option maxRecDepth 100000
set_option maxHeartbeats 4000000
/-! Sets of texts: made, added to, sorted. -/
namespace DL
open PySem PySem.Spec L2
variable [TbC]

/-- the set at a holds the texts l -/
def SetX (P : Program) (w : World) (h : Heap) (a : Addr) (l : List Str) : Prop :=
  ∃ D : Froz.SD, h.get? a = some (Froz.sObj "set" D) ∧ Froz.TxOk P w D l ∧ l.Nodup ∧ Ris D.2.2.place.toList ∧ (w.params.followText "set-order" = true ∨ D.2.2.led = true)
section
variable {P : Program} {w : World} {A : Around} {E : Value → Shared → Prop} {s : Shared} {a : Addr} {l : List Str} {k : Str} {u : Tok}
theorem SetX.at {h h' : Heap} (R : SetX P w h a l) (kk : ∀ o, h.get? a = some o → h'.get? a = some o) : SetX P w h' a l := by
  obtain ⟨D, ho, r⟩ := R
  exact ⟨D, kk _ ho, r⟩
theorem setX_fresh {h : Heap} : SetX P w (h.push { cls := .type "set", dict := none, data := .set #[] 0 (.fresh 0 0 (!w.params.followText "set-order")) }) h.objs.size [] :=
  ⟨(#[], 0, .fresh 0 0 (!w.params.followText "set-order")), Heap.get?_push_size _ rfl, .nil (by rfl), .nil, List.Pairwise.nil, by
    show _ ∨ (!w.params.followText "set-order") = true
    cases w.params.followText "set-order"
    · exact .inr rfl
    · exact .inl rfl⟩
theorem tail_ris {ep : Nat} {es1 : Array (Int × Value)} {t2 : SetTable} {wd : Bool} (r : Ris t2.place.toList) (hl : w.params.followText "set-order" = true ∨ t2.led = true) :
    Ris (Froz.tailTx ep es1 t2 wd).2.2.place.toList ∧ (w.params.followText "set-order" = true ∨ (Froz.tailTx ep es1 t2 wd).2.2.led = true) := by
  unfold Froz.tailTx
  split
  · exact ⟨relayAll_ris t2 es1 _, hl.imp id fun z => (relayAll_led t2 es1 _).trans z⟩
  · exact ⟨r, hl⟩
theorem add_ris {D : Froz.SD} {h : Int} {v : Value} (r : Ris D.2.2.place.toList) (hl : w.params.followText "set-order" = true ∨ D.2.2.led = true) :
    Ris (Froz.addTx h v D).2.2.place.toList ∧ (w.params.followText "set-order" = true ∨ (Froz.addTx h v D).2.2.led = true) := by
  have r1 := layNew_ris D.2.2 D.1 h v r
  have l1 := layNew_led D.2.2 D.1 h v
  unfold Froz.addTx
  refine tail_ris ?_ ?_
  · split <;> exact r1
  · refine hl.imp id fun z => ?_
    split <;> exact l1.trans z
theorem setX_addHashed {Q : Bool → Shared → Prop} (R : SetX P w s.heap a l) (hb : l.length + 1 < scanBound)
    (hQ : ∀ h', Heap.SameBut a s.heap h' → SetX P w h' a (if k ∈ l then l else k :: l) → ∀ b, Q b { s with heap := h' }) : wpAny (model P w) A (setAddHashed a (.str k u) (hashStr w k)) Q E s := by
  obtain ⟨D, ho, F, nd, r, hl⟩ := R
  by_cases hk : k ∈ l
  · obtain ⟨es, ep, t⟩ := D
    have hd : (Froz.sObj "set" (es, ep, t)).data = .set es ep t := rfl
    have hel : ElemsOf (strKind P w) es.toList := F.el
    have hsz : es.size = l.length := F.sz
    obtain ⟨e, he, q⟩ := (F.mem k).mp hk
    unfold setAddHashed setAddHashedIn
    refine wpAny_holding (wpAny_bind (wpAny_setState_of ho hd F.fit ?_))
    dsimp only
    rw [byScan_of rfl (show es.size < scanBound by omega) hel]
    simp only [↓reduceIte]
    unfold setAddByScan
    refine wpAny_bind ?_
    refine wpAny_bind (wpAny_rule ?_)
    refine wpAny_bind (wpAny_setScan_of (knd := strKind P w) (k := k) (Froz.is_str k u) ho hd F.fit hel ?_)
    cases hfi : List.findIdx? (fun e => (strKind P w).is k e.2) es.toList with
    | none =>
      have c := List.findIdx?_eq_none_iff.mp hfi e he
      rw [q] at c; cases c
    | some j =>
      dsimp only
      refine wpAny_pure (wpAny_pure ?_)
      exact hQ s.heap (Heap.SameBut.refl a s.heap) (by rw [if_pos hk]; exact ⟨_, ho, F, nd, r, hl⟩) _
  · obtain ⟨r2, l2⟩ := add_ris (w := w) (h := hashStr w k) (v := .str k u) r hl
    refine Froz.add_x ho F hk hb ?_
    refine hQ _ (Heap.SameBut.update s.heap a _) ?_ true
    rw [if_neg hk]
    exact ⟨_, Froz.get_upd _ ho rfl, Froz.add_ok u F, List.nodup_cons.mpr ⟨hk, nd⟩, r2, l2⟩
theorem setX_add {Q : Value → Shared → Prop} (R : SetX P w s.heap a l) (hb : l.length + 1 < scanBound)
    (hQ : ∀ h', Heap.SameBut a s.heap h' → SetX P w h' a (if k ∈ l then l else k :: l) → Q .none { s with heap := h', toks := s.toks + 1 }) : wpAny (model P w) A (call (.builtin "set.add") [.ref a, .str k u]) Q E s := by
  have hT : s.TypeIs (.ref a) "set" := by
    obtain ⟨D, ho, _⟩ := R
    exact ⟨_, ho, rfl⟩
  refine wpAny_call_entry F.slot_set_add hT F.entry_set_add ?_ (F.args_set_add_2 _ _)
  unfold Builtin.«set.add» Builtin.Frozenset.oneOther
  simp only [List.isEmpty_nil, bind_assoc]
  unfold Builtin.Frozenset.addrOf setAdd
  refine wpAny_bind (wpAny_pure ?_)
  try dsimp only
  refine wpAny_bind (wpAny_pure ?_)
  try dsimp only
  refine wpAny_bind ?_
  refine wpAny_holding ?_
  refine wpAny_bind ((strKind P w).pyHash (Froz.is_str k u) ?_)
  refine setX_addHashed (s := { s with toks := s.toks + 1 }) R hb fun h' sb r b => ?_
  show wpAny _ _ (ret Value.none) _ _ _
  exact wpAny_pure ⟨_, rfl, hQ h' sb r⟩
theorem strs_val {D : Froz.SD} (F : Froz.TxOk P w D l) (nd : l.Nodup) : ∃ ys, PyProof.Rows.StrsAre (D.1.toList.map (·.2)) ys ∧ ys.Perm l := by
  have key : ∀ es : List (Int × Value), ElemsOf (strKind P w) es → ∃ ys : List Str, PyProof.Rows.StrsAre (es.map (·.2)) ys ∧ ∀ k, k ∈ ys ↔ ∃ e ∈ es, (strKind P w).is k e.2 = true := by
    intro es
    induction es with
    | nil => intro _; exact ⟨[], .nil, by simp⟩
    | cons e es ih =>
      intro h
      obtain ⟨ys, h1, h2⟩ := ih fun e he => h e (List.mem_cons_of_mem _ he)
      obtain ⟨⟨k, hk, _⟩, _⟩ := h e (by simp)
      have hv : ∃ t, e.2 = .str k t := by
        have hk' : Value.isStrOf k e.2 = true := hk
        unfold Value.isStrOf at hk'
        cases hv : e.2 with
        | str x t => rw [hv] at hk'; simp at hk'; subst hk'; exact ⟨t, rfl⟩
        | _ => rw [hv] at hk'; simp at hk'
      obtain ⟨t, ht⟩ := hv
      refine ⟨k :: ys, by rw [List.map_cons, ht]; exact .cons k t h1, fun k' => ?_⟩
      rw [List.mem_cons, h2 k']
      constructor
      · rintro (rfl | ⟨e', he', q⟩)
        · exact ⟨e, by simp, hk⟩
        · exact ⟨e', by simp [he'], q⟩
      · rintro ⟨e', he', q⟩
        rcases List.mem_cons.mp he' with z | z
        · subst z; exact .inl ((strKind P w).inj _ k' k q hk)
        · exact .inr ⟨e', z, q⟩
  obtain ⟨ys, h1, h2⟩ := key D.1.toList F.el
  refine ⟨ys, h1, ?_⟩
  have hlen : ys.length = l.length := by
    have e1 : (D.1.toList.map (·.2)).length = ys.length := h1.length
    rw [List.length_map, Array.length_toList, F.sz] at e1
    exact e1.symm
  have hmem : ∀ x, x ∈ ys ↔ x ∈ l := fun x => (h2 x).trans (F.mem x).symm
  -- as many, the same members, the one without a double
  have : ∀ (l ys : List Str), l.Nodup → ys.length = l.length → (∀ x ∈ l, x ∈ ys) → ys.Perm l := by
    intro l
    induction l with
    | nil => intro ys _ h _; rw [List.length_eq_zero_iff.mp h]
    | cons x l ih =>
      intro ys nd h hs
      obtain ⟨n1, n2⟩ := List.nodup_cons.mp nd
      have hx := hs x (by simp)
      refine (List.perm_cons_erase hx).trans (.cons x (ih (ys.erase x) n2 (by rw [List.length_erase_of_mem hx, h, List.length_cons]; rfl) fun y hy => ?_))
      exact (List.mem_erase_of_ne (by intro z; subst z; exact n1 hy)).mpr (hs y (by simp [hy]))
  exact this l ys nd hlen fun x hx => (hmem x).mpr hx
end
end DL

set_option Elab.async false
set_option linter.all false
set_option maxRecDepth 100000
set_option maxHeartbeats 4000000
namespace DL
open PySem PySem.Spec L2 PyProof.Rows
variable [TbC]
section
variable {P : Program} {w : World} {A : Around} {E : Value → Shared → Prop} {s : Shared} {a : Addr} {l : List Str}
theorem setX_sorted {Q : Value → Shared → Prop} (R : SetX P w s.heap a l) (hh : A.handled = none) (hb : l.length < scanBound)
    (hQ : ∀ s' p (out : Array Value) (c : Nat) (ys : List Str), (∀ b o, s.heap.get? b = some o → s'.heap.get? b = some o) → s'.gens = s.gens → s'.os = s.os → s.heap.objs.size ≤ p →
      s'.heap.get? p = some (seqObj "list" out c) → StrsAre out.toList ys → ys.Perm l → sortedS ys = true → Q (.ref p) s') :
    wpAny (model P w) A (call (.builtin "sorted") [.ref a]) Q E s := by
  obtain ⟨D, ho, F, nd, r, hl⟩ := R
  obtain ⟨ys0, hS0, hp0⟩ := strs_val F nd
  obtain ⟨es, ep, t⟩ := D
  have hsz : es.size = l.length := F.sz
  refine Calls.call_function_entry kind_sorted plain_sorted entry_sorted (args_sorted1 _) ?_
  unfold Builtin.«sorted»
  refine wpAny_bind (m := checkCount "sorted" 1 1 _) (wpAny_pure ?_)
  refine wpAny_bind (collect_set (A := A.in1) hh ⟨_, ho, rfl, rfl⟩ F.fit (show es.size < scanBound by omega) r hl fun s1 vs k1 hz g1 o1 pm => ?_)
  have hvl : vs.length = l.length := by rw [pm.length_eq, List.length_map, Array.length_toList]; exact hsz
  have hS : ∃ ys1, StrsAre vs ys1 ∧ ys1.Perm ys0 := by
    have : ∀ {us vs : List Value}, us.Perm vs → ∀ {ys : List Str}, StrsAre vs ys → ∃ zs, StrsAre us zs ∧ zs.Perm ys := by
      intro us vs hp
      induction hp with
      | nil => intro ys h; exact ⟨ys, h, .refl _⟩
      | cons x _ ih =>
        intro ys h
        cases h with
        | cons n t h' =>
          obtain ⟨zs, h1, h2⟩ := ih h'
          exact ⟨n :: zs, .cons n t h1, h2.cons n⟩
      | swap x y l =>
        intro ys h
        cases h with
        | cons n t h' =>
          cases h' with
          | cons m u h'' => exact ⟨m :: n :: _, .cons m u (.cons n t h''), .swap n m _⟩
      | trans _ _ ih1 ih2 =>
        intro ys h
        obtain ⟨zs, h1, h2⟩ := ih2 h
        obtain ⟨xs, h3, h4⟩ := ih1 h1
        exact ⟨xs, h3, h4.trans h2⟩
    exact this pm hS0
  obtain ⟨ys1, hS1, hp1⟩ := hS
  have hfit : vs.length ≤ sizeLine := by rw [hvl]; exact Nat.le_of_lt (Nat.lt_of_lt_of_le hb (by decide))
  refine wpAny_bind (wpAny_newList ?_ hfit)
  have hoL : (s1.heap.push (seqObj "list" vs.toArray 0)).get? s1.heap.objs.size = some (seqObj "list" vs.toArray 0) := Heap.get?_push_size _ rfl
  refine wpAny_bind (wpAny_holding (wpAny_call_entry slot_list_sort ⟨_, hoL, rfl⟩ entry_list_sort (list_sort_treeKAny strKind_oneLt hoL hS1.keysOf (fun v₁ v₂ rest e => keyKind_strs (by rw [← e]; exact hS1)) hfit fun st' hp hs => ⟨_, rfl, ?_⟩) (args_list_sort _)))
  obtain ⟨ys, a1, a2, a3⟩ := sorted_out_str hS1 hp hs
  obtain ⟨c, hc⟩ := sortedHeap_at (vs := vs) (out := (arrOf st').map (·.2)) hoL
  refine wpAny_pure ⟨_, rfl, hQ _ s1.heap.objs.size _ c ys (fun b u e => ?_) g1 o1 hz hc a1 ((a2.trans hp1).trans hp0) a3⟩
  have q := k1 b u e
  have hlt := Heap.lt_size q
  show (sortedHeap (s1.heap.push (seqObj "list" vs.toArray 0)) s1.heap.objs.size vs ((arrOf st').map (·.2))).get? b = some u
  rw [sortedHeap_old (Nat.ne_of_lt hlt) (by rw [size_push']; exact Nat.lt_succ_of_lt hlt)]
  exact Heap.get?_push_of_some _ q
end
/-! ### as a thing of the walk -/
def SetT (P : Program) (w : World) (a : Addr) (l : List Str) : HO := .ext fun h => SetX P w h a l
section
variable {X : Cx} {pins : List (Addr × Obj)} {σ : L2.St} {H : Hp} {s : Shared} {D a : Addr} {l : List Str}
theorem setT_new {P : Program} {w : World} {H : Hp} {h : Heap} (R : SetX P w h a l) : ObjOk P w H h a (SetT P w a l) := by
  have ⟨D, ho, _⟩ := R
  exact ⟨R, ⟨_, ho⟩, fun h1 h2 p k => SetX.at p k⟩
theorem setT_get (I : Inv X pins σ H s) (ha : H a = some (SetT X.prog X.w a l)) : SetX X.prog X.w s.heap a l := (I.hok a _ ha).1
def rSortedX (P : Program) (w : World) : List V → Hp → VK → Prop := fun vs H Q => ∃ (a : Addr) (l : List Str), vs = [V.ref a] ∧ H a = some (SetT P w a l) ∧ l.length < scanBound ∧
  ∀ (ys : List Str) (p : Addr), ys.Perm l → sortedS ys = true → H p = none → Q (.ref p) (upd H p (.lst (ys.map V.str)))
theorem cr_sortedX (hc : X.calm = true) : CallR X (.builtin "sorted") (rSortedX X.prog X.w) := by
  intro pins s σ H vs us Q I r h
  obtain ⟨a, l, rfl, ha, hb, q⟩ := h
  rw [Vals.ref1 r]
  refine setX_sorted (setT_get I ha) (I.ok.hd hc) hb fun s' p out c ys kk hg ho hp he hS hpm hs => ?_
  have hlen : (ys.map V.str).length ≤ sizeLine := by rw [List.length_map, hpm.length_eq]; exact Nat.le_of_lt (Nat.lt_of_lt_of_le hb (by decide))
  have hpn := I.hok.fresh hp
  have J : Inv X pins σ (upd H p (.lst (ys.map V.str))) s' := I.call' (ch := []) ho (Un.laid kk hp hpn) (I.hok.laid kk hp ⟨hlen, out.toList, c, vals_of_strs hS, he⟩) (by rw [hg]; exact I.bare) (fun _ z => nomatch z)
  exact ⟨.ref p, _, J, rfl, q ys p hpm hs hpn⟩
end
end DL

set_option Elab.async false
set_option linter.all false
set_option maxRecDepth 100000
set_option maxHeartbeats 4000000
namespace DL
open PySem PySem.Spec L2
variable [TbC]

def rEmL (D : Addr) (te : TE) : St → Hp → (Hp → Prop) → Prop := fun σ H Q => te σ H fun y H4 => ∃ xs, H4 D = some (.lst xs) ∧ xs.length < sizeLine ∧ Q (upd H4 D (.lst (xs ++ [y])))
def rEmS (P : Program) (w : World) (D : Addr) (te : TE) : St → Hp → (Hp → Prop) → Prop := fun σ H Q => te σ H fun y H4 => ∃ k l, y = V.str k ∧ H4 D = some (SetT P w D l) ∧ l.length + 1 < scanBound ∧ Q (upd H4 D (SetT P w D (if k ∈ l then l else k :: l)))
section
variable {X : Cx} {elt : Expr} {te : TE} {D : Addr}
theorem bhd_emL (hE : ∀ x s', X.xe x s' → False) (pe : PE X elt te) : Bhd X (emitL elt (.ref D) X.env) [] (rEmL D te) := by
  refine ⟨fun pins s σ H Q k Pk Ek I h hk => ?_⟩
  have noE : ∀ {α : Type} {t : Sem α} {Q' : α → Shared → Prop} {E : Value → Shared → Prop} {s1 : Shared}, wpAny (model X.prog X.w) X.A t Q' X.xe s1 → wpAny (model X.prog X.w) X.A t Q' E s1 := fun h => wpAny_mono h (fun _ _ q => q) fun _ _ z => (hE _ _ z).elim
  unfold emitL
  refine wpAny_bind (wpAny_bind (wpAny_mono (noE (pe.run pins s σ H _ I h)) (fun z s1 ⟨y, H1, I1, r1, xs, hD, hz, q⟩ => ?_) fun _ _ z => z))
  refine wpAny_bind (app_ok I1 hD hz r1 fun s2 I2 => ?_)
  exact wpAny_pure (hk s2 _ I2 q)
theorem bhd_emS (hE : ∀ x s', X.xe x s' → False) (pe : PE X elt te) : Bhd X (emitS elt (.ref D) X.env) [] (rEmS X.prog X.w D te) := by
  refine ⟨fun pins s σ H Q k Pk Ek I h hk => ?_⟩
  have noE : ∀ {α : Type} {t : Sem α} {Q' : α → Shared → Prop} {E : Value → Shared → Prop} {s1 : Shared}, wpAny (model X.prog X.w) X.A t Q' X.xe s1 → wpAny (model X.prog X.w) X.A t Q' E s1 := fun h => wpAny_mono h (fun _ _ q => q) fun _ _ z => (hE _ _ z).elim
  unfold emitS
  refine wpAny_bind (wpAny_bind (wpAny_mono (noE (pe.run pins s σ H _ I h)) (fun z s1 ⟨y, H1, I1, r1, kk, l, ey, hD, hz, q⟩ => ?_) fun _ _ z => z))
  subst ey
  obtain ⟨u, rfl⟩ := r1
  refine wpAny_bind (wpAny_standAt (wpAny_bind ?_))
  have R := setT_get I1 hD
  refine setX_add R hz fun h' sb new => ?_
  have he : ∃ u, h'.get? D = some u := by
    obtain ⟨DD, ho, _⟩ := new
    exact ⟨_, ho⟩
  exact wpAny_pure (hk _ _ (I1.write (e := D) (t' := s1.toks + 1) (by rw [hD]; trivial) (.inl rfl) (fun b u hb hu => (sb.2 b hb).trans hu) he (setT_new new)) q)
end

/-! ### the rules -/
section
variable {X : Cx} {elt tg iter tg1 iter1 : Expr} {ifs ifs1 : List Expr} {scope : Scope} {own : List (Str × Nat)} {vs1 : List Nat} {pos : Pos} {wi wi1 : TI} {g g1 : TG} {tt tt1 : TT} {te : TE}
def hL : Addr → HO := fun _ => .lst []
def hS (P : Program) (w : World) : Addr → HO := fun D => SetT P w D []
theorem newL_ok {M : Model} {A : Around} {Q : Value → Shared → Prop} {E : Value → Shared → Prop} {s : Shared} (h : Q (.ref s.heap.objs.size) { s with heap := s.heap.push { cls := .type "list", data := .seq ([] : List Value).toArray } }) : wpAny M A (newList []) Q E s :=
  wpAny_newObj_type h (by show 0 ≤ sizeLine; decide)
theorem layL {pins : List (Addr × Obj)} {σ : St} {s : Shared} {H : Hp} (I : Inv X pins σ H s) : Inv X pins σ (upd H s.heap.objs.size (hL s.heap.objs.size)) { s with heap := s.heap.push { cls := .type "list", data := .seq ([] : List Value).toArray } } := by
  refine I.laid (t' := s.toks) (fun b o e => Heap.get?_push_of_some _ e) (Nat.le_refl _) ⟨Nat.zero_le _, [], 0, .nil, ?_⟩
  exact Heap.get?_push_size _ rfl
theorem layS {pins : List (Addr × Obj)} {σ : St} {s : Shared} {H : Hp} (I : Inv X pins σ H s) : Inv X pins σ (upd H s.heap.objs.size (hS X.prog X.w s.heap.objs.size)) { s with heap := s.heap.push { cls := .type "set", dict := none, data := .set #[] 0 (.fresh 0 0 (!X.w.params.followText "set-order")) } } :=
  I.laid (t' := s.toks) (fun b o e => Heap.get?_push_of_some _ e) (Nat.le_refl _) (setT_new setX_fresh)
theorem codeStart {A : Around} {env : Env} {it acc : Value} {e : Expr} {d : Nat} (h : e = .ListComp elt [⟨tg, iter, ifs, 0⟩, ⟨tg1, iter1, ifs1, 0⟩] scope pos ∨ e = .SetComp elt [⟨tg, iter, ifs, 0⟩, ⟨tg1, iter1, ifs1, 0⟩] scope pos ∨ e = .SetComp elt [⟨tg, iter, ifs, 0⟩] scope pos) {P : Program} {w : World} :
    A.under (.compStart e d it acc env) = A ∧ (model P w).den (.compStart e d it acc env) = (compStart e d it acc env).onRaise (fun x => do noteFrame x env; standAt theWindowsPlace) := by
  rcases h with rfl | rfl | rfl <;> exact ⟨rfl, rfl⟩
/-- what is asked of the clauses -/
structure Cl2 (X : Cx) (elt tg iter tg1 iter1 : Expr) (ifs ifs1 : List Expr) (scope : Scope) (own : List (Str × Nat)) (vs1 : List Nat) (wi wi1 : TI) (g g1 : TG) (tt tt1 : TT) (te : TE) : Prop where
  hc : X.calm = true
  hN : X.N.Nodup
  hi : PI X tg iter wi
  ok : BlkOk X.N X.env.scope scope own
  hv : ∀ i ∈ vs1, i ∈ own.map (·.2)
  hg : ∀ (s : Shared) (H : Hp) (C : Addr) (cl : List (Str × Addr)) (fp : List Addr), PG (X.blk s H scope (compEnvC scope cl C X.env) fp) tg g
  ht : ∀ (s : Shared) (H : Hp) (C : Addr) (cl : List (Str × Addr)) (fp : List Addr), PTs (X.blk s H scope (compEnvC scope cl C X.env) fp) ifs tt
  hi1 : ∀ (s : Shared) (H : Hp) (C : Addr) (cl : List (Str × Addr)) (fp : List Addr), PI (X.blk s H scope (compEnvC scope cl C X.env) fp) tg1 iter1 wi1
  hg1 : ∀ (s : Shared) (H : Hp) (C : Addr) (cl : List (Str × Addr)) (fp : List Addr), PG (X.blk s H scope (compEnvC scope cl C X.env) fp) tg1 g1
  ht1 : ∀ (s : Shared) (H : Hp) (C : Addr) (cl : List (Str × Addr)) (fp : List Addr), PTs (X.blk s H scope (compEnvC scope cl C X.env) fp) ifs1 tt1
  he : ∀ (s : Shared) (H : Hp) (C : Addr) (cl : List (Str × Addr)) (fp : List Addr), PE (X.blk s H scope (compEnvC scope cl C X.env) fp) elt te
  hs : ∀ x, foldedSetIterable iter X.env x = pure x
  hs1 : ∀ env x, foldedSetIterable iter1 env x = pure x
theorem blk_noE {s : Shared} {H : Hp} {env : Env} {fp : List Addr} : ∀ x s', (X.blk s H scope env fp).xe x s' → False := fun _ _ z => z
def tL2 (wi : TI) (g : TG) (tt : TT) (wi1 : TI) (g1 : TG) (tt1 : TT) (te : TE) (vs vs1 : List Nat) : TE := tCompr wi g tt (fun D => tNest wi1 g1 tt1 (rEmL D te) vs1) hL vs
def tS2 (P : Program) (w : World) (wi : TI) (g : TG) (tt : TT) (wi1 : TI) (g1 : TG) (tt1 : TT) (te : TE) (vs vs1 : List Nat) : TE := tCompr wi g tt (fun D => tNest wi1 g1 tt1 (rEmS P w D te) vs1) (hS P w) vs
theorem core_L2 (c : Cl2 X elt tg iter tg1 iter1 ifs ifs1 scope own vs1 wi wi1 g g1 tt tt1 te) {pins : List (Addr × Obj)} {s : Shared} {σ : St} {H : Hp} {Q : VK} {pos' : Pos} {use : Option (Value → Sem Unit)} {Qf : Value → Shared → Prop} (I : Inv X pins σ H s)
    (h : tL2 wi g tt wi1 g1 tt1 te (own.map (·.2)) vs1 σ H Q)
    (hRR : ∀ D C s' m H', Inv X pins σ H' s' → Q (.ref D) H' → s'.heap.Ns C m → FpOk X pins H' C → compPost (model X.prog X.w) X.A X.xe use Qf (.ref D) C (.ok .next) s') :
    wpAny (model X.prog X.w) X.A (comprehension (.ListComp elt [⟨tg, iter, ifs, 0⟩, ⟨tg1, iter1, ifs1, 0⟩] scope pos) scope X.env pos' (newList []) false (eval iter X.env) use) Qf X.xe s := by
  refine compr_core (e := .ListComp elt [⟨tg, iter, ifs, 0⟩, ⟨tg1, iter1, ifs1, 0⟩] scope pos) (rest := fun acc env => nestC (.ListComp elt [⟨tg, iter, ifs, 0⟩, ⟨tg1, iter1, ifs1, 0⟩] scope pos) iter1 acc env) rfl newL_ok layL (fun _ _ _ => code_L2o) (fun _ _ _ _ => rfl) (fun _ _ _ => rfl) c.hc c.hN I c.hi c.ok c.hv c.hg c.ht (fun s H C cl fp D => ?_) c.hs h hRR
  exact bhd_nest (X := X.blk s H scope (compEnvC scope cl C X.env) fp) c.hc blk_noE (c.hs1 _) (c.hi1 s H C cl fp) code_L2i (c.hg1 s H C cl fp) (c.ht1 s H C cl fp) (bhd_emL blk_noE (c.he s H C cl fp)) (by simp) rfl (fun _ => rfl) (fun _ => rfl) (Around.mark_none ..)
theorem core_S2 (c : Cl2 X elt tg iter tg1 iter1 ifs ifs1 scope own vs1 wi wi1 g g1 tt tt1 te) {pins : List (Addr × Obj)} {s : Shared} {σ : St} {H : Hp} {Q : VK} {pos' : Pos} {use : Option (Value → Sem Unit)} {Qf : Value → Shared → Prop} (I : Inv X pins σ H s)
    (h : tS2 X.prog X.w wi g tt wi1 g1 tt1 te (own.map (·.2)) vs1 σ H Q)
    (hRR : ∀ D C s' m H', Inv X pins σ H' s' → Q (.ref D) H' → s'.heap.Ns C m → FpOk X pins H' C → compPost (model X.prog X.w) X.A X.xe use Qf (.ref D) C (.ok .next) s') :
    wpAny (model X.prog X.w) X.A (comprehension (.SetComp elt [⟨tg, iter, ifs, 0⟩, ⟨tg1, iter1, ifs1, 0⟩] scope pos) scope X.env pos' (newSet (.type "set")) false (eval iter X.env) use) Qf X.xe s := by
  refine compr_core (e := .SetComp elt [⟨tg, iter, ifs, 0⟩, ⟨tg1, iter1, ifs1, 0⟩] scope pos) (rest := fun acc env => nestC (.SetComp elt [⟨tg, iter, ifs, 0⟩, ⟨tg1, iter1, ifs1, 0⟩] scope pos) iter1 acc env) rfl (fun h => PpSet.newSet_ok h) layS (fun _ _ _ => code_S2o) (fun _ _ _ _ => rfl) (fun _ _ _ => rfl) c.hc c.hN I c.hi c.ok c.hv c.hg c.ht (fun s H C cl fp D => ?_) c.hs h hRR
  exact bhd_nest (X := X.blk s H scope (compEnvC scope cl C X.env) fp) c.hc blk_noE (c.hs1 _) (c.hi1 s H C cl fp) code_S2i (c.hg1 s H C cl fp) (c.ht1 s H C cl fp) (bhd_emS blk_noE (c.he s H C cl fp)) (by simp) rfl (fun _ => rfl) (fun _ => rfl) (Around.mark_none ..)
theorem pe_L2 (c : Cl2 X elt tg iter tg1 iter1 ifs ifs1 scope own vs1 wi wi1 g g1 tt tt1 te) : PE X (.ListComp elt [⟨tg, iter, ifs, 0⟩, ⟨tg1, iter1, ifs1, 0⟩] scope pos) (tL2 wi g tt wi1 g1 tt1 te (own.map (·.2)) vs1) := by
  refine ⟨fun pins s σ H Q I h => ?_⟩
  rw [eval_ListComp]
  refine core_L2 c I h fun D C s' m H' I' q hn f => ⟨m, hn, fun h'' sb => ?_⟩
  obtain ⟨f0, f1, f2, f3, f4, f5⟩ := f
  exact ⟨.ref D, H', I'.turned (t' := s'.toks) (fun b o hb e => (sb.2 b hb).trans e) f0 f1 f3 f4 f5, rfl, q⟩
theorem pe_S2 (c : Cl2 X elt tg iter tg1 iter1 ifs ifs1 scope own vs1 wi wi1 g g1 tt tt1 te) : PE X (.SetComp elt [⟨tg, iter, ifs, 0⟩, ⟨tg1, iter1, ifs1, 0⟩] scope pos) (tS2 X.prog X.w wi g tt wi1 g1 tt1 te (own.map (·.2)) vs1) := by
  refine ⟨fun pins s σ H Q I h => ?_⟩
  rw [PpSet.eval_SetComp]
  refine core_S2 c I h fun D C s' m H' I' q hn f => ⟨m, hn, fun h'' sb => ?_⟩
  obtain ⟨f0, f1, f2, f3, f4, f5⟩ := f
  exact ⟨.ref D, H', I'.turned (t' := s'.toks) (fun b o hb e => (sb.2 b hb).trans e) f0 f1 f3 f4 f5, rfl, q⟩
theorem ps_L2 {i : Nat} {y : Str} {py spos : Pos} (c : Cl2 X elt tg iter tg1 iter1 ifs ifs1 scope own vs1 wi wi1 g g1 tt tt1 te) (hy : X.N[i]? = some y) (hyl : X.env.scope.names.lookup y = some .local)
    (hsw : swapsWith (.ListComp elt [⟨tg, iter, ifs, 0⟩, ⟨tg1, iter1, ifs1, 0⟩] scope pos) (some (.Name y py)) spos.line X.env = pure true) :
    PS X (.Assign [.Name y py] (.ListComp elt [⟨tg, iter, ifs, 0⟩, ⟨tg1, iter1, ifs1, 0⟩] scope pos) spos) (tAsg (tL2 wi g tt wi1 g1 tt1 te (own.map (·.2)) vs1) (gName i)) := by
  refine ⟨fun pins s σ H D I h => ?_⟩
  rw [exec_Assign_Name_used _ _ _ _ hsw]
  refine wpAny_bind (wpAny_standAt (wpAny_bind ?_))
  show wpAny _ X.A (do let _ ← comprehension (.ListComp elt [⟨tg, iter, ifs, 0⟩, ⟨tg1, iter1, ifs1, 0⟩] scope pos) scope X.env (firstIterPos [⟨tg, iter, ifs, 0⟩, ⟨tg1, iter1, ifs1, 0⟩] pos) (newList []) false (eval iter X.env) (some (assign (.Name y py) X.env))) _ _ s
  have h : tL2 wi g tt wi1 g1 tt1 te (own.map (·.2)) vs1 σ H (fun x H1 => gName i x σ H1 D.nx) := h
  refine wpAny_bind (thn (core_L2 (Qf := fun _ s' => SP X pins D .next s') c I h fun L C s' m H' I' q hn f => ?_) fun _ s' hq => wpAny_pure (wpAny_pure hq))
  show wpAny _ _ (assign (.Name y py) X.env (.ref L)) _ _ _
  refine wpAny_assign_Name (store_ok2 (v := V.ref L) I' c.hN hy (.inl hyl) rfl (fun s2 I2 ⟨a, sb, ha⟩ => ?_) (.inr hyl))
  obtain ⟨f0, f1, f2, f3, f4, f5⟩ := f
  have haC : C ≠ a := by
    rcases ha with z | z
    · rw [z]; exact f1
    · exact fun e => f4 y a z e.symm
  refine ⟨m, hn.sameBut sb haC, fun h3 sb3 => ?_⟩
  exact ⟨_, H', I2.turned (t' := s2.toks) (fun b o hb e => (sb3.2 b hb).trans e) f0 f1 f3 f4 f5, q⟩
end
end DL

set_option Elab.async false
set_option linter.all false
set_option maxRecDepth 100000
set_option maxHeartbeats 4000000
namespace DL
open PySem PySem.Spec L2
variable [TbC]

/-! ### a clause by data: what is gathered changes, the ground stays -/
mutual
theorem asg2_ok {K : PySem.W.Frag} {Γ : MEnv} {lv : Nat → Option (V × Bool × Hp)} {B0 H0 B Hs H : Hp} (e : Ex B H) : ∀ {t : T} {d : D} {ρ ρ' : DEnv} {σ : L2.St} {v : V} {Q : L2.St → Hp → Prop}, shT Γ t = true → asgT t d ρ = some ρ' → Stt K Γ lv B0 H0 B Hs σ ρ → Rep K B v d →
    (∀ σ', Stt K Γ lv B0 H0 B Hs σ' ρ' → (∀ i, i ∉ slT t → σ'[i]? = σ[i]?) → σ'.length = σ.length → Q σ' H) → gOf K t v σ H Q
  | .nm i, d, ρ, ρ', σ, v, Q, hs, h, S, r, q => by
    simp only [asgT, Option.some.injEq] at h
    subst h
    exact q _ (S.setSh (of_decide_eq_true hs) r) (fun j hj => List.getElem?_set_ne (by simpa [slT, eq_comm] using hj)) (List.length_set ..)
  | .tp l, d, ρ, ρ', σ, v, Q, hs, h, S, r, q => by
    cases d with
    | tup ds =>
      cases r with
      | tup ha r => exact ⟨_, _, rfl, SqT.of (e _ _ ha), asgs_len h r, asgs2_ok e hs h S r q⟩
    | _ => simp [asgT] at h
  | .nl, _, _, _, _, _, _, _, h, _, _, _ => by simp [asgT] at h
  | .cn _ _, _, _, _, _, _, _, _, h, _, _, _ => by simp [asgT] at h
theorem asgs2_ok {K : PySem.W.Frag} {Γ : MEnv} {lv : Nat → Option (V × Bool × Hp)} {B0 H0 B Hs H : Hp} (e : Ex B H) : ∀ {t : T} {ds : List D} {ρ ρ' : DEnv} {σ : L2.St} {vs : List V} {Q : L2.St → Hp → Prop}, shT Γ t = true → asgTs t ds ρ = some ρ' → Stt K Γ lv B0 H0 B Hs σ ρ → Reps K B vs ds →
    (∀ σ', Stt K Γ lv B0 H0 B Hs σ' ρ' → (∀ i, i ∉ slT t → σ'[i]? = σ[i]?) → σ'.length = σ.length → Q σ' H) → gsOf K t vs σ H Q
  | .nl, ds, ρ, ρ', σ, vs, Q, hs, h, S, r, q => by
    cases ds with
    | nil => simp only [asgTs, Option.some.injEq] at h; subst h; cases r; exact ⟨rfl, q σ S (fun _ _ => rfl) rfl⟩
    | cons _ _ => simp [asgTs] at h
  | .cn hd t, ds, ρ, ρ', σ, vs, Q, hs, h, S, r, q => by
    cases ds with
    | nil => simp [asgTs] at h
    | cons d ds =>
      simp only [asgTs] at h
      obtain ⟨ρ1, h1, h2⟩ := Option.bind_eq_some_iff.mp h
      simp only [shT, Bool.and_eq_true] at hs
      cases r with
      | cons r1 r2 =>
        refine ⟨_, _, rfl, asg2_ok e hs.1 h1 S r1 fun σ1 S1 k1 l1 => asgs2_ok e hs.2 h2 S1 r2 fun σ2 S2 k2 l2 => q σ2 S2 (fun i hi => ?_) (l2.trans l1)⟩
        simp only [slT, List.mem_append, not_or] at hi
        rw [k2 i hi.2, k1 i hi.1]
  | .nm _, _, _, _, _, _, _, _, h, _, _, _ => by simp [asgTs] at h
  | .tp _, _, _, _, _, _, _, _, h, _, _, _ => by simp [asgTs] at h
end
/-- the heap without what is gathered -/
def drp (D : Addr) (H : Hp) : Hp := fun a => if a = D then none else H a
theorem drp_self {D : Addr} {H : Hp} : drp D H D = none := if_pos rfl
theorem drp_at {D a : Addr} {H : Hp} {o : HO} (h : drp D H a = some o) : H a = some o := by
  unfold drp at h
  split at h
  · cases h
  · exact h
theorem ext_drp {D : Addr} {B H B' H' : Hp} (x : Ext B H B' H') (hD : H D = none) (hB : B' D = none) : Ext B H B' (drp D H') := by
  refine ⟨fun a u ha => ?_, x.bb, fun a u ha => ?_, x.sep⟩
  · have : a ≠ D := fun z => by rw [z, hD] at ha; cases ha
    show (if a = D then none else H' a) = some u
    rw [if_neg this]; exact x.hh a u ha
  · have : a ≠ D := fun z => by rw [z, hB] at ha; cases ha
    show (if a = D then none else H' a) = some u
    rw [if_neg this]; exact x.bh a u ha
theorem ext_undrp {D : Addr} {B H : Hp} (h : Ex B H) : Ext B (drp D H) B H := ⟨fun a u ha => drp_at ha, .refl _, h, fun _ _ _ z => z⟩
/-- how what is gathered stands -/
structure Acc {A : Type} (D : Addr) (Ac : A → Hp → Hp → Prop) : Prop where
  mono : ∀ {a B H B' H'}, Ac a B H → Ext B H B' H' → Ac a B' H'
  out : ∀ {a B H}, Ac a B H → B D = none
/-- what is behind, by data -/
def RB {A : Type} (K : PySem.W.Frag) (Γ : MEnv) (lv : Nat → Option (V × Bool × Hp)) (B0 H0 : Hp) (D : Addr) (Ac : A → Hp → Hp → Prop) (tr : L2.St → Hp → (Hp → Prop) → Prop) (ρ : DEnv) (a a' : A) : Prop :=
  ∀ σ Bb Hb, Stt K Γ lv B0 H0 Bb Hb σ ρ → Hb D = none → ∀ B H, Ext Bb Hb B H → Ac a B H → ∀ Q : Hp → Prop, (∀ B' H', Ext Bb Hb B' H' → Ex B B' → Ac a' B' H' → Q H') → tr σ H Q
theorem clause_read {A : Type} {K : PySem.W.Frag} {Γ : MEnv} {lv : Nat → Option (V × Bool × Hp)} {B0 H0 : Hp} {D : Addr} {Ac : A → Hp → Hp → Prop} (hA : Acc D Ac) {t : T} {vs : List Nat} {J : It} {l : List DL.D} {tt : TT} {tr : L2.St → Hp → (Hp → Prop) → Prop} {ρ : DEnv} {σ : L2.St} {f : DL.D → A → Option A}
    {Bb Hb : Hp} (S : Stt K Γ lv B0 H0 Bb Hb σ ρ) (hw : Walks K J Bb Hb l) (hD : Hb D = none) (hs : shT Γ t = true) (hin : ∀ i ∈ slT t, i ∈ vs)
    (hf : ∀ x ∈ l, ∀ a a', f x a = some a' → ∃ ρ' j, asgT t x (wipeD ρ vs) = some ρ' ∧ (∀ σ' B H, Stt K Γ lv B0 H0 B H σ' ρ' → ∀ Q : Bool → Hp → Prop, (∀ B' H', Ext B H B' H' → Q j H') → tt σ' H Q) ∧ (j = false → a' = a) ∧
      (j = true → RB K Γ lv B0 H0 D Ac tr ρ' a a')) :
    ∀ B H, Ext Bb Hb B H → ∀ a0 a1, Ac a0 B H → foldG f l a0 = some a1 → ∀ Q : Hp → Prop, (∀ B' H', Ext Bb Hb B' H' → Ex B B' → Ac a1 B' H' → Q H') → tClause (gOf K t) tt tr vs J σ H Q := by
  intro B H x0 a0 a1 ac hr Q q
  refine ⟨fun i m H' => m = l.length - i ∧ i ≤ l.length ∧ ∃ B' a, Ext Bb Hb B' H' ∧ Ex B B' ∧ Ac a B' H' ∧ foldG f (l.drop i) a = some a1, ⟨l.length, by omega, by omega, B, a0, x0, .refl _, ac, by rw [List.drop_zero]; exact hr⟩, ?_⟩
  rintro i m H' ⟨rfl, hil, B', a, x1, e1, ac1, hrest⟩
  obtain ⟨w1, w2⟩ := hw B' H' x1 i
  by_cases hlt : i < l.length
  · right
    obtain ⟨w3, w4⟩ := w1 hlt
    refine ⟨w3, fun H'' => i + 1 ≤ l.length ∧ ∃ B' a, Ext Bb Hb B' H'' ∧ Ex B B' ∧ Ac a B' H'' ∧ foldG f (l.drop (i + 1)) a = some a1, fun H'' hN => ⟨l.length - (i + 1), by omega, rfl, hN⟩, fun x H2 hy => ?_⟩
    obtain ⟨B2, d, x2, hd, rd⟩ := w4 x H2 hy
    have hdrop : l.drop i = d :: l.drop (i + 1) := by
      rw [List.drop_eq_getElem_cons hlt]
      rw [List.getElem?_eq_getElem hlt] at hd
      cases hd; rfl
    rw [hdrop] at hrest
    simp only [foldG] at hrest
    obtain ⟨a2, h2, hrest⟩ := Option.bind_eq_some_iff.mp hrest
    obtain ⟨ρ', j, ha, ht, h0, h1⟩ := hf d (List.mem_of_getElem? hd) a a2 h2
    have ac2 := hA.mono ac1 x2
    have x12 : Ext Bb Hb B2 (drp D H2) := ext_drp (x1.trans x2) hD (hA.out ac2)
    have S2 : Stt K Γ lv B0 H0 B2 (drp D H2) (wipe σ vs) (wipeD ρ vs) := (S.grow x12).wiped
    refine asg2_ok x2.bh hs ha S2 rd fun σ' S' k' l' => ⟨?_, ?_⟩
    · rw [wipe_eq (σ := wipe σ vs) (fun z hz => k' z fun hz' => hz (hin z hz')) l', wipe_wipe]
    · refine ht σ' B2 H2 (S'.grow (ext_undrp x2.bh)) _ fun B3 H3 x3 => ?_
      have x13 : Ext B2 (drp D H2) B3 H3 := (ext_undrp x2.bh).trans x3
      have ac3 := hA.mono ac2 x3
      cases j with
      | false =>
        cases h0 rfl
        exact iteF ⟨by omega, B3, _, x12.trans x13, e1.trans (x2.bb.trans x3.bb), ac3, hrest⟩
      | true =>
        refine iteT (h1 rfl σ' B2 (drp D H2) S' drp_self B3 H3 x13 ac3 _ fun B4 H4 x4 e4 ac4 => ?_)
        exact ⟨by omega, B4, a2, x12.trans x4, e1.trans (x2.bb.trans (x3.bb.trans e4)), ac4, hrest⟩
  · left
    have hi' : i = l.length := by omega
    subst hi'
    refine ⟨w2 (Nat.le_refl _), ?_⟩
    rw [List.drop_length] at hrest
    simp only [foldG, Option.some.injEq] at hrest
    subst hrest
    exact q B' H' x1 e1 ac1
end DL

set_option Elab.async false
set_option linter.all false
set_option maxRecDepth 100000
set_option maxHeartbeats 4000000
namespace DL
open PySem PySem.Spec L2
variable [TbC]

/-! ### the walk of a source, in any block -/
def iOf (X : Cx) (tg e : Expr) : TI := fun σ H R => ∀ (pins : List (Addr × Obj)) (s : Shared), Inv X pins σ H s → wpAny (model X.prog X.w) X.A (eval e X.env) (fun v s1 => wpAny (model X.prog X.w) X.A (pyIter v) (PIE X pins σ tg R) X.xe s1) X.xe s
theorem of_pi {X : Cx} {tg e : Expr} {wi : TI} {σ : L2.St} {H : Hp} {R : It → Hp → Prop} (p : PI X tg e wi) (h : wi σ H R) : iOf X tg e σ H R := fun pins s I => p.run pins s σ H R I h
def iBlk (X : Cx) (scope : Scope) (tg e : Expr) : TI := fun σ H R => ∀ (s : Shared) (H0 : Hp) (C : Addr) (cl : List (Str × Addr)) (fp : List Addr), iOf (X.blk s H0 scope (compEnvC scope cl C X.env) fp) tg e σ H R
section
variable {X : Cx} {N : List Str} {sc scope : Scope} {k : Nat} {own : List (Str × Nat)} {elt tg iter tg1 iter1 : Expr} {ifs ifs1 : List Expr} {Γ : MEnv} {ρ ρ' : DEnv} {t t1 : T} {l l1 : List D} {pos : Pos} {vs1 : List Nat} {lv : Nat → Option (V × Bool × Hp)} {B0 H0 : Hp} {Da : Addr}
theorem pi_blk : ∀ (s : Shared) (H : Hp) (C : Addr) (cl : List (Str × Addr)) (fp : List Addr), PI (X.blk s H scope (compEnvC scope cl C X.env) fp) tg iter (iBlk X scope tg iter) := fun s H C cl fp => ⟨fun pins s' σ H' R I h => h s H C cl fp pins s' I⟩
/-- another clause, by data -/
theorem rb_nest {A : Type} {Ac : A → Hp → Hp → Prop} (hA : Acc Da Ac) {tt1 : TT} {tr1 : L2.St → Hp → (Hp → Prop) → Prop} {f1 : D → A → Option A} {a a' : A}
    (hI : ∀ (s : Shared) (H : Hp) (C : Addr) (cl : List (Str × Addr)) (fp : List Addr), EvI true (X.blk s H scope (compEnvC scope cl C X.env) fp) tg1 iter1 Γ ρ' l1) (hs : shT Γ t1 = true) (hin : ∀ i ∈ slT t1, i ∈ vs1)
    (hf : ∀ x ∈ l1, ∀ a a', f1 x a = some a' → ∃ ρ'' j, asgT t1 x (wipeD ρ' vs1) = some ρ'' ∧ (∀ σ' B H, Stt X.K Γ lv B0 H0 B H σ' ρ'' → ∀ Q : Bool → Hp → Prop, (∀ B' H', Ext B H B' H' → Q j H') → tt1 σ' H Q) ∧ (j = false → a' = a) ∧
      (j = true → RB X.K Γ lv B0 H0 Da Ac tr1 ρ'' a a')) (hr : foldG f1 l1 a = some a') :
    RB X.K Γ lv B0 H0 Da Ac (tNest (iBlk X scope tg1 iter1) (gOf X.K t1) tt1 tr1 vs1) ρ' a a' := by
  intro σ Bb Hb S hD B H x ac Q q
  show iBlk X scope tg1 iter1 σ H _
  intro s0 Hh C cl fp
  obtain ⟨_, wi, hpi, hwi⟩ := hI s0 Hh C cl fp
  refine of_pi hpi (hwi lv B0 H0 B H σ (S.grow x) _ fun J B3 H3 x3 hw => ?_)
  have ac3 := hA.mono ac x3
  have hB3 := hA.out ac3
  have xb : Ext Bb Hb B3 (drp Da H3) := ext_drp (x.trans x3) hD hB3
  have h0 : Ex H0 (drp Da H3) := S.ext.hh.trans xb.hh
  refine clause_read hA (S.grow xb) (hw _ (by simpa using h0) xb.bh) drp_self hs hin hf B3 H3 (ext_undrp x3.bh) a a' ac3 hr Q fun B' H' x4 e4 ac4 => ?_
  exact q B' H' (xb.trans x4) (x3.bb.trans e4) ac4
/-! ### lists -/
def AcL (K : PySem.W.Frag) (Da : Addr) (a : List D) (B H : Hp) : Prop := B Da = none ∧ ∃ vs, H Da = some (.lst vs) ∧ Reps K B vs a
theorem accL {K : PySem.W.Frag} : Acc Da (AcL K Da) := ⟨fun ⟨b, vs, h, r⟩ x => ⟨x.sep Da (by rw [h]; simp) (by rw [h]; simp) b, vs, x.hh _ _ h, r.mono x.bb⟩, fun h => h.1⟩
theorem ext_upd {D : Addr} {o : HO} {Bb Hb B H : Hp} (x : Ext Bb Hb B H) (hD : Hb D = none) (hB : B D = none) : Ext Bb Hb B (upd H D o) :=
  ⟨fun a u ha => by rw [upd_ne (ne_of_none ha hD)]; exact x.hh a u ha, x.bb, fun a u ha => by rw [upd_ne (ne_of_none ha hB)]; exact x.bh a u ha, x.sep⟩
theorem rb_emL {y : D} {a : List D} (he : ∀ (s : Shared) (H : Hp) (C : Addr) (cl : List (Str × Addr)) (fp : List Addr), EvM .sh (X.blk s H scope (compEnvC scope cl C X.env) fp) elt Γ ρ y) (hl : a.length < lim) :
    RB X.K Γ lv B0 H0 Da (AcL X.K Da) (rEmL Da (tBlk X scope elt)) ρ a (a ++ [y]) := by
  intro σ Bb Hb S hD B H x ac Q q
  show tBlk X scope elt σ H _
  intro s0 Hh C cl fp
  refine he s0 Hh C cl fp lv B0 H0 B H σ (S.grow x) _ fun v B4 H4 x4 r4 => ?_
  obtain ⟨b4, vs, h4, r⟩ := accL.mono ac x4
  exact ⟨vs, h4, by rw [r.length]; exact lim_lt hl, q B4 _ (ext_upd (x.trans x4) hD b4) x4.bb ⟨b4, _, upd_same, r.append (.cons r4 .nil)⟩⟩
/-! ### sets of texts -/
def AcS (P : Program) (w : World) (Da : Addr) (a : List Str) (B H : Hp) : Prop := B Da = none ∧ H Da = some (SetT P w Da a) ∧ ∀ x ∈ a, okS x
theorem accS {P : Program} {w : World} : Acc Da (AcS P w Da) := ⟨fun ⟨b, h, o⟩ x => ⟨x.sep Da (by rw [h]; simp) (by rw [h]; simp [SetT]) b, x.hh _ _ h, o⟩, fun h => h.1⟩
theorem rb_emS {y : Str} {a : List Str} (he : ∀ (s : Shared) (H : Hp) (C : Addr) (cl : List (Str × Addr)) (fp : List Addr), EvM .sh (X.blk s H scope (compEnvC scope cl C X.env) fp) elt Γ ρ (.str y)) (hl : a.length + 1 < scanBound) :
    RB X.K Γ lv B0 H0 Da (AcS X.prog X.w Da) (rEmS X.prog X.w Da (tBlk X scope elt)) ρ a (if y ∈ a then a else y :: a) := by
  intro σ Bb Hb S hD B H x ac Q q
  show tBlk X scope elt σ H _
  intro s0 Hh C cl fp
  refine he s0 Hh C cl fp lv B0 H0 B H σ (S.grow x) _ fun v B4 H4 x4 r4 => ?_
  obtain ⟨b4, h4, o⟩ := accS.mono ac x4
  cases r4 with
  | str _ oy =>
    refine ⟨y, a, rfl, h4, hl, q B4 _ (ext_upd (x.trans x4) hD b4) x4.bb ⟨b4, upd_same, fun z hz => ?_⟩⟩
    split at hz
    · exact o z hz
    · rcases List.mem_cons.mp hz with rfl | hz
      · exact oy
      · exact o z hz
end
end DL

set_option Elab.async false
set_option linter.all false
set_option maxRecDepth 100000
set_option maxHeartbeats 4000000
namespace DL
open PySem PySem.Spec L2
variable [TbC]

section
variable {X : Cx} {N : List Str} {sc scope : Scope} {k : Nat} {own : List (Str × Nat)} {elt tg iter tg1 iter1 : Expr} {ifs ifs1 : List Expr} {Γ : MEnv} {ρ : DEnv} {t t1 : T} {l : List D} {pos p pos2 : Pos} {vs1 : List Nat}
theorem tt_of (hif : ifs.length ≤ 1) {lv : Nat → Option (V × Bool × Hp)} {B0 H0 : Hp} {ρ' : DEnv} {j : Bool} (h : (ifs = [] → j = true) ∧ ∀ (s : Shared) (H : Hp) (C : Addr) (cl : List (Str × Addr)) (fp : List Addr), EvTs (X.blk s H scope (compEnvC scope cl C X.env) fp) ifs Γ ρ' j) :
    ∀ σ' B H, Stt X.K Γ lv B0 H0 B H σ' ρ' → ∀ Q : Bool → Hp → Prop, (∀ B' H', Ext B H B' H' → Q j H') → tTBlk X scope ifs σ' H Q := by
  intro σ' B H S Q q
  match ifs, hif, h with
  | [], _, h =>
    have hj : j = true := h.1 rfl
    subst hj
    exact q B H (.refl S.ext.bh)
  | [c], _, h => exact fun s0 Hh0 C cl fp => h.2 s0 Hh0 C cl fp lv B0 H0 B H σ' S _ fun B3 H3 x4 => q B3 H3 x4
/-- what the text of two clauses is asked -/
structure Two (X : Cx) (N : List Str) (sc scope : Scope) (k : Nat) (own : List (Str × Nat)) (tg iter tg1 iter1 : Expr) (ifs ifs1 : List Expr) (Γ : MEnv) (t t1 : T) (vs1 : List Nat) (tst tst1 : DEnv → Option Bool) (src : DEnv → Option (List D)) : Prop where
  g : Good X N sc k
  hb : blkC N sc scope own = true
  hpl : plainE iter = true
  hpl1 : plainE iter1 = true
  hif : ifs.length ≤ 1
  hif1 : ifs1.length ≤ 1
  hg : ∀ (s : Shared) (H : Hp) (C : Addr) (cl : List (Str × Addr)) (fp : List Addr), PG (X.blk s H scope (compEnvC scope cl C X.env) fp) tg (gOf X.K t)
  hg1 : ∀ (s : Shared) (H : Hp) (C : Addr) (cl : List (Str × Addr)) (fp : List Addr), PG (X.blk s H scope (compEnvC scope cl C X.env) fp) tg1 (gOf X.K t1)
  hs : shT Γ t = true
  hs1 : shT Γ t1 = true
  hin : ∀ i ∈ slT t, i ∈ own.map (·.2)
  hin1 : ∀ i ∈ slT t1, i ∈ vs1
  hv : ∀ i ∈ vs1, i ∈ own.map (·.2)
  hT : ∀ ρ' j, tst ρ' = some j → (ifs = [] → j = true) ∧ ∀ (s : Shared) (H : Hp) (C : Addr) (cl : List (Str × Addr)) (fp : List Addr), EvTs (X.blk s H scope (compEnvC scope cl C X.env) fp) ifs Γ ρ' j
  hT1 : ∀ ρ' j, tst1 ρ' = some j → (ifs1 = [] → j = true) ∧ ∀ (s : Shared) (H : Hp) (C : Addr) (cl : List (Str × Addr)) (fp : List Addr), EvTs (X.blk s H scope (compEnvC scope cl C X.env) fp) ifs1 Γ ρ' j
  hI1 : ∀ ρ' l1, src ρ' = some l1 → ∀ (s : Shared) (H : Hp) (C : Addr) (cl : List (Str × Addr)) (fp : List Addr), EvI true (X.blk s H scope (compEnvC scope cl C X.env) fp) tg1 iter1 Γ ρ' l1
variable {tst tst1 : DEnv → Option Bool} {src : DEnv → Option (List D)}
theorem Two.cl (w : Two X N sc scope k own tg iter tg1 iter1 ifs ifs1 Γ t t1 vs1 tst tst1 src) {wi : TI} (hpi : PI X tg iter wi) : Cl2 X elt tg iter tg1 iter1 ifs ifs1 scope own vs1 wi (iBlk X scope tg1 iter1) (gOf X.K t) (gOf X.K t1) (tTBlk X scope ifs) (tTBlk X scope ifs1) (tBlk X scope elt) :=
  ⟨w.g.calm, by rw [w.g.hN]; exact w.g.nd, hpi, w.g.blkOk w.hb, w.hv, w.hg, pts_of w.hif, pi_blk, w.hg1, pts_of w.hif1, pe_blk, plainFold w.hpl, fun env => plainFold w.hpl1⟩
theorem Two.read (w : Two X N sc scope k own tg iter tg1 iter1 ifs ifs1 Γ t t1 vs1 tst tst1 src) {A : Type} {Ac : Addr → A → Hp → Hp → Prop} (hA : ∀ D, Acc D (Ac D)) {tr1 : Addr → L2.St → Hp → (Hp → Prop) → Prop} {em : DEnv → A → Option A} {h0 : Addr → HO} {a0 a1 : A} {wi : TI}
    (hinit : ∀ D B H, B D = none → Ac D a0 B (upd H D (h0 D)))
    (hem : ∀ ρ' a a', em ρ' a = some a' → ∀ lv B0 H0 D, RB X.K Γ lv B0 H0 D (Ac D) (tr1 D) ρ' a a')
    (hwi : ∀ lv B0 H0 B H σ, Stt X.K Γ lv B0 H0 B H σ ρ → ∀ R : It → Hp → Prop, (∀ J B' H', Ext B H B' H' → (∀ Hs, (if false = true then Ex H0 Hs else Ex H' Hs) → Ex B' Hs → Walks X.K J B' Hs l) → R J H') → wi σ H R)
    (hr : foldG (f0G t (own.map (·.2)) tst src (f1G t1 vs1 tst1 em) ρ) l a0 = some a1) :
    ∀ lv B0 H0 B H σ, Stt X.K Γ lv B0 H0 B H σ ρ → ∀ Q : VK, (∀ D B' H', H D = none → Ext B H B' H' → Ac D a1 B' H' → Q (.ref D) H') → tCompr wi (gOf X.K t) (tTBlk X scope ifs) (fun D => tNest (iBlk X scope tg1 iter1) (gOf X.K t1) (tTBlk X scope ifs1) (tr1 D) vs1) h0 (own.map (·.2)) σ H Q := by
  intro lv B0 H0 B H σ S Q q
  show wi σ H fun J H1 => _
  refine hwi lv B0 H0 B H σ S _ fun J B1 H1 x1 hw => ?_
  intro D hD
  have bD : B1 D = none := x1.bh.back hD
  refine clause_read (hA D) (S.grow x1) (hw H1 (.refl _) x1.bh) hD w.hs w.hin (fun x hx a a' hf => ?_) B1 (upd H1 D (h0 D)) (.own x1.bh hD) a0 a1 (hinit D B1 H1 bD) hr _ fun B' H' x2 e2 ac2 => q D B' H' (x1.hh.back hD) (x1.trans x2) ac2
  unfold f0G at hf
  obtain ⟨ρ', r1, hf⟩ := Option.bind_eq_some_iff.mp hf
  obtain ⟨j, r2, hf⟩ := Option.bind_eq_some_iff.mp hf
  refine ⟨ρ', j, r1, tt_of w.hif (w.hT ρ' j r2), fun z => ?_, fun z => ?_⟩
  · subst z; simpa [eq_comm] using hf
  · subst z
    obtain ⟨l1, r3, hf⟩ := Option.bind_eq_some_iff.mp (show (src ρ').bind (fun l1 => foldG (f1G t1 vs1 tst1 em ρ') l1 a) = some a' by simpa using hf)
    refine rb_nest (hA D) (w.hI1 ρ' l1 r3) w.hs1 w.hin1 (fun y hy b b' hg => ?_) hf
    unfold f1G at hg
    obtain ⟨ρ'', s1, hg⟩ := Option.bind_eq_some_iff.mp hg
    obtain ⟨j1, s2, hg⟩ := Option.bind_eq_some_iff.mp hg
    refine ⟨ρ'', j1, s1, tt_of w.hif1 (w.hT1 ρ'' j1 s2), fun z => ?_, fun z => ?_⟩
    · subst z; simpa [eq_comm] using hg
    · subst z
      exact hem ρ'' b b' (by simpa using hg) lv B0 H0 D
variable {ev : DEnv → Option D}
theorem L2_read (w : Two X N sc scope k own tg iter tg1 iter1 ifs ifs1 Γ t t1 vs1 tst tst1 src) (hev : ∀ ρ' y, ev ρ' = some y → ∀ (s : Shared) (H : Hp) (C : Addr) (cl : List (Str × Addr)) (fp : List Addr), EvM .sh (X.blk s H scope (compEnvC scope cl C X.env) fp) elt Γ ρ' y) {wi : TI}
    (hwi : ∀ lv B0 H0 B H σ, Stt X.K Γ lv B0 H0 B H σ ρ → ∀ R : It → Hp → Prop, (∀ J B' H', Ext B H B' H' → (∀ Hs, (if false = true then Ex H0 Hs else Ex H' Hs) → Ex B' Hs → Walks X.K J B' Hs l) → R J H') → wi σ H R) {r : List D}
    (hr : foldG (f0G t (own.map (·.2)) tst src (f1G t1 vs1 tst1 (emL ev)) ρ) l [] = some r) : ∀ lv B0 H0 B H σ, Stt X.K Γ lv B0 H0 B H σ ρ → ∀ Q : VK, (∀ v B' H', Ext B H B' H' → RM X.K .ow H B' H' v (.lst r) → Q v H') →
      tL2 wi (gOf X.K t) (tTBlk X scope ifs) (iBlk X scope tg1 iter1) (gOf X.K t1) (tTBlk X scope ifs1) (tBlk X scope elt) (own.map (·.2)) vs1 σ H Q := fun lv B0 H0 B H σ S Q q => by
  refine w.read (Ac := AcL X.K) (fun _ => accL) (h0 := hL) (tr1 := fun D => rEmL D (tBlk X scope elt)) (fun D B H b => ⟨b, [], upd_same, .nil⟩) (fun ρ' a a' h lv B0 H0 D => ?_) hwi hr lv B0 H0 B H σ S Q fun D B' H' hn x ⟨b, vs, h, rr⟩ => q _ B' H' x ⟨D, rfl, hn, b, .lst h rr⟩
  unfold emL at h
  obtain ⟨y, r1, h⟩ := Option.bind_eq_some_iff.mp h
  split at h
  · rename_i hl; cases h; exact rb_emL (hev ρ' y r1) hl
  · cases h
theorem ev_L2 (w : Two X N sc scope k own tg iter tg1 iter1 ifs ifs1 Γ t t1 vs1 tst tst1 src) (hev : ∀ ρ' y, ev ρ' = some y → ∀ (s : Shared) (H : Hp) (C : Addr) (cl : List (Str × Addr)) (fp : List Addr), EvM .sh (X.blk s H scope (compEnvC scope cl C X.env) fp) elt Γ ρ' y)
    (hi : EvI false X tg iter Γ ρ l) {r : List D} (hr : foldG (f0G t (own.map (·.2)) tst src (f1G t1 vs1 tst1 (emL ev)) ρ) l [] = some r) : EvM .ow X (.ListComp elt [⟨tg, iter, ifs, 0⟩, ⟨tg1, iter1, ifs1, 0⟩] scope pos) Γ ρ (.lst r) := by
  obtain ⟨_, wi, hpi, hwi⟩ := hi
  intro lv B0 H0 B H σ S Q q
  exact of_pe (pe_L2 (w.cl hpi)) (L2_read w hev hwi hr lv B0 H0 B H σ S Q q)
theorem ev_SS (w : Two X N sc scope k own tg iter tg1 iter1 ifs ifs1 Γ t t1 vs1 tst tst1 src) (hm : X.mg "sorted" = none) (hgl : glS sc "sorted" = true) (hev : ∀ ρ' y, ev ρ' = some y → ∀ (s : Shared) (H : Hp) (C : Addr) (cl : List (Str × Addr)) (fp : List Addr), EvM .sh (X.blk s H scope (compEnvC scope cl C X.env) fp) elt Γ ρ' y)
    (hi : EvI false X tg iter Γ ρ l) {xs : List Str} (hr : foldG (f0G t (own.map (·.2)) tst src (f1G t1 vs1 tst1 (emS ev)) ρ) l [] = some xs) (hx : xs.length < 4000) : EvM .ow X (.Call (.Name "sorted" p) [.SetComp elt [⟨tg, iter, ifs, 0⟩, ⟨tg1, iter1, ifs1, 0⟩] scope pos] [] pos2) Γ ρ (.lst ((sortS xs).map .str)) := by
  obtain ⟨_, wi, hpi, hwi⟩ := hi
  intro lv B0 H0 B H σ S Q q
  have hbig : 4000 < scanBound := by decide
  refine of_pe (pe_callB (cr_sortedX w.g.calm) (w.g.gl _ hgl) hm PyProof.Rows.boot_sorted (pa_cons (pe_S2 (w.cl hpi)) pa_nil rfl) (he := rfl)) ?_
  show tS2 X.prog X.w wi (gOf X.K t) (tTBlk X scope ifs) (iBlk X scope tg1 iter1) (gOf X.K t1) (tTBlk X scope ifs1) (tBlk X scope elt) (own.map (·.2)) vs1 σ H (fun v H1 => rSortedX X.prog X.w [v] H1 Q)
  refine w.read (Ac := AcS X.prog X.w) (fun _ => accS) (h0 := hS X.prog X.w) (tr1 := fun D => rEmS X.prog X.w D (tBlk X scope elt)) (fun D B H b => ⟨b, upd_same, by simp⟩) (fun ρ' a a' h lv B0 H0 D => ?_) hwi hr lv B0 H0 B H σ S _ fun D B' H' hn x ⟨b, h, o⟩ => ?_
  · unfold emS at h
    obtain ⟨y, r1, h⟩ := Option.bind_eq_some_iff.mp h
    split at h
    · split at h
      · rename_i hl; cases h; exact rb_emS (hev ρ' _ r1) (by omega)
      · cases h
    · cases h
  · refine ⟨D, xs, rfl, h, by omega, fun ys p2 hp hs hn2 => ?_⟩
    rw [sort_uniq hp hs]
    exact new_lst x.bh (reps_ofS fun z hz => o z ((sort_perm xs).mem_iff.mp hz)) (fun v B'' H'' x2 r2 => q v B'' H'' (x.trans x2) (r2.back x.hh)) p2 hn2
end
end DL

set_option Elab.async false
set_option linter.all false
set_option maxRecDepth 100000
set_option maxHeartbeats 4000000
/-! Dicts gathered: one clause, keys tuples; two clauses, keys ints and texts. -/
namespace DL
open PySem PySem.Spec L2
variable [TbC]
def emitD (kx vx : Expr) (D : Addr) (env : Env) : Sem Fin → Sem Fin := fun k => (do let y ← eval kx env; let z ← holding [y] (eval vx env); standAt { kx.pos with endLine := vx.pos.endLine, endCol := vx.pos.endCol }; holding [y, z] (dictSet D y z) : Sem Unit) >>= fun _ => k
def restD (kx vx : Expr) (acc : Value) (env : Env) : Sem Fin → Sem Fin := match acc with | .ref D => emitD kx vx D env | _ => id
section
variable {P : Program} {w : World} {A : Around} {env : Env} {kx vx t0 i0 t1 i1 : Expr} {f0 f1 : List Expr} {scope : Scope} {pos : Pos} {D : Addr}
theorem code_D1 : CodeC P w A env t0 i0 f0 (restD kx vx (.ref D) env) (fun it => .compLoop (.DictComp kx vx [⟨t0, i0, f0, 0⟩] scope pos) 0 it (.ref D) env) := ⟨fun _ => rfl, fun _ => rfl, fun _ => by
  show _ = _
  rfl⟩
theorem code_D2o : CodeC P w A env t0 i0 f0 (nestC (.DictComp kx vx [⟨t0, i0, f0, 0⟩, ⟨t1, i1, f1, 0⟩] scope pos) i1 (.ref D) env) (fun it => .compLoop (.DictComp kx vx [⟨t0, i0, f0, 0⟩, ⟨t1, i1, f1, 0⟩] scope pos) 0 it (.ref D) env) := ⟨fun _ => rfl, fun _ => rfl, fun _ => rfl⟩
theorem code_D2i : CodeC P w A env t1 i1 f1 (restD kx vx (.ref D) env) (fun it => .compLoop (.DictComp kx vx [⟨t0, i0, f0, 0⟩, ⟨t1, i1, f1, 0⟩] scope pos) 1 it (.ref D) env) := ⟨fun _ => rfl, fun _ => rfl, fun _ => rfl⟩
end
def rEmD (D : Addr) (tk tv : TE) : St → Hp → (Hp → Prop) → Prop := fun σ H Q => tk σ H fun y H1 => tv σ H1 fun z H2 => ∃ H3, DPut H2 D y z H3 ∧ Q H3
theorem put_ok {X : Cx} {pins : List (Addr × Obj)} {σ : St} {H H' : Hp} {s : Shared} {E : Value → Shared → Prop} {a : Addr} {y v : V} {u r : Value} {Q : Unit → Shared → Prop} (hu : X.A.units + 1 < cLine) (I : Inv X pins σ H s) (g : DPut H a y v H') (ry : RelV y u) (rv : RelV v r) (h : ∀ s', Inv X pins σ H' s' → Q () s') :
    wpAny (model X.prog X.w) X.A (dictSet a u r) Q E s := by
  rcases g with ⟨kvs, k, e, ey, l, eH⟩ | ⟨kvs, k, b, e, ey, eb, l, eH⟩
  · subst ey eH
    obtain ⟨z, hd, vs, rel, dd⟩ := dk_of I.hok e
    have hl : (putK kvs k v).length ≤ sizeLine := by have := length_putK kvs k v; omega
    refine wpAny_dictSet_pairs (hsz := by rw [← rel.length]; exact z) (kV_is ry) dd fun h' dd' hs => h _ ?_
    have he : ∃ q, h'.get? a = some q := let ⟨q, _, _, hq, _⟩ := dd'; ⟨q, hq⟩
    exact d_write I (by rw [e]; exact True.intro) hs he (dk_new hl hd (rel.put k rv) dd')
  · subst ey eH
    cases (show u = Value.ref b from ry)
    obtain ⟨z, hd, xs, rel, dd⟩ := dt_of I.hok e
    have hl : (putK kvs k v).length ≤ sizeLine := by have := length_putK kvs k v; omega
    refine wpAny_dictSet_heap (hsz := by rw [← Paired.length rel]; exact z) ?_ (key_of I.hok eb) dd fun h' dd' hs => h _ ?_
    · show X.A.units < cLine; omega
    obtain ⟨q, es, ep, hq, h2, h3, h4, _, h5⟩ := dd'
    refine d_write I (by rw [e]; exact True.intro) hs ⟨q, hq⟩ ⟨hl, hd, _, (rel.put k eb rv).keeps fun c ys ec => ?_, q, es, ep, hq, h2, h3, h4, h5⟩
    rw [upd_ne (ne_of ec e (fun z => nomatch z))]
    exact ec
theorem bhd_emD {X : Cx} {kx vx : Expr} {tk tv : TE} {D : Addr} (hu : X.A.units + 1 < cLine) (hE : ∀ x s', X.xe x s' → False) (pk : PE X kx tk) (pv : PE X vx tv) : Bhd X (restD kx vx (.ref D) X.env) [] (rEmD D tk tv) := by
  refine ⟨fun pins s σ H Q k Pk Ek I h hk => ?_⟩
  have noE : ∀ {α : Type} {t : Sem α} {Q' : α → Shared → Prop} {E : Value → Shared → Prop} {s1 : Shared}, wpAny (model X.prog X.w) X.A t Q' X.xe s1 → wpAny (model X.prog X.w) X.A t Q' E s1 := fun h => wpAny_mono h (fun _ _ q => q) fun _ _ z => (hE _ _ z).elim
  unfold restD emitD
  refine wpAny_bind (wpAny_bind (wpAny_mono (noE (pk.run pins s σ H _ I h)) (fun u s1 ⟨y, H1, I1, r1, q1⟩ => ?_) fun _ _ z => z))
  refine wpAny_bind (wpAny_holding (wpAny_mono (noE (pv.run pins s1 σ H1 _ I1 q1)) (fun r s2 ⟨z, H2, I2, r2, H3, g, q2⟩ => ?_) fun _ _ z => z))
  refine wpAny_bind (wpAny_standAt (wpAny_holding (put_ok hu I2 g r1 r2 fun s3 I3 => ?_)))
  exact hk s3 _ I3 q2
/-! ### the rules -/
section
variable {X : Cx} {kx vx tg iter tg1 iter1 : Expr} {ifs ifs1 : List Expr} {scope : Scope} {own : List (Str × Nat)} {vs1 : List Nat} {pos : Pos} {wi wi1 : TI} {g g1 : TG} {tt tt1 : TT} {tk tv : TE}
def hK : Addr → HO := fun _ => .dK []
def hT : Addr → HO := fun _ => .dT []
theorem newD_ok {M : Model} {A : Around} {Q : Value → Shared → Prop} {E : Value → Shared → Prop} {s : Shared} (h : Q (.ref s.heap.objs.size) { s with heap := s.heap.push { cls := .type "dict", data := .dict #[] } }) : wpAny M A newDict Q E s :=
  wpAny_newObj_type h (by first | trivial | (unfold sizeOk; simp))
theorem layK {pins : List (Addr × Obj)} {σ : St} {s : Shared} {H : Hp} (I : Inv X pins σ H s) : Inv X pins σ (upd H s.heap.objs.size (hK s.heap.objs.size)) { s with heap := s.heap.push { cls := .type "dict", data := .dict #[] } } :=
  I.laid (t' := s.toks) (fun b o e => Heap.get?_push_of_some _ e) (Nat.le_refl _) (dk_empty s.heap I.big)
theorem layT {pins : List (Addr × Obj)} {σ : St} {s : Shared} {H : Hp} (I : Inv X pins σ H s) : Inv X pins σ (upd H s.heap.objs.size (hT s.heap.objs.size)) { s with heap := s.heap.push { cls := .type "dict", data := .dict #[] } } :=
  I.laid (t' := s.toks) (fun b o e => Heap.get?_push_of_some _ e) (Nat.le_refl _) (dt_empty s.heap I.big)
structure Cl1 (X : Cx) (kx vx tg iter : Expr) (ifs : List Expr) (scope : Scope) (own : List (Str × Nat)) (wi : TI) (g : TG) (tt : TT) (tk tv : TE) : Prop where
  hc : X.calm = true
  hu : X.A.units + 1 < cLine
  hN : X.N.Nodup
  hi : PI X tg iter wi
  ok : BlkOk X.N X.env.scope scope own
  hg : ∀ (s : Shared) (H : Hp) (C : Addr) (cl : List (Str × Addr)) (fp : List Addr), PG (X.blk s H scope (compEnvC scope cl C X.env) fp) tg g
  ht : ∀ (s : Shared) (H : Hp) (C : Addr) (cl : List (Str × Addr)) (fp : List Addr), PTs (X.blk s H scope (compEnvC scope cl C X.env) fp) ifs tt
  hk : ∀ (s : Shared) (H : Hp) (C : Addr) (cl : List (Str × Addr)) (fp : List Addr), PE (X.blk s H scope (compEnvC scope cl C X.env) fp) kx tk
  he : ∀ (s : Shared) (H : Hp) (C : Addr) (cl : List (Str × Addr)) (fp : List Addr), PE (X.blk s H scope (compEnvC scope cl C X.env) fp) vx tv
  hs : ∀ x, foldedSetIterable iter X.env x = pure x
/-- a dict gathered by one clause; T: its keys are tuples -/
def tD1 (T : Bool) (wi : TI) (g : TG) (tt : TT) (tk tv : TE) (vs : List Nat) : TE := tCompr wi g tt (fun D => rEmD D tk tv) (if T = true then hT else hK) vs
theorem pe_D1 {T : Bool} (c : Cl1 X kx vx tg iter ifs scope own wi g tt tk tv) : PE X (.DictComp kx vx [⟨tg, iter, ifs, 0⟩] scope pos) (tD1 T wi g tt tk tv (own.map (·.2))) := by
  refine ⟨fun pins s σ H Q I h => ?_⟩
  show wpAny _ _ (comprehension (.DictComp kx vx [⟨tg, iter, ifs, 0⟩] scope pos) scope X.env (firstIterPos [⟨tg, iter, ifs, 0⟩] pos) newDict false (eval iter X.env) none) _ _ s
  refine compr_core (e := .DictComp kx vx [⟨tg, iter, ifs, 0⟩] scope pos) (rest := restD kx vx) (vr := []) (h0 := if T = true then hT else hK) rfl newD_ok (fun I => by cases T; exact layK I; exact layT I) (fun _ _ _ => code_D1) (fun _ _ _ _ => rfl) (fun _ _ _ => rfl) c.hc c.hN I c.hi c.ok (by simp) c.hg c.ht
    (fun s H C cl fp D => bhd_emD (X := X.blk s H scope (compEnvC scope cl C X.env) fp) c.hu blk_noE (c.hk s H C cl fp) (c.he s H C cl fp)) c.hs h fun D C s' m H' I' q hn f => ⟨m, hn, fun h'' sb => ?_⟩
  obtain ⟨f0, f1, f2, f3, f4, f5⟩ := f
  exact ⟨.ref D, H', I'.turned (t' := s'.toks) (fun b o hb e => (sb.2 b hb).trans e) f0 f1 f3 f4 f5, rfl, q⟩
end
section
variable {X : Cx} {kx vx tg iter : Expr} {ifs : List Expr} {scope : Scope} {own : List (Str × Nat)} {pos : Pos} {wi : TI} {g : TG} {tt : TT} {tk tv : TE}
theorem ps_D1 {T : Bool} {i : Nat} {y : Str} {py spos : Pos} (c : Cl1 X kx vx tg iter ifs scope own wi g tt tk tv) (hy : X.N[i]? = some y) (hyl : X.env.scope.names.lookup y = some .local)
    (hsw : swapsWith (.DictComp kx vx [⟨tg, iter, ifs, 0⟩] scope pos) (some (.Name y py)) spos.line X.env = pure true) :
    PS X (.Assign [.Name y py] (.DictComp kx vx [⟨tg, iter, ifs, 0⟩] scope pos) spos) (tAsg (tD1 T wi g tt tk tv (own.map (·.2))) (gName i)) := by
  refine ⟨fun pins s σ H D I h => ?_⟩
  rw [exec_Assign_Name_used _ _ _ _ hsw]
  refine wpAny_bind (wpAny_standAt (wpAny_bind ?_))
  show wpAny _ X.A (do let _ ← comprehension (.DictComp kx vx [⟨tg, iter, ifs, 0⟩] scope pos) scope X.env (firstIterPos [⟨tg, iter, ifs, 0⟩] pos) newDict false (eval iter X.env) (some (assign (.Name y py) X.env))) _ _ s
  have h : tD1 T wi g tt tk tv (own.map (·.2)) σ H (fun x H1 => gName i x σ H1 D.nx) := h
  refine wpAny_bind (thn (compr_core (Qf := fun _ s' => SP X pins D .next s') (e := .DictComp kx vx [⟨tg, iter, ifs, 0⟩] scope pos) (rest := restD kx vx) (vr := []) (h0 := if T = true then hT else hK) rfl newD_ok (fun I => by cases T; exact layK I; exact layT I) (fun _ _ _ => code_D1) (fun _ _ _ _ => rfl) (fun _ _ _ => rfl) c.hc c.hN I c.hi c.ok (by simp) c.hg c.ht
    (fun s H C cl fp D => bhd_emD (X := X.blk s H scope (compEnvC scope cl C X.env) fp) c.hu blk_noE (c.hk s H C cl fp) (c.he s H C cl fp)) c.hs h fun L C s' m H' I' q hn f => ?_) fun _ s' hq => wpAny_pure (wpAny_pure hq))
  show wpAny _ _ (assign (.Name y py) X.env (.ref L)) _ _ _
  refine wpAny_assign_Name (store_ok2 (v := V.ref L) I' c.hN hy (.inl hyl) rfl (fun s2 I2 ⟨a, sb, ha⟩ => ?_) (.inr hyl))
  obtain ⟨f0, f1, f2, f3, f4, f5⟩ := f
  have haC : C ≠ a := by
    rcases ha with z | z
    · rw [z]; exact f1
    · exact fun e => f4 y a z e.symm
  refine ⟨m, hn.sameBut sb haC, fun h3 sb3 => ?_⟩
  exact ⟨_, H', I2.turned (t' := s2.toks) (fun b o hb e => (sb3.2 b hb).trans e) f0 f1 f3 f4 f5, q⟩
end
/-! ### by data -/
def AcT (K : PySem.W.Frag) (Da : Addr) (a : List (List Key) × List D) (B H : Hp) : Prop := B Da = none ∧ ∃ kvs : List (List Key × V), H Da = some (.dT kvs) ∧ kvs.map (·.1) = a.1 ∧ KsOkT a.1 ∧ Reps K B (kvs.map (·.2)) a.2
theorem accT {K : PySem.W.Frag} {Da : Addr} : Acc Da (AcT K Da) := ⟨fun ⟨b, kvs, h, k, o, r⟩ x => ⟨x.sep Da (by rw [h]; simp) (by rw [h]; simp) b, kvs, x.hh _ _ h, k, o, r.mono x.bb⟩, fun h => h.1⟩
theorem putKs_okT {key : List Key} {ks : List (List Key)} (ko : KsOkT ks) (h : KsOk key) : KsOkT (putKs key ks) := by
  intro x hx
  unfold putKs at hx
  split at hx
  · exact ko x hx
  · rcases List.mem_append.mp hx with q | q
    · exact ko x q
    · rw [List.mem_singleton.mp q]; exact h
section
variable {X : Cx} {N : List Str} {sc scope : Scope} {k : Nat} {own : List (Str × Nat)} {kx vx elt tg iter : Expr} {ifs : List Expr} {Γ : MEnv} {ρ : DEnv} {t : T} {l : List D} {pos p pos2 : Pos} {lv : Nat → Option (V × Bool × Hp)} {B0 H0 : Hp} {Da : Addr}
theorem rb_emDT {kd y : D} {key : List Key} {a : List (List Key) × List D} (hk : keyT kd = some key) (hkx : ∀ (s : Shared) (H : Hp) (C : Addr) (cl : List (Str × Addr)) (fp : List Addr), EvM .sh (X.blk s H scope (compEnvC scope cl C X.env) fp) kx Γ ρ kd)
    (hvx : ∀ (s : Shared) (H : Hp) (C : Addr) (cl : List (Str × Addr)) (fp : List Addr), EvM .sh (X.blk s H scope (compEnvC scope cl C X.env) fp) vx Γ ρ y) (hl : a.1.length < lim) :
    RB X.K Γ lv B0 H0 Da (AcT X.K Da) (rEmD Da (tBlk X scope kx) (tBlk X scope vx)) ρ a (putKs key a.1, putD key y a.1 a.2) := by
  intro σ Bb Hb S hD B H x ac Q q
  show tBlk X scope kx σ H _
  intro s0 Hh C cl fp
  refine hkx s0 Hh C cl fp lv B0 H0 B H σ (S.grow x) _ fun v B4 H4 x4 r4 => ?_
  intro s1 Hh1 C1 cl1 fp1
  refine hvx s1 Hh1 C1 cl1 fp1 lv B0 H0 B4 H4 σ ((S.grow x).grow x4) _ fun u B5 H5 x5 r5 => ?_
  obtain ⟨b5, kvs, h5, hks, ko, r⟩ := accT.mono (accT.mono ac x4) x5
  obtain ⟨bb, rfl, hbb, hko⟩ := keyT_V x4.bh hk (.inl r4)
  have hz : kvs.length < sizeLine := by
    have h1 := congrArg List.length hks
    rw [List.length_map] at h1
    rw [h1]; exact lim_lt hl
  refine ⟨_, DPut.t h5 (x5.hh _ _ hbb) hz, q B5 _ (ext_upd ((x.trans x4).trans x5) hD b5) (x4.bb.trans x5.bb) ⟨b5, putK kvs key u, upd_same, putK_keys hks, putKs_okT ko hko, putK_reps hks r5 r⟩⟩
/-- what the text of one clause is asked -/
structure One (X : Cx) (N : List Str) (sc scope : Scope) (k : Nat) (own : List (Str × Nat)) (tg iter : Expr) (ifs : List Expr) (Γ : MEnv) (t : T) (tst : DEnv → Option Bool) : Prop where
  g : Good X N sc k
  hb : blkC N sc scope own = true
  hpl : plainE iter = true
  hif : ifs.length ≤ 1
  hg : ∀ (s : Shared) (H : Hp) (C : Addr) (cl : List (Str × Addr)) (fp : List Addr), PG (X.blk s H scope (compEnvC scope cl C X.env) fp) tg (gOf X.K t)
  hs : shT Γ t = true
  hin : ∀ i ∈ slT t, i ∈ own.map (·.2)
  hT : ∀ ρ' j, tst ρ' = some j → (ifs = [] → j = true) ∧ ∀ (s : Shared) (H : Hp) (C : Addr) (cl : List (Str × Addr)) (fp : List Addr), EvTs (X.blk s H scope (compEnvC scope cl C X.env) fp) ifs Γ ρ' j
variable {tst : DEnv → Option Bool}
theorem One.read (w : One X N sc scope k own tg iter ifs Γ t tst) {A : Type} {Ac : Addr → A → Hp → Hp → Prop} (hA : ∀ D, Acc D (Ac D)) {tr1 : Addr → L2.St → Hp → (Hp → Prop) → Prop} {em : DEnv → A → Option A} {h0 : Addr → HO} {a0 a1 : A} {wi : TI}
    (hinit : ∀ D B H, B D = none → Ac D a0 B (upd H D (h0 D)))
    (hem : ∀ ρ' a a', em ρ' a = some a' → ∀ lv B0 H0 D, RB X.K Γ lv B0 H0 D (Ac D) (tr1 D) ρ' a a')
    (hwi : ∀ lv B0 H0 B H σ, Stt X.K Γ lv B0 H0 B H σ ρ → ∀ R : It → Hp → Prop, (∀ J B' H', Ext B H B' H' → (∀ Hs, (if false = true then Ex H0 Hs else Ex H' Hs) → Ex B' Hs → Walks X.K J B' Hs l) → R J H') → wi σ H R)
    (hr : foldG (f1G t (own.map (·.2)) tst em ρ) l a0 = some a1) :
    ∀ lv B0 H0 B H σ, Stt X.K Γ lv B0 H0 B H σ ρ → ∀ Q : VK, (∀ D B' H', H D = none → Ext B H B' H' → Ac D a1 B' H' → Q (.ref D) H') → tCompr wi (gOf X.K t) (tTBlk X scope ifs) tr1 h0 (own.map (·.2)) σ H Q := by
  intro lv B0 H0 B H σ S Q q
  show wi σ H fun J H1 => _
  refine hwi lv B0 H0 B H σ S _ fun J B1 H1 x1 hw => ?_
  intro D hD
  have bD : B1 D = none := x1.bh.back hD
  refine clause_read (hA D) (S.grow x1) (hw H1 (.refl _) x1.bh) hD w.hs w.hin (fun x hx a a' hf => ?_) B1 (upd H1 D (h0 D)) (.own x1.bh hD) a0 a1 (hinit D B1 H1 bD) hr _ fun B' H' x2 e2 ac2 => q D B' H' (x1.hh.back hD) (x1.trans x2) ac2
  unfold f1G at hf
  obtain ⟨ρ', r1, hf⟩ := Option.bind_eq_some_iff.mp hf
  obtain ⟨j, r2, hf⟩ := Option.bind_eq_some_iff.mp hf
  refine ⟨ρ', j, r1, tt_of w.hif (w.hT ρ' j r2), fun z => ?_, fun z => ?_⟩
  · subst z; simpa [eq_comm] using hf
  · subst z
    exact hem ρ' a a' (by simpa using hf) lv B0 H0 D
theorem One.c1 (w : One X N sc scope k own tg iter ifs Γ t tst) {wi : TI} (hpi : PI X tg iter wi) : Cl1 X kx vx tg iter ifs scope own wi (gOf X.K t) (tTBlk X scope ifs) (tBlk X scope kx) (tBlk X scope vx) :=
  ⟨w.g.calm, by have := w.g.hu; omega, by rw [w.g.hN]; exact w.g.nd, hpi, w.g.blkOk w.hb, w.hg, pts_of w.hif, pe_blk, pe_blk, plainFold w.hpl⟩
theorem dcT_read {ek ev : DEnv → Option D} (w : One X N sc scope k own tg iter ifs Γ t tst) (hek : ∀ ρ' y, ek ρ' = some y → ∀ (s : Shared) (H : Hp) (C : Addr) (cl : List (Str × Addr)) (fp : List Addr), EvM .sh (X.blk s H scope (compEnvC scope cl C X.env) fp) kx Γ ρ' y)
    (hev : ∀ ρ' y, ev ρ' = some y → ∀ (s : Shared) (H : Hp) (C : Addr) (cl : List (Str × Addr)) (fp : List Addr), EvM .sh (X.blk s H scope (compEnvC scope cl C X.env) fp) vx Γ ρ' y) {wi : TI}
    (hwi : ∀ lv B0 H0 B H σ, Stt X.K Γ lv B0 H0 B H σ ρ → ∀ R : It → Hp → Prop, (∀ J B' H', Ext B H B' H' → (∀ Hs, (if false = true then Ex H0 Hs else Ex H' Hs) → Ex B' Hs → Walks X.K J B' Hs l) → R J H') → wi σ H R) {r : List (List Key) × List D}
    (hr : foldG (f1G t (own.map (·.2)) tst (emDT ek ev) ρ) l ([], []) = some r) : ∀ lv B0 H0 B H σ, Stt X.K Γ lv B0 H0 B H σ ρ → ∀ Q : VK, (∀ v B' H', Ext B H B' H' → RM X.K .ow H B' H' v (.dit r.1 r.2) → Q v H') →
      tD1 true wi (gOf X.K t) (tTBlk X scope ifs) (tBlk X scope kx) (tBlk X scope vx) (own.map (·.2)) σ H Q := fun lv B0 H0 B H σ S Q q => by
  refine w.read (Ac := AcT X.K) (fun _ => accT) (h0 := hT) (tr1 := fun D => rEmD D (tBlk X scope kx) (tBlk X scope vx)) (a0 := ([], [])) (fun D B H b => ⟨b, [], upd_same, rfl, (fun x hx => by cases hx), .nil⟩) (fun ρ' a a' h lv B0 H0 D => ?_) hwi hr lv B0 H0 B H σ S Q fun D B' H' hn x ⟨b, kvs, h, hks, ko, rr⟩ => q _ B' H' x ⟨D, rfl, hn, b, .dit h hks ko rr⟩
  unfold emDT at h
  obtain ⟨kd, r1, h⟩ := Option.bind_eq_some_iff.mp h
  obtain ⟨key, r2, h⟩ := Option.bind_eq_some_iff.mp h
  obtain ⟨y, r3, h⟩ := Option.bind_eq_some_iff.mp h
  split at h
  · rename_i hl; cases h; exact rb_emDT r2 (hek ρ' kd r1) (hev ρ' y r3) hl
  · cases h
end
end DL

set_option Elab.async false
set_option linter.all false
set_option maxRecDepth 100000
set_option maxHeartbeats 4000000
namespace DL
open PySem PySem.Spec L2
variable [TbC]

/-! ### a def keeps its promise -/
theorem RAs.get {K : PySem.W.Frag} {B H : Hp} {ms : List Md} {vs : List V} {ds : List D} (r : RAs K B H ms vs ds) : ∀ {i : Nat} {d : D}, ds[i]? = some d → ∃ m v, ms[i]? = some m ∧ vs[i]? = some v ∧ RA K m B H v d := by
  induction r with
  | nil => intro i d h; simp at h
  | @cons m ms v vs d ds h t ih =>
    intro i e he
    cases i with
    | zero => simp at he; subst he; exact ⟨m, v, rfl, rfl, h⟩
    | succ i =>
      obtain ⟨m', v', h1, h2, h3⟩ := ih (i := i) (d := e) (by simpa using he)
      exact ⟨m', v', by simpa using h1, by simpa using h2, h3⟩
def inD0 (many : Nat) (ds : List D) : DEnv := ds.map some ++ List.replicate (many - ds.length) none
theorem inD0_at {many i : Nat} {ds : List D} {d : D} (h : (inD0 many ds)[i]? = some (some d)) : ds[i]? = some d := by
  unfold inD0 at h
  by_cases hi : i < ds.length
  · rw [List.getElem?_append_left (by simpa using hi), List.getElem?_map] at h
    cases q : ds[i]? with
    | none => rw [q] at h; cases h
    | some e => rw [q] at h; cases h; rfl
  · rw [List.getElem?_append_right (by simpa using hi)] at h
    have := List.mem_of_getElem? h
    simp at this
theorem start_at {N : List Str} {vs : List V} {i : Nat} {v : V} (h : vs[i]? = some v) : (L2.start N vs)[i]? = some (some v) := by
  unfold L2.start
  have hi : i < vs.length := (List.getElem?_eq_some_iff.mp h).1
  rw [List.getElem?_append_left (by simpa using hi), List.getElem?_map, h]; rfl
/-- one at most of one's own with lists in it -/
def oneOd (Γ : MEnv) : Bool := (List.range Γ.length).all fun i => (List.range Γ.length).all fun j => !(decide (Γ[i]? = some Md.od) && decide (Γ[j]? = some Md.od)) || decide (i = j)
theorem oneOd_of {Γ : MEnv} (h : oneOd Γ = true) (i j : Nat) (h1 : Γ[i]? = some Md.od) (h2 : Γ[j]? = some Md.od) : i = j := by
  have hi : i < Γ.length := (List.getElem?_eq_some_iff.mp h1).1
  have hj : j < Γ.length := (List.getElem?_eq_some_iff.mp h2).1
  have := List.all_eq_true.mp (List.all_eq_true.mp h i (List.mem_range.mpr hi)) j (List.mem_range.mpr hj)
  simpa [h1, h2] using this
theorem stt_start {K : PySem.W.Frag} {B H : Hp} {ms : List Md} {vs : List V} {ds : List D} {N : List Str} {Γ : MEnv} (e : Ex B H) (htb : Tabs B) (r : RAs K B H ms vs ds) (hl : ms.length ≤ N.length) (hΓ : Γ.length = N.length) (ht : Γ.take ms.length = ms) (hms : ∀ m ∈ ms, m ≠ .ow ∧ m ≠ .od) (hod : oneOd Γ = true) :
    Stt K Γ (fun i => (vs[i]?).map fun v => (v, false, H)) B H B H (L2.start N vs) (inD0 N.length ds) := by
  obtain ⟨l1, l2⟩ := r.len
  have at_ : ∀ (i : Nat) (d : D) (m : Md), Γ[i]? = some m → (inD0 N.length ds)[i]? = some (some d) → ∃ v, vs[i]? = some v ∧ RA K m B H v d ∧ m ≠ .ow ∧ m ≠ .od := fun i d m h1 h2 => by
    obtain ⟨m', v, h3, h4, h5⟩ := r.get (inD0_at h2)
    have hi : i < ms.length := (List.getElem?_eq_some_iff.mp h3).1
    have : Γ[i]? = ms[i]? := by rw [← ht, List.getElem?_take, if_pos (by simpa [ht] using hi)]; 
    rw [this, h3] at h1
    cases h1
    exact ⟨v, h4, h5, hms _ (List.mem_of_getElem? h3)⟩
  refine ⟨.refl e, fun i v t h hv => ?_, ?_, ?_, fun i d h1 h2 => ?_, fun i d h1 h2 => ?_, fun i d h1 h2 => ?_, fun i j p d _ _ h1 _ h3 _ _ => ?_, fun i d h1 h2 => ?_, fun i j h1 h2 => oneOd_of hod i j h1 h2, htb⟩
  · obtain ⟨w, _, e⟩ := Option.map_eq_some_iff.mp hv
    cases e; exact .refl _
  · unfold L2.start inD0
    rw [List.length_append, List.length_append, List.length_map, List.length_map, List.length_replicate, List.length_replicate, l1, l2]
  · unfold inD0
    rw [List.length_append, List.length_map, List.length_replicate, l2, hΓ]; omega
  · obtain ⟨v, h3, h4, _⟩ := at_ i d _ h1 h2
    exact ⟨v, start_at h3, h4⟩
  · obtain ⟨_, _, _, h, _⟩ := at_ i d _ h1 h2
    exact absurd rfl h
  · obtain ⟨v, h3, h4, _⟩ := at_ i d _ h1 h2
    exact ⟨v, false, H, by rw [h3]; rfl, start_at h3, h4⟩
  · obtain ⟨_, _, _, h, _⟩ := at_ i d _ h1 h3
    exact absurd rfl h
  · obtain ⟨_, _, _, _, h⟩ := at_ i d _ h1 h2
    exact absurd rfl h
section
variable {P : Program} {w : World} {K : PySem.W.Frag} {mg : Str → Option Value} {base : Heap}
/-- .. the code object is the function's -/
theorem fun_ok2 {x qual : Str} {st : Stmt} {f : Addr} {fd : FuncData} {N ps : List Str} {k : Nat} {sp : Sp} (F : Fun K x qual st f fd) (S : FnScope N ps (defScope st)) (len : ∀ vs H Q E, sp vs H Q E → vs.length = ps.length)
    (hb : ∀ (cdv : Value), fd.code = cdv → ∀ (A : Around) (outer : List Env) (s : Shared) (H : Hp) (vs : List V) (Q : VK) (E : XK), Room k (A.deeper (PyProof.Rows.envOfC qual (defScope st) s.heap.objs.size f cdv)) → sp vs H Q E →
      ∃ t, PSs (cxOf CX0 P w K mg base N qual (defScope st) f cdv A outer s H E).nox (defBody st) t ∧ t { nx := fun _ H' => Q .non H', rt := Q } (start N vs) H) : FnOk P w K mg base CX0 (k + 1) f fd ps sp := by
  obtain ⟨oc, od, kV, doc, pm, an, cdv, ct, osl, rfl, lk, hcd⟩ := F.ex
  refine fn_of lk hcd S len fun A outer s H vs Q E hr hsp => ?_
  obtain ⟨t, h, q⟩ := hb cdv rfl A outer s H vs Q E hr hsp
  exact ⟨t, h.nox, q⟩
theorem fn_ok {x qual : Str} {st : Stmt} {f : Addr} {fd : FuncData} {N ps : List Str} {k : Nat} {ms : List Md} {sem : List D → Option D} {Γ : MEnv} (F : Fun K x qual st f fd) (S : FnScope N ps (defScope st)) (hms : ∀ m ∈ ms, m ≠ .ow ∧ m ≠ .od) (hod : oneOd Γ = true) (hps : ms.length = ps.length) (hΓ : Γ.length = N.length) (ht : Γ.take ms.length = ms)
    (h : ∀ X : Cx, X.prog = P → X.w = w → X.K = K → X.mg = mg → X.base = base → X.env.code = fd.code → Good X N (defScope st) k → PassesOwn (model X.prog X.w) X.A X.env X.xe → ∀ ds d, ds.length = ms.length → sem ds = some d → ∃ o, StS X (defBody st) Γ (inD0 N.length ds) o ∧ (o = .ret d ∨ ∃ ρ, o = .nx ρ ∧ d = .non)) :
    FnOk P w K mg base CX0 (k + 1) f fd ps (spD K ms sem) := by
  have hN : ps.length ≤ N.length := by have := congrArg List.length S.pre; rw [List.length_take] at this; omega
  refine fun_ok2 F S (fun vs H Q E h => ?_) fun cdv hcdv A outer s H vs Q E hr hsp => ?_
  · obtain ⟨B, ds, d, _, _, r, _⟩ := h
    rw [r.len.1, hps]
  · obtain ⟨B, ds, d, e, htb, r, hs, q⟩ := hsp
    let X : Cx := (cxOf CX0 P w K mg base N qual (defScope st) f cdv A outer s H E).nox
    have g : Good X N (defScope st) k := by
      refine ⟨rfl, S.nd, rfl, hr, S.kind, fun x hx => ?_, fun x hx => ?_, fun x hx => ?_, fun x hx => ?_, fun x hx => ?_, fun x hx => ?_⟩
      · show (defScope st).names.lookup x = _ ∨ (defScope st).names.lookup x = _ ∨ (defScope st).names.lookup x = _
        unfold visS at hx; split at hx <;> rename_i e <;> first | (rw [e]; simp) | cases hx
      · show (defScope st).names.lookup x = _
        unfold glS at hx; split at hx <;> rename_i e <;> first | exact e | cases hx
      · refine ⟨?_, .inl rfl⟩
        show (defScope st).names.lookup x = _ ∨ (defScope st).names.lookup x = _
        unfold stS at hx; split at hx <;> rename_i e <;> first | (rw [e]; simp) | cases hx
      · show (defScope st).names.lookup x = _
        unfold loS at hx; split at hx <;> rename_i e <;> first | exact e | cases hx
      · show (defScope st).names.lookup x = _
        unfold ceS at hx; split at hx <;> rename_i e <;> first | exact e | cases hx
      · show (defScope st).names.lookup x = _ ∨ (defScope st).names.lookup x = _
        unfold cfS at hx; split at hx <;> rename_i e <;> first | (rw [e]; simp) | cases hx
    obtain ⟨o, hst, ho⟩ := h X rfl rfl rfl rfl rfl hcdv.symm g PassesOwn.never ds d r.len.2 hs
    refine ⟨_, pss_of, ?_⟩
    refine hst _ B H B H (L2.start N vs) (stt_start e htb r (by rw [hps]; exact hN) hΓ ht hms hod) _ ?_
    rcases ho with rfl | ⟨ρ, rfl, rfl⟩
    · exact fun v B' H' x r => q v B' H' x r
    · exact fun σ B' H' S' => q .non B' H' S'.ext .non
/-- .. one «return» of what is new -/
theorem fn_okO {x qual : Str} {st : Stmt} {f : Addr} {fd : FuncData} {N ps : List Str} {k : Nat} {ms : List Md} {sem : List D → Option D} {Γ : MEnv} (F : Fun K x qual st f fd) {e : Expr} {rpos : Pos} (S : FnScope N ps (defScope st)) (hbody : defBody st = [.Return (some e) rpos]) (hms : ∀ m ∈ ms, m ≠ .ow ∧ m ≠ .od) (hod : oneOd Γ = true) (hps : ms.length = ps.length) (hΓ : Γ.length = N.length) (ht : Γ.take ms.length = ms)
    (h : ∀ X : Cx, X.prog = P → X.w = w → X.K = K → X.mg = mg → X.base = base → X.env.code = fd.code → Good X N (defScope st) k → ∀ ds d, ds.length = ms.length → sem ds = some d → EvM .ow X e Γ (inD0 N.length ds) d) :
    FnOk P w K mg base CX0 (k + 1) f fd ps (spO K ms sem) := by
  have hN : ps.length ≤ N.length := by have := congrArg List.length S.pre; rw [List.length_take] at this; omega
  refine fun_ok2 F S (fun vs H Q E h => ?_) fun cdv hcdv A outer s H vs Q E hr hsp => ?_
  · obtain ⟨B, ds, d, _, _, r, _⟩ := h
    rw [r.len.1, hps]
  · obtain ⟨B, ds, d, e, htb, r, hs, q⟩ := hsp
    let X : Cx := (cxOf CX0 P w K mg base N qual (defScope st) f cdv A outer s H E).nox
    have g : Good X N (defScope st) k := by
      refine ⟨rfl, S.nd, rfl, hr, S.kind, fun x hx => ?_, fun x hx => ?_, fun x hx => ?_, fun x hx => ?_, fun x hx => ?_, fun x hx => ?_⟩
      · show (defScope st).names.lookup x = _ ∨ (defScope st).names.lookup x = _ ∨ (defScope st).names.lookup x = _
        unfold visS at hx; split at hx <;> rename_i e <;> first | (rw [e]; simp) | cases hx
      · show (defScope st).names.lookup x = _
        unfold glS at hx; split at hx <;> rename_i e <;> first | exact e | cases hx
      · refine ⟨?_, .inl rfl⟩
        show (defScope st).names.lookup x = _ ∨ (defScope st).names.lookup x = _
        unfold stS at hx; split at hx <;> rename_i e <;> first | (rw [e]; simp) | cases hx
      · show (defScope st).names.lookup x = _
        unfold loS at hx; split at hx <;> rename_i e <;> first | exact e | cases hx
      · show (defScope st).names.lookup x = _
        unfold ceS at hx; split at hx <;> rename_i e <;> first | exact e | cases hx
      · show (defScope st).names.lookup x = _ ∨ (defScope st).names.lookup x = _
        unfold cfS at hx; split at hx <;> rename_i e <;> first | (rw [e]; simp) | cases hx
    have he := h X rfl rfl rfl rfl rfl hcdv.symm g ds d r.len.2 hs
    rw [hbody]
    refine ⟨_, pss_one (ps_ret pe_of), ?_⟩
    exact he _ B H B H (L2.start N vs) (stt_start e htb r (by rw [hps]; exact hN) hΓ ht hms hod) _ fun v B' H' x r => q v B' H' x r
end
end DL

set_option Elab.async false
set_option linter.all false
set_option maxRecDepth 100000
set_option maxHeartbeats 4000000
/-! all(..), any(..) of a generator expression over a tuple, whose element reads what the def has. -/
namespace DL
open PySem PySem.Spec PyProof.Rows L2 GxR
variable [TbC]
section
variable {X : Cx} {pins : List (Addr × Obj)} {σ : L2.St} {H : Hp} {s : Shared}
theorem tblO_ok {Pg : Program} {w : World} {P : Addr} {h : Heap} {ps : Array Value} (e : h.get? P = some { cls := .none, data := .fields ps }) (ht : TriplesOk ps.toList) : ObjOk Pg w H h P (TblO P) :=
  ⟨⟨ps, e, ht⟩, ⟨_, e⟩, fun h1 h2 ⟨ps, e, t⟩ k => ⟨ps, k _ e, t⟩⟩
theorem tblO_at {Pg : Program} {w : World} {P : Addr} {h : Heap} (x : ObjOk Pg w H h P (TblO P)) : ∃ ps : Array Value, h.get? P = some { cls := .none, data := .fields ps } ∧ TriplesOk ps.toList := x.1
theorem hok_tabX {Pg : Program} {w : World} {P : Addr} {h h' : Heap} {ps : Array Value} (I : HOk Pg w H h) (hP : H P = some (TblO P)) (k : ∀ b o, b ≠ P → h.get? b = some o → h'.get? b = some o)
    (hm : h'.get? P = some { cls := .none, data := .fields ps }) (ht : TriplesOk ps.toList) : HOk Pg w H h' := fun b u e => by
  by_cases hb : b = P
  · subst hb
    rw [hP] at e; cases e
    exact tblO_ok hm ht
  · refine (I b u e).stay (fun d v hd q => k d v ?_ q) (fun d q => q) fun d xs q => q
    rcases hd with z | z
    · rw [z]; exact hb
    · intro z2; rw [z2, hP] at z; cases z
theorem inv_tabX {P : Addr} {ps : Array Value} {h' : Heap} {g' : Array GenState} {d' : Drawn} {t' : Nat} (I : Inv X pins σ H s) (hP : H P = some (TblO P)) (k : ∀ b o, b ≠ P → s.heap.get? b = some o → h'.get? b = some o)
    (hm : h'.get? P = some { cls := .none, data := .fields ps }) (ht : TriplesOk ps.toList) (hg : AllBare g') :
    Inv X pins σ H { s with heap := h', gens := g', drawn := d', toks := t' } := by
  have nN : ∀ b, H b = none → b ≠ P := fun b e z => by rw [z, hP] at e; cases e
  refine I.step (g' := g') (d' := d') (ch := []) (fun b hb => absurd hb (by simp)) (fun b o _ _ _ e n => k b o (nN b n) e) (fun b o _ _ _ e n => ⟨o.slots, k b o (nN b n) e⟩)
    (fun b o _ e n => n) (fun b o _ e => ?_) (fun b xs e => e) (fun b o u e => e) (fun b qs e => ⟨#[], by simp [e]⟩) (fun m hn => ?_) (hok_tabX I.hok hP k hm ht) hg
  · by_cases hb : b = P
    · rw [hb]; exact ⟨_, hm⟩
    · exact ⟨o, k b o hb e⟩
  · obtain ⟨ob, es, ep, ho, r⟩ := hn
    exact ⟨ob, es, ep, k _ ob (nN _ I.free) ho, r⟩

/-- the element at place i, of the thing v -/
def EltT (X : Cx) (pins : List (Addr × Obj)) (σ : L2.St) (H1 : Hp) (scope : Scope) (x : Str) (elt : Expr) (xs : List V) (pb : Nat → Bool) : Prop :=
  ∀ s1, Inv X pins σ H1 s1 → ∀ (cenv : Env) (A' : Around) (E' : Value → Shared → Prop) (i : Nat) (v : V) (u : Value) (s₂ : Shared) (m₂ : Str → Option Value), cenv.scope = scope → cenv.cells = cloFrom X.env.cells scope.names [] →
    A'.handled = none → A'.units ≤ X.A.units + 8 → HOk X.prog X.w H1 s₂.heap → (∀ b o, H1 b = none → s1.heap.get? b = some o → s₂.heap.get? b = some o) → xs[i]? = some v → RelV v u → s₂.heap.Ns cenv.locals m₂ → m₂ x = some u →
    wpAny (model X.prog X.w) A' (eval elt cenv) (fun y s₃ => y = .bool (pb i) ∧ Keeps s₂ s₃) E' s₂
/-- the generator g over n things, ready to be walked, in the state s5 -/
def ReadyT (X : Cx) (pins : List (Addr × Obj)) (σ : L2.St) (H1 : Hp) (n : Nat) (pb : Nat → Bool) (g : Addr) (s5 : Shared) : Prop :=
  ∃ (fp wr : List Addr) (G : Array GenState → Array GenState → Prop) (F : Nat → Value → Prop) (St : Nat → Shared → Prop),
    WalksS X.prog X.w X.A.in1 g fp wr G n F St ∧ St 0 s5 ∧ TruthOf X.prog X.w X.A.in1 F pb ∧ ∀ s', Moved wr G s5 s' → Inv X pins σ H1 s'

/-- the code object of a generator expression: the table may grow by it -/
theorem code_grows {c P : Addr} {ps : Array Value} {scope : Scope} {gpos : Pos} {qn : Str} {Q2 : Value → Shared → Prop} {E2 : Value → Shared → Prop} (hcode : X.env.code = .ref c) (hd : PySem.W.CodeHd s.heap c P) (hp : s.heap.get? P = some { cls := .none, data := .fields ps }) (ht : TriplesOk ps.toList)
    (k : ∀ (code : Value) (h : Heap) (tk : Nat) (qs : Array Value), Heap.ExtBut P s.heap h → s.heap.objs.size ≤ h.objs.size → h.get? P = some { cls := .none, data := .fields qs } → TriplesOk qs.toList → Q2 code { s with heap := h, toks := tk }) :
    wpAny (model X.prog X.w) X.A (genexprCode X.env gpos qn scope) Q2 E2 s := by
  cases hf : codeAmong gpos ps.toList with
  | some cv => exact wpAny_genexprCode_hit hcode (hd.code hp ht) hf (k cv s.heap s.toks ps (.refl _ _) (Nat.le_refl _) hp ht)
  | none =>
    refine wpAny_genexprCodeX hcode (hd.code hp ht) (hd.tab hp) hf fun _ h tk ext ge lt new _ tab _ => ?_
    obtain ⟨_, _, _, _, _, _, _, _, _, _, _, _, _, _, _, _, _, _, _, tr, _⟩ := new
    exact k _ h tk _ ext (Nat.le_trans ge (Nat.le_of_lt lt)) tab.2 tr
/-- the heap g, in which all but the table at P stands as in s; the table has grown -/
structure Grown (P : Addr) (h g : Heap) : Prop where
  old : ∀ b u, b ≠ P → h.get? b = some u → g.get? b = some u
  tbl : ∃ qs : Array Value, g.get? P = some { cls := .none, data := .fields qs } ∧ TriplesOk qs.toList
theorem Grown.hok {Pg : Program} {w : World} {P : Addr} {h g : Heap} (x : Grown P h g) (I : HOk Pg w H h) (hP : H P = some (TblO P)) : HOk Pg w H g :=
  let ⟨_, e, t⟩ := x.tbl; hok_tabX I hP x.old e t
theorem Grown.inv {P : Addr} {s2 : Shared} (x : Grown P s.heap s2.heap) (I : Inv X pins σ H s) (hP : H P = some (TblO P)) (hg : AllBare s2.gens) (ho : s2.os = s.os) : Inv X pins σ H s2 := by
  obtain ⟨_, e, t⟩ := x.tbl
  have J := inv_tabX (h' := s2.heap) (g' := s2.gens) (d' := s2.drawn) (t' := s2.toks) I hP x.old e t hg
  cases s2
  cases ho
  exact J
/-- the tuple's iterator at the place i stands at j in the heap h -/
abbrev TupIt (i y : Addr) (its : Array Value) : Nat → Heap → Prop := fun j h => h.IsTupleIter i y j ∧ h.IsTuple y its
theorem gen_tup {c P : Addr} {elt iter : Expr} {x : Str} {px gpos : Pos} {scope : Scope} {te : TE} {k : Nat} {Q' : Value → Shared → Prop} {R : List V → (Nat → Bool) → Hp → Prop}
    (hr : Room k X.A) (TB : TabB X.base X.mg c P) (hcode : X.env.code = .ref c) (S : GenS X.env scope x) (hi : PE X iter te)
    (hs : ∀ v, genFold iter X.env v = pure v) (I : Inv X pins σ H s) (h : te σ H fun v H1 => ∃ (a : Addr) (xs : List V) (pb : Nat → Bool), v = .ref a ∧ SqT X.K H1 a xs ∧ H1 P = some (TblO P) ∧ (∀ pins, EltT X pins σ H1 scope x elt xs pb) ∧ R xs pb H1)
    (hQ : ∀ xs pb H1 g s5, R xs pb H1 → ReadyT X pins σ H1 xs.length pb g s5 → Q' (.ref g) s5) :
    wpAny (model X.prog X.w) X.A (eval (.GeneratorExp elt [⟨.Name x px, iter, [], 0⟩] scope gpos) X.env) Q' X.xe s := by
  have dep : X.A.depth < recursionLimit := by have d := hr.dp; omega
  refine wpAny_GeneratorExp_walksQD hr.hd S.co (closure_ok S.free) S.cell S.dot S.loc S.kind dep (wpAny_mono (hi.run pins s σ H _ I h) ?_ fun _ _ e => e) hs
  rintro xv s1 ⟨v, H1, I1, r1, yl, xs, pb, rfl, hyl, hP, hel, q1⟩
  cases (show xv = Value.ref yl from r1)
  obtain ⟨its, rv, hl, -⟩ := I1.tuple hyl
  obtain ⟨ps, hps, ht⟩ := tblO_at (I1.hok P _ hP)
  have sizes : its.toArray.size = xs.length := by rw [List.size_toArray, rv.length]
  -- where things stand
  have y_lt : yl < s1.heap.objs.size := hl.lt
  have p_lt : P < s1.heap.objs.size := Heap.lt_size hps
  have y_ne : yl ≠ P := by
    rintro rfl
    obtain ⟨_, e, _, _, d⟩ := hl
    rw [hps] at e; cases e; cases d
  have st_ne : cStatics ≠ P := by
    obtain ⟨_, ⟨_, _, _, e, d, _⟩, _⟩ := I1.nolimit
    rintro z
    rw [z, hps] at e; cases e; cases d
  have st_lt : cStatics < s1.heap.objs.size := by
    obtain ⟨_, q, _⟩ := I1.nolimit
    exact q.lt
  refine wpAny_pyIter_tuple hl ⟨I1.nolimit.push _, ?_⟩
  have push : ∀ {b : Addr} {u : Obj} (o : Obj), s1.heap.get? b = some u → (s1.heap.push o).get? b = some u := fun o e => Heap.get?_push_of_some o e
  refine code_grows hcode (TB.code.keeps fun b u e => push _ (I1.bk b u e)) (push _ hps) ht fun code h3 tk qs ext sz tb3 tr3 => ?_
  simp only [Heap.size_push] at sz
  have up : ∀ b u, b ≠ P → s1.heap.get? b = some u → h3.get? b = some u := fun b u n e => ext b u n (push _ e)
  obtain ⟨bm, ob, m1, m2, m3, -, m5, m6, m7, m8⟩ := TB.bm
  have glob : h3.Ns X.env.globals X.mg := by
    rw [I1.ok.glob]
    exact ((I1.mod.glob.keeps I1.bk).push _).extBut ext TB.gP
  have bm_ne : bm ≠ P := by
    rintro rfl
    have e := I1.bk _ _ m5
    rw [hps] at e; cases e; cases m8
  refine wpAny_builtinsFor (m := X.mg) glob m1 m2 (up _ _ bm_ne (I1.bk _ _ m5)) m6 m7 m8 ?_
  -- the walk
  have it0 : TupIt s1.heap.objs.size yl its.toArray 0 h3 := by
    refine ⟨?_, ?_⟩
    · exact ⟨_, ext _ _ (Nat.ne_of_gt p_lt) (Heap.get?_push_size _ rfl), rfl, rfl⟩
    · obtain ⟨u, e, r⟩ := hl
      exact ⟨u, up _ _ y_ne e, r⟩
  have grown : ∀ g : Heap, (∀ b u, h3.get? b = some u → b ≠ s1.heap.objs.size → g.get? b = some u) → Grown P s1.heap g := fun g q =>
    ⟨fun b u n e => q b u (up b u n e) (Nat.ne_of_lt (Heap.lt_size e)), qs, q P _ tb3 (Nat.ne_of_lt p_lt), tr3⟩
  refine ⟨_, [s1.heap.objs.size, yl], [s1.heap.objs.size], its.toArray.size, _, TupIt s1.heap.objs.size yl its.toArray, (fun _ => true), (fun i y => y = .bool (pb i)), rfl, (fun A' hA => PySem.Walks.tuple hA _ _ (Nat.ne_of_lt y_lt) _), it0, ?_, (I1.nolimit.push _).extBut ext st_ne, ?_, ?_, ?_⟩
  · simp only [List.mem_cons, List.not_mem_nil, or_false]
    rintro b (rfl | rfl)
    · exact sz
    · exact Nat.lt_trans y_lt sz
  · simp only [List.mem_cons, List.not_mem_nil, or_false]
    exact Nat.ne_of_lt st_lt
  · intro href hh
    refine ⟨?_, ?_⟩
    · intro A' E' i v s₂ m₂ _ _ _ _ _ _ _
      simp only [List.forIn_nil]
      exact wpAny_pure ⟨rfl, keeps_refl _⟩
    · intro A' E' i v s₂ m₂ hA _ hu hv _ hn hm hk
      have hv2 : its[i]? = some v := by simpa using hv
      obtain ⟨y, hy⟩ : ∃ y, xs[i]? = some y := ⟨xs[i]'(by have := (List.getElem?_eq_some_iff.mp hv2).1; rw [rv.length]; exact this), List.getElem?_eq_getElem _⟩
      obtain ⟨v', hv', ru⟩ := rv.get hy
      rw [hv2] at hv'; cases hv'
      have gr := grown s₂.heap fun b u e n => hk b (List.mem_range.mpr (Heap.lt_size e)) (by simpa using n) u (hh b u e)
      exact hel pins s1 I1 _ A' E' i y v s₂ m₂ rfl rfl hA hu (gr.hok I1.hok hP) (fun b o n e => gr.old b o (fun z => by rw [z, hP] at n; cases n) e) hy ru hn hm
  · intro g h5 tk5 gs bare gt _ keep W at_
    simp only [GxR.passing_true, List.length_range, sizes] at W at_
    refine hQ xs pb H1 g _ q1 ⟨_, _, _, _, _, W.in4_1, at_, ?_, fun s' mv => ?_⟩
    · rintro j y sj Qj Ej ⟨i, hij, rfl⟩ hq
      obtain ⟨_, ej⟩ := List.getElem?_eq_some_iff.mp hij
      rw [List.getElem_range] at ej
      subst ej
      exact wpAny_truthy_bool hq
    · refine (grown s'.heap fun b u e n => mv.heap b u ?_ (keep b u e)).inv I1 hP (AllBare.movedS (I1.bare.push bare) mv) mv.os
      simp only [List.mem_cons, List.not_mem_nil, or_false]
      rintro (z | z)
      · exact absurd (Heap.lt_size e) (by rw [z]; exact Nat.lt_irrefl _)
      · exact n z

/-- all(..), any(..) over a tuple -/
def tQ (all : Bool) (X : Cx) (P : Addr) (scope : Scope) (x : Str) (elt : Expr) (te : TE) : TE := fun σ H Q => te σ H fun v H1 => ∃ (a : Addr) (xs : List V) (pb : Nat → Bool), v = .ref a ∧ SqT X.K H1 a xs ∧ H1 P = some (TblO P) ∧ (∀ pins, EltT X pins σ H1 scope x elt xs pb) ∧
  Q (.bl (if all = true then (List.range xs.length).all pb else (List.range xs.length).any pb)) H1
theorem pe_q {all : Bool} {c P : Addr} {elt iter : Expr} {x fn : Str} {px p pos gpos : Pos} {scope : Scope} {te : TE} {k : Nat} (hfn : fn = if all = true then "all" else "any")
    (hr : Room k X.A) (hg : Gl X fn) (hm : X.mg fn = none) (TB : TabB X.base X.mg c P) (hcode : X.env.code = .ref c) (S : X.Ok → GenS X.env scope x) (hi : PE X iter te)
    (hs : ∀ v, genFold iter X.env v = pure v) :
    PE X (.Call (.Name fn p) [.GeneratorExp elt [⟨.Name x px, iter, [], 0⟩] scope gpos] [] pos) (tQ all X P scope x elt te) := by
  have he : starEach [.GeneratorExp elt [⟨.Name x px, iter, [], 0⟩] scope gpos] X.env = (false, eval (.GeneratorExp elt [⟨.Name x px, iter, [], 0⟩] scope gpos) X.env) :: starEach [] X.env := by rfl
  refine ⟨fun pins s σ H Q I h => ?_⟩
  have G := fun (Q' : Value → Shared → Prop) (hQ : ∀ (xs : List V) (pb : Nat → Bool) (H1 : Hp) (g : Addr) (s5 : Shared), Q (.bl (if all = true then (List.range xs.length).all pb else (List.range xs.length).any pb)) H1 → ReadyT X pins σ H1 xs.length pb g s5 → Q' (.ref g) s5) => gen_tup (elt := elt) (px := px) (gpos := gpos) (Q' := Q') (R := fun xs pb H1 => Q (.bl (if all = true then (List.range xs.length).all pb else (List.range xs.length).any pb)) H1) hr TB hcode (S I.ok) hi hs I h hQ
  cases all with
  | true =>
    simp only [if_true] at hfn
    subst hfn
    refine wpAny_Call_Name_kw (ld_blt I hg hm (show bootBuiltins "all" = some (.builtin "all") by decide +kernel) ?_)
    refine PyProof.Rows.callWith_builtin1 ?_ he (by rfl)
    rw [he]
    show wpAny _ _ (spliced ((false, eval (.GeneratorExp elt [⟨.Name x px, iter, [], 0⟩] scope gpos) X.env) :: backTo pos (starEach [] X.env))) _ _ s
    refine Calls.spliced_cons (G _ fun xs pb H1 g s5 hR hG => ?_)
    obtain ⟨fp, wr, Gr, F, St, W, hst, htr, hI⟩ := hG
    refine Calls.spliced_nil ?_
    refine call_all_walkS (W.self 0 _ _ _ hst ⟨g, fp, wr, Gr, _, F, St, _, rfl, W, hst, htr, fun s' hmv => ?_⟩)
    exact ⟨.bl _, H1, hI s' hmv, rfl, hR⟩
  | false =>
    simp only [Bool.false_eq_true, if_false] at hfn
    subst hfn
    refine wpAny_Call_Name_kw (ld_blt I hg hm boot_any ?_)
    refine PyProof.Rows.callWith_builtin1 ?_ he (by rfl)
    rw [he]
    show wpAny _ _ (spliced ((false, eval (.GeneratorExp elt [⟨.Name x px, iter, [], 0⟩] scope gpos) X.env) :: backTo pos (starEach [] X.env))) _ _ s
    refine Calls.spliced_cons (G _ fun xs pb H1 g s5 hR hG => ?_)
    obtain ⟨fp, wr, Gr, F, St, W, hst, htr, hI⟩ := hG
    refine Calls.spliced_nil ?_
    refine call_any_walkS (W.self 0 _ _ _ hst ⟨g, fp, wr, Gr, _, F, St, _, rfl, W, hst, htr, fun s' hmv => ?_⟩)
    exact ⟨.bl _, H1, hI s' hmv, rfl, hR⟩

/-! ### x in d -/
theorem elt_in {scope : Scope} {x d : Str} {j : Nat} {p1 p2 p3 : Pos} {H1 : Hp} {a : Addr} {kvs : List (List Key × V)} {xs : List V} {kks : List (List Key)}
    (hk : scope.kind = .function) (hl : scope.names.lookup x = some .local) (hf : scope.names.lookup d = some .free) (hcf : X.Ok → ∀ y ∈ scope.names, y.2 = .free → ∃ c, X.env.cells.lookup y.1 = some c)
    (hdx : (x == ("__debug__" : Str)) = false) (hdd : (d == ("__debug__" : Str)) = false) (hcd : (d == ("__classdict__" : Str)) = false)
    (hN : X.N[j]? = some d) (hv : X.env.scope.names.lookup d = some .cell) (hσ : σ[j]? = some (some (.ref a))) (hd : H1 a = some (.dT kvs))
    (hx : ∀ (i : Nat) (v : V), xs[i]? = some v → ∃ (b : Addr) (k : List Key), v = V.ref b ∧ H1 b = some (.tup (k.map kV)) ∧ kks[i]? = some k) (hu : X.A.units + 65 < cLine) :
    EltT X pins σ H1 scope x (.Compare (.Name x p1) [.In] [.Name d p2] p3) xs (fun i => match kks[i]? with | some k => (valV kvs k).isSome | none => false) := by
  intro s1 I1 cenv A' E' i v u s₂ m₂ hs hc hA hU hok hkeep hxi ru hn hm
  obtain ⟨b, k, rfl, hb, hk'⟩ := hx i v hxi
  obtain rfl : u = Value.ref b := ru
  obtain ⟨m, hns, hloc⟩ := I1.loc
  obtain ⟨w, rw_, look⟩ := hloc j d (.ref a) hN hσ (.inr (.inl hv))
  obtain rfl : w = Value.ref a := rw_
  rcases look with ⟨z, _⟩ | ⟨_, c, hcl, hcell⟩
  · rw [show X.env.kindOf d = some .cell from hv] at z; cases z
  have hcell2 : s₂.heap.IsCell c (some (.ref a)) := let ⟨o, ho, hd⟩ := hcell; ⟨o, hkeep c o (I1.freeC d c hcl) ho, hd⟩
  refine wpAny_Compare1 ?_
  refine wpAny_Name (wpAny_loadName_local (by rw [hs]; exact hk) (show cenv.scope.names.lookup x = some .local by rw [hs]; exact hl) hn hm ?_) hdx
  refine wpAny_Name (wpAny_loadName_free (c := c) (by rw [hs]; exact hk) (show cenv.scope.names.lookup d = some .free by rw [hs]; exact hf) (by rw [hc]; exact NdefX.clo_has (hcf I1.ok) (PySem.mem_of_lookup hf) hcl) hcell2 ?_ hcd) hdd
  obtain ⟨z, hd', ys, rel, dd⟩ := dt_of hok hd
  refine wpAny_in_heap (tupleKind_room_in1 (by omega)) (key_of hok hb) hd' dd ?_
  have q := (rel.val k).isSome_eq
  rw [Option.isSome_map] at q
  rw [← q]
  simp only [hk']
  exact ⟨trivial, keeps_tok _ _⟩
end
theorem valT_isSome {K : PySem.W.Frag} {B : Hp} {ks : List (List Key)} {ds : List D} {k : List Key} {kvs : List (List Key × V)} (hk : kvs.map (·.1) = ks) (r : Reps K B (kvs.map (·.2)) ds) : (valV kvs k).isSome = ks.any fun k' => decide (k' = k) := by
  subst hk
  have hl : (kvs.map (·.1)).length = ds.length := by rw [← r.length]; simp
  rw [← look_any hl]
  obtain ⟨i1, i2⟩ := valV_look (k := k) r
  cases q : lookD k (kvs.map (·.1)) ds with
  | none => rw [i2 q]; rfl
  | some d => obtain ⟨v, h, _⟩ := i1 d q; rw [h]; rfl
def isFreeK : NameKind → Bool | .free => true | _ => false
def isCellK : NameKind → Bool | .cell => true | _ => false
/-- the scope of a generator expression in a def, and its name -/
def genC (sc scope : Scope) (x : Str) : Bool := (match scope.kind with | .function => true | _ => false) && !scope.isCoroutine && scope.names.all (fun y => !isCellK y.2 && (!isFreeK y.2 || cfS sc y.1)) && loS scope ".0" && loS scope x
theorem loS_at {sc : Scope} {x : Str} (h : loS sc x = true) : sc.names.lookup x = some .local := by
  unfold loS at h; split at h <;> rename_i e <;> first | exact e | cases h
theorem genS_of {X : Cx} {N : List Str} {sc scope : Scope} {x : Str} {k : Nat} (g : Good X N sc k) (h : genC sc scope x = true) : (scope.kind = .function ∧ scope.names.lookup x = some .local) ∧ ∀ ok : X.Ok, GenS X.env scope x := by
  unfold genC at h
  simp only [Bool.and_eq_true, List.all_eq_true, Bool.not_eq_true', Bool.or_eq_true] at h
  obtain ⟨⟨⟨⟨h1, h2⟩, h3⟩, h4⟩, h5⟩ := h
  have hk : scope.kind = .function := by
    cases q : scope.kind <;> first | rfl | (rw [q] at h1; cases h1)
  refine ⟨⟨hk, loS_at h5⟩, fun ok => ⟨hk, h2, fun y hy e => ?_, loS_at h4, loS_at h5, fun y hy e => ?_⟩⟩
  · have := (h3 y hy).1
    rw [e] at this; cases this
  · rcases (h3 y hy).2 with z | z
    · rw [e] at z; cases z
    · exact ok.has y.1 (g.cf y.1 z)
theorem keysL_at : ∀ {l : List D} {kks : List (List Key)} {i : Nat} {d : D}, keysL l = some kks → l[i]? = some d → ∃ k, kks[i]? = some k ∧ keyT d = some k
  | [], _, _, _, _, h => by simp at h
  | x :: l, kks, i, d, h, hi => by
    simp only [keysL] at h
    obtain ⟨k, h1, h⟩ := Option.bind_eq_some_iff.mp h
    obtain ⟨r, h2, rfl⟩ := Option.map_eq_some_iff.mp h
    cases i with
    | zero => cases hi; exact ⟨k, rfl, h1⟩
    | succ i => obtain ⟨k', a, b⟩ := keysL_at h2 (by simpa using hi); exact ⟨k', by simpa using a, b⟩
theorem keysL_len : ∀ {l : List D} {kks : List (List Key)}, keysL l = some kks → kks.length = l.length
  | [], _, h => by cases h; rfl
  | x :: l, kks, h => by
    simp only [keysL] at h
    obtain ⟨k, h1, h⟩ := Option.bind_eq_some_iff.mp h
    obtain ⟨r, h2, rfl⟩ := Option.map_eq_some_iff.mp h
    simp [keysL_len h2]
theorem range_all {A : Type} {p : A → Bool} {f : Nat → Bool} : ∀ {l : List A}, (∀ i a, l[i]? = some a → f i = p a) → (List.range l.length).all f = l.all p := fun {l} h => by
  rw [Bool.eq_iff_iff, List.all_eq_true, List.all_eq_true]
  constructor
  · intro q b hb
    obtain ⟨j, hj, e⟩ := List.getElem_of_mem hb
    rw [← h j b (by rw [List.getElem?_eq_getElem hj, e])]
    exact q j (List.mem_range.mpr hj)
  · intro q j hj
    have hj' := List.mem_range.mp hj
    rw [h j _ (List.getElem?_eq_getElem hj')]
    exact q _ (List.getElem_mem hj')
theorem range_any {A : Type} {p : A → Bool} {f : Nat → Bool} {l : List A} (h : ∀ i a, l[i]? = some a → f i = p a) : (List.range l.length).any f = l.any p := by
  have := range_all (p := fun a => !p a) (f := fun i => !f i) (l := l) fun i a e => by rw [h i a e]
  rw [List.all_eq_not_any_not, List.all_eq_not_any_not] at this
  simpa using this
def plainN : Expr → Bool
  | .List _ _ => false
  | e => plainE e
theorem plainN_fold {e : Expr} {env : Env} (h : plainN e = true) : ∀ v, genFold e env v = pure v := by
  cases e <;> first | exact fun _ => rfl | cases h
theorem ev_qin {all : Bool} {N : List Str} {sc scope : Scope} {k : Nat} {X : Cx} {Γ : MEnv} {ρ : DEnv} {iter : Expr} {x d fn : Str} {px p p1 p2 p3 pos gpos : Pos} {j : Nat} {l : List D} {kks ks : List (List Key)} {ds : List D}
    (g : Good X N sc k) (hfn : fn = if all = true then "all" else "any") (hm : X.mg fn = none) (hg : glS sc fn = true) (hgen : ∃ c P, (c, P) ∈ TbC.ts ∧ X.env.code = .ref c ∧ GxR.TabB X.base X.mg c P)
    (hC : genC sc scope x = true) (hpl : plainN iter = true) (hf : scope.names.lookup d = some .free) (hce : ceS sc d = true)
    (hdx : (x == ("__debug__" : Str)) = false) (hdd : (d == ("__debug__" : Str)) = false) (hcd : (d == ("__classdict__" : Str)) = false) (hN : N[j]? = some d)
    (hi : EvM .bo X iter Γ ρ (.tup l)) (hl : keysL l = some kks) (hρ : ρ[j]? = some (some (.dit ks ds))) (hno : Γ[j]? ≠ some Md.od) :
    EvM .sh X (.Call (.Name fn p) [.GeneratorExp (.Compare (.Name x p1) [.In] [.Name d p2] p3) [⟨.Name x px, iter, [], 0⟩] scope gpos] [] pos) Γ ρ
      (.bl (if all = true then kks.all (fun k => ks.any fun k' => decide (k' = k)) else kks.any (fun k => ks.any fun k' => decide (k' = k)))) := fun lv B0 H0 B H σ S Q q => by
  obtain ⟨c, P, hts, hcode, TB⟩ := hgen
  obtain ⟨⟨hk, hlx⟩, hS⟩ := genS_of g hC
  refine of_pe (pe_q hfn g.room (g.gl _ hg) hm TB hcode hS pe_of (plainN_fold hpl)) ?_
  refine hi lv B0 H0 B H σ S _ fun v B1 H1 x1 r1 => ?_
  have S1 := S.grow x1
  obtain ⟨vd, h3, h4⟩ := S1.read hρ hno
  obtain ⟨a, kvs, rfl, ha, hks, o, r⟩ := bor_dit x1.bh h4
  obtain ⟨at_, xs, rfl, hx, rx⟩ := bor_tup r1
  have hlx2 : xs.length = kks.length := by rw [rx.length, keysL_len hl]
  refine ⟨at_, xs, _, rfl, SqT.of (x1.bh _ _ hx), x1.bh _ _ ((S.tabs.mono (S.ext.bb.trans x1.bb)) (c, P) hts), fun pins => elt_in hk hlx hf (fun ok => (hS ok).free) hdx hdd hcd (by rw [g.hN]; exact hN) (g.ce d hce) h3 ha (kks := kks) (fun i v hv => ?_) g.hu, ?_⟩
  · obtain ⟨dd, h5, h6⟩ := rx.get hv
    obtain ⟨kk, h7, h8⟩ := keysL_at hl h5
    obtain ⟨b, h9, h10, _⟩ := keyT_V x1.bh h8 (.inl h6)
    exact ⟨b, kk, h9, h10, h7⟩
  · have e : ∀ (i : Nat) (kk : List Key), kks[i]? = some kk → (match kks[i]? with | some k => (valV kvs k).isSome | none => false) = ks.any fun k' => decide (k' = kk) := fun i kk h => by
      rw [h]; exact valT_isSome hks r
    rw [hlx2]
    cases all with
    | true =>
      simp only [if_true]
      rw [range_all e]
      exact q _ B1 H1 x1 (.bl _)
    | false =>
      simp only [Bool.false_eq_true, if_false]
      rw [range_any e]
      exact q _ B1 H1 x1 (.bl _)
end DL

set_option Elab.async false
set_option linter.all false
set_option maxRecDepth 100000
set_option maxHeartbeats 4000000
namespace DL
open PySem PySem.Spec L2
variable [TbC]

/-! ### from the text to the little language -/
def ixOf (x : Str) : List Str → Nat → Option Nat
  | [], _ => none
  | y :: r, i => if y = x then some i else ixOf x r (i + 1)
theorem ixOf_at {x : Str} : ∀ {N : List Str} {i j : Nat}, ixOf x N i = some j → i ≤ j ∧ N[j - i]? = some x
  | [], _, _, h => by simp [ixOf] at h
  | y :: r, i, j, h => by
    simp only [ixOf] at h
    split at h
    · rename_i e; cases h; subst e; simp
    · obtain ⟨h1, h2⟩ := ixOf_at h
      refine ⟨by omega, ?_⟩
      rw [show j - i = (j - (i + 1)) + 1 by omega]
      simpa using h2
theorem ixOf_0 {x : Str} {N : List Str} {j : Nat} (h : ixOf x N 0 = some j) : N[j]? = some x := by simpa using (ixOf_at h).2
def ownOf (N : List Str) (scope : Scope) : List (Str × Nat) := scope.names.filterMap fun (y, k) => match k with
  | .local => (ixOf y N 0).map fun i => (y, i)
  | .cell => (ixOf y N 0).map fun i => (y, i)
  | _ => none
def nameOk (x : Str) : Bool := !(x == ("__debug__" : Str)) && !(x == ("__classdict__" : Str))
def fnIx (f : Str) : List (Str × List Md) → Nat → Option Nat
  | [], _ => none
  | (g, _) :: r, i => if g = f then some i else fnIx f r (i + 1)
section
variable (N : List Str) (fs : List (Str × List Md))
/-- a target: names, tuples of names -/
def cT : Nat → Scope → Expr → Option T
  | 0, _, _ => none
  | n + 1, sc, .Name x _ => if stS sc x then (ixOf x N 0).map .nm else none
  | n + 1, sc, .Tuple es _ _ => (cTs n sc es).map .tp
  | _, _, _ => none
where cTs : Nat → Scope → List Expr → Option T
  | _, _, [] => some .nl
  | 0, _, _ => none
  | n + 1, sc, e :: es => (cT n sc e).bind fun h => (cTs n sc es).map fun t => .cn h t
def tyOf (x : Str) : Option String := if x = "list" then some "list" else if x = "tuple" then some "tuple" else if x = "dict" then some "dict" else if x = "str" then some "str" else if x = "int" then some "int" else if x = "bool" then some "bool" else none
inductive Blt where | len | list | tuple | int | isi | sorted | max | min
inductive Mth where | starts | join | get | index
def bk (g : Str) : Option Blt := if g = "len" then some .len else if g = "list" then some .list else if g = "tuple" then some .tuple else if g = "int" then some .int else if g = "isinstance" then some .isi else if g = "sorted" then some .sorted else if g = "max" then some .max else if g = "min" then some .min else none
def mk (g : Str) : Option Mth := if g = "startswith" then some .starts else if g = "join" then some .join else if g = "get" then some .get else if g = "index" then some .index else none
def itemsOf : Expr → Option Expr
  | .Call (.Attribute o m apos) [] [] cpos => if m = "items" ∧ plainB o = true ∧ (apos.endLine == cpos.line) = true then some o else none
  | _ => none
/-- range(a), range(a, b) -/
def rngOf (sc : Scope) : Expr → Option (Expr × Option Expr)
  | .Call (.Name g _) es [] _ => if g = "range" ∧ glS sc g = true ∧ plainEs es = true then (match es with
    | [a] => some (a, none)
    | [a, b] => some (a, some b)
    | _ => none) else none
  | _ => none
/-- zip(a, b), the target a tuple -/
def zipOf (sc : Scope) (tp : Bool) : Expr → Option (Expr × Expr)
  | .Call (.Name g _) [a, b] [] _ => if tp = true ∧ g = "zip" ∧ glS sc g = true ∧ plainE a = true ∧ plainE b = true then some (a, b) else none
  | _ => none
/-- enumerate(a), the target a tuple -/
def enOf (sc : Scope) (tp : Bool) : Expr → Option Expr
  | .Call (.Name g _) [a] [] _ => if tp = true ∧ g = "enumerate" ∧ glS sc g = true ∧ plainE a = true then some a else none
  | _ => none
/-- what the module's own constants are, wherever the end finds them so -/
def constOf (x : Str) : Option D := if x = "LETTERS" then some (.str "abcdefghijklmnopqrstuvwxyz") else if x = "FIGURES" then some (.str "0123456789") else if x = "MOST_SIGNS" then some (.int 8) else if x = "MOST_THINGS_OF_FACT" then some (.int 3) else if x = "MOST_YESES_AND_NOTS" then some (.int 6) else if x = "MOST_SLOTS" then some (.int 3)
  else if x = "MOST_GIVEN" then some (.int 60) else if x = "MOST_RULES" then some (.int 20) else if x = "MOST_THINGS" then some (.int 8) else if x = "MOST_FILLED" then some (.int 2000) else none
/-- marks among the names of the defs: dicts made here have tuple keys; deque is the module's -/
def isMark (x : Str) : Bool := x == ("{}" : Str) || x == ("deque" : Str) || x == ("<genexpr>" : Str) || (constOf x).isSome
/-- defs that give what is new: one's own -/
def ownRets : List Str := ["marked"]
def ownC (sc : Scope) : Expr → Option (Str × List Expr)
  | .Call (.Name g _) (a :: es) [] _ => if ownRets.contains g && glS sc g && plainEs (a :: es) && nameOk g then some (g, a :: es) else none
  | _ => none
theorem ownC_eq {sc : Scope} {e : Expr} {g : Str} {es : List Expr} (h : ownC sc e = some (g, es)) : ∃ p pos, e = .Call (.Name g p) es [] pos ∧ es ≠ [] ∧ ownRets.contains g = true ∧ glS sc g = true ∧ plainEs es = true ∧ nameOk g = true := by
  unfold ownC at h
  split at h
  · split at h
    · rename_i c
      simp only [Bool.and_eq_true] at c
      cases h
      exact ⟨_, _, rfl, by simp, c.1.1.1, c.1.1.2, c.1.2, c.2⟩
    · cases h
  · cases h
def isEmptyD : Expr → Bool
  | .Dict [] [] _ => true
  | _ => false
/-- x.setdefault(k, []).append(e) -/
def sdefOf : Expr → Option (Str × Expr × Expr)
  | .Call (.Attribute (.Call (.Attribute (.Name x _) m1 apos) [k, .List [] _] [] cpos) m2 apos2) [e] [] cpos2 => if m1 = ("setdefault" : Str) && m2 = ("append" : Str) && apos.endLine == cpos.line && apos2.endLine == cpos2.line && plainE k && plainE e then some (x, k, e) else none
  | _ => none
/-- x.popleft() -/
def popOf : Expr → Option Str
  | .Call (.Attribute (.Name y _) m apos) [] [] cpos => if m = ("popleft" : Str) && apos.endLine == cpos.line then some y else none
  | _ => none
/-- {} ; {**x, k: v} -/
def dispOf : List (Option Expr) → List Expr → Option (Option (Str × Expr × Expr))
  | [], [] => some none
  | [none, some k], [.Name x _, v] => some (some (x, k, v))
  | _, _ => none
/-- {k: v} -/
def d1Of : List (Option Expr) → List Expr → Option (Expr × Expr)
  | [some k], [v] => some (k, v)
  | _, _ => none
theorem d1Of_eq {ks : List (Option Expr)} {vs : List Expr} {k v : Expr} (h : d1Of ks vs = some (k, v)) : ks = [some k] ∧ vs = [v] := by
  unfold d1Of at h
  split at h
  · cases h; exact ⟨rfl, rfl⟩
  · cases h
theorem dispOf_none {ks : List (Option Expr)} {vs : List Expr} (h : dispOf ks vs = some none) : ks = [] ∧ vs = [] := by
  unfold dispOf at h
  split at h
  · exact ⟨rfl, rfl⟩
  · cases h
  · cases h
theorem dispOf_some {ks : List (Option Expr)} {vs : List Expr} {x : Str} {k v : Expr} (h : dispOf ks vs = some (some (x, k, v))) : ∃ p, ks = [none, some k] ∧ vs = [.Name x p, v] := by
  unfold dispOf at h
  split at h
  · cases h
  · cases h; exact ⟨_, rfl, rfl⟩
  · cases h
def setC : Expr → Option (Expr × Comprehension × Comprehension × Scope)
  | .SetComp elt [c0, c1] scope _ => some (elt, c0, c1, scope)
  | _ => none
def setC1 : Expr → Option (Expr × Comprehension × Scope)
  | .SetComp elt [c0] scope _ => some (elt, c0, scope)
  | _ => none
def notTup : Expr → Bool
  | .Tuple _ _ _ => false
  | .List _ _ => false
  | _ => true
def starE : Expr → Option Expr
  | .Starred x _ => some x
  | _ => none
def isTup : Expr → Bool
  | .Tuple _ _ _ => true
  | _ => false
def isFr (scope : Scope) (d : Str) : Bool := match scope.names.lookup d with | some .free => true | _ => false
theorem isFr_at {sc : Scope} {x : Str} (h : isFr sc x = true) : sc.names.lookup x = some .free := by
  unfold isFr at h; split at h <;> rename_i e <;> first | exact e | cases h
/-- all(x in d for x in it), any(..) -/
def qinOf (sc : Scope) (g : Str) : List Expr → Option (Bool × Expr × Nat)
  | [.GeneratorExp (.Compare (.Name x _) [.In] [.Name d _] _) [⟨.Name x' _, iter, [], ia⟩] scope _] =>
    if (g = "all" ∨ g = "any") ∧ x' = x ∧ ia = 0 ∧ genC sc scope x = true ∧ plainN iter = true ∧ isFr scope d = true ∧ ceS sc d = true ∧ nameOk x = true ∧ nameOk d = true then (ixOf d N 0).map fun i => (decide (g = "all"), iter, i) else none
  | _ => none
theorem qinOf_eq {sc : Scope} {g : Str} {es : List Expr} {all : Bool} {iter : Expr} {i : Nat} (h : qinOf N sc g es = some (all, iter, i)) :
    ∃ (x d : Str) (p1 p2 p3 px gpos : Pos) (scope : Scope), es = [.GeneratorExp (.Compare (.Name x p1) [.In] [.Name d p2] p3) [⟨.Name x px, iter, [], 0⟩] scope gpos] ∧ g = (if all = true then "all" else "any") ∧ genC sc scope x = true ∧ plainN iter = true ∧ isFr scope d = true ∧ ceS sc d = true ∧ nameOk x = true ∧ nameOk d = true ∧ ixOf d N 0 = some i := by
  unfold qinOf at h
  split at h
  · split at h
    · rename_i c
      obtain ⟨c1, rfl, rfl, c4, c5, c6, c7, c8, c9⟩ := c
      obtain ⟨j, e, q⟩ := Option.map_eq_some_iff.mp h
      cases q
      refine ⟨_, _, _, _, _, _, _, _, rfl, ?_, c4, c5, c6, c7, c8, c9, e⟩
      rcases c1 with rfl | rfl
      · simp
      · simp; decide
    · cases h
  · cases h
mutual
def cE : Nat → Scope → Expr → Option E
  | 0, _, _ => none
  | n + 1, sc, .Name x _ => if visS sc x && nameOk x then (ixOf x N 0).map .var else if glS sc x && nameOk x && (fnIx x fs 0).isSome then (constOf x).map .con else none
  | n + 1, sc, .Constant c _ _ => match c with
    | .none => some (.con .non)
    | .bool b => some (.con (.bl b))
    | .int i => some (.con (.int i))
    | .str s => if PyData.strOk s && decide (s.length ≤ lim) then some (.con (.str s)) else none
    | _ => none
  | n + 1, sc, .BinOp a op b _ => (binO op).bind fun o => (cE n sc a).bind fun x => (cE n sc b).map fun y => .op2 o x y
  | n + 1, sc, .UnaryOp .Not a _ => (cE n sc a).map .not
  | n + 1, sc, .UnaryOp .USub a _ => (cE n sc a).map (.op1 .neg)
  | n + 1, sc, .BoolOp op (a :: r) pos => match r with
    | [] => cE n sc a
    | b :: rest => (cE n sc a).bind fun x => (cE n sc (.BoolOp op (b :: rest) pos)).map fun y => (match op with | .And => .and x y | .Or => .or x y)
  | n + 1, sc, .Compare a [op] [b] _ => if plainE b then (cE n sc a).bind fun x => (cE n sc b).map fun y => .op2 (cmpO op) x y else none
  | n + 1, sc, .Compare a [op, op'] [b, c] _ => if plainE b && plainE c then (cE n sc a).bind fun x => (cE n sc b).bind fun y => (cE n sc c).map fun z => .chain (cmpO op) (cmpO op') x y z else none
  | n + 1, sc, .IfExp c a b _ => (cE n sc c).bind fun z => (cE n sc a).bind fun x => (cE n sc b).map fun y => .ite z x y
  | n + 1, sc, .Subscript a b _ => match b with
    | .Slice lo hi none _ => (cE n sc a).bind fun x => (cO n sc lo).bind fun l => (cO n sc hi).map fun h => .sl x l h
    | b => if plainE b then (cE n sc a).bind fun x => (cE n sc b).map fun y => .op2 .ix x y else none
  | n + 1, sc, .List es _ => (cA n sc es).map .lst
  | n + 1, sc, .Tuple es _ _ => (cA n sc es).map .tup
  | n + 1, sc, .Dict ks vs _ => match d1Of ks vs with
    | some (k, v) => (cE n sc k).bind fun y => (cE n sc v).map fun z => .d1 y z
    | none => (dispOf ks vs).bind fun o => (match o with
    | none => some (if (fnIx "{}" fs 0).isSome then .dnewT else .dnew)
    | some (x, k, v) => if visS sc x && nameOk x then (ixOf x N 0).bind fun i => (cE n sc k).bind fun y => (cE n sc v).map fun z => .dput i y z else none)
  | n + 1, sc, .ListComp elt [⟨tg, iter, ifs, ia⟩] scope _ =>
    if ia = 0 && blkC N sc scope (ownOf N scope) && plainE iter then
      (cI n sc (isTup tg) iter).bind fun it => (cT N n scope tg).bind fun t => (cE n scope elt).bind fun e => ((match ifs with
        | [] => some E.nop
        | [c] => cE n scope c
        | _ => none : Option E)).map fun c => E.lc t ((ownOf N scope).map (·.2)) e it c
    else none
  | n + 1, sc, .ListComp elt [⟨tg, iter, ifs, ia⟩, ⟨tg1, iter1, ifs1, ia1⟩] scope _ =>
    if ia = 0 && ia1 = 0 && blkC N sc scope (ownOf N scope) && plainE iter && plainE iter1 then
      (cI n sc (isTup tg) iter).bind fun it => (cT N n scope tg).bind fun t => (cI n scope (isTup tg1) iter1).bind fun it1 => (cT N n scope tg1).bind fun t1 => (cE n scope elt).bind fun e => ((match ifs with
        | [] => some E.nop
        | [c] => cE n scope c
        | _ => none : Option E)).bind fun c => ((match ifs1 with
        | [] => some E.nop
        | [c] => cE n scope c
        | _ => none : Option E)).map fun c1 => E.lc2 t ((ownOf N scope).map (·.2)) t1 (slT t1) e it c it1 c1
    else none
  | n + 1, sc, .DictComp kx vx [⟨tg, iter, ifs, ia⟩] scope _ =>
    if ia = 0 && blkC N sc scope (ownOf N scope) && plainE iter then
      (cI n sc (isTup tg) iter).bind fun it => (cT N n scope tg).bind fun t => (cE n scope kx).bind fun ke => (cE n scope vx).bind fun e => ((match ifs with
        | [] => some E.nop
        | [c] => cE n scope c
        | _ => none : Option E)).map fun c => if (fnIx "{}" fs 0).isSome then E.dcT t ((ownOf N scope).map (·.2)) ke e it c else E.dc t ((ownOf N scope).map (·.2)) ke e it c
    else none
  | n + 1, sc, .Call f es kw pos => if kw.isEmpty then (match f with
    | .Name g _ => if glS sc g && plainEs es && nameOk g then cName n sc g es else none
    | .Attribute o m apos => if plainB o && plainEs es && apos.endLine == pos.line then cMeth n sc o m es else none
    | _ => none) else none
  | _, _, _ => none
def cName : Nat → Scope → Str → List Expr → Option E
  | 0, _, _, _ => none
  | n + 1, sc, g, es => match qinOf N sc g es with
    | some (all, iter, i) => if (fnIx "<genexpr>" fs 0).isSome then (cE n sc iter).map fun x => .qin all x i else none
    | none => if g = ("deque" : Str) then (match es with | [a] => if (fnIx "deque" fs 0).isSome then (cE n sc a).map .deq else none | _ => none) else match bk g, es with
    | some .len, [a] => (cE n sc a).map (.op1 .len)
    | some .list, [a] => (match itemsOf a with
      | some o => (cE n sc o).map (.op1 .items)
      | none => (cE n sc a).map (.op1 .list))
    | some .tuple, [a] => (cE n sc a).map (.op1 .tuple)
    | some .int, [a] => (cE n sc a).map (.op1 .int)
    | some .sorted, [a] => (match setC a with
      | some (elt, ⟨tg, iter, ifs, ia⟩, ⟨tg1, iter1, ifs1, ia1⟩, scope) =>
        if ia = 0 && ia1 = 0 && blkC N sc scope (ownOf N scope) && plainE iter && plainE iter1 then
          (cI n sc (isTup tg) iter).bind fun it => (cT N n scope tg).bind fun t => (cI n scope (isTup tg1) iter1).bind fun it1 => (cT N n scope tg1).bind fun t1 => (cE n scope elt).bind fun e => ((match ifs with
            | [] => some E.nop
            | [c] => cE n scope c
            | _ => none : Option E)).bind fun c => ((match ifs1 with
            | [] => some E.nop
            | [c] => cE n scope c
            | _ => none : Option E)).map fun c1 => E.ss2 t ((ownOf N scope).map (·.2)) t1 (slT t1) e it c it1 c1
        else none
      | none => (match setC1 a with
        | some (elt, ⟨tg, iter, ifs, ia⟩, scope) =>
          if ia = 0 && blkC N sc scope (ownOf N scope) && plainE iter then
            (cI n sc (isTup tg) iter).bind fun it => (cT N n scope tg).bind fun t => (cE n scope elt).bind fun e => ((match ifs with
              | [] => some E.nop
              | [c] => cE n scope c
              | _ => none : Option E)).map fun c => E.ss1 t ((ownOf N scope).map (·.2)) e it c
          else none
        | none => (cE n sc a).map (.op1 .sorted)))
    | some .max, [a, b] => (cE n sc a).bind fun x => (cE n sc b).map fun y => .op2 .max2 x y
    | some .min, [a, b] => (cE n sc a).bind fun x => (cE n sc b).map fun y => .op2 .min2 x y
    | some .isi, [a, .Name t _] => if glS sc t then (tyOf t).bind fun ty => (cE n sc a).map (.op1 (.isi ty)) else none
    | none, es => if isMark g then none else (fnIx g fs 0).bind fun i => (cA n sc es).map (.call i)
    | _, _ => none
def cMeth : Nat → Scope → Expr → Str → List Expr → Option E
  | 0, _, _, _, _ => none
  | n + 1, sc, o, m, es => match mk m, es with
    | some .starts, [b] => (cE n sc o).bind fun x => (cE n sc b).map fun y => .op2 .starts x y
    | some .join, [b] => (cE n sc o).bind fun x => (cE n sc b).map fun y => .op2 .join x y
    | some .index, [b] => (cE n sc o).bind fun x => (cE n sc b).map fun y => .op2 .index x y
    | some .get, [b, c] => (cE n sc o).bind fun x => (cE n sc b).bind fun y => (cE n sc c).map fun z => .op3 .get x y z
    | _, _ => none
def cA : Nat → Scope → List Expr → Option E
  | _, _, [] => some .nil
  | 0, _, _ => none
  | n + 1, sc, e :: es => match starE e with
    | some x => (cE n sc x).bind fun h => (cA n sc es).map fun t => .star h t
    | none => if plainE e then (cE n sc e).bind fun h => (cA n sc es).map fun t => .cons h t else none
def cO : Nat → Scope → Option Expr → Option E
  | _, _, none => some .nop
  | 0, _, _ => none
  | n + 1, sc, some e => (cE n sc e).map fun h => .cons h .nil
def cI : Nat → Scope → Bool → Expr → Option E
  | 0, _, _, _ => none
  | n + 1, sc, tp, e => match rngOf sc e with
    | some (a, none) => (cE n sc a).map .iR1
    | some (a, some b) => (cE n sc a).bind fun x => (cE n sc b).map fun y => .iR2 x y
    | none => match zipOf sc tp e with
      | some (a, b) => (cE n sc a).bind fun x => (cE n sc b).map fun y => .iZip x y
      | none => match enOf sc tp e with
        | some a => (cE n sc a).map .iEn
        | none => (cE n sc e).map .iV
end
/-- the slots that a statement stores into or changes -/
def touch : S → List Nat
  | .asg t _ => slT t
  | .asgO i _ => [i]
  | .asgC i _ _ => [i]
  | .app i _ => [i]
  | .ext i _ => [i]
  | .setk i _ _ => [i]
  | .popl t i => [t, i]
  | .newd i _ => [i]
  | .sdef i _ _ => [i]
  | .ite _ a b => touch a ++ touch b
  | .for_ _ t _ b => slT t ++ touch b
  | .while_ _ b => touch b
  | .seq a b => touch a ++ touch b
  | _ => []
def pinsOf (s : S) : List Nat := (List.range N.length).filter fun i => !(touch s).contains i
mutual
def cS (Γ : MEnv) : Nat → Scope → Stmt → Option S
  | 0, _, _ => none
  | n + 1, sc, .Assign [tg] e _ => match tg with
    | .Name x _ => if stS sc x then (match popOf e with
      | some y => if visS sc y && nameOk y then (ixOf x N 0).bind fun t => (ixOf y N 0).map fun i => .popl t i else none
      | none => (ixOf x N 0).bind fun i => if Γ[i]? = some Md.od then (if isEmptyD e then some (.newd i (fnIx "{}" fs 0).isSome) else none) else if Γ[i]? = some Md.ow then (match ownC sc e with
        | some (g, es) => (fnIx g fs 0).bind fun f => (cA N fs n sc es).map fun as => .asgC i f as
        | none => (cE N fs n sc e).map fun v => .asgO i v) else (cE N fs n sc e).map fun v => .asg (.nm i) v) else none
    | .Subscript (.Name x _) b _ => if visS sc x && nameOk x && plainA e && plainE b then (ixOf x N 0).bind fun i => (cE N fs n sc e).bind fun v => (cE N fs n sc b).map fun y => .setk i y v else none
    | .Tuple ts kt p2 => if plainA e && notTup e then (cT N n sc (.Tuple ts kt p2)).bind fun t => (cE N fs n sc e).map fun v => .asg t v else none
    | _ => none
  | n + 1, sc, .Expr e _ => match e with
    | .Call (.Attribute (.Name x _) m apos) [a] [] cpos => if visS sc x && nameOk x && plainE a && apos.endLine == cpos.line then
        if m = "append" then (ixOf x N 0).bind fun i => (cE N fs n sc a).map fun v => .app i v
        else if m = "extend" then (ixOf x N 0).bind fun i => (cE N fs n sc a).map fun v => .ext i v
        else none
      else none
    | e => match sdefOf e with
      | some (x, k, a) => if visS sc x && nameOk x then (ixOf x N 0).bind fun i => (cE N fs n sc k).bind fun y => (cE N fs n sc a).map fun v => .sdef i y v else none
      | none => if plainA e then (cE N fs n sc e).map .drop else none
  | n + 1, sc, .Return o _ => match o with
    | none => some .retN
    | some e => (cE N fs n sc e).map .ret
  | n + 1, sc, .If c a b _ => (cE N fs n sc c).bind fun x => (cB Γ n sc a).bind fun y => (cB Γ n sc b).map fun z => .ite x y z
  | n + 1, sc, .For tg iter body [] _ => if plainE iter then (cI N fs n sc (isTup tg) iter).bind fun it => (cT N n sc tg).bind fun t => (cB Γ n sc body).map fun b => .for_ (pinsOf N b) t it b else none
  | n + 1, sc, .While c body [] _ => (cE N fs n sc c).bind fun x => (cB Γ n sc body).map fun b => .while_ x b
  | n + 1, sc, .Pass _ => some .nx
  | n + 1, sc, .Raise _ _ _ => some .err
  | n + 1, sc, .Break _ => some .brk
  | n + 1, sc, .Continue _ => some .cnt
  | _, _, _ => none
def cB (Γ : MEnv) : Nat → Scope → List Stmt → Option S
  | _, _, [] => some .nx
  | 0, _, _ => none
  | n + 1, sc, s :: ss => (cS Γ n sc s).bind fun a => (cB Γ n sc ss).map fun b => .seq a b
end
end
end DL

set_option Elab.async false
set_option linter.all false
set_option maxRecDepth 100000
set_option maxHeartbeats 4000000
namespace DL
open PySem PySem.Spec L2
variable [TbC]

/-! ### what may be shared, what is new, what is well used -/
def esc (Γ : MEnv) : E → Bool
  | .var i => decide (Γ[i]? = some Md.sh)
  | .and _ b => esc Γ b
  | .or _ b => esc Γ b
  | .ite _ a b => esc Γ a && esc Γ b
  | _ => true
def escA (Γ : MEnv) : E → Bool
  | .nil => true
  | .cons h t => esc Γ h && escA Γ t
  | .star _ t => escA Γ t
  | _ => false
def fresh : E → Bool
  | .lst _ => true | .lc _ _ _ _ _ => true | .lc2 _ _ _ _ _ _ _ _ _ => true | .ss2 _ _ _ _ _ _ _ _ _ => true | .ss1 _ _ _ _ _ => true | .dc _ _ _ _ _ _ => true | .dnew => true | .dput _ _ _ => true | .dnewT => true | .dcT _ _ _ _ _ _ => true | .deq _ => true | .d1 _ _ => true | .op1 .list _ => true | .op1 .items _ => true | .op1 .sorted _ => true | .op2 .add _ _ => true | .sl _ _ _ => true
  | _ => false
def okArgs (Γ : MEnv) : List Md → E → Bool
  | [], .nil => true
  | m :: ms, .cons h t => (match m with | .sh => esc Γ h | .bo => true | .ow => false | .od => false) && okArgs Γ ms t
  | _, _ => false
def okIt (Γ : MEnv) : E → Bool
  | .iV (.var i) => decide (Γ[i]? = some Md.sh) || decide (Γ[i]? = some Md.bo)
  | .iV e => esc Γ e
  | .iR1 _ => true
  | .iR2 _ _ => true
  | .iZip _ _ => true
  | .iEn (.var i) => decide (Γ[i]? = some Md.sh) || decide (Γ[i]? = some Md.bo)
  | .iEn e => esc Γ e
  | _ => false
def okE (fs : List (Str × List Md)) (Γ : MEnv) : E → Bool
  | .var i => decide (Γ[i]? ≠ some Md.od)
  | .con _ => true
  | .op1 _ a => okE fs Γ a
  | .op2 _ a b => okE fs Γ a && okE fs Γ b
  | .op3 _ a b c => okE fs Γ a && okE fs Γ b && okE fs Γ c && esc Γ c
  | .chain _ _ a b c => okE fs Γ a && okE fs Γ b && okE fs Γ c
  | .and a b => okE fs Γ a && okE fs Γ b && esc Γ b
  | .or a b => okE fs Γ a && okE fs Γ b && esc Γ b
  | .not a => okE fs Γ a
  | .ite c a b => okE fs Γ c && okE fs Γ a && okE fs Γ b
  | .sl a l h => okE fs Γ a && okE fs Γ l && okE fs Γ h
  | .nop => true
  | .lst as => okE fs Γ as && escA Γ as
  | .tup as => okE fs Γ as && escA Γ as
  | .dnew => true
  | .dnewT => true
  | .deq a => okE fs Γ a
  | .d1 k e => okE fs Γ k && okE fs Γ e && esc Γ e
  | .qin _ it i => okE fs Γ it && decide (Γ[i]? ≠ some Md.od)
  | .dput i k e => decide (Γ[i]? ≠ some Md.od) && okE fs Γ k && okE fs Γ e && esc Γ e
  | .lc t vs elt it c => okE fs Γ it && okE fs Γ elt && esc Γ elt && okE fs Γ c && shT Γ t && (slT t).all fun i => vs.contains i
  | .dc t vs ke elt it c => okE fs Γ it && okE fs Γ ke && esc Γ ke && okE fs Γ elt && esc Γ elt && okE fs Γ c && shT Γ t && (slT t).all fun i => vs.contains i
  | .dcT t vs ke elt it c => okE fs Γ it && okE fs Γ ke && esc Γ ke && okE fs Γ elt && esc Γ elt && okE fs Γ c && shT Γ t && (slT t).all fun i => vs.contains i
  | .lc2 t vs t1 vs1 elt it c it1 c1 => okE fs Γ it && okE fs Γ elt && esc Γ elt && okE fs Γ c && okE fs Γ it1 && okIt Γ it1 && okE fs Γ c1 && shT Γ t && shT Γ t1 && ((slT t).all fun i => vs.contains i) && ((slT t1).all fun i => vs1.contains i) && (vs1.all fun i => vs.contains i)
  | .ss2 t vs t1 vs1 elt it c it1 c1 => okE fs Γ it && okE fs Γ elt && esc Γ elt && okE fs Γ c && okE fs Γ it1 && okIt Γ it1 && okE fs Γ c1 && shT Γ t && shT Γ t1 && ((slT t).all fun i => vs.contains i) && ((slT t1).all fun i => vs1.contains i) && (vs1.all fun i => vs.contains i)
  | .ss1 t vs elt it c => okE fs Γ it && okE fs Γ elt && esc Γ elt && okE fs Γ c && shT Γ t && (slT t).all fun i => vs.contains i
  | .call f as => okE fs Γ as && (match fs[f]? with | some (_, ms) => okArgs Γ ms as | none => false)
  | .nil => true
  | .cons h t => okE fs Γ h && okE fs Γ t
  | .star h t => okE fs Γ h && okE fs Γ t
  | .iV e => okE fs Γ e
  | .iR1 a => okE fs Γ a
  | .iR2 a b => okE fs Γ a && okE fs Γ b
  | .iEn e => okE fs Γ e
  | .iZip a b => okE fs Γ a && okE fs Γ b
def R3 (X : Cx) (e : Expr) (Γ : MEnv) (ρ : DEnv) (ir : E) (d : D) : Prop := EvM .bo X e Γ ρ d ∧ (esc Γ ir = true → EvM .sh X e Γ ρ d) ∧ (fresh ir = true → isL d = true → EvM .ow X e Γ ρ d) ∧ (∀ i, ir = .var i → Γ[i]? = some Md.bo → EvB true X e Γ ρ d)
section
variable {X : Cx} {e : Expr} {Γ : MEnv} {ρ : DEnv} {ir : E} {d : D}
theorem R3.of_sh (h : EvM .sh X e Γ ρ d) (hf : fresh ir = false) : R3 X e Γ ρ ir d := ⟨h.bo_of, fun _ => h, (fun z => by rw [hf] at z; cases z), fun _ _ _ => .of_sh h⟩
theorem R3.of_ow (h : EvM .ow X e Γ ρ d) : R3 X e Γ ρ ir d := ⟨h.sh_of.bo_of, fun _ => h.sh_of, fun _ _ => h, fun _ _ _ => .of_sh h.sh_of⟩
theorem R3.of_md (h : EvM (mdR d) X e Γ ρ d) : R3 X e Γ ρ ir d := by
  cases d with
  | lst l => exact .of_ow h
  | dic ks ds => exact .of_ow h
  | dit ks ds => exact .of_ow h
  | deq l => exact .of_ow h
  | _ => exact ⟨EvM.bo_of h, fun _ => h, (fun _ z => by cases z), fun _ _ _ => .of_sh h⟩
end
def bltNames : List Str := ["len", "list", "tuple", "int", "isinstance", "range", "dict", "str", "bool", "zip", "sorted", "max", "min", "enumerate", "set", "all", "any"]
/-- the running def's code object, and its table, are in sight -/
def GenAtX (X : Cx) : Prop := ∃ c P, (c, P) ∈ TbC.ts ∧ X.env.code = .ref c ∧ GxR.TabB X.base X.mg c P
/-- the module's name x stands for d -/
def CstAt (mg : Str → Option Value) (x : Str) (d : D) : Prop := ∃ (u : Value) (v : V), mg x = some u ∧ RelV v u ∧ ∀ K B, Rep K B v d
structure Hyp (X : Cx) (fs : List (Str × List Md)) (Φ : Nat → List D → Option D) (k : Nat) : Prop where
  fns : ∀ i nm ms, fs[i]? = some (nm, ms) → isMark nm = false → FnAt X k nm ms (Φ i)
  fno : ∀ i nm ms, fs[i]? = some (nm, ms) → ownRets.contains nm = true → FnAtO X k nm ms (Φ i)
  dq : ∀ (i : Nat) (ms : List Md), fs[i]? = some (("deque" : Str), ms) → X.mg "deque" = some (.type "collections.deque")
  blt : ∀ x ∈ bltNames, X.mg x = none
  gen : ∀ (i : Nat) (ms : List Md), fs[i]? = some (("<genexpr>" : Str), ms) → GenAtX X
  cst : ∀ (i : Nat) (x : Str) (ms : List Md) (d : D), fs[i]? = some (x, ms) → constOf x = some d → CstAt X.mg x d
theorem Hyp.blk {X : Cx} {fs : List (Str × List Md)} {Φ : Nat → List D → Option D} {k : Nat} (h : Hyp X fs Φ k) (s : Shared) (H : Hp) (scope : Scope) (env : Env) (fp : List Addr) (hc : env.code = X.env.code := by rfl) : Hyp (X.blk s H scope env fp) fs Φ k :=
  ⟨fun i nm ms e hn => let ⟨z⟩ := h.fns i nm ms e hn; ⟨z⟩, fun i nm ms e hn => let ⟨z⟩ := h.fno i nm ms e hn; ⟨z⟩, h.dq, h.blt, fun i ms e => let ⟨c, P, a, b, d⟩ := h.gen i ms e; ⟨c, P, a, hc.trans b, d⟩, h.cst⟩
theorem fnIx_at {f : Str} : ∀ {fs : List (Str × List Md)} {i j : Nat}, fnIx f fs i = some j → i ≤ j ∧ ∃ ms, fs[j - i]? = some (f, ms)
  | [], _, _, h => by simp [fnIx] at h
  | (g, ms) :: r, i, j, h => by
    simp only [fnIx] at h
    split at h
    · rename_i e; cases h; subst e; exact ⟨Nat.le_refl _, ms, by simp⟩
    · obtain ⟨h1, ms', h2⟩ := fnIx_at h
      refine ⟨by omega, ms', ?_⟩
      rw [show j - i = (j - (i + 1)) + 1 by omega]
      simpa using h2
theorem fnIx_0 {f : Str} {fs : List (Str × List Md)} {j : Nat} (h : fnIx f fs 0 = some j) : ∃ ms, fs[j]? = some (f, ms) := by simpa using (fnIx_at h).2

variable (N : List Str) (fs : List (Str × List Md)) (Φ : Nat → List D → Option D) (k : Nat)
def SE (n : Nat) : Prop := ∀ sc e ir, cE N fs n sc e = some ir → plainE e = true ∧ ∀ X, Good X N sc k → Hyp X fs Φ k → ∀ Γ ρ, okE fs Γ ir = true →
  (∀ d, evE Φ ir ρ = some d → R3 X e Γ ρ ir d) ∧ (∀ j, evT Φ ir ρ = some j → EvT X e Γ ρ j)
def SA (n : Nat) : Prop := ∀ sc es ir, cA N fs n sc es = some ir → ∀ X, Good X N sc k → Hyp X fs Φ k → ∀ Γ ρ, okE fs Γ ir = true → ∀ ds, evA Φ ir ρ = some ds →
  (∀ ms, okArgs Γ ms ir = true → EvAs ms X es Γ ρ ds) ∧ (escA Γ ir = true → EvAs (List.replicate ds.length .sh) X es Γ ρ ds) ∧ (es = [] → ir = .nil)
def SO (n : Nat) : Prop := ∀ sc o ir, cO N fs n sc o = some ir → ∀ X, Good X N sc k → Hyp X fs Φ k → ∀ Γ ρ, okE fs Γ ir = true → ∀ r, evO Φ ir ρ = some r → EvO X o Γ ρ r
def SI (n : Nat) : Prop := ∀ sc tp e ir, cI N fs n sc tp e = some ir → ∀ X, Good X N sc k → Hyp X fs Φ k → ∀ Γ ρ, okE fs Γ ir = true → ∀ l, evI Φ ir ρ = some l → ∀ z tg, (tp = true → ∃ elts kk pos, tg = .Tuple elts kk pos) → (z = true → okIt Γ ir = true) → EvI z X tg e Γ ρ l
def SN (n : Nat) : Prop := ∀ sc g es ir, cName N fs n sc g es = some ir → glS sc g = true → plainEs es = true → nameOk g = true → ∀ p pos X, Good X N sc k → Hyp X fs Φ k → ∀ Γ ρ, okE fs Γ ir = true →
  (∀ d, evE Φ ir ρ = some d → R3 X (.Call (.Name g p) es [] pos) Γ ρ ir d) ∧ (∀ j, evT Φ ir ρ = some j → EvT X (.Call (.Name g p) es [] pos) Γ ρ j)
def SM (n : Nat) : Prop := ∀ sc o m es ir, cMeth N fs n sc o m es = some ir → plainB o = true → plainEs es = true → ∀ apos pos, (apos.endLine == pos.line) = true → ∀ X, Good X N sc k → Hyp X fs Φ k → ∀ Γ ρ, okE fs Γ ir = true →
  (∀ d, evE Φ ir ρ = some d → R3 X (.Call (.Attribute o m apos) es [] pos) Γ ρ ir d) ∧ (∀ j, evT Φ ir ρ = some j → EvT X (.Call (.Attribute o m apos) es [] pos) Γ ρ j)
/-- a test that is a value's truth -/
theorem snd_t {X : Cx} {e : Expr} {Γ : MEnv} {ρ : DEnv} {j : Bool} {o : Option D} (hp : plainT e = true) (h : ∀ d, o = some d → EvM .bo X e Γ ρ d) (hj : o.bind truD = some j) : EvT X e Γ ρ j := by
  obtain ⟨d, h1, h2⟩ := Option.bind_eq_some_iff.mp hj
  exact ev_truth hp h2 (h d h1)
theorem snd_tc {X : Cx} {e : Expr} {Γ : MEnv} {ρ : DEnv} {j : Bool} {o : Option D} (h : ∀ k, o = some (.bl k) → EvT X e Γ ρ k) (hb : ∀ d, o = some d → ∃ k, d = .bl k) (hj : o.bind truD = some j) : EvT X e Γ ρ j := by
  obtain ⟨d, h1, h2⟩ := Option.bind_eq_some_iff.mp hj
  obtain ⟨k, rfl⟩ := hb d h1
  cases h2
  exact h j h1
theorem sa_succ {n : Nat} (hE : SE N fs Φ k n) (hA : SA N fs Φ k n) : SA N fs Φ k (n + 1) := by
  intro sc es ir h
  cases es with
  | nil =>
    simp only [cA, Option.some.injEq] at h
    subst h
    refine fun X g hy Γ ρ _ ds hd => ?_
    simp only [evA, Option.some.injEq] at hd
    subst hd
    refine ⟨fun ms hm => ?_, fun _ => ea_nil, fun _ => rfl⟩
    cases ms with
    | nil => exact ea_nil
    | cons m ms => cases m <;> simp [okArgs] at hm
  | cons e es =>
    simp only [cA] at h
    split at h
    · rename_i x hx
      have hx : ∃ p, e = .Starred x p := by
        unfold starE at hx
        split at hx
        · cases hx; exact ⟨_, rfl⟩
        · cases hx
      obtain ⟨p, rfl⟩ := hx
      obtain ⟨h1, e1, h⟩ := Option.bind_eq_some_iff.mp h
      obtain ⟨h2, e2, rfl⟩ := Option.map_eq_some_iff.mp h
      obtain ⟨p1, s1⟩ := hE sc x h1 e1
      have s2 := hA sc es h2 e2
      refine fun X g hy Γ ρ ok ds hd => ?_
      simp only [okE, Bool.and_eq_true] at ok
      simp only [evA] at hd
      obtain ⟨d, d1, hd⟩ := Option.bind_eq_some_iff.mp hd
      obtain ⟨l, d3, hd⟩ := Option.bind_eq_some_iff.mp hd
      obtain ⟨ds', d2, rfl⟩ := Option.map_eq_some_iff.mp hd
      obtain ⟨r1, _, _⟩ := (s1 X g hy Γ ρ ok.1).1 d d1
      obtain ⟨_, t2, _⟩ := s2 X g hy Γ ρ ok.2 ds' d2
      refine ⟨fun ms hm => ?_, fun hm => ?_, fun z => by cases z⟩
      · cases ms <;> simp [okArgs] at hm
      · simp only [escA] at hm
        rw [List.length_append, ← List.replicate_append_replicate]
        exact ea_star r1 d3 (t2 hm)
    · split at h
      · rename_i hp
        obtain ⟨h1, e1, h⟩ := Option.bind_eq_some_iff.mp h
        obtain ⟨h2, e2, rfl⟩ := Option.map_eq_some_iff.mp h
        obtain ⟨p1, s1⟩ := hE sc e h1 e1
        have s2 := hA sc es h2 e2
        refine fun X g hy Γ ρ ok ds hd => ?_
        simp only [okE, Bool.and_eq_true] at ok
        simp only [evA] at hd
        obtain ⟨d, d1, hd⟩ := Option.bind_eq_some_iff.mp hd
        obtain ⟨ds', d2, rfl⟩ := Option.map_eq_some_iff.mp hd
        obtain ⟨r1, r2, _⟩ := (s1 X g hy Γ ρ ok.1).1 d d1
        obtain ⟨t1, t2, _⟩ := s2 X g hy Γ ρ ok.2 ds' d2
        refine ⟨fun ms hm => ?_, fun hm => ?_, fun z => by cases z⟩
        · cases ms with
          | nil => simp [okArgs] at hm
          | cons m ms =>
            simp only [okArgs, Bool.and_eq_true] at hm
            cases m with
            | sh => exact ea_cons hp (by decide) (r2 hm.1) (t1 ms hm.2)
            | bo => exact ea_cons hp (by decide) r1 (t1 ms hm.2)
            | ow => cases hm.1
            | od => cases hm.1
        · simp only [escA, Bool.and_eq_true] at hm
          exact ea_cons hp (by decide) (r2 hm.1) (t2 hm.2)
      · cases h
theorem so_succ {n : Nat} (hE : SE N fs Φ k n) : SO N fs Φ k (n + 1) := by
  intro sc o ir h X g hy Γ ρ ok r hr
  cases o with
  | none =>
    simp only [cO, Option.some.injEq] at h
    subst h
    simp only [evO, Option.some.injEq] at hr
    subst hr; rfl
  | some e =>
    simp only [cO] at h
    obtain ⟨h1, e1, rfl⟩ := Option.map_eq_some_iff.mp h
    obtain ⟨p1, s1⟩ := hE sc e h1 e1
    simp only [okE, Bool.and_eq_true] at ok
    simp only [evO] at hr
    obtain ⟨d, d1, hr⟩ := Option.bind_eq_some_iff.mp hr
    cases d with
    | int i => cases hr; exact ⟨i, rfl, ((s1 X g hy Γ ρ ok.1).1 _ d1).1⟩
    | _ => cases hr
end DL

set_option Elab.async false
set_option linter.all false
set_option maxRecDepth 100000
set_option maxHeartbeats 4000000
namespace DL
open PySem PySem.Spec L2
variable [TbC]
variable (N : List Str) (fs : List (Str × List Md)) (Φ : Nat → List D → Option D) (k : Nat)

theorem isTup_eq {tg : Expr} (h : isTup tg = true) : ∃ elts kk pos, tg = .Tuple elts kk pos := by
  cases tg <;> first | exact ⟨_, _, _, rfl⟩ | cases h
/-- targets -/
theorem pg_of {X : Cx} {sc : Scope} (g : Good X N sc k) : ∀ (n : Nat), (∀ tg t, cT N n sc tg = some t → PG X tg (gOf X.K t)) ∧ (∀ es t, cT.cTs N n sc es = some t → PGs X es (gsOf X.K t) ∧ es.length = lenT t ∧ (assignEach es X.env).length = es.length ∧ (assignEach es X.env).findIdx? (·.1) = none)
  | 0 => ⟨fun tg t h => by simp [cT] at h, fun es t h => by
      cases es with
      | nil => simp only [cT.cTs, Option.some.injEq] at h; subst h; exact ⟨pgs_nil, rfl, rfl, rfl⟩
      | cons _ _ => simp [cT.cTs] at h⟩
  | n + 1 => by
    obtain ⟨i1, i2⟩ := pg_of g n
    constructor
    · intro tg t h
      cases tg with
      | Name x pos =>
        simp only [cT] at h
        split at h
        · rename_i hs
          obtain ⟨j, h1, rfl⟩ := Option.map_eq_some_iff.mp h
          obtain ⟨l1, l2⟩ := g.st x hs
          exact pg_name (by rw [g.hN]; exact g.nd) (by rw [g.hN]; exact ixOf_0 h1) l1 l2
        · cases h
      | Tuple es kk pos =>
        simp only [cT] at h
        obtain ⟨t', h1, rfl⟩ := Option.map_eq_some_iff.mp h
        obtain ⟨p1, p2, p3, p4⟩ := i2 es t' h1
        exact pg_tup g.calm p1 (by rw [p3, p2]) p4
      | _ => simp [cT] at h
    · intro es t h
      cases es with
      | nil => simp only [cT.cTs, Option.some.injEq] at h; subst h; exact ⟨pgs_nil, rfl, rfl, rfl⟩
      | cons e es =>
        simp only [cT.cTs] at h
        obtain ⟨a, h1, h⟩ := Option.bind_eq_some_iff.mp h
        obtain ⟨b, h2, rfl⟩ := Option.map_eq_some_iff.mp h
        obtain ⟨p1, p2, p3, p4⟩ := i2 es b h2
        have hs : assignEach (e :: es) X.env = (false, assign e X.env) :: assignEach es X.env := by
          cases e with
          | Starred _ _ => cases n <;> simp [cT] at h1
          | _ => rfl
        refine ⟨pgs_cons (i1 e a h1) p1 (by rw [hs]; rfl), by rw [List.length_cons, p2]; rfl, by rw [hs, List.length_cons, p3, List.length_cons], ?_⟩
        rw [hs]
        simp [List.findIdx?_cons, p4]
def tstC (n : Nat) (scope : Scope) (ifs : List Expr) : Option E := match ifs with
  | [] => some E.nop
  | [c] => cE N fs n scope c
  | _ => none
theorem tst_of {n : Nat} (hE : SE N fs Φ k n) {scope : Scope} {ifs : List Expr} {h4 : E} (e4 : tstC N fs n scope ifs = some h4) {Γ : MEnv} (ok : okE fs Γ h4 = true) {X : Cx} {env : Env} (gb : ∀ (s : Shared) (H : Hp) (C : Addr) (cl : List (Str × Addr)) (fp : List Addr), Good (X.blk s H scope (compEnvC scope cl C X.env) fp) N scope k)
    (hyb : ∀ (s : Shared) (H : Hp) (C : Addr) (cl : List (Str × Addr)) (fp : List Addr), Hyp (X.blk s H scope (compEnvC scope cl C X.env) fp) fs Φ k) (ρ' : DEnv) (j : Bool) (r2 : evT Φ h4 ρ' = some j) :
    (ifs = [] → j = true) ∧ ∀ (s : Shared) (H : Hp) (C : Addr) (cl : List (Str × Addr)) (fp : List Addr), EvTs (X.blk s H scope (compEnvC scope cl C X.env) fp) ifs Γ ρ' j := by
  match ifs, e4 with
  | [], e4 =>
    simp only [tstC, Option.some.injEq] at e4
    subst e4
    simp only [evT, Option.some.injEq] at r2
    exact ⟨fun _ => r2.symm, fun s H C cl fp => r2.symm⟩
  | [c], e4 => exact ⟨(fun z => by cases z), fun s H C cl fp => ((hE scope c h4 e4).2 _ (gb s H C cl fp) (hyb s H C cl fp) Γ ρ' ok).2 j r2⟩
  | _ :: _ :: _, e4 => cases e4
theorem tst_few {n : Nat} {scope : Scope} {ifs : List Expr} {h4 : E} (e4 : tstC N fs n scope ifs = some h4) : ifs.length ≤ 1 := by
  match ifs, e4 with
  | [], _ => exact Nat.zero_le _
  | [_], _ => exact Nat.le_refl _
  | _ :: _ :: _, e4 => cases e4
/-- two clauses, read -/
theorem two_of {n : Nat} (hE : SE N fs Φ k n) (hI : SI N fs Φ k n) {sc scope : Scope} {elt tg iter tg1 iter1 : Expr} {ifs ifs1 : List Expr} {h1 h3 he hc hc1 : E} {t t1 : T} (hb : blkC N sc scope (ownOf N scope) = true) (hpl : plainE iter = true) (hpl1 : plainE iter1 = true)
    (e1 : cI N fs n sc (isTup tg) iter = some h1) (e2 : cT N n scope tg = some t) (e3 : cI N fs n scope (isTup tg1) iter1 = some h3) (e4 : cT N n scope tg1 = some t1) (e5 : cE N fs n scope elt = some he) (e6 : tstC N fs n scope ifs = some hc) (e7 : tstC N fs n scope ifs1 = some hc1)
    {X : Cx} (g : Good X N sc k) (hy : Hyp X fs Φ k) {Γ : MEnv} {ρ : DEnv} (ok1 : okE fs Γ h1 = true) (ok2 : okE fs Γ he = true) (ok3 : esc Γ he = true) (ok4 : okE fs Γ hc = true) (ok5 : okE fs Γ h3 = true) (ok6 : okIt Γ h3 = true) (ok7 : okE fs Γ hc1 = true) (ok8 : shT Γ t = true) (ok9 : shT Γ t1 = true)
    (oka : ∀ i ∈ slT t, i ∈ (ownOf N scope).map (·.2)) (okb : ∀ i ∈ slT t1, i ∈ slT t1) (okc : ∀ i ∈ slT t1, i ∈ (ownOf N scope).map (·.2)) :
    Two X N sc scope k (ownOf N scope) tg iter tg1 iter1 ifs ifs1 Γ t t1 (slT t1) (evT Φ hc) (evT Φ hc1) (evI Φ h3) ∧
    (∀ ρ' y, evE Φ he ρ' = some y → ∀ (s : Shared) (H : Hp) (C : Addr) (cl : List (Str × Addr)) (fp : List Addr), EvM .sh (X.blk s H scope (compEnvC scope cl C X.env) fp) elt Γ ρ' y) ∧
    ∀ l, evI Φ h1 ρ = some l → EvI false X tg iter Γ ρ l := by
  have gb : ∀ (s : Shared) (H : Hp) (C : Addr) (cl : List (Str × Addr)) (fp : List Addr), Good (X.blk s H scope (compEnvC scope cl C X.env) fp) N scope k := fun s H C cl fp => g.blk hb s H C cl fp
  have hyb : ∀ (s : Shared) (H : Hp) (C : Addr) (cl : List (Str × Addr)) (fp : List Addr), Hyp (X.blk s H scope (compEnvC scope cl C X.env) fp) fs Φ k := fun s H C cl fp => hy.blk s H scope _ fp
  obtain ⟨_, s5⟩ := hE scope elt he e5
  refine ⟨⟨g, hb, hpl, hpl1, tst_few N fs e6, tst_few N fs e7, fun s H C cl fp => (pg_of N k (gb s H C cl fp) n).1 tg t e2, fun s H C cl fp => (pg_of N k (gb s H C cl fp) n).1 tg1 t1 e4, ok8, ok9, oka, okb, okc, fun ρ' j h => tst_of (env := X.env) N fs Φ k hE e6 ok4 gb hyb ρ' j h, fun ρ' j h => tst_of (env := X.env) N fs Φ k hE e7 ok7 gb hyb ρ' j h,
    fun ρ' l1 h s H C cl fp => hI scope (isTup tg1) iter1 h3 e3 _ (gb s H C cl fp) (hyb s H C cl fp) Γ ρ' ok5 l1 h true tg1 isTup_eq fun _ => ok6⟩, fun ρ' y h s H C cl fp => ((s5 _ (gb s H C cl fp) (hyb s H C cl fp) Γ ρ' ok2).1 y h).2.1 ok3, fun l h => hI sc (isTup tg) iter h1 e1 X g hy Γ ρ ok1 l h false tg isTup_eq fun z => by cases z⟩
end DL

set_option Elab.async false
set_option linter.all false
set_option maxRecDepth 100000
set_option maxHeartbeats 4000000
namespace DL
open PySem PySem.Spec L2
variable [TbC]
section
variable {X : Cx} {N : List Str} {sc : Scope} {k : Nat} {a b c : Expr} {Γ : MEnv} {ρ : DEnv} {d x y z : D} {pos apos p : Pos}
/-- x.get(y, z), keys tuples -/
theorem ev_getT {ks : List (List Key)} {ds : List D} {key : List Key} (g : Good X N sc k) (hb : plainB a = true) (hpb : plainE b = true) (hpc : plainE c = true) (hl : (apos.endLine == pos.line) = true) (hk : keyT y = some key)
    (ha : EvM .bo X a Γ ρ (.dit ks ds)) (hy : EvM .bo X b Γ ρ y) (hz : EvM .sh X c Γ ρ z) : EvM .sh X (.Call (.Attribute a "get" apos) [b, c] [] pos) Γ ρ ((lookD key ks ds).getD z) := fun lv B0 H0 B H σ S Q q => by
  have st : starEach [b, c] X.env = [(false, eval b X.env), (false, eval c X.env)] := by rw [star1 hpb, star1 hpc]; rfl
  refine of_pe (pe_dget2 (by have := g.hu; omega) pe_of pe_of pe_of ⟨plainBase hb, by rw [st]; rfl, hl, by rw [st]; rfl⟩) ?_
  refine ha lv B0 H0 B H σ S _ fun v1 B1 H1 x1 r1 => ?_
  obtain ⟨p, kvs, rfl, hd, hks, o, r⟩ := bor_dit x1.bh r1
  refine ⟨p, rfl, .inr ⟨kvs, .inl hd⟩, ?_⟩
  refine hy lv B0 H0 B1 H1 σ (S.grow x1) _ fun v2 B2 H2 x2 r2 => ?_
  refine hz lv B0 H0 B2 H2 σ (S.grow (x1.trans x2)) _ fun v3 B3 H3 x3 r3 => ?_
  have hd3 : H3 p = some (.dT kvs) := (x2.trans x3).hh _ _ hd
  have r' := (r.mono x2.bb).mono x3.bb
  obtain ⟨bb, rfl, hbb, _⟩ := keyT_V x2.bh hk r2
  refine ⟨valV kvs key, DGet.t hd3 (x3.hh _ _ hbb), ?_⟩
  subst hks
  obtain ⟨i1, i2⟩ := valV_look (k := key) r'
  cases hq : lookD key (kvs.map (·.1)) ds with
  | none =>
    rw [i2 hq]
    rw [hq] at q
    exact q _ B3 H3 ((x1.trans x2).trans x3) r3
  | some d =>
    obtain ⟨v, hv, rv⟩ := i1 d hq
    rw [hv]
    rw [hq] at q
    exact q _ B3 H3 ((x1.trans x2).trans x3) rv
/-- deque(xs) -/
theorem ev_deq {l : List D} (g : Good X N sc k) (hm : X.mg "deque" = some (.type "collections.deque")) (hg : glS sc "deque" = true) (hp : plainE a = true) (ha : EvM .bo X a Γ ρ (.lst l)) : EvM .ow X (.Call (.Name "deque" p) [a] [] pos) Γ ρ (.deq l) :=
  ev_cb (pe_callGT (cr_deque g.room.hd) (g.gl _ hg) hm pa_of (he := star1 hp)) (fun B H v e hv Q q => by
    obtain ⟨ad, vs, rfl, hH, r⟩ := bor_lst e hv
    exact ⟨ad, vs, rfl, hH, fun pp hpp => q _ _ _ (.own e hpp) ⟨pp, rfl, hpp, e.back hpp, .deq upd_same r⟩⟩) hp ha
end
end DL

set_option Elab.async false
set_option linter.all false
set_option maxRecDepth 100000
set_option maxHeartbeats 4000000
/-! Sets of tuples of ints and texts: found in, added to. -/
namespace DL
open PySem PySem.Spec L2
/-- an object and the key it is -/
abbrev Row := Addr × List Key
abbrev hU (P : Program) (w : World) (k : List Key) : Int := tupleKeyHash (mixKind P w) k
abbrev TupA (P : Program) (w : World) (h : Heap) (k : List Key) (a : Addr) : Prop := IsTupleKey (mixKind P w) h k a
abbrev st0 (t : SetTable) (z : Int) : SetTable.Probe := runAt t.mask (SetTable.bits z % (t.mask + 1)) (SetTable.bits z)
abbrev wy (t : SetTable) (z : Int) (c : Nat) : Nat := way t.mask z c
def rowsU (P : Program) (w : World) (L : List Row) : List (Int × Value) := L.map fun q => (hU P w q.2, Value.ref q.1)
section
variable {P : Program} {w : World} {A : Around} {E : Value → Shared → Prop} {s : Shared}
theorem key_shape {k : Key} {v : Value} (h : keyIs k v = true) : (∃ i u, v = Value.int i u) ∨ ∃ x u, v = Value.str x u := by
  rcases keyIs_shape h with ⟨i, u, _, rfl⟩ | ⟨x, u, _, rfl⟩
  · exact .inl ⟨i, u, rfl⟩
  · exact .inr ⟨x, u, rfl⟩
def FlatV (v : Value) : Prop := (∃ i u, v = Value.int i u) ∨ ∃ x u, v = Value.str x u
theorem items_flat {k : List Key} {vs : List Value} (h : ItemsAre (mixKind P w) k vs) : ∀ v ∈ vs, FlatV v := by
  induction h with
  | nil => intro v hv; cases hv
  | cons h1 _ ih =>
    intro v hv
    rcases List.mem_cons.mp hv with rfl | hv
    · exact key_shape h1
    · exact ih v hv
theorem flat_noClass (n : Nat) {v : Value} (h : FlatV v) : ofAClassStatement n v = pure false := by
  rcases h with ⟨_, _, rfl⟩ | ⟨_, _, rfl⟩ <;> cases n <;> rfl
theorem tupA_noClass {k : List Key} {b : Addr} {Q : Bool → Shared → Prop} (hb : TupA P w s.heap k b) (q : Q false s) : wpAny (model P w) A (ofAClassStatement 8 (.ref b)) Q E s := by
  have ty := hb.typeIs
  obtain ⟨ob, its, n, hob, _, hdt, hI⟩ := hb
  unfold ofAClassStatement
  refine wpAny_bind (wpAny_typeOf ty ?_)
  have e : (("tuple" : String) == "tuple") = true := by decide
  dsimp only
  simp only [e, if_true, Bool.not_true, Bool.false_eq_true, if_false]
  first | (refine wpAny_bind (wpAny_seqItems hob hdt ?_)) | (refine wpAny_bind (wpAny_pure ?_); refine wpAny_bind (wpAny_seqItems hob hdt ?_))
  dsimp only
  refine wpAny_bind ?_
  show wpAny _ _ (forIn its _ _) _ _ s
  rw [← Array.forIn_toList]
  refine wpAny_forIn_list _ (fun rest r s' => r.1 = none ∧ s' = s ∧ ∀ z ∈ rest, FlatV z) _ ?_ ?_ _ _ ⟨rfl, rfl, items_flat hI⟩
  · rintro z rest r s' ⟨e1, rfl, fl⟩
    rw [flat_noClass _ (fl z (by simp))]
    refine wpAny_bind (wpAny_pure ?_)
    simp only [Bool.false_eq_true, if_false]
    exact wpAny_pure ⟨rfl, rfl, fun y hy => fl y (by simp [hy])⟩
  · rintro ⟨r1, r2⟩ s' ⟨e1, rfl, _⟩
    simp only at e1
    subst e1
    exact wpAny_pure q
theorem tupA_byValue {k : List Key} {b : Addr} {Q : Bool → Shared → Prop} (hb : TupA P w s.heap k b) (q : ∀ r, Q r s) : wpAny (model P w) A (hashByValue 8 (.ref b)) Q E s := by
  have ty := hb.typeIs
  obtain ⟨ob, its, n, hob, _, hdt, hI⟩ := hb
  unfold hashByValue
  refine wpAny_bind (wpAny_specialOf ty F.slot_tuple_hash.lookup ?_)
  show wpAny _ _ (seqItems? (.ref b) >>= _) _ _ s
  refine wpAny_bind (wpAny_seqItems hob hdt (wpAny_bind ?_))
  show wpAny _ _ (forIn its _ _) _ _ s
  rw [← Array.forIn_toList]
  refine wpAny_forIn_list _ (fun rest r s' => r.1 = none ∧ s' = s ∧ ∀ z ∈ rest, FlatV z) _ ?_ ?_ _ _ ⟨rfl, rfl, items_flat hI⟩
  · rintro z rest r s' ⟨e1, rfl, fl⟩
    rcases fl z (by simp) with ⟨i, u, rfl⟩ | ⟨x, u, rfl⟩
    · refine wpAny_bind (wpAny_pure ?_)
      simp only [Bool.not_true, Bool.false_eq_true, if_false]
      exact wpAny_pure ⟨rfl, rfl, fun y hy => fl y (by simp [hy])⟩
    · refine wpAny_bind (wpAny_pure ?_)
      simp only [Bool.not_false, if_true]
      exact wpAny_pure (wpAny_pure (q false))
  · rintro ⟨r1, r2⟩ s' ⟨e1, rfl, _⟩
    simp only at e1
    subst e1
    exact wpAny_pure (q true)
/-- a search among tuples is not seen -/
theorem tupA_unseen {k : List Key} {b : Addr} {Q : Bool → Shared → Prop} (hb : TupA P w s.heap k b) {us : List Value} (hu : ∀ u ∈ us, ∃ k' c, u = Value.ref c ∧ TupA P w s.heap k' c) (q : Q false s) :
    wpAny (model P w) A (searchCouldBeSeen (.ref b) us) Q E s := by
  unfold searchCouldBeSeen
  refine wpAny_bind ?_
  refine wpAny_forIn_list _ (fun rest r s' => r.1 = none ∧ s' = s ∧ ∀ u ∈ rest, ∃ k' c, u = Value.ref c ∧ TupA P w s.heap k' c) _ ?_ ?_ _ _ ⟨rfl, rfl, hu⟩
  · rintro u rest r s' ⟨e1, rfl, all⟩
    obtain ⟨k', c, rfl, hc⟩ := all u (by simp)
    have all' : ∀ u ∈ rest, ∃ k' c, u = Value.ref c ∧ TupA P w s'.heap k' c := fun y hy => all y (by simp [hy])
    dsimp only
    by_cases same : (b == c || (carriedByValue (.ref b) && carriedByValue (.ref c))) = true
    · exact wp_if_pos same (wpAny_pure ⟨rfl, rfl, all'⟩)
    · refine wp_if_neg same (wpAny_bind (wpAny_eqIsQuiet_tuple hb ?_))
      simp only [Bool.not_true, Bool.false_eq_true, if_false]
      refine wpAny_bind (wpAny_eqIsQuiet_tuple hc ?_)
      simp only [Bool.not_true, Bool.false_eq_true, if_false]
      refine wpAny_bind (tupA_noClass hb ?_)
      simp only [Bool.false_eq_true, if_false]
      refine wpAny_bind (tupA_noClass hc ?_)
      simp only [Bool.false_eq_true, if_false]
      exact wpAny_pure ⟨rfl, rfl, all'⟩
  · rintro ⟨r1, r2⟩ s' ⟨e1, rfl, _⟩
    simp only at e1
    subst e1
    exact wpAny_pure q
end
/-- the set at a: its rows in the table's order -/
structure SetU (P : Program) (w : World) (h : Heap) (a : Addr) (L : List Row) (es : Array (Int × Value)) (ep : Nat) (t : SetTable) : Prop where
  obj : ∃ ob, h.get? a = some ob ∧ ob.ExactSet ∧ ob.data = .set es ep t
  row : es.toList = rowsU P w L
  tab : TabOk t (L.map fun q => hU P w q.2)
  one : (L.map Prod.snd).Nodup
  are : ∀ q ∈ L, TupA P w h q.2 q.1
  led : w.params.followText "set-order" = true ∨ t.led = true
  gap : L.length * 5 < t.mask * 3
  few : L.length < 64
section
variable {P : Program} {w : World} {A : Around} {E : Value → Shared → Prop} {s : Shared} {a : Addr} {L : List Row} {es : Array (Int × Value)} {ep : Nat} {t : SetTable} {h : Heap}
theorem rowsU_len (r : es.toList = rowsU P w L) : es.size = L.length := by
  have e := congrArg List.length r
  simpa [rowsU] using e
theorem SetU.size (R : SetU P w h a L es ep t) : es.size = L.length := rowsU_len R.row
theorem fits_of (sz : t.place.size = es.size) (dm : t.dummies = #[]) (le : es.size ≤ t.mask) : t.fits es.size = true := by
  simp [SetTable.fits, SetTable.fill, dm, sz, le]
theorem SetU.fits (R : SetU P w h a L es ep t) : t.fits es.size = true := by
  have e1 := R.tab.sz
  rw [List.length_map] at e1
  have e2 := R.size
  have e3 := R.gap
  exact fits_of (by omega) R.tab.dm (by omega)
theorem SetU.at (R : SetU P w h a L es ep t) {i : Nat} {q : Row} (e : L[i]? = some q) : es[i]? = some (hU P w q.2, Value.ref q.1) := by
  have e1 : es.toList[i]? = some (hU P w q.2, Value.ref q.1) := by rw [R.row]; simp [rowsU, e]
  simpa using e1
theorem SetU.stays (R : SetU P w h a L es ep t) : ¬ t.gaveWay = true := by
  unfold SetTable.gaveWay
  have := mask_odd R.tab.mok
  simp [this]
theorem nodummy (m : Nat) : ∀ (n : Nat) (p : SetTable.Probe), p.dummy = none → (nth m p n).dummy = none
  | 0, _, e => e
  | n + 1, p, e => nodummy m n (adv m p) (by unfold adv; split <;> exact e)
/-- from the c-th step of the way on -/
theorem findU_from (R : SetU P w s.heap a L es ep t) {x : Addr} {k : List Key} (hx : TupA P w s.heap k x) (hu : A.units < cLine) {n : Nat} (lim : n < 10 * SetTable.turns t.mask) (gap : wy t (hU P w k) n ∉ t.place.toList)
    (full : ∀ c, c < n → wy t (hU P w k) c ∈ t.place.toList) {Q : SetFound → Shared → Prop} (yes : k ∈ L.map Prod.snd → Q (.there none) s) (no : k ∉ L.map Prod.snd → Q (.free (wy t (hU P w k) n) false) s) :
    ∀ (f c : Nat) (at? : Option SetTable.Probe), at?.getD (t.probeStart (hU P w k)) = nth t.mask (st0 t (hU P w k)) c → c ≤ n → n - c < f →
      (∀ (i : Nat) q, L[i]? = some q → q.2 = k → ∃ d, c ≤ d ∧ d < n ∧ t.place.toList[i]? = some (wy t (hU P w k) d)) → wpAny (model P w) A (setSearchFrom a (.ref x) (hU P w k) true f at?) Q E s := by
  intro f
  induction f with
  | zero => intro c at? _ _ bad _; omega
  | succ f ih =>
    intro c at? hat hc hf left
    obtain ⟨ob, hob, _, hdt⟩ := R.obj
    rw [setSearchFrom_succ]
    refine wpAny_bind (wpAny_setState_of hob hdt R.fits ?_)
    dsimp only
    refine wp_if_neg R.stays ?_
    have sh : ∀ d, nth t.mask (nth t.mask (st0 t (hU P w k)) c) d = nth t.mask (st0 t (hU P w k)) (c + d) := fun d => (nth_add t.mask c _ d).symm
    have shj : ∀ d, (nth t.mask (nth t.mask (st0 t (hU P w k)) c) d).j = wy t (hU P w k) (c + d) := fun d => congrArg SetTable.Probe.j (sh d)
    have en : c + (n - c) = n := by omega
    have hash : ∀ (i : Nat) q, L[i]? = some q → (es[i]?.map (·.1)).getD 0 = hU P w q.2 := fun i q e => by rw [R.at e]; rfl
    have tell := go_spec t R.tab.ris R.tab.dm (fun i => (es[i]?.map (·.1)).getD 0) (hU P w k) (10 * SetTable.turns t.mask) (n - c) (nth t.mask (st0 t (hU P w k)) c) (nodummy _ _ _ rfl) (by omega)
      (fun d hd => by rw [shj]; exact full (c + d) (by omega)) (by rw [shj, en]; exact gap)
    rcases tell with ⟨d, i, hd, hi, hh, hno, pr⟩ | ⟨hno, pr⟩
    · have pr' : t.probe (fun i => (es[i]?.map (·.1)).getD 0) (hU P w k) (at?.getD (t.probeStart (hU P w k))) = some (.candidate (wy t (hU P w k) (c + d)) i (nth t.mask (st0 t (hU P w k)) (c + (d + 1)))) := by
        rw [hat, ← shj, ← sh]; exact pr
      rw [pr']
      dsimp only
      rw [shj] at hi
      have il : i < L.length := by
        have e1 := (List.getElem?_eq_some_iff.mp hi).1
        have e2 := R.tab.sz
        rw [List.length_map] at e2
        rw [Array.length_toList] at e1
        omega
      obtain ⟨q, hq⟩ : ∃ q, L[i]? = some q := ⟨_, List.getElem?_eq_getElem il⟩
      have qin : q ∈ L := List.mem_of_getElem? hq
      have behind : wpAny (model P w) A (searchRest a (.ref x) (hU P w k) true f es t (wy t (hU P w k) (c + d)) i (nth t.mask (st0 t (hU P w k)) (c + (d + 1)))) Q E s := by
        unfold searchRest
        rw [R.at hq]
        dsimp only
        refine wpAny_bind (wpAny_holding (wpAny_eqBool_tuple hu (R.are q qin) hx (wpAny_bind (wpAny_setState_of hob hdt R.fits ?_))))
        dsimp only
        by_cases qk : q.2 = k
        · exact wp_if_pos (by simp [qk]) (wpAny_pure (yes (List.mem_map.mpr ⟨q, qin, qk⟩)))
        · refine wp_if_neg (by simp [qk]) ?_
          rw [L2.sameMem]
          dsimp only
          have live := slot_live R.tab.ris hi
          simp only [if_true, live, R.at hq]
          refine wpAny_bind (wpAny_isSame_ref_self (wpAny_bind (wpAny_pure ?_)))
          simp only [if_true]
          refine wp_if_neg (by simp [qk]) (ih (c + (d + 1)) _ rfl (by omega) (by omega) fun j r hj rk => ?_)
          obtain ⟨e, b1, b2, b3⟩ := left j r hj rk
          refine ⟨e, ?_, b2, b3⟩
          rcases Nat.lt_trichotomy e (c + d) with z | z | z
          · refine absurd ?_ (hno (e - c) j (by omega) (by rw [shj, show c + (e - c) = e by omega]; exact b3))
            show (es[j]?.map (·.1)).getD 0 = _
            rw [hash j r hj, rk]
          · subst z
            have l2 := slot_live R.tab.ris b3
            rw [live] at l2
            injection l2 with l2
            rw [← l2, hq] at hj
            cases hj
            exact absurd rk qk
          · omega
      by_cases ld : t.led = true
      · exact wp_if_neg (by simp [ld]) behind
      · refine wp_if_pos (by simp [ld]) (wpAny_bind (tupA_unseen hx (fun u hu' => ?_) (wp_if_neg (by decide) behind)))
        obtain ⟨e, he, rfl⟩ := List.mem_map.mp hu'
        have he' : e ∈ es.toList := by
          have z : e ∈ es ∧ e.1 = hU P w k := by simpa using he
          simpa using z.1
        rw [R.row] at he'
        obtain ⟨r, hr, rfl⟩ := List.mem_map.mp he'
        exact ⟨r.2, r.1, rfl, R.are r hr⟩
    · have pr' : t.probe (fun i => (es[i]?.map (·.1)).getD 0) (hU P w k) (at?.getD (t.probeStart (hU P w k))) = some (.empty (wy t (hU P w k) n) none) := by
        have z := shj (n - c)
        rw [en] at z
        rw [hat, ← z]; exact pr
      rw [pr']
      dsimp only
      refine wpAny_pure (no fun hm => ?_)
      obtain ⟨r, hr, rk⟩ := List.mem_map.mp hm
      obtain ⟨j, hj, e⟩ := List.getElem_of_mem hr
      have hj' : L[j]? = some r := by rw [List.getElem?_eq_getElem hj, e]
      obtain ⟨e, b1, b2, b3⟩ := left j r hj' rk
      refine hno (e - c) j (by omega) (by rw [shj, show c + (e - c) = e by omega]; exact b3) ?_
      show (es[j]?.map (·.1)).getD 0 = _
      rw [hash j r hj', rk]
theorem findU (R : SetU P w s.heap a L es ep t) {x : Addr} {k : List Key} (hx : TupA P w s.heap k x) (hu : A.units < cLine) {Q : SetFound → Shared → Prop} (yes : k ∈ L.map Prod.snd → Q (.there none) s)
    (no : ∀ n, k ∉ L.map Prod.snd → wy t (hU P w k) n ∉ t.place.toList → (∀ c, c < n → wy t (hU P w k) c ∈ t.place.toList) → Q (.free (wy t (hU P w k) n) false) s) :
    wpAny (model P w) A (setSearch a (.ref x) (hU P w k) true) Q E s := by
  have g := R.gap
  obtain ⟨n, b1, b2, b3⟩ := R.tab.first (by rw [List.length_map]; omega) (hU P w k)
  have small : n < 100000 := by
    refine Nat.lt_of_lt_of_le b1 ?_
    unfold SetTable.turns
    rcases R.tab.mok with e | e | e <;> omega
  unfold setSearch
  refine findU_from R hx hu b1 b2 b3 yes (fun z => no n z b2 b3) 100000 0 none rfl (by omega) (by omega) fun i q hq qk => ?_
  have e1 : (L.map fun q => hU P w q.2)[i]? = some (hU P w k) := by rw [List.getElem?_map, hq, ← qk]; rfl
  have e2 : i < t.place.toList.length := by
    have z1 := (List.getElem?_eq_some_iff.mp hq).1
    have z2 := R.tab.sz
    rw [List.length_map] at z2
    rw [Array.length_toList]; omega
  have e3 := List.getElem?_eq_getElem e2
  obtain ⟨c, c1, c2⟩ := R.tab.before b2 e1 e3
  exact ⟨c, by omega, c1, by rw [e3, ← c2]⟩
end
end DL

set_option Elab.async false
set_option linter.all false
set_option maxRecDepth 100000
set_option maxHeartbeats 4000000
/-! Sets of tuples of ints and texts: one more put in. -/
namespace DL
open PySem PySem.Spec L2
section
variable {P : Program} {w : World} {A : Around} {E : Value → Shared → Prop} {s : Shared} {a : Addr} {L : List Row} {es : Array (Int × Value)} {ep : Nat} {t : SetTable}
theorem TupA.beside {h h' : Heap} {k : List Key} {b : Addr} {ob : Obj} (hb : TupA P w h k b) (hob : h.get? a = some ob) (hdt : ob.data = .set es ep t) (sb : Heap.SameBut a h h') : TupA P w h' k b := by
  obtain ⟨o1, its, n, e1, e2, e3, e4⟩ := hb
  have ne : b ≠ a := fun z => by
    subst z
    rw [hob] at e1
    cases e1
    rw [hdt] at e3
    cases e3
  exact ⟨o1, its, n, by rw [sb.2 b ne]; exact e1, e2, e3, e4⟩
theorem TupA.grown {h h' : Heap} {k : List Key} {b : Addr} (hb : TupA P w h k b) (g : ∀ c u, h.get? c = some u → h'.get? c = some u) : TupA P w h' k b := by
  obtain ⟨o1, its, n, e1, r⟩ := hb
  exact ⟨o1, its, n, g b o1 e1, r⟩
/-- the entries, taken in another order -/
theorem picked (L : List Row) (es : Array (Int × Value)) (ord : Array Nat) (row : es.toList = rowsU P w L) (pm : ord.toList.Perm (List.range L.length)) :
    ∃ M, (ord.filterMap (es[·]?)).toList = rowsU P w M ∧ M.Perm L ∧ (M.map fun q => hU P w q.2) = ord.toList.map fun i => (es.map (·.1)).getD i 0 := by
  have sz := rowsU_len row
  have ent : ∀ (i : Nat) (hi : i < L.length), es[i]? = some (hU P w L[i].2, Value.ref L[i].1) := fun i hi => by
    have e1 : es.toList[i]? = some (hU P w L[i].2, Value.ref L[i].1) := by rw [row]; simp [rowsU, hi]
    simpa using e1
  have step : ∀ l : List Nat, (∀ i ∈ l, i < L.length) → ∃ M : List Row, l.filterMap (fun i => es[i]?) = rowsU P w M ∧ M = l.filterMap (fun i => L[i]?) ∧ (M.map fun q => hU P w q.2) = l.map fun i => (es.map (·.1)).getD i 0 := by
    intro l
    induction l with
    | nil => exact fun _ => ⟨[], rfl, rfl, rfl⟩
    | cons i l ih =>
      intro all
      have hi := all i (by simp)
      obtain ⟨M, m1, m2, m3⟩ := ih fun j hj => all j (by simp [hj])
      refine ⟨L[i] :: M, ?_, ?_, ?_⟩
      · rw [List.filterMap_cons_some (ent i hi), m1]; rfl
      · rw [List.filterMap_cons_some (List.getElem?_eq_getElem hi), ← m2]
      · have e5 : (es.map (·.1))[i]? = some (hU P w L[i].2) := by rw [Array.getElem?_map, ent i hi]; rfl
        have e4 : (es.map (·.1)).getD i 0 = hU P w L[i].2 := by simp [Array.getD_eq_getD_getElem?, e5]
        rw [List.map_cons, List.map_cons, m3, e4]
  obtain ⟨M, m1, m2, m3⟩ := step ord.toList fun i hi => List.mem_range.mp (pm.mem_iff.mp hi)
  have whole : (List.range L.length).filterMap (fun i => L[i]?) = L := by
    have upto : ∀ n, n ≤ L.length → (List.range n).filterMap (fun i => L[i]?) = L.take n := by
      intro n
      induction n with
      | zero => exact fun _ => rfl
      | succ n ih =>
        intro hn
        rw [List.range_succ, List.filterMap_append, ih (by omega), List.take_add_one]
        simp [List.getElem?_eq_getElem (show n < L.length by omega)]
    simpa using upto L.length (by omega)
  refine ⟨M, ?_, ?_, m3⟩
  · first | (rw [Array.toList_filterMap]; exact m1) | simpa using m1
  · have z := pm.filterMap (fun i => L[i]?)
    rw [whole] at z
    rw [m2]; exact z
theorem relayU {ob : Obj} (hob : s.heap.get? a = some ob) (ex : ob.ExactSet) (hdt : ob.data = .set es ep t) (row : es.toList = rowsU P w L) (sz : t.place.size = es.size) (dm : t.dummies = #[]) (le : es.size ≤ t.mask)
    (one : (L.map Prod.snd).Nodup) (are : ∀ q ∈ L, TupA P w s.heap q.2 q.1) (led : w.params.followText "set-order" = true ∨ t.led = true) (few : L.length < 64) {want M : Nat}
    (e : SetTable.sizeAbove want - 1 = M) (mo : MaskOk M) (sm : SetTable.sizeAbove want ≤ 128) (gap : L.length * 5 < M * 3) {Q : Unit → Shared → Prop}
    (q : ∀ h' L' es' ep' t', Heap.SameBut a s.heap h' → SetU P w h' a L' es' ep' t' → L'.Perm L → Q () { s with heap := h' }) : wpAny (model P w) A (setRelay a want) Q E s := by
  have n := rowsU_len row
  obtain ⟨t', ord, r1, r2, T, r3, r4, r5, r6⟩ := relaid_ok t (hs := es.map (·.1)) (wanted := want) e mo (by rw [Array.size_map]; omega)
  rw [Array.size_map, n] at r2
  obtain ⟨L', p1, p2, p3⟩ := picked L es ord row r2
  rw [← p3] at T
  have n2 : (ord.filterMap (es[·]?)).size = es.size := by rw [rowsU_len p1, p2.length_eq, n]
  rw [setRelay_eq]
  refine wpAny_bind (wpAny_setState_of hob hdt (fits_of sz dm le) ?_)
  dsimp only
  refine wp_if_neg (by rw [sizeLine_eq]; omega) ?_
  rw [r1]
  dsimp only
  refine wpAny_bind (wp_if_neg (by rw [n2]; simp) (wpAny_pure ?_))
  dsimp only
  refine wpAny_storeSet_of hob hdt ?_ (by rw [sizeLine_eq]; omega)
  have sb : Heap.SameBut a s.heap (s.heap.update a (Obj.putSet (ord.filterMap (es[·]?)) t')) := Heap.SameBut.update ..
  refine q _ L' _ (ep + 1) t' sb ⟨⟨_, store_at hob hdt, ⟨ex.1, ex.2.1, ex.2.2⟩, rfl⟩, p1, T, ?_, fun r hr => TupA.beside (are r (p2.mem_iff.mp hr)) hob hdt sb, ?_, ?_, ?_⟩ p2
  · exact (p2.map Prod.snd).nodup_iff.mpr one
  · rw [r4]; exact led
  · rw [p2.length_eq, r3]; exact gap
  · rw [p2.length_eq]; exact few
theorem storeU (R : SetU P w s.heap a L es ep t) {ob : Obj} (hob : s.heap.get? a = some ob) (ex : ob.ExactSet) (hdt : ob.data = .set es ep t) {x : Addr} {k : List Key} (hx : TupA P w s.heap k x) (notin : k ∉ L.map Prod.snd) {L1 : List Row} {es1 : Array (Int × Value)} {t1 : SetTable}
    (row1 : es1.toList = rowsU P w L1) (sz1 : es1.size = L1.length) (tab1 : TabOk t1 (L1.map fun q => hU P w q.2)) (one1 : (L1.map Prod.snd).Nodup) (pm : L1.Perm ((x, k) :: L)) (few : L.length + 1 < 64) (q4 : t1.mask = t.mask) (q5 : t1.led = t.led) (q9 : t1.fill = (L.map fun q => hU P w q.2).length + 1) {Q : Bool → Shared → Prop}
    (q : ∀ b h' L' es' ep' t', Heap.SameBut a s.heap h' → SetU P w h' a L' es' ep' t' → (k ∈ L.map Prod.snd → L' = L) → (k ∉ L.map Prod.snd → L'.Perm ((x, k) :: L)) → Q b { s with heap := h' }) :
    wpAny (model P w) A (do
      storeSet a es1 t1
      if (!false && t1.tooFull) = true then setRelay a (SetTable.grown (es.size + 1))
      return true) Q E s := by
  have n := R.size
  have g := R.gap
  have ln : L1.length = L.length + 1 := pm.length_eq
  refine wpAny_bind (wpAny_storeSet_of hob hdt ?_ (by rw [sizeLine_eq]; omega))
  have sb : Heap.SameBut a s.heap (s.heap.update a (Obj.putSet es1 t1)) := Heap.SameBut.update ..
  have hob1 := store_at (es' := es1) (t' := t1) hob hdt
  generalize s.heap.update a (Obj.putSet es1 t1) = h1 at sb hob1 ⊢
  have are1 : ∀ r ∈ L1, TupA P w h1 r.2 r.1 := fun r hr => by
    rcases List.mem_cons.mp (pm.mem_iff.mp hr) with rfl | hr
    · exact hx.beside hob hdt sb
    · exact (R.are r hr).beside hob hdt sb
  have led1 : w.params.followText "set-order" = true ∨ t1.led = true := by rw [q5]; exact R.led
  by_cases full : t1.tooFull = true
  · first
      | (refine wpAny_bind (wp_if_pos (by simp [full]) ?_))
      | (refine wp_if_pos (by simp [full]) (wpAny_bind ?_))
    have many : t1.mask * 3 ≤ (L.length + 1) * 5 := by
      unfold SetTable.tooFull at full
      rw [decide_eq_true_eq, q9, List.length_map] at full
      exact full
    have at1 : t1.place.size = es1.size := by
      have z := tab1.sz
      rw [List.length_map] at z
      omega
    have which : (t.mask = 7 ∧ L.length = 4) ∨ (t.mask = 31 ∧ L.length = 18) := by
      rw [q4] at many
      rcases R.tab.mok with e | e | e <;> rw [e] at many g
      · exact .inl ⟨e, by omega⟩
      · exact .inr ⟨e, by omega⟩
      · omega
    have go : ∀ M, SetTable.sizeAbove (SetTable.grown (L.length + 1)) - 1 = M → MaskOk M → SetTable.sizeAbove (SetTable.grown (L.length + 1)) ≤ 128 → (L.length + 1) * 5 < M * 3 →
        wpAny (model P w) A (setRelay a (SetTable.grown (L.length + 1))) (fun _ s' => wpAny (model P w) A (pure true) Q E s') E { s with heap := h1 } := fun M m1 m2 m3 m4 =>
      relayU (s := { s with heap := h1 }) hob1 ⟨ex.1, ex.2.1, ex.2.2⟩ rfl row1 at1 tab1.dm (by rcases which with ⟨e1, e2⟩ | ⟨e1, e2⟩ <;> omega) one1 are1 led1 (by omega) m1 m2 m3 (by rw [ln]; exact m4)
        fun h2 L2 es2 ep2 t2 sb2 R2 pm2 => wpAny_pure (q true h2 L2 es2 ep2 t2 (sb.trans sb2) R2 (fun z => absurd z notin) fun _ => pm2.trans pm)
    rw [n]
    rcases which with ⟨_, e2⟩ | ⟨_, e2⟩
    · exact go 31 (by rw [e2, size_20]) (.inr (.inl rfl)) (by rw [e2, size_20]; decide) (by omega)
    · exact go 127 (by rw [e2, size_76]) (.inr (.inr rfl)) (by rw [e2, size_76]; decide) (by omega)
  · first
      | refine wp_if_neg (by simp [full]) ?_
      | (refine wpAny_bind (wp_if_neg (by simp [full]) (wpAny_pure ?_)))
    have few1 : ¬ t1.mask * 3 ≤ (L.length + 1) * 5 := fun z => full (by
      unfold SetTable.tooFull
      rw [decide_eq_true_eq, q9, List.length_map]
      exact z)
    exact wpAny_pure (q true h1 L1 es1 (ep + 1) t1 sb ⟨⟨_, hob1, ⟨ex.1, ex.2.1, ex.2.2⟩, rfl⟩, row1, tab1, one1, are1, led1, by omega, by omega⟩ (fun z => absurd z notin) fun _ => pm)
theorem addU (R : SetU P w s.heap a L es ep t) {x : Addr} {k : List Key} (hx : TupA P w s.heap k x) (hu : A.units < cLine) (few : L.length + 1 < 64) {Q : Bool → Shared → Prop}
    (q : ∀ b h' L' es' ep' t', Heap.SameBut a s.heap h' → SetU P w h' a L' es' ep' t' → (k ∈ L.map Prod.snd → L' = L) → (k ∉ L.map Prod.snd → L'.Perm ((x, k) :: L)) → Q b { s with heap := h' }) :
    wpAny (model P w) A (setAddHashed a (.ref x) (hU P w k)) Q E s := by
  obtain ⟨ob, hob, ex, hdt⟩ := R.obj
  have n := R.size
  have g := R.gap
  unfold setAddHashed
  refine wpAny_holding ?_
  rw [show (100000 : Nat) = 99999 + 1 from rfl, setAddHashedIn_succ]
  refine wpAny_bind (wpAny_setState_of hob hdt R.fits ?_)
  dsimp only
  refine wp_if_neg (by simp [byScan, Value.scannable]) (wpAny_bind (findU R hx hu (fun isin => ?_) fun c notin c1 c2 => ?_))
  · exact wpAny_pure (q false s.heap L es ep t (.refl _ _) R (fun _ => rfl) fun z => absurd isin z)
  dsimp only
  refine wpAny_bind (wpAny_setState_of hob hdt R.fits ?_)
  dsimp only
  obtain ⟨q1, q2, q3, q4, q5, q6, q7, q8, q9⟩ := R.tab.put c1 c2
  show wpAny _ _ _ _ _ _
  generalize hput : t.put (way t.mask (hU P w k) c) = pt at q1 q3 q4 q5 q9 ⊢
  obtain ⟨t0, p⟩ := pt
  dsimp only at q1 q3 q4 q5 q9 ⊢
  subst q1
  have row1 : (SetTable.insertAt es (SetTable.below t.place (way t.mask (hU P w k) c)) (hU P w k, Value.ref x)).toList = rowsU P w (L.take (SetTable.below t.place (way t.mask (hU P w k) c)) ++ (x, k) :: L.drop (SetTable.below t.place (way t.mask (hU P w k) c))) := by
    rw [SetTable.toList_insertAt, R.row]
    simp [rowsU]
  generalize hbel : SetTable.below t.place (way t.mask (hU P w k) c) = p at q2 q3 row1 ⊢
  have pm : (L.take p ++ (x, k) :: L.drop p).Perm ((x, k) :: L) := put_perm L p (x, k)
  have tab1 : TabOk t0 ((L.take p ++ (x, k) :: L.drop p).map fun q => hU P w q.2) := by
    rw [List.map_append, List.map_cons, List.map_take, List.map_drop]; exact q3
  have sz1 := rowsU_len row1
  generalize SetTable.insertAt es p (hU P w k, Value.ref x) = es1 at row1 sz1 ⊢
  generalize L.take p ++ (x, k) :: L.drop p = L1 at pm tab1 row1 sz1
  have ln : L1.length = L.length + 1 := pm.length_eq
  have one1 : (L1.map Prod.snd).Nodup := (pm.map Prod.snd).nodup_iff.mpr (List.nodup_cons.mpr ⟨notin, R.one⟩)
  -- the table, though it may no longer be plain
  have sure : ∀ r : Bool, ∃ t1, t1 = (if r = true then t0 else { t0 with plain := false }) ∧ TabOk t1 (L1.map fun q => hU P w q.2) ∧ t1.mask = t0.mask ∧ t1.led = t0.led ∧ t1.fill = t0.fill := fun r => by
    cases r
    · exact ⟨_, rfl, ⟨tab1.ris, tab1.dm, tab1.sz, tab1.mok, tab1.bd, tab1.reach⟩, rfl, rfl, rfl⟩
    · exact ⟨_, rfl, tab1, rfl, rfl, rfl⟩
  have behind : ∀ r : Bool, wpAny (model P w) A (do
      storeSet a es1 (if r = true then t0 else { t0 with plain := false })
      if (!false && (if r = true then t0 else { t0 with plain := false }).tooFull) = true then setRelay a (SetTable.grown (es.size + 1))
      return true) Q E s := fun r => by
    obtain ⟨t1, et, tab2, w1, w2, w3⟩ := sure r
    rw [← et]
    rw [← w1] at q4
    rw [← w2] at q5
    rw [← w3] at q9
    exact storeU R hob ex hdt hx notin row1 sz1 tab2 one1 pm few q4 q5 q9 q
  by_cases pl : t0.plain = true
  · first
      | (refine wpAny_bind (wp_if_pos pl (tupA_byValue hx fun r => ?_)); exact behind r)
      | (refine wp_if_pos pl (wpAny_bind (tupA_byValue hx fun r => ?_)); exact behind r)
  · first
      | (refine wpAny_bind (wp_if_neg pl (wpAny_pure ?_)); exact behind true)
      | (refine wp_if_neg pl (wpAny_bind (wpAny_pure ?_)); exact behind true)
/-- s.add(x) -/
theorem call_addU (R : SetU P w s.heap a L es ep t) {x : Addr} {k : List Key} (hx : TupA P w s.heap k x) (hu : A.units + 1 < cLine) (few : L.length + 1 < 64) {Q : Value → Shared → Prop}
    (q : ∀ h' tk L' es' ep' t', Heap.SameBut a s.heap h' → SetU P w h' a L' es' ep' t' → (k ∈ L.map Prod.snd → L' = L) → (k ∉ L.map Prod.snd → L'.Perm ((x, k) :: L)) → Q .none { s with heap := h', toks := tk }) :
    wpAny (model P w) A (call (.builtin "set.add") [.ref a, .ref x]) Q E s := by
  have ty : s.TypeIs (.ref a) "set" := by
    obtain ⟨ob, hob, ex, _⟩ := R.obj
    exact ⟨ob, hob, ex.1⟩
  refine wpAny_call_entry F.slot_set_add ty F.entry_set_add ?_ (F.args_set_add_2 _ _)
  unfold Builtin.«set.add» Builtin.Frozenset.oneOther
  simp only [List.isEmpty_nil, bind_assoc]
  unfold Builtin.Frozenset.addrOf setAdd
  refine wpAny_bind (wpAny_pure ?_)
  try dsimp only
  refine wpAny_bind (wpAny_pure ?_)
  try dsimp only
  refine wpAny_bind (wpAny_holding (wpAny_bind (wpAny_pyHash_tuple (by show A.in1.units < cLine; simp; omega) hx ?_)))
  refine addU (s := { s with toks := s.toks + (k.length + 1) }) R hx (by show A.in1.units < cLine; simp; omega) few fun b h' L' es' ep' t' sb R' c1 c2 => ?_
  show wpAny _ _ (ret Value.none) _ _ _
  exact wpAny_pure ⟨_, rfl, q h' _ L' es' ep' t' sb R' c1 c2⟩
/-- a new set -/
theorem setU_new {h : Heap} (hob : h.get? a = some { cls := .type "set", dict := none, data := .set #[] 0 (.fresh 0 0 (!w.params.followText "set-order")) }) : SetU P w h a [] #[] 0 (.fresh 0 0 (!w.params.followText "set-order")) where
  obj := ⟨_, hob, ⟨rfl, rfl, rfl⟩, rfl⟩
  row := rfl
  tab := ⟨.nil, rfl, rfl, .inl rfl, (fun _ z => by cases z), (fun i h j z => by simp at z)⟩
  one := .nil
  are := fun _ z => by cases z
  led := by
    show _ ∨ (!w.params.followText "set-order") = true
    cases w.params.followText "set-order" <;> simp
  gap := by show 0 < 7 * 3; decide
  few := by show 0 < 64; decide
end
end DL

set_option Elab.async false
set_option linter.all false
set_option maxRecDepth 100000
set_option maxHeartbeats 4000000
/-! sorted({x for .. in .. if ..}), x tuples of texts. -/
namespace DL
open PySem PySem.Spec L2
variable [TbC]
/-- a row as a key -/
def upR (q : RowS) : Row := (q.1, q.2.map Sum.inr)
theorem upR_inj {k k' : List Str} (h : (k.map Sum.inr : List Key) = k'.map Sum.inr) : k = k' := by
  induction k generalizing k' with
  | nil => cases k' with
    | nil => rfl
    | cons _ _ => simp at h
  | cons x k ih => cases k' with
    | nil => simp at h
    | cons y k' =>
      simp only [List.map_cons, List.cons.injEq, Sum.inr.injEq] at h
      rw [h.1, ih h.2]
theorem up_kV (k : List Str) : (k.map Sum.inr : List Key).map kV = k.map V.str := by
  induction k with
  | nil => rfl
  | cons x k ih => rw [List.map_cons, List.map_cons, ih]; rfl
theorem up_mem {k : List Str} {L : List RowS} : (k.map Sum.inr : List Key) ∈ (L.map upR).map Prod.snd ↔ k ∈ L.map Prod.snd := by
  rw [List.map_map, List.mem_map, List.mem_map]
  constructor
  · rintro ⟨q, h1, h2⟩; exact ⟨q, h1, upR_inj h2⟩
  · rintro ⟨q, h1, rfl⟩; exact ⟨q, h1, rfl⟩
/-- the set at a, without the tuples -/
def SetV (P : Program) (w : World) (h : Heap) (a : Addr) (L : List Row) : Prop := ∃ es ep t, (∃ ob, h.get? a = some ob ∧ ob.ExactSet ∧ ob.data = .set es ep t) ∧ es.toList = rowsU P w L ∧ TabOk t (L.map fun q => hU P w q.2) ∧ (L.map Prod.snd).Nodup ∧
  (w.params.followText "set-order" = true ∨ t.led = true) ∧ L.length * 5 < t.mask * 3 ∧ L.length < 64
def SetO (P : Program) (w : World) (a : Addr) (L : List Row) : HO := .ext fun h => SetV P w h a L
section
variable {P : Program} {w : World} {h : Heap} {a : Addr} {L : List Row} {es : Array (Int × Value)} {ep : Nat} {t : SetTable}
theorem SetU.v (R : SetU P w h a L es ep t) : SetV P w h a L := ⟨es, ep, t, R.obj, R.row, R.tab, R.one, R.led, R.gap, R.few⟩
theorem SetV.u (R : SetV P w h a L) (are : ∀ q ∈ L, TupA P w h q.2 q.1) : ∃ es ep t, SetU P w h a L es ep t := by
  obtain ⟨es, ep, t, h1, h2, h3, h4, h5, h6, h7⟩ := R
  exact ⟨es, ep, t, h1, h2, h3, h4, are, h5, h6, h7⟩
theorem setO_new {H : Hp} (R : SetV P w h a L) : ObjOk P w H h a (SetO P w a L) := by
  have ⟨_, _, _, ⟨ob, hob, _⟩, _⟩ := R
  refine ⟨R, ⟨ob, hob⟩, fun h1 h2 p kk => ?_⟩
  obtain ⟨es, ep, t, ⟨ob, hob, r⟩, rest⟩ := (show SetV P w h1 a L from p)
  exact ⟨es, ep, t, ⟨ob, kk ob hob, r⟩, rest⟩
end
section
variable {P : Program} {w : World} {A : Around} {E : Value → Shared → Prop} {s : Shared}
theorem items_strs : ∀ {k : List Str} {us : List Value}, ItemsAre (mixKind P w) (k.map Sum.inr) us → PyProof.Rows.StrsAre us k
  | [], _, .nil => .nil
  | x :: k, _, .cons r t => by
    rcases keyIs_shape (show keyIs (Sum.inr x) _ = true from r) with ⟨i, u, e, _⟩ | ⟨y, u, e, rfl⟩
    · cases e
    · cases e
      exact .cons x u (items_strs t)
theorem tupA_s {h : Heap} {k : List Str} {b : Addr} (hb : TupA P w h (k.map Sum.inr) b) (ne : k ≠ []) : TupS h k b := by
  obtain ⟨ob, its, n, h1, h2, h3, h4⟩ := hb
  exact ⟨ob, its, n, h1, h2, h3, items_strs h4, ne⟩
theorem TupS.grown {h h' : Heap} {k : List Str} {b : Addr} (hb : TupS h k b) (g : ∀ c u, h.get? c = some u → h'.get? c = some u) : TupS h' k b := by
  obtain ⟨o1, its, n, e1, r⟩ := hb
  exact ⟨o1, its, n, g b o1 e1, r⟩
/-- sorted(s), s a set of tuples of texts -/
theorem sorted_setU {a : Addr} {L : List RowS} {es : Array (Int × Value)} {ep : Nat} {t : SetTable} {Q : Value → Shared → Prop} (R : SetU P w s.heap a (L.map upR) es ep t) (ne : ∀ q ∈ L, q.2 ≠ []) (hh : A.handled = none)
    (q : ∀ s' p (c : Nat) (out : List RowS), out.Perm L → (out.map Prod.snd).Pairwise leK → (∀ b u, s.heap.get? b = some u → s'.heap.get? b = some u) → s'.gens = s.gens → s'.os = s.os → s.heap.objs.size ≤ p →
      s'.heap.get? p = some (PyProof.Rows.seqObj "list" (out.map fun r => Value.ref r.1).toArray c) → Q (.ref p) s') : wpAny (model P w) A (call (.builtin "sorted") [.ref a]) Q E s := by
  have sz := R.size
  rw [List.length_map] at sz
  have fw := R.few
  rw [List.length_map] at fw
  obtain ⟨ob, hob, ex, hdt⟩ := R.obj
  refine Calls.call_function_entry PyProof.Rows.kind_sorted PyProof.Rows.plain_sorted PyProof.Rows.entry_sorted (PyProof.Rows.args_sorted1 _) ?_
  unfold Builtin.«sorted»
  refine wpAny_bind (m := checkCount "sorted" 1 1 _) (wpAny_pure (wpAny_bind (collect_set (A := A.in1) hh ⟨ob, hob, ex.1, hdt⟩ R.fits (by unfold scanBound; omega) R.tab.ris R.led fun s1 vs k1 z1 g1 o1 pm => ?_)))
  have e1 : es.toList.map (·.2) = L.map fun r => Value.ref r.1 := by
    rw [R.row]
    simp [rowsU, upR, Function.comp_def]
  rw [e1] at pm
  obtain ⟨rs, rfl, prs⟩ := perm_back pm rfl
  have lrs : rs.length = L.length := prs.length_eq
  have fit : (rs.map fun r => Value.ref r.1).length ≤ sizeLine := by rw [List.length_map, sizeLine_eq]; omega
  refine wpAny_bind (wpAny_newList ?_ fit)
  have hL : (s1.heap.push (PyProof.Rows.seqObj "list" (rs.map fun r => Value.ref r.1).toArray 0)).get? s1.heap.objs.size = some (PyProof.Rows.seqObj "list" (rs.map fun r => Value.ref r.1).toArray 0) := Heap.get?_push_size _ rfl
  have all : ∀ r ∈ rs, TupS (s1.heap.push (PyProof.Rows.seqObj "list" (rs.map fun r => Value.ref r.1).toArray 0)) r.2 r.1 := fun r hr => by
    have hrL := prs.mem_iff.mp hr
    exact (tupA_s (R.are (upR r) (List.mem_map.mpr ⟨r, hrL, rfl⟩)) (ne r hrL)).grown fun b u hu => Heap.get?_push_of_some _ (k1 b u hu)
  obtain ⟨fs, hfs⟩ := TupS.firsts all
  refine wpAny_bind (wpAny_holding (wpAny_call_entry PyProof.Rows.slot_list_sort ⟨_, hL, rfl⟩ PyProof.Rows.entry_list_sort (PyProof.Rows.G.list_sort_tups (s := { s1 with heap := s1.heap.push (PyProof.Rows.seqObj "list" (rs.map fun r => Value.ref r.1).toArray 0) }) hL hfs (fun v hv => ?_) fit fun st' pm2 so _ => ⟨_, rfl, ?_⟩) (PyProof.Rows.args_list_sort _)))
  · obtain ⟨r, hr, rfl⟩ := List.mem_map.mp hv
    exact ⟨_, (all r hr).key⟩
  obtain ⟨out, f1, f2, f3⟩ := sorted_rows all pm2 so
  obtain ⟨c, hc⟩ := PyProof.Rows.sortedHeap_at (vs := rs.map fun r => Value.ref r.1) (out := (PyProof.Rows.arrOf st').map (·.2)) hL
  have e4 : (PyProof.Rows.arrOf st').map (·.2) = (out.map fun r => Value.ref r.1).toArray := by rw [← f1]
  rw [e4] at hc ⊢
  refine wpAny_pure ⟨_, rfl, q _ s1.heap.objs.size c out (f2.trans prs) f3 (fun b u hu => ?_) g1 o1 z1 hc⟩
  have hu1 := k1 b u hu
  have lt := Heap.lt_size hu1
  show (PyProof.Rows.sortedHeap (s1.heap.push _) s1.heap.objs.size _ _).get? b = some u
  rw [PyProof.Rows.sortedHeap_old (Nat.ne_of_lt lt) (by rw [PyProof.Rows.size_push']; exact Nat.lt_succ_of_lt lt)]
  exact Heap.get?_push_of_some _ hu1
end
/-! ### in the walk -/
section
variable {X : Cx} {pins : List (Addr × Obj)} {σ : L2.St} {H : Hp} {s : Shared}
theorem setO_get (I : Inv X pins σ H s) {a : Addr} {L : List Row} (ha : H a = some (SetO X.prog X.w a L)) (all : ∀ q ∈ L, H q.1 = some (.tup (q.2.map kV))) : ∃ es ep t, SetU X.prog X.w s.heap a L es ep t :=
  SetV.u (show SetV X.prog X.w s.heap a L from (I.hok a _ ha).1) fun q hq => key_of I.hok (all q hq)
def rSortU (P : Program) (w : World) : List V → Hp → VK → Prop := fun vs H Q => ∃ (a : Addr) (L : List RowS), vs = [V.ref a] ∧ H a = some (SetO P w a (L.map upR)) ∧ (∀ q ∈ L, H q.1 = some (.tup (q.2.map V.str)) ∧ q.2 ≠ []) ∧
  ∀ (out : List RowS) (p : Addr), out.Perm L → (out.map Prod.snd).Pairwise leK → H p = none → Q (.ref p) (upd H p (.lst (out.map fun r => V.ref r.1)))
theorem cr_sortU (hc : X.calm = true) : CallR X (.builtin "sorted") (rSortU X.prog X.w) := by
  intro pins s σ H vs us Q I r h
  obtain ⟨a, L, rfl, ha, all, q⟩ := h
  rw [Vals.ref1 r]
  obtain ⟨es, ep, t, R⟩ := setO_get I ha fun x hx => by
    obtain ⟨y, hy, rfl⟩ := List.mem_map.mp hx
    show H y.1 = some (.tup ((y.2.map Sum.inr : List Key).map kV))
    rw [up_kV]
    exact (all y hy).1
  have fw := R.few
  rw [List.length_map] at fw
  refine sorted_setU R (fun y hy => (all y hy).2) (I.ok.hd hc) fun s' p c out pm so kk hg ho hp hat => ?_
  have hpn := I.hok.fresh hp
  have J : Inv X pins σ (upd H p (.lst (out.map fun r => V.ref r.1))) s' :=
    I.call' (ch := []) ho (Un.laid kk hp hpn) (I.hok.laid kk hp ⟨by rw [List.length_map, pm.length_eq, sizeLine_eq]; omega, _, c, rows_refs out, hat⟩) (by rw [hg]; exact I.bare) (fun _ z => nomatch z)
  exact ⟨.ref p, _, J, rfl, q out p pm so hpn⟩
end
/-- what is put into the set at D -/
def rEmU (P : Program) (w : World) (D : Addr) (te : TE) : St → Hp → (Hp → Prop) → Prop := fun σ H Q => te σ H fun y H4 => ∃ (x : Addr) (k : List Str) (L : List RowS), y = V.ref x ∧ H4 x = some (.tup (k.map V.str)) ∧ H4 D = some (SetO P w D (L.map upR)) ∧ (∀ q ∈ L, H4 q.1 = some (.tup (q.2.map V.str))) ∧ L.length + 1 < 64 ∧
  ∀ L' : List RowS, (k ∈ L.map Prod.snd → L' = L) → (k ∉ L.map Prod.snd → L'.Perm ((x, k) :: L)) → Q (upd H4 D (SetO P w D (L'.map upR)))
theorem upR_back : ∀ {M : List Row} {L : List RowS}, M.Perm (L.map upR) → ∃ L' : List RowS, M = L'.map upR ∧ L'.Perm L := fun h => perm_back h rfl
theorem bhd_emU {X : Cx} {elt : Expr} {te : TE} {D : Addr} (hu : X.A.units + 1 < cLine) (hE : ∀ x s', X.xe x s' → False) (pe : PE X elt te) : Bhd X (emitS elt (.ref D) X.env) [] (rEmU X.prog X.w D te) := by
  refine ⟨fun pins s σ H Q k Pk Ek I h hk => ?_⟩
  have calm : ∀ {α : Type} {m : Sem α} {Q' : α → Shared → Prop} {E : Value → Shared → Prop} {s1 : Shared}, wpAny (model X.prog X.w) X.A m Q' X.xe s1 → wpAny (model X.prog X.w) X.A m Q' E s1 := fun z => wpAny_mono z (fun _ _ y => y) fun _ _ y => (hE _ _ y).elim
  unfold emitS
  refine wpAny_bind (wpAny_bind (wpAny_mono (calm (pe.run pins s σ H _ I h)) (fun z s1 ⟨y, H1, I1, r1, x, key, L, ey, hx, hD, all, few, q⟩ => ?_) fun _ _ y => y))
  subst ey
  cases (show z = Value.ref x from r1)
  refine wpAny_bind (wpAny_standAt (wpAny_bind ?_))
  obtain ⟨es, ep, t, R⟩ := setO_get I1 hD fun x hx => by
    obtain ⟨y, hy, rfl⟩ := List.mem_map.mp hx
    show H1 y.1 = some (.tup ((y.2.map Sum.inr : List Key).map kV))
    rw [up_kV]
    exact all y hy
  have hx' : TupA X.prog X.w s1.heap (key.map Sum.inr) x := key_of I1.hok (by rw [up_kV]; exact hx)
  refine call_addU R hx' hu (by rw [List.length_map]; exact few) fun h' tk M es' ep' t' sb R' c1 c2 => ?_
  have he : ∃ u, h'.get? D = some u := by
    obtain ⟨ob, hob, _⟩ := R'.obj
    exact ⟨ob, hob⟩
  have fin : ∀ L' : List RowS, M = L'.map upR → (key ∈ L.map Prod.snd → L' = L) → (key ∉ L.map Prod.snd → L'.Perm ((x, key) :: L)) → wpAny (model X.prog X.w) X.A (pure ()) (fun _ s' => wpAny (model X.prog X.w) X.A k Pk Ek s') Ek { s1 with heap := h', toks := tk } := fun L' e d1 d2 => by
    subst e
    exact wpAny_pure (hk _ _ (I1.write (e := D) (t' := tk) (by rw [hD]; trivial) (.inl rfl) (fun b u hb hu => (sb.2 b hb).trans hu) he (setO_new R'.v)) (q L' d1 d2))
  by_cases isin : key ∈ L.map Prod.snd
  · exact fin L (c1 (up_mem.mpr isin)) (fun _ => rfl) fun z => absurd isin z
  · obtain ⟨L', e, pm⟩ := upR_back (L := (x, key) :: L) (c2 fun z => isin (up_mem.mp z))
    exact fin L' e (fun z => absurd z isin) fun _ => pm
def hU0 (P : Program) (w : World) : Addr → HO := fun D => SetO P w D []
section
variable {X : Cx} {elt tg iter : Expr} {ifs : List Expr} {scope : Scope} {own : List (Str × Nat)} {pos : Pos} {wi : TI} {g : TG} {tt : TT} {te : TE}
theorem layU {pins : List (Addr × Obj)} {σ : St} {s : Shared} {H : Hp} (I : Inv X pins σ H s) : Inv X pins σ (upd H s.heap.objs.size (hU0 X.prog X.w s.heap.objs.size)) { s with heap := s.heap.push { cls := .type "set", dict := none, data := .set #[] 0 (.fresh 0 0 (!X.w.params.followText "set-order")) } } :=
  I.laid (t' := s.toks) (fun _ _ z => Heap.get?_push_of_some _ z) (Nat.le_refl _) (setO_new (setU_new (Heap.get?_push_size _ rfl)).v)
def tU1 (P : Program) (w : World) (wi : TI) (g : TG) (tt : TT) (te : TE) (vs : List Nat) : TE := tCompr wi g tt (fun D => rEmU P w D te) (hU0 P w) vs
theorem pe_U1 (c : Cl1 X elt elt tg iter ifs scope own wi g tt te te) : PE X (.SetComp elt [⟨tg, iter, ifs, 0⟩] scope pos) (tU1 X.prog X.w wi g tt te (own.map (·.2))) := by
  refine ⟨fun pins s σ H Q I h => ?_⟩
  rw [PpSet.eval_SetComp]
  refine compr_core (e := .SetComp elt [⟨tg, iter, ifs, 0⟩] scope pos) (rest := fun acc env => emitS elt acc env) (vr := []) (h0 := hU0 X.prog X.w) rfl (fun z => PpSet.newSet_ok z) layU (fun _ _ _ => code_S1) (fun _ _ _ _ => rfl) (fun _ _ _ => rfl) c.hc c.hN I c.hi c.ok (by simp) c.hg c.ht
    (fun s H C cl fp D => bhd_emU (X := X.blk s H scope (compEnvC scope cl C X.env) fp) c.hu blk_noE (c.hk s H C cl fp)) c.hs h fun D C s' m H' I' q hn f => ⟨m, hn, fun h'' sb => ?_⟩
  obtain ⟨f0, f1, f2, f3, f4, f5⟩ := f
  exact ⟨.ref D, H', I'.turned (t' := s'.toks) (fun b u hb e => (sb.2 b hb).trans e) f0 f1 f3 f4 f5, rfl, q⟩
end
/-! ### by data -/
def AcU (P : Program) (w : World) (Da : Addr) (a : List (List Str)) (B H : Hp) : Prop := B Da = none ∧ ∃ L : List RowS, H Da = some (SetO P w Da (L.map upR)) ∧ (L.map Prod.snd).Perm a ∧ ∀ q ∈ L, RowB B q
theorem accU {P : Program} {w : World} {Da : Addr} : Acc Da (AcU P w Da) := ⟨fun ⟨b, L, h, p, o⟩ x => ⟨x.sep Da (by rw [h]; simp) (by rw [h]; simp [SetO]) b, L, x.hh _ _ h, p, fun q hq => (o q hq).mono x.bb⟩, fun h => h.1⟩
section
variable {X : Cx} {N : List Str} {sc scope : Scope} {k : Nat} {own : List (Str × Nat)} {elt tg iter : Expr} {ifs : List Expr} {Γ : MEnv} {ρ : DEnv} {t : T} {l : List D} {pos p pos2 : Pos} {lv : Nat → Option (V × Bool × Hp)} {B0 H0 : Hp} {Da : Addr}
theorem rb_emU {y : D} {key : List Str} {a : List (List Str)} (hkey : strT y = some key) (he : ∀ (s : Shared) (H : Hp) (C : Addr) (cl : List (Str × Addr)) (fp : List Addr), EvM .sh (X.blk s H scope (compEnvC scope cl C X.env) fp) elt Γ ρ y) (hl : a.length < 62) :
    RB X.K Γ lv B0 H0 Da (AcU X.prog X.w Da) (rEmU X.prog X.w Da (tBlk X scope elt)) ρ a (if key ∈ a then a else key :: a) := by
  intro σ Bb Hb S hD B H x ac Q q
  show tBlk X scope elt σ H _
  intro s0 Hh C cl fp
  refine he s0 Hh C cl fp lv B0 H0 B H σ (S.grow x) _ fun v B4 H4 x4 r4 => ?_
  obtain ⟨b4, L, h4, pm, all⟩ := accU.mono ac x4
  obtain ⟨b, rfl, rb⟩ := strT_row r4 hkey
  refine ⟨b, key, L, rfl, x4.bh _ _ rb.1, h4, fun z hz => x4.bh _ _ (all z hz).1, by have := pm.length_eq; rw [List.length_map] at this; omega, fun L' d1 d2 => ?_⟩
  refine q B4 _ (ext_upd (x.trans x4) hD b4) x4.bb ⟨b4, L', upd_same, ?_, fun z hz => ?_⟩
  · by_cases isin : key ∈ a
    · rw [if_pos isin, d1 (pm.mem_iff.mpr isin)]; exact pm
    · rw [if_neg isin]
      exact ((d2 fun z => isin (pm.mem_iff.mp z)).map Prod.snd).trans (pm.cons key)
  · by_cases isin : key ∈ L.map Prod.snd
    · rw [d1 isin] at hz; exact all z hz
    · rcases List.mem_cons.mp ((d2 isin).mem_iff.mp hz) with rfl | hz
      · exact rb
      · exact all z hz
variable {tst : DEnv → Option Bool} {ev : DEnv → Option D}
theorem ev_S1 (w : One X N sc scope k own tg iter ifs Γ t tst) (hm : X.mg "sorted" = none) (hgl : glS sc "sorted" = true) (hev : ∀ ρ' y, ev ρ' = some y → ∀ (s : Shared) (H : Hp) (C : Addr) (cl : List (Str × Addr)) (fp : List Addr), EvM .sh (X.blk s H scope (compEnvC scope cl C X.env) fp) elt Γ ρ' y)
    (hi : EvI false X tg iter Γ ρ l) {ks : List (List Str)} (hr : foldG (f1G t (own.map (·.2)) tst (emU ev) ρ) l [] = some ks) : EvM .ow X (.Call (.Name "sorted" p) [.SetComp elt [⟨tg, iter, ifs, 0⟩] scope pos] [] pos2) Γ ρ (.lst ((sortK ks).map tupK)) := by
  obtain ⟨_, wi, hpi, hwi⟩ := hi
  intro lv B0 H0 B H σ S Q q
  refine of_pe (pe_callB (cr_sortU w.g.calm) (w.g.gl _ hgl) hm PyProof.Rows.boot_sorted (pa_cons (pe_U1 (w.c1 hpi)) pa_nil rfl) (he := rfl)) ?_
  show tU1 X.prog X.w wi (gOf X.K t) (tTBlk X scope ifs) (tBlk X scope elt) (own.map (·.2)) σ H (fun v H1 => rSortU X.prog X.w [v] H1 Q)
  refine w.read (Ac := AcU X.prog X.w) (fun _ => accU) (h0 := hU0 X.prog X.w) (tr1 := fun D => rEmU X.prog X.w D (tBlk X scope elt)) (a0 := []) (fun D B H b => ⟨b, [], upd_same, .nil, by simp⟩) (fun ρ' a a' h lv B0 H0 D => ?_) hwi hr lv B0 H0 B H σ S _ fun D B' H' hn x ⟨b, L, h, pm, all⟩ => ?_
  · unfold emU at h
    obtain ⟨y, r1, h⟩ := Option.bind_eq_some_iff.mp h
    obtain ⟨key, r2, h⟩ := Option.bind_eq_some_iff.mp h
    split at h
    · rename_i hl
      cases h
      exact rb_emU r2 (hev ρ' _ r1) hl
    · cases h
  · refine ⟨D, L, rfl, h, fun z hz => ⟨x.bh _ _ (all z hz).1, (all z hz).2.2⟩, fun out p2 po so hn2 => ?_⟩
    rw [← sortK_uniq ((po.map Prod.snd).trans pm) so] at q
    exact new_lst x.bh (reps_rows fun r hr => all r (po.mem_iff.mp hr)) (fun v B'' H'' x2 r2 => q v B'' H'' (x.trans x2) (r2.back x.hh)) p2 hn2
end
end DL

set_option Elab.async false
set_option linter.all false
set_option maxRecDepth 100000
set_option maxHeartbeats 4000000
namespace DL
open PySem PySem.Spec L2
variable [TbC]
variable (N : List Str) (fs : List (Str × List Md)) (Φ : Nat → List D → Option D) (k : Nat)

theorem bk_of {g : Str} {b : Blt} (h : bk g = some b) : (b = .len ∧ g = "len") ∨ (b = .list ∧ g = "list") ∨ (b = .tuple ∧ g = "tuple") ∨ (b = .int ∧ g = "int") ∨ (b = .isi ∧ g = "isinstance") ∨ (b = .sorted ∧ g = "sorted") ∨ (b = .max ∧ g = "max") ∨ (b = .min ∧ g = "min") := by
  unfold bk at h
  repeat' (split at h; · (cases h; simp_all))
  cases h
theorem mk_of {g : Str} {b : Mth} (h : mk g = some b) : (b = .starts ∧ g = "startswith") ∨ (b = .join ∧ g = "join") ∨ (b = .get ∧ g = "get") ∨ (b = .index ∧ g = "index") := by
  unfold mk at h
  split at h
  · cases h; simp_all
  split at h
  · cases h; simp_all
  split at h
  · cases h; simp_all
  split at h
  · cases h; simp_all
  · cases h
theorem itemsOf_eq {a o : Expr} (h : itemsOf a = some o) : ∃ apos cpos, a = .Call (.Attribute o "items" apos) [] [] cpos ∧ plainB o = true ∧ (apos.endLine == cpos.line) = true := by
  unfold itemsOf at h
  split at h
  · split at h
    · rename_i hc
      cases h
      obtain ⟨rfl, h1, h2⟩ := hc
      exact ⟨_, _, rfl, h1, h2⟩
    · cases h
  · cases h
theorem tyOf_eq {t : Str} {ty : String} (h : tyOf t = some ty) : t = Str.ofString ty ∧ t ∈ bltNames := by
  unfold tyOf at h
  repeat' (split at h; · (rename_i e; cases h; subst e; exact ⟨rfl, by simp [bltNames]⟩))
  cases h
theorem isi_bl {t : String} {x d : D} (h : op1D (.isi t) x = some d) : ∃ b, d = .bl b := by
  obtain ⟨_, b, _, rfl, _⟩ := isi_sem h
  exact ⟨b, rfl⟩
theorem nameOk_1 {g : Str} (h : nameOk g = true) : (g == ("__debug__" : Str)) = false ∧ (g == ("__classdict__" : Str)) = false := by
  unfold nameOk at h
  simpa using h
theorem setC_eq {a elt : Expr} {c0 c1 : Comprehension} {scope : Scope} (h : setC a = some (elt, c0, c1, scope)) : ∃ pos, a = .SetComp elt [c0, c1] scope pos := by
  unfold setC at h
  split at h
  · cases h; exact ⟨_, rfl⟩
  · cases h
theorem setC1_eq {a elt : Expr} {c0 : Comprehension} {scope : Scope} (h : setC1 a = some (elt, c0, scope)) : ∃ pos, a = .SetComp elt [c0] scope pos := by
  unfold setC1 at h
  split at h
  · cases h; exact ⟨_, rfl⟩
  · cases h
theorem one_of {n : Nat} (hE : SE N fs Φ k n) {sc scope : Scope} {tg iter : Expr} {ifs : List Expr} {t : T} {h4 : E} (hb : blkC N sc scope (ownOf N scope) = true) (hpl : plainE iter = true) (e2 : cT N n scope tg = some t)
    (e4 : (match ifs with | [] => some E.nop | [c] => cE N fs n scope c | _ => none : Option E) = some h4) {X : Cx} (g : Good X N sc k) (hy : Hyp X fs Φ k) {Γ : MEnv} (ok4 : okE fs Γ h4 = true) (ok5 : shT Γ t = true) (ok6 : ∀ i ∈ slT t, i ∈ (ownOf N scope).map (·.2)) :
    One X N sc scope k (ownOf N scope) tg iter ifs Γ t (evT Φ h4) := by
  have gb : ∀ (s : Shared) (H : Hp) (C : Addr) (cl : List (Str × Addr)) (fp : List Addr), Good (X.blk s H scope (compEnvC scope cl C X.env) fp) N scope k := fun s H C cl fp => g.blk hb s H C cl fp
  have hyb : ∀ (s : Shared) (H : Hp) (C : Addr) (cl : List (Str × Addr)) (fp : List Addr), Hyp (X.blk s H scope (compEnvC scope cl C X.env) fp) fs Φ k := fun s H C cl fp => hy.blk s H scope _ fp
  have hif : ifs.length ≤ 1 := by
    match ifs, e4 with
    | [], _ => exact Nat.zero_le _
    | [_], _ => exact Nat.le_refl _
    | _ :: _ :: _, e4 => cases e4
  refine ⟨g, hb, hpl, hif, fun s H C cl fp => (pg_of N k (gb s H C cl fp) n).1 tg t e2, ok5, ok6, fun ρ' j r2 => ?_⟩
  match ifs, e4 with
  | [], e4 =>
    simp only [Option.some.injEq] at e4
    subst e4
    simp only [evT, Option.some.injEq] at r2
    exact ⟨fun _ => r2.symm, fun s H C cl fp => r2.symm⟩
  | [c], e4 => exact ⟨(fun z => by cases z), fun s H C cl fp => ((hE scope c h4 e4).2 _ (gb s H C cl fp) (hyb s H C cl fp) Γ ρ' ok4).2 j r2⟩
  | _ :: _ :: _, e4 => cases e4
theorem sn_succ {n : Nat} (hE : SE N fs Φ k n) (hA : SA N fs Φ k n) (hI : SI N fs Φ k n) : SN N fs Φ k (n + 1) := by
  intro sc g es ir h hg hpl hno p pos X good hy Γ ρ ok
  have pT : plainT (.Call (.Name g p) es [] pos) = true := rfl
  -- from the value to the test
  suffices hv : (∀ d, evE Φ ir ρ = some d → R3 X (.Call (.Name g p) es [] pos) Γ ρ ir d) ∧ (∀ j, evT Φ ir ρ = some j → ∃ o, (o.bind truD = some j ∧ ∀ d, o = some d → evE Φ ir ρ = some d)) by
    refine ⟨hv.1, fun j hj => ?_⟩
    obtain ⟨o, h1, h2⟩ := hv.2 j hj
    exact snd_t pT (fun d hd => (hv.1 d (h2 d hd)).1) h1
  simp only [cName] at h
  split at h
  · -- all, any
    rename_i all iter i hq
    split at h
    · rename_i hf
      obtain ⟨h1, e1, rfl⟩ := Option.map_eq_some_iff.mp h
      obtain ⟨pa, s1⟩ := hE sc iter h1 e1
      obtain ⟨i', hi⟩ := Option.isSome_iff_exists.mp hf
      obtain ⟨ms, hf⟩ := fnIx_0 hi
      obtain ⟨x, d, p1, p2, p3, px, gpos, scope, rfl, hfn, q1, q2, q3, q4, q5, q6, q7⟩ := qinOf_eq N hq
      simp only [okE, Bool.and_eq_true, decide_eq_true_eq] at ok
      refine ⟨fun d hd => ?_, fun j hj => ⟨_, hj, fun d hd => hd⟩⟩
      simp only [evE] at hd
      obtain ⟨y, d1, hd⟩ := Option.bind_eq_some_iff.mp hd
      split at hd
      · rename_i l ks ds hρ
        obtain ⟨kks, d2, rfl⟩ := Option.map_eq_some_iff.mp hd
        have hb : X.mg g = none := hy.blt _ (by rw [hfn]; cases all <;> simp [bltNames])
        exact .of_sh (ev_qin good hfn hb hg (hy.gen i' ms hf) q1 q2 (isFr_at q3) q4 (nameOk_1 q5).1 (nameOk_1 q6).1 (nameOk_1 q6).2 (ixOf_0 q7) ((s1 X good hy Γ ρ ok.1).1 _ d1).1 d2 hρ ok.2) rfl
      · cases hd
    · cases h
  rename_i hq0
  clear hq0
  split at h
  · -- deque
    rename_i hq
    split at h
    · rename_i a
      split at h
      · rename_i hf
        rw [hq] at hg ⊢
        obtain ⟨h1, e1, rfl⟩ := Option.map_eq_some_iff.mp h
        obtain ⟨pa, s1⟩ := hE sc a h1 e1
        obtain ⟨i, hi⟩ := Option.isSome_iff_exists.mp hf
        obtain ⟨ms, hf⟩ := fnIx_0 hi
        refine ⟨fun d hd => ?_, fun j hj => by simp [evT] at hj⟩
        simp only [evE] at hd
        obtain ⟨x, d1, hd⟩ := Option.bind_eq_some_iff.mp hd
        split at hd
        · split at hd
          · cases hd
            exact .of_ow (ev_deq good (hy.dq i ms hf) hg pa ((s1 X good hy Γ ρ (by simpa [okE] using ok)).1 _ d1).1)
          · cases hd
        · cases hd
      · cases h
    · cases h
  split at h
  · -- len
    rename_i a hb
    rcases bk_of hb with ⟨_, rfl⟩ | ⟨z, _⟩ | ⟨z, _⟩ | ⟨z, _⟩ | ⟨z, _⟩ | ⟨z, _⟩ | ⟨z, _⟩ | ⟨z, _⟩ <;> try cases z
    obtain ⟨h1, e1, rfl⟩ := Option.map_eq_some_iff.mp h
    obtain ⟨pa, s1⟩ := hE sc a h1 e1
    refine ⟨fun d hd => ?_, fun j hj => ⟨_, hj, fun d hd => hd⟩⟩
    simp only [evE] at hd
    obtain ⟨x, d1, d2⟩ := Option.bind_eq_some_iff.mp hd
    exact .of_sh (ev_len good (hy.blt _ (by simp [bltNames])) hg pa d2 ((s1 X good hy Γ ρ (by simpa [okE] using ok)).1 x d1).1) rfl
  · -- list
    rename_i a hb
    rcases bk_of hb with ⟨z, _⟩ | ⟨_, rfl⟩ | ⟨z, _⟩ | ⟨z, _⟩ | ⟨z, _⟩ | ⟨z, _⟩ | ⟨z, _⟩ | ⟨z, _⟩ <;> try cases z
    split at h
    · rename_i o ho
      obtain ⟨apos, cpos, rfl, hpb, hl⟩ := itemsOf_eq ho
      obtain ⟨h1, e1, rfl⟩ := Option.map_eq_some_iff.mp h
      obtain ⟨pa, s1⟩ := hE sc o h1 e1
      refine ⟨fun d hd => ?_, fun j hj => ⟨_, hj, fun d hd => hd⟩⟩
      simp only [evE] at hd
      obtain ⟨x, d1, d2⟩ := Option.bind_eq_some_iff.mp hd
      cases x <;> simp [op1D] at d2
      subst d2
      exact .of_ow (ev_items good (hy.blt _ (by simp [bltNames])) hg hpb hl ((s1 X good hy Γ ρ (by simpa [okE] using ok)).1 _ d1).1)
    · obtain ⟨h1, e1, rfl⟩ := Option.map_eq_some_iff.mp h
      obtain ⟨pa, s1⟩ := hE sc a h1 e1
      refine ⟨fun d hd => ?_, fun j hj => ⟨_, hj, fun d hd => hd⟩⟩
      simp only [evE] at hd
      obtain ⟨x, d1, d2⟩ := Option.bind_eq_some_iff.mp hd
      exact .of_ow (ev_list good (hy.blt _ (by simp [bltNames])) hg pa d2 ((s1 X good hy Γ ρ (by simpa [okE] using ok)).1 x d1).1)
  · -- tuple
    rename_i a hb
    rcases bk_of hb with ⟨z, _⟩ | ⟨z, _⟩ | ⟨_, rfl⟩ | ⟨z, _⟩ | ⟨z, _⟩ | ⟨z, _⟩ | ⟨z, _⟩ | ⟨z, _⟩ <;> try cases z
    obtain ⟨h1, e1, rfl⟩ := Option.map_eq_some_iff.mp h
    obtain ⟨pa, s1⟩ := hE sc a h1 e1
    refine ⟨fun d hd => ?_, fun j hj => ⟨_, hj, fun d hd => hd⟩⟩
    simp only [evE] at hd
    obtain ⟨x, d1, d2⟩ := Option.bind_eq_some_iff.mp hd
    exact .of_sh (ev_tuple good (hy.blt _ (by simp [bltNames])) hg pa d2 ((s1 X good hy Γ ρ (by simpa [okE] using ok)).1 x d1).1) rfl
  · -- int
    rename_i a hb
    rcases bk_of hb with ⟨z, _⟩ | ⟨z, _⟩ | ⟨z, _⟩ | ⟨_, rfl⟩ | ⟨z, _⟩ | ⟨z, _⟩ | ⟨z, _⟩ | ⟨z, _⟩ <;> try cases z
    obtain ⟨h1, e1, rfl⟩ := Option.map_eq_some_iff.mp h
    obtain ⟨pa, s1⟩ := hE sc a h1 e1
    refine ⟨fun d hd => ?_, fun j hj => ⟨_, hj, fun d hd => hd⟩⟩
    simp only [evE] at hd
    obtain ⟨x, d1, d2⟩ := Option.bind_eq_some_iff.mp hd
    exact .of_sh (ev_int good (hy.blt _ (by simp [bltNames])) hg pa d2 ((s1 X good hy Γ ρ (by simpa [okE] using ok)).1 x d1).1) rfl
  · -- sorted
    rename_i a hb
    rcases bk_of hb with ⟨z, _⟩ | ⟨z, _⟩ | ⟨z, _⟩ | ⟨z, _⟩ | ⟨z, _⟩ | ⟨_, rfl⟩ | ⟨z, _⟩ | ⟨z, _⟩ <;> try cases z
    split at h
    · rename_i elt tg iter ifs ia tg1 iter1 ifs1 ia1 scope hs
      obtain ⟨pos2, rfl⟩ := setC_eq hs
      split at h
      · rename_i hc
        simp only [Bool.and_eq_true, decide_eq_true_eq] at hc
        obtain ⟨⟨⟨⟨rfl, rfl⟩, hbb⟩, hq⟩, hq1⟩ := hc
        obtain ⟨h1, e1, h⟩ := Option.bind_eq_some_iff.mp h
        obtain ⟨t, e2, h⟩ := Option.bind_eq_some_iff.mp h
        obtain ⟨h3, e3, h⟩ := Option.bind_eq_some_iff.mp h
        obtain ⟨t1, e4, h⟩ := Option.bind_eq_some_iff.mp h
        obtain ⟨he, e5, h⟩ := Option.bind_eq_some_iff.mp h
        obtain ⟨hc, e6, h⟩ := Option.bind_eq_some_iff.mp h
        obtain ⟨hc1, e7, rfl⟩ := Option.map_eq_some_iff.mp h
        simp only [okE, Bool.and_eq_true, List.all_eq_true, List.contains_iff_mem] at ok
        obtain ⟨⟨⟨⟨⟨⟨⟨⟨⟨⟨⟨ok1, ok2⟩, ok3⟩, ok4⟩, ok5⟩, ok6⟩, ok7⟩, ok8⟩, ok9⟩, oka⟩, okb⟩, okc⟩ := ok
        obtain ⟨w, hev, hi⟩ := two_of N fs Φ k hE hI hbb hq hq1 e1 e2 e3 e4 e5 e6 e7 good hy (ρ := ρ) ok1 ok2 ok3 ok4 ok5 ok6 ok7 ok8 ok9 oka okb okc
        refine ⟨fun d hd => ?_, fun j hj => by simp [evT] at hj⟩
        simp only [evE] at hd
        obtain ⟨l, d1, hd⟩ := Option.bind_eq_some_iff.mp hd
        obtain ⟨xs, d2, hd⟩ := Option.bind_eq_some_iff.mp hd
        split at hd
        · rename_i hx
          cases hd
          exact .of_ow (ev_SS w (hy.blt _ (by simp [bltNames])) hg hev (hi l d1) d2 hx)
        · cases hd
      · cases h
    split at h
    · rename_i elt tg iter ifs ia scope hs
      obtain ⟨pos2, rfl⟩ := setC1_eq hs
      split at h
      · rename_i hc
        simp only [Bool.and_eq_true, decide_eq_true_eq] at hc
        obtain ⟨⟨rfl, hbb⟩, hq⟩ := hc
        obtain ⟨h1, e1, h⟩ := Option.bind_eq_some_iff.mp h
        obtain ⟨t, e2, h⟩ := Option.bind_eq_some_iff.mp h
        obtain ⟨he, e5, h⟩ := Option.bind_eq_some_iff.mp h
        obtain ⟨hc, e6, rfl⟩ := Option.map_eq_some_iff.mp h
        simp only [okE, Bool.and_eq_true, List.all_eq_true, List.contains_iff_mem] at ok
        obtain ⟨⟨⟨⟨⟨ok1, ok2⟩, ok3⟩, ok4⟩, ok5⟩, ok6⟩ := ok
        obtain ⟨_, s3⟩ := hE scope elt he e5
        have w := one_of N fs Φ k hE hbb hq e2 e6 good hy ok4 ok5 ok6
        have gb : ∀ (s : Shared) (H : Hp) (C : Addr) (cl : List (Str × Addr)) (fp : List Addr), Good (X.blk s H scope (compEnvC scope cl C X.env) fp) N scope k := fun s H C cl fp => good.blk hbb s H C cl fp
        have hyb : ∀ (s : Shared) (H : Hp) (C : Addr) (cl : List (Str × Addr)) (fp : List Addr), Hyp (X.blk s H scope (compEnvC scope cl C X.env) fp) fs Φ k := fun s H C cl fp => hy.blk s H scope _ fp
        refine ⟨fun d hd => ?_, fun j hj => by simp [evT] at hj⟩
        simp only [evE] at hd
        obtain ⟨l, d1, hd⟩ := Option.bind_eq_some_iff.mp hd
        obtain ⟨ks, d2, rfl⟩ := Option.map_eq_some_iff.mp hd
        exact .of_ow (ev_S1 w (hy.blt _ (by simp [bltNames])) hg (fun ρ' y r s H C cl fp => ((s3 _ (gb s H C cl fp) (hyb s H C cl fp) Γ ρ' ok2).1 y r).2.1 ok3) (hI sc (isTup tg) iter h1 e1 X good hy Γ ρ ok1 l d1 false tg isTup_eq (fun z => by cases z)) d2)
      · cases h
    obtain ⟨h1, e1, rfl⟩ := Option.map_eq_some_iff.mp h
    obtain ⟨pa, s1⟩ := hE sc a h1 e1
    refine ⟨fun d hd => ?_, fun j hj => ⟨_, hj, fun d hd => hd⟩⟩
    simp only [evE] at hd
    obtain ⟨x, d1, d2⟩ := Option.bind_eq_some_iff.mp hd
    exact .of_ow (ev_sorted good (hy.blt _ (by simp [bltNames])) hg pa d2 ((s1 X good hy Γ ρ (by simpa [okE] using ok)).1 x d1).1)
  · -- max
    rename_i a b hb
    rcases bk_of hb with ⟨z, _⟩ | ⟨z, _⟩ | ⟨z, _⟩ | ⟨z, _⟩ | ⟨z, _⟩ | ⟨z, _⟩ | ⟨_, rfl⟩ | ⟨z, _⟩ <;> try cases z
    obtain ⟨h1, e1, h⟩ := Option.bind_eq_some_iff.mp h
    obtain ⟨h2, e2, rfl⟩ := Option.map_eq_some_iff.mp h
    obtain ⟨pa, s1⟩ := hE sc a h1 e1
    obtain ⟨pb, s2⟩ := hE sc b h2 e2
    simp only [okE, Bool.and_eq_true] at ok
    refine ⟨fun d hd => ?_, fun j hj => ⟨_, hj, fun d hd => hd⟩⟩
    simp only [evE] at hd
    obtain ⟨x, d1, hd⟩ := Option.bind_eq_some_iff.mp hd
    obtain ⟨y, d2, hd⟩ := Option.bind_eq_some_iff.mp hd
    cases x <;> cases y <;> simp only [op2D, reduceCtorEq, Option.some.injEq] at hd
    subst hd
    exact .of_sh (ev_max2 good (hy.blt _ (by simp [bltNames])) hg pa pb ((s1 X good hy Γ ρ ok.1).1 _ d1).1 ((s2 X good hy Γ ρ ok.2).1 _ d2).1) rfl
  · -- min
    rename_i a b hb
    rcases bk_of hb with ⟨z, _⟩ | ⟨z, _⟩ | ⟨z, _⟩ | ⟨z, _⟩ | ⟨z, _⟩ | ⟨z, _⟩ | ⟨z, _⟩ | ⟨_, rfl⟩ <;> try cases z
    obtain ⟨h1, e1, h⟩ := Option.bind_eq_some_iff.mp h
    obtain ⟨h2, e2, rfl⟩ := Option.map_eq_some_iff.mp h
    obtain ⟨pa, s1⟩ := hE sc a h1 e1
    obtain ⟨pb, s2⟩ := hE sc b h2 e2
    simp only [okE, Bool.and_eq_true] at ok
    refine ⟨fun d hd => ?_, fun j hj => ⟨_, hj, fun d hd => hd⟩⟩
    simp only [evE] at hd
    obtain ⟨x, d1, hd⟩ := Option.bind_eq_some_iff.mp hd
    obtain ⟨y, d2, hd⟩ := Option.bind_eq_some_iff.mp hd
    cases x <;> cases y <;> simp only [op2D, reduceCtorEq, Option.some.injEq] at hd
    subst hd
    exact .of_sh (ev_min2 good (hy.blt _ (by simp [bltNames])) hg pa pb ((s1 X good hy Γ ρ ok.1).1 _ d1).1 ((s2 X good hy Γ ρ ok.2).1 _ d2).1) rfl
  · -- isinstance
    rename_i a t tp hb
    rcases bk_of hb with ⟨z, _⟩ | ⟨z, _⟩ | ⟨z, _⟩ | ⟨z, _⟩ | ⟨_, rfl⟩ | ⟨z, _⟩ | ⟨z, _⟩ | ⟨z, _⟩ <;> try cases z
    split at h
    · rename_i ht
      obtain ⟨ty, e0, h⟩ := Option.bind_eq_some_iff.mp h
      obtain ⟨h1, e1, rfl⟩ := Option.map_eq_some_iff.mp h
      obtain ⟨pa, s1⟩ := hE sc a h1 e1
      obtain ⟨rfl, hmem⟩ := tyOf_eq e0
      refine ⟨fun d hd => ?_, fun j hj => ⟨_, hj, fun d hd => hd⟩⟩
      simp only [evE] at hd
      obtain ⟨x, d1, d2⟩ := Option.bind_eq_some_iff.mp hd
      exact .of_sh (ev_isi good (hy.blt _ (by simp [bltNames])) hg (hy.blt _ hmem) ht pa d2 ((s1 X good hy Γ ρ (by simpa [okE] using ok)).1 x d1).1) rfl
    · cases h
  · -- own
    rename_i es _ _ hb
    split at h
    · cases h
    rename_i hmk
    have hmk : isMark g = false := by simpa using hmk
    obtain ⟨i, e0, h⟩ := Option.bind_eq_some_iff.mp h
    obtain ⟨h1, e1, rfl⟩ := Option.map_eq_some_iff.mp h
    obtain ⟨ms, hf⟩ := fnIx_0 e0
    have s1 := hA sc es h1 e1
    simp only [okE, hf, Bool.and_eq_true] at ok
    refine ⟨fun d hd => ?_, fun j hj => ⟨_, hj, fun d hd => hd⟩⟩
    simp only [evE] at hd
    obtain ⟨ds, d1, d2⟩ := Option.bind_eq_some_iff.mp hd
    obtain ⟨t1, _, t3⟩ := s1 X good hy Γ ρ ok.1 ds d1
    have F := hy.fns i g ms hf hmk
    cases es with
    | nil =>
      have := t3 rfl
      subst this
      simp only [evA, Option.some.injEq] at d1
      subst d1
      cases ms with
      | nil => exact .of_sh (ev_call0 good F hg (nameOk_1 hno).1 d2) rfl
      | cons m ms => cases m <;> simp [okArgs] at ok
    | cons e es => exact .of_sh (ev_call good F hg (nameOk_1 hno).1 hpl (by simp) d2 (t1 ms ok.2)) rfl
  · cases h
theorem sm_succ {n : Nat} (hE : SE N fs Φ k n) : SM N fs Φ k (n + 1) := by
  intro sc o m es ir h hpb hpl apos pos hl X good hy Γ ρ ok
  have pT : plainT (.Call (.Attribute o m apos) es [] pos) = true := rfl
  suffices hv : (∀ d, evE Φ ir ρ = some d → R3 X (.Call (.Attribute o m apos) es [] pos) Γ ρ ir d) ∧ (∀ j, evT Φ ir ρ = some j → ∃ o, (o.bind truD = some j ∧ ∀ d, o = some d → evE Φ ir ρ = some d)) by
    refine ⟨hv.1, fun j hj => ?_⟩
    obtain ⟨o, h1, h2⟩ := hv.2 j hj
    exact snd_t pT (fun d hd => (hv.1 d (h2 d hd)).1) h1
  simp only [cMeth] at h
  split at h
  · rename_i b hb
    rcases mk_of hb with ⟨_, rfl⟩ | ⟨z, _⟩ | ⟨z, _⟩ | ⟨z, _⟩ <;> try cases z
    obtain ⟨h1, e1, h⟩ := Option.bind_eq_some_iff.mp h
    obtain ⟨h2, e2, rfl⟩ := Option.map_eq_some_iff.mp h
    obtain ⟨p1, s1⟩ := hE sc o h1 e1
    obtain ⟨p2, s2⟩ := hE sc b h2 e2
    simp only [okE, Bool.and_eq_true] at ok
    refine ⟨fun d hd => ?_, fun j hj => ⟨_, hj, fun d hd => hd⟩⟩
    simp only [evE] at hd
    obtain ⟨x, d1, hd⟩ := Option.bind_eq_some_iff.mp hd
    obtain ⟨y, d2, hd⟩ := Option.bind_eq_some_iff.mp hd
    cases x <;> cases y <;> simp [op2D] at hd
    subst hd
    exact .of_sh (ev_starts hpb p2 hl ((s1 X good hy Γ ρ ok.1).1 _ d1).1 ((s2 X good hy Γ ρ ok.2).1 _ d2).1) rfl
  · rename_i b hb
    rcases mk_of hb with ⟨z, _⟩ | ⟨_, rfl⟩ | ⟨z, _⟩ | ⟨z, _⟩ <;> try cases z
    obtain ⟨h1, e1, h⟩ := Option.bind_eq_some_iff.mp h
    obtain ⟨h2, e2, rfl⟩ := Option.map_eq_some_iff.mp h
    obtain ⟨p1, s1⟩ := hE sc o h1 e1
    obtain ⟨p2, s2⟩ := hE sc b h2 e2
    simp only [okE, Bool.and_eq_true] at ok
    refine ⟨fun d hd => ?_, fun j hj => ⟨_, hj, fun d hd => hd⟩⟩
    simp only [evE] at hd
    obtain ⟨x, d1, hd⟩ := Option.bind_eq_some_iff.mp hd
    obtain ⟨y, d2, hd⟩ := Option.bind_eq_some_iff.mp hd
    cases x <;> cases y <;> simp only [op2D, reduceCtorEq] at hd
    rename_i s l
    obtain ⟨xs, hx, hd⟩ := Option.bind_eq_some_iff.mp hd
    split at hd
    · rename_i hz
      cases hd
      exact .of_sh (ev_join hpb p2 hl hx hz ((s1 X good hy Γ ρ ok.1).1 _ d1).1 ((s2 X good hy Γ ρ ok.2).1 _ d2).1) rfl
    · cases hd
  · rename_i b hb
    rcases mk_of hb with ⟨z, _⟩ | ⟨z, _⟩ | ⟨z, _⟩ | ⟨_, rfl⟩ <;> try cases z
    obtain ⟨h1, e1, h⟩ := Option.bind_eq_some_iff.mp h
    obtain ⟨h2, e2, rfl⟩ := Option.map_eq_some_iff.mp h
    obtain ⟨p1, s1⟩ := hE sc o h1 e1
    obtain ⟨p2, s2⟩ := hE sc b h2 e2
    simp only [okE, Bool.and_eq_true] at ok
    refine ⟨fun d hd => ?_, fun j hj => ⟨_, hj, fun d hd => hd⟩⟩
    simp only [evE] at hd
    obtain ⟨x, d1, hd⟩ := Option.bind_eq_some_iff.mp hd
    obtain ⟨y, d2, hd⟩ := Option.bind_eq_some_iff.mp hd
    cases x with
    | lst l => exact .of_sh (ev_index good hpb p2 hl hd ((s1 X good hy Γ ρ ok.1).1 _ d1).1 ((s2 X good hy Γ ρ ok.2).1 _ d2).1) rfl
    | _ => simp [op2D] at hd
  · rename_i b c hb
    rcases mk_of hb with ⟨z, _⟩ | ⟨z, _⟩ | ⟨_, rfl⟩ | ⟨z, _⟩ <;> try cases z
    obtain ⟨h1, e1, h⟩ := Option.bind_eq_some_iff.mp h
    obtain ⟨h2, e2, h⟩ := Option.bind_eq_some_iff.mp h
    obtain ⟨h3, e3, rfl⟩ := Option.map_eq_some_iff.mp h
    obtain ⟨p1, s1⟩ := hE sc o h1 e1
    obtain ⟨p2, s2⟩ := hE sc b h2 e2
    obtain ⟨p3, s3⟩ := hE sc c h3 e3
    simp only [okE, Bool.and_eq_true] at ok
    refine ⟨fun d hd => ?_, fun j hj => ⟨_, hj, fun d hd => hd⟩⟩
    simp only [evE] at hd
    obtain ⟨x, d1, hd⟩ := Option.bind_eq_some_iff.mp hd
    obtain ⟨y, d2, hd⟩ := Option.bind_eq_some_iff.mp hd
    obtain ⟨z, d3, hd⟩ := Option.bind_eq_some_iff.mp hd
    cases x <;> simp [op3D] at hd
    · obtain ⟨key, hk, rfl⟩ := hd
      exact .of_sh (ev_get good hpb p2 p3 hl hk ((s1 X good hy Γ ρ ok.1.1.1).1 _ d1).1 ((s2 X good hy Γ ρ ok.1.1.2).1 _ d2).1 (((s3 X good hy Γ ρ ok.1.2).1 _ d3).2.1 ok.2)) rfl
    · obtain ⟨key, hk, rfl⟩ := hd
      exact .of_sh (ev_getT good hpb p2 p3 hl hk ((s1 X good hy Γ ρ ok.1.1.1).1 _ d1).1 ((s2 X good hy Γ ρ ok.1.1.2).1 _ d2).1 (((s3 X good hy Γ ρ ok.1.2).1 _ d3).2.1 ok.2)) rfl
  · cases h
end DL

set_option Elab.async false
set_option linter.all false
set_option maxRecDepth 100000
set_option maxHeartbeats 4000000
namespace DL
open PySem PySem.Spec L2
variable [TbC]
variable (N : List Str) (fs : List (Str × List Md)) (Φ : Nat → List D → Option D) (k : Nat)

theorem seqL_eq {d : D} {l : List D} (h : seqL d = some l) : l.length ≤ lim ∧ (d = .lst l ∨ d = .tup l ∨ d = .scr l) := by
  unfold seqL at h
  obtain ⟨l', h1, h2⟩ := Option.bind_eq_some_iff.mp h
  split at h2
  · rename_i hl
    cases h2
    refine ⟨hl, ?_⟩
    cases d <;> simp [seqD] at h1 <;> subst h1 <;> simp
  · cases h2
theorem rngOf_eq {sc : Scope} {e a : Expr} {b : Option Expr} (h : rngOf sc e = some (a, b)) : ∃ p pos, glS sc "range" = true ∧ plainE a = true ∧ ((b = none ∧ e = .Call (.Name "range" p) [a] [] pos) ∨ ∃ b', b = some b' ∧ plainE b' = true ∧ e = .Call (.Name "range" p) [a, b'] [] pos) := by
  unfold rngOf at h
  split at h
  · split at h
    · rename_i hc
      obtain ⟨rfl, h1, h2⟩ := hc
      split at h
      · cases h
        simp [plainEs] at h2
        exact ⟨_, _, h1, h2, .inl ⟨rfl, rfl⟩⟩
      · cases h
        simp [plainEs] at h2
        exact ⟨_, _, h1, h2.1, .inr ⟨_, rfl, h2.2, rfl⟩⟩
      · cases h
    · cases h
  · cases h
theorem zipOf_eq {sc : Scope} {tp : Bool} {e a b : Expr} (h : zipOf sc tp e = some (a, b)) : ∃ p pos, e = .Call (.Name "zip" p) [a, b] [] pos ∧ glS sc "zip" = true ∧ plainE a = true ∧ plainE b = true ∧ tp = true := by
  unfold zipOf at h
  split at h
  · split at h
    · rename_i hc
      obtain ⟨h1, rfl, h2, h3, h4⟩ := hc
      cases h
      exact ⟨_, _, rfl, h2, h3, h4, h1⟩
    · cases h
  · cases h
theorem lim_big : -(2 ^ 62 : Int) ≤ -(lim : Int) ∧ (lim : Int) < 2 ^ 62 := by decide
theorem enOf_eq {sc : Scope} {tp : Bool} {e a : Expr} (h : enOf sc tp e = some a) : ∃ p pos, e = .Call (.Name "enumerate" p) [a] [] pos ∧ glS sc "enumerate" = true ∧ plainE a = true ∧ tp = true := by
  unfold enOf at h
  split at h
  · split at h
    · rename_i hc
      obtain ⟨h1, rfl, h2, h3⟩ := hc
      cases h
      exact ⟨_, _, rfl, h2, h3, h1⟩
    · cases h
  · cases h
theorem hB_of {X : Cx} {e : Expr} {Γ : MEnv} {ρ : DEnv} {h1 : E} {d : D} {z : Bool} (r : R3 X e Γ ρ h1 d) (hz : z = true → okIt Γ (.iV h1) = true) : EvB z X e Γ ρ d := by
  obtain ⟨r1, r2, _, r4⟩ := r
  cases z with
  | false => exact .of_bo r1
  | true =>
    have hz := hz rfl
    by_cases hes : esc Γ h1 = true
    · exact .of_sh (r2 hes)
    · have hv : ∃ i, h1 = .var i ∧ Γ[i]? = some Md.bo := by
        cases h1 with
        | var i =>
          simp only [okIt, esc, Bool.or_eq_true, decide_eq_true_eq] at hz hes
          rcases hz with hz | hz
          · exact absurd hz hes
          · exact ⟨i, rfl, hz⟩
        | _ => simp only [okIt] at hz; exact absurd hz hes
      obtain ⟨i, rfl, hb⟩ := hv
      exact r4 i rfl hb
theorem si_succ {n : Nat} (hE : SE N fs Φ k n) : SI N fs Φ k (n + 1) := by
  intro sc tp e ir h X good hy Γ ρ ok l hl z tg htp hz
  simp only [cI] at h
  split at h
  · rename_i a hr
    obtain ⟨p, pos, hg, hp, ⟨_, rfl⟩ | ⟨b', hb, _⟩⟩ := rngOf_eq hr
    · obtain ⟨h1, e1, rfl⟩ := Option.map_eq_some_iff.mp h
      obtain ⟨_, s1⟩ := hE sc a h1 e1
      simp only [evI] at hl
      obtain ⟨x, d1, hl⟩ := Option.bind_eq_some_iff.mp hl
      cases x <;> simp only [reduceCtorEq] at hl
      split at hl
      · rename_i hj
        cases hl
        exact ei_rng1 good (hy.blt _ (by simp [bltNames])) hg hp hj.1 (Int.le_trans lim_big.1 hj.2) ((s1 X good hy Γ ρ (by simpa [okE] using ok)).1 _ d1).1
      · cases hl
    · cases hb
  · rename_i a b hr
    obtain ⟨p, pos, hg, hp, ⟨hb, _⟩ | ⟨b', hb, hp2, rfl⟩⟩ := rngOf_eq hr
    · cases hb
    · cases hb
      obtain ⟨h1, e1, h⟩ := Option.bind_eq_some_iff.mp h
      obtain ⟨h2, e2, rfl⟩ := Option.map_eq_some_iff.mp h
      obtain ⟨_, s1⟩ := hE sc a h1 e1
      obtain ⟨_, s2⟩ := hE sc b h2 e2
      simp only [okE, Bool.and_eq_true] at ok
      simp only [evI] at hl
      obtain ⟨x, d1, hl⟩ := Option.bind_eq_some_iff.mp hl
      obtain ⟨y, d2, hl⟩ := Option.bind_eq_some_iff.mp hl
      cases x <;> cases y <;> simp only [reduceCtorEq] at hl
      split at hl
      · rename_i hj
        cases hl
        exact ei_rng2 good (hy.blt _ (by simp [bltNames])) hg hp hp2 hj.1 hj.2.2.1 (Int.le_trans lim_big.1 hj.2.2.2) (by have := lim_big.2; omega) ((s1 X good hy Γ ρ ok.1).1 _ d1).1 ((s2 X good hy Γ ρ ok.2).1 _ d2).1
      · cases hl
  split at h
  · rename_i a b hr
    obtain ⟨p, pos, rfl, hg, hp, hp2, ht⟩ := zipOf_eq hr
    obtain ⟨h1, e1, h⟩ := Option.bind_eq_some_iff.mp h
    obtain ⟨h2, e2, rfl⟩ := Option.map_eq_some_iff.mp h
    obtain ⟨_, s1⟩ := hE sc a h1 e1
    obtain ⟨_, s2⟩ := hE sc b h2 e2
    obtain ⟨elts, kk, tpos, rfl⟩ := htp ht
    simp only [okE, Bool.and_eq_true] at ok
    simp only [evI] at hl
    obtain ⟨x, d1, hl⟩ := Option.bind_eq_some_iff.mp hl
    obtain ⟨y, d2, hl⟩ := Option.bind_eq_some_iff.mp hl
    obtain ⟨l', hz', hl⟩ := Option.bind_eq_some_iff.mp hl
    split at hl
    · rename_i hlen
      cases hl
      cases x <;> cases y <;> simp [zipD] at hz'
      subst hz'
      exact ei_zipT good (hy.blt _ (by simp [bltNames])) hg hp hp2 (lim_le hlen) ((s1 X good hy Γ ρ ok.1).1 _ d1).1 ((s2 X good hy Γ ρ ok.2).1 _ d2).1
    · cases hl
  split at h
  · rename_i a hr
    obtain ⟨p, pos, rfl, hg, hp, ht⟩ := enOf_eq hr
    obtain ⟨h1, e1, rfl⟩ := Option.map_eq_some_iff.mp h
    obtain ⟨_, s1⟩ := hE sc a h1 e1
    obtain ⟨elts, kk, tpos, rfl⟩ := htp ht
    simp only [evI] at hl
    obtain ⟨d, d1, hl⟩ := Option.bind_eq_some_iff.mp hl
    split at hl
    · split at hl
      · rename_i hlen
        cases hl
        exact ei_enum good (hy.blt _ (by simp [bltNames])) hg hp (lim_le hlen) (hB_of ((s1 X good hy Γ ρ (by simpa [okE] using ok)).1 _ d1) fun w => by
          have := hz w
          cases h1 <;> simpa [okIt] using this)
      · cases hl
    · cases hl
  · obtain ⟨h1, e1, rfl⟩ := Option.map_eq_some_iff.mp h
    obtain ⟨_, s1⟩ := hE sc e h1 e1
    simp only [evI] at hl
    obtain ⟨d, d1, hl⟩ := Option.bind_eq_some_iff.mp hl
    obtain ⟨hlen, hd⟩ := seqL_eq hl
    have r := (s1 X good hy Γ ρ (by simpa [okE] using ok)).1 d d1
    have hsz : l.length ≤ sizeLine := lim_le hlen
    have hB : EvB z X e Γ ρ d := hB_of r hz
    rcases hd with rfl | rfl | rfl
    · exact ei_list hsz hB (.inl rfl)
    · exact ei_tup hsz r.1
    · exact ei_list hsz hB (.inr rfl)
theorem ev_boneB {X : Cx} {a : Expr} {op : BoolOp} {pos : Pos} {Γ : MEnv} {ρ : DEnv} {d : D} (ha : EvB true X a Γ ρ d) : EvB true X (.BoolOp op [a] pos) Γ ρ d := fun lv B0 H0 B H σ S Q q => of_pe (pe_one pe_of) (ha lv B0 H0 B H σ S Q q)
theorem ev_chainT {X : Cx} {sc : Scope} {a b c : Expr} {Γ : MEnv} {ρ : DEnv} {x y z : D} {pos : Pos} {op op' : CmpOp} (g : Good X N sc k) (hc' : plainE c = true) {j r : Bool} (h : op2D (cmpO op) x y = some (.bl j)) (ha : EvM .bo X a Γ ρ x) (hb : EvM .bo X b Γ ρ y)
    (h1 : j = true → EvM .bo X c Γ ρ z ∧ op2D (cmpO op') y z = some (.bl r)) (h0 : j = false → r = false) : EvT X (.Compare a [op, op'] [b, c] pos) Γ ρ r := fun lv B0 H0 B H σ S Q q => by
  obtain ⟨r1', j', e, p1, p2⟩ := cmp_sem (X := X) g.hu h
  cases j with
  | true =>
    obtain ⟨hc, h'⟩ := h1 rfl
    obtain ⟨r', j2, e2, p3, p4⟩ := cmp_sem (X := X) g.hu h'
    refine of_pt (pt_chain p1 p3 pe_of pe_of pe_of (lastM hc')) ?_
    refine ha lv B0 H0 B H σ S _ fun v1 B1 H1 x1 r1 => ?_
    refine hb lv B0 H0 B1 H1 σ (S.grow x1) _ fun v2 B2 H2 x2 r2 => ?_
    refine p2 B2 H2 v1 v2 x2.bh (Bor.mono x2.bb x2.hh r1) r2 _ fun v3 B3 H3 x3 r3 => ?_
    cases r3
    refine ⟨true, rfl, iteT ?_⟩
    have x12 := (x1.trans x2).trans x3
    refine hc lv B0 H0 B3 H3 σ (S.grow x12) _ fun v4 B4 H4 x4 r4 => ?_
    refine p4 B4 H4 v2 v4 x4.bh (Bor.mono (x3.bb.trans x4.bb) (x3.hh.trans x4.hh) r2) r4 _ fun v B' H' x5 r5 => ?_
    cases r5
    exact ⟨r, rfl, q B' H' ((x12.trans x4).trans x5)⟩
  | false =>
    cases h0 rfl
    refine of_pt (pt_chain (op' := op') (r' := fun _ _ _ _ => False) p1 (fun _ _ _ _ _ _ _ _ _ _ _ _ h => h.elim) pe_of pe_of pe_of (lastM hc')) ?_
    refine ha lv B0 H0 B H σ S _ fun v1 B1 H1 x1 r1 => ?_
    refine hb lv B0 H0 B1 H1 σ (S.grow x1) _ fun v2 B2 H2 x2 r2 => ?_
    refine p2 B2 H2 v1 v2 x2.bh (Bor.mono x2.bb x2.hh r1) r2 _ fun v3 B3 H3 x3 r3 => ?_
    cases r3
    exact ⟨false, rfl, iteF ⟨false, rfl, q B3 H3 ((x1.trans x2).trans x3)⟩⟩
theorem cmp_bl {op : CmpOp} {x y d : D} (h : op2D (cmpO op) x y = some d) : ∃ b, d = .bl b := by
  have aux : ∀ (o : Option Bool) (f : Bool → D), (∀ b, ∃ b', f b = .bl b') → o.map f = some d → ∃ b, d = .bl b := fun o f hf h => by
    obtain ⟨b, _, rfl⟩ := Option.map_eq_some_iff.mp h
    exact hf b
  cases op <;> simp only [cmpO] at h
  · exact aux _ (fun b => .bl b) (fun b => ⟨b, rfl⟩) h
  · exact aux _ (fun b => .bl (!b)) (fun b => ⟨_, rfl⟩) h
  · cases x <;> cases y <;> simp [op2D] at h <;> exact ⟨_, h.symm⟩
  · cases x <;> cases y <;> simp [op2D] at h <;> exact ⟨_, h.symm⟩
  · cases x <;> cases y <;> simp [op2D] at h <;> exact ⟨_, h.symm⟩
  · cases x <;> cases y <;> simp [op2D] at h <;> exact ⟨_, h.symm⟩
  · cases y <;> simp [op2D] at h; cases x <;> cases h <;> exact ⟨_, rfl⟩
  · cases y <;> simp [op2D] at h; cases x <;> cases h <;> exact ⟨_, rfl⟩
  · exact aux _ (fun b => .bl b) (fun b => ⟨b, rfl⟩) h
  · exact aux _ (fun b => .bl (!b)) (fun b => ⟨_, rfl⟩) h
end DL

set_option Elab.async false
set_option linter.all false
set_option maxRecDepth 100000
set_option maxHeartbeats 4000000
namespace DL
open PySem
section
variable {M : Model} {A : Around} {E : Value → Shared → Prop} {s : Shared}
theorem wp_puO {Γ : Ctx} {p : Pos} {o : Obj} {Q : Obj → Pos → Shared → Prop} {E : Value → Pos → Shared → Prop} : Sem.wp M Γ (Sem.pure o) Q E p s = Q o p s := rfl
theorem part_upd {Γ : Ctx} {p : Pos} {a : Addr} {f : Array DictEntry → Array DictEntry} {part : Option Value} {Q : Unit → Pos → Shared → Prop} {E : Value → Pos → Shared → Prop} (h : Sem.wp M Γ (updateDict a f part) Q E p s) : Sem.wp M Γ (updateDict a f) Q E p s := by
  unfold updateDict at h ⊢
  rw [Sem.wp_bind'] at h ⊢
  obtain ⟨o, ho, h⟩ := h
  refine ⟨o, ho, ?_⟩
  rw [wp_puO] at h ⊢
  generalize o.data = dt at h ⊢
  cases dt <;> exact h
theorem part_keys {Γ : Ctx} {p : Pos} {a : Addr} {f : Array DictEntry → Array DictEntry} {part : Option Value} {Q : Unit → Pos → Shared → Prop} {E : Value → Pos → Shared → Prop} (h : Sem.wp M Γ (updateDictKeys a f part) Q E p s) : Sem.wp M Γ (updateDictKeys a f) Q E p s := by
  unfold updateDictKeys at h ⊢
  rw [Sem.wp_bind'] at h ⊢
  obtain ⟨o, ho, h⟩ := h
  refine ⟨o, ho, ?_⟩
  rw [wp_puO] at h ⊢
  generalize o.data = dt at h ⊢
  cases dt <;> exact h
/-- laying a pair in, with or without the marks -/
theorem put_of_set {d : Addr} {h : Int} {key v : Value} {Q : Unit → Shared → Prop} (r : wpAny M A (dictSetHashed d key h v) Q E s) : wpAny M A (dictPut d h key v) Q E s := by
  intro Γ p hΓ
  have q := r Γ p hΓ
  unfold dictSetHashed at q
  unfold dictPut
  rw [Sem.wp_holding, Sem.wp_bind'] at q
  rw [Sem.wp_bind']
  refine Sem.wp_mono M Γ _ (fun o p1 s1 q1 => ?_) (fun _ _ _ e => e) p s q
  cases o with
  | none => exact part_keys q1
  | some i =>
    have q2 : Sem.wp M Γ (updateDict d (·.modify i fun e => { e with val := v }) (keyPart key) >>= fun _ => point) (fun a x s' => Q a s') (fun e x s' => E e s') p1 s1 := q1
    rw [Sem.wp_bind'] at q2
    exact part_upd q2
end
end DL

set_option Elab.async false
set_option linter.all false
set_option maxRecDepth 100000
set_option maxHeartbeats 4000000
/-! {**d, k: v}: a dict laid out into a new one. -/
namespace PySem
open Sem (wp)
section
variable {prog : Program} {w : World} {K : Type} [DecidableEq K] {knd : KeyKind prog w K} {A : Around} {E : Value → Shared → Prop} {s : Shared}
theorem range_turns {body : Nat → PUnit → Sem (ForInStep PUnit)} {n : Nat} {I : Nat → Shared → Prop} {Q : PUnit → Shared → Prop}
    (hb : ∀ i s, i < n → I i s → wpAny (model prog w) A (body i ()) (fun r s' => r = .yield () ∧ I (i + 1) s') E s) (h0 : I 0 s) (hQ : ∀ s, I n s → Q () s) : wpAny (model prog w) A (forIn (List.range n) PUnit.unit body) Q E s := by
  have key : ∀ (k i : Nat) (s : Shared), i + k = n → I i s → wpAny (model prog w) A (forIn (List.range' i k) PUnit.unit body) Q E s := by
    intro k
    induction k with
    | zero => intro i s e h; rw [List.range'_zero, List.forIn_nil]; exact wpAny_pure (hQ s (by rw [← e]; exact h))
    | succ k ih =>
      intro i s e h
      rw [List.range'_succ, List.forIn_cons]
      refine wpAny_bind (wpAny_mono (hb i s (by omega) h) (fun r s' hr => ?_) fun _ _ x => x)
      obtain ⟨rfl, h'⟩ := hr
      exact ih (i + 1) s' (by omega) h'
  rw [List.range_eq_range']
  exact key n 0 s (by omega) h0
theorem laid_over {d o : Addr} {kvs more : List (K × Value)} {Q : Unit → Shared → Prop} (hdo : d ≠ o) (hoS : (o == sysModules) = false)
    (hnr : ∀ k a, knd.is k (.ref a) = false) (hd : s.heap.DictOf knd d kvs) (ho : s.heap.DictOf knd o more)
    (hQ : ∀ h', h'.DictOf knd d (merged kvs more) → h'.DictOf knd o more → Heap.SameBut d s.heap h' → Q () { s with heap := h' })
    (hsz : kvs.length + more.length ≤ sizeLine := by size_fits) :
    wpAny (model prog w) A (mergeMapping d (.ref o) false) Q E s := by
  obtain ⟨od, esd, epd, hod, hcd, hdd, hkd, hpd, hnd⟩ := id hd
  obtain ⟨oo, eso, epo, hoo, hco, hdo', hko, hpo, hno⟩ := id ho
  have hn : eso.size = more.length := by simpa using hpo.length
  unfold mergeMapping
  refine wpAny_bind (wpAny_isInstance ho.typeIs isSubtype_dict_dict ?_)
  rw [if_pos rfl]
  refine wpAny_bind (wpAny_specialOf ho.typeIs F.slot_dict_iter.lookup ?_)
  refine wpAny_bind (wpAny_pure ?_)
  simp only [beq_self_eq_true]
  rw [if_neg (by rw [hoS]; exact Bool.false_ne_true)]
  refine wpAny_bind (wpAny_dictEntries hod hdd ?_)
  split
  · refine wpAny_bind (wpAny_dictEntries hoo hdo' ?_)
    refine wpAny_bind ?_
    refine MeetsSeq2.wpAny_forIn_array _ (fun rest _ s' => s' = s ∧ ∀ e ∈ rest, e ∈ eso) _ ?_ ?_ _ _ ⟨rfl, fun e h => by simpa using h⟩
    · rintro e rest b s' ⟨rfl, hm⟩
      obtain ⟨k', hk', _⟩ := hko e (hm e (by simp))
      cases q : e.key with
      | ref a => rw [q, hnr] at hk'; cases hk'
      | _ => exact wpAny_pure ⟨rfl, fun e h => hm e (by simp [h])⟩
    · rintro b s' ⟨rfl, _⟩
      refine wpAny_bind (wpAny_dictEntries hoo hdo' (wpAny_bind (wpAny_dictEpoch hoo hdo' (wpAny_bind ?_))))
      refine range_turns (I := fun i s2 => ∃ h2, s2 = { s' with heap := h2 } ∧ h2.DictOf knd d (merged kvs (more.take i)) ∧ h2.get? o = some oo ∧ Heap.SameBut d s'.heap h2) ?_ ⟨s'.heap, rfl, by simpa [merged] using hd, hoo, .refl _ _⟩ ?_
      rotate_left
      · rintro s2 ⟨h2, rfl, q1, q2, q3⟩
        rw [hn, List.take_length] at q1
        exact wpAny_pure (hQ h2 q1 ⟨oo, eso, epo, q2, hco, hdo', hko, hpo, hno⟩ q3)
      all_goals
        rintro i s2 hi ⟨h2, rfl, q1, q2, q3⟩
        have hm : i < more.length := by omega
        obtain ⟨a1, a2⟩ := hpo.get? (e := eso[i]) (by simp [hi]) (List.getElem?_eq_getElem hm)
        obtain ⟨k', a3, a4⟩ := hko eso[i] (Array.getElem_mem hi)
        have := knd.inj _ _ _ a3 a1
        subst this
        have hz : (merged kvs (more.take i)).length ≤ sizeLine := by
          have := merged_length_le kvs (more.take i)
          rw [List.length_take] at this; omega
        refine wpAny_bind (wpAny_dictEntries q2 hdo' ?_)
        rw [Array.getElem?_eq_getElem hi]
        refine wpAny_bind (wpAny_holding ?_)
        rw [if_neg Bool.false_ne_true, a4, a2]
        refine DL.put_of_set (wpAny_dictSetHashed_pairs (hsz := hz) a1 q1 fun h3 q4 q5 => ?_)
        have q6 := (q5.2 o (Ne.symm hdo)).trans q2
        refine wpAny_bind (wpAny_dictEpoch q6 hdo' ?_)
        rw [if_neg (by simp)]
        exact wpAny_pure ⟨rfl, h3, rfl, by rw [merged_take_succ kvs more i _ (List.getElem?_eq_getElem hm)]; exact q4, q6, q3.trans q5⟩
  · refine wpAny_bind (wpAny_dictEntries hoo hdo' (wpAny_bind (wpAny_dictEpoch hoo hdo' (wpAny_bind ?_))))
    refine range_turns (I := fun i s2 => ∃ h2, s2 = { s with heap := h2 } ∧ h2.DictOf knd d (merged kvs (more.take i)) ∧ h2.get? o = some oo ∧ Heap.SameBut d s.heap h2) ?_ ⟨s.heap, rfl, by simpa [merged] using hd, hoo, .refl _ _⟩ ?_
    rotate_left
    · rintro s2 ⟨h2, rfl, q1, q2, q3⟩
      rw [hn, List.take_length] at q1
      exact wpAny_pure (hQ h2 q1 ⟨oo, eso, epo, q2, hco, hdo', hko, hpo, hno⟩ q3)
    all_goals
      rintro i s2 hi ⟨h2, rfl, q1, q2, q3⟩
      have hm : i < more.length := by omega
      obtain ⟨a1, a2⟩ := hpo.get? (e := eso[i]) (by simp [hi]) (List.getElem?_eq_getElem hm)
      obtain ⟨k', a3, a4⟩ := hko eso[i] (Array.getElem_mem hi)
      have := knd.inj _ _ _ a3 a1
      subst this
      have hz : (merged kvs (more.take i)).length ≤ sizeLine := by
        have := merged_length_le kvs (more.take i)
        rw [List.length_take] at this; omega
      refine wpAny_bind (wpAny_dictEntries q2 hdo' ?_)
      rw [Array.getElem?_eq_getElem hi]
      refine wpAny_bind (wpAny_holding ?_)
      rw [if_neg Bool.false_ne_true, a4, a2]
      refine DL.put_of_set (wpAny_dictSetHashed_pairs (hsz := hz) a1 q1 fun h3 q4 q5 => ?_)
      have q6 := (q5.2 o (Ne.symm hdo)).trans q2
      refine wpAny_bind (wpAny_dictEpoch q6 hdo' ?_)
      rw [if_neg (by simp)]
      exact wpAny_pure ⟨rfl, h3, rfl, by rw [merged_take_succ kvs more i _ (List.getElem?_eq_getElem hm)]; exact q4, q6, q3.trans q5⟩

/-- {**m, k: v} -/
theorem wpAny_dictDisplay_star1 {m : Sem Value} {pk : Sem Value × Sem Value} {Q : Value → Shared → Prop} (hnr : ∀ k a, knd.is k (.ref a) = false)
    (h : wpAny (model prog w) A m (fun mv s₁ => ∃ o more, mv = .ref o ∧ s.heap.objs.size ≠ o ∧ (o == sysModules) = false ∧ s₁.heap.DictOf knd s.heap.objs.size [] ∧ s₁.heap.DictOf knd o more ∧ more.length ≤ sizeLine ∧
      ∀ h₁, h₁.DictOf knd s.heap.objs.size more → Heap.SameBut s.heap.objs.size s₁.heap h₁ →
        wpAny (model prog w) A (evalPairs [pk]) (fun vs s₂ => ∃ kvs more', Carries knd vs kvs ∧ h₁.objs.size ≠ s.heap.objs.size ∧ (h₁.objs.size == sysModules) = false ∧ s₂.heap.DictOf knd h₁.objs.size [] ∧ s₂.heap.DictOf knd s.heap.objs.size more' ∧ more'.length + kvs.length ≤ sizeLine ∧
          ∀ h₂ h₃, h₂.DictOf knd h₁.objs.size (merged [] kvs) → Heap.SameBut h₁.objs.size s₂.heap h₂ → h₃.DictOf knd s.heap.objs.size (merged more' (merged [] kvs)) → h₃.DictOf knd h₁.objs.size (merged [] kvs) → Heap.SameBut s.heap.objs.size h₂ h₃ →
            Q (.ref s.heap.objs.size) { s₂ with heap := h₃, toks := s₂.toks + vs.length }) E
          { s₁ with heap := h₁.push { cls := .type "dict", data := .dict #[] } }) E
      { s with heap := s.heap.push { cls := .type "dict", data := .dict #[] } }) :
    wpAny (model prog w) A (dictDisplay [(none, m), (some pk.1, pk.2)]) Q E s := by
  unfold dictDisplay
  simp
  refine wpAny_bind (wpAny_alloc ?_)
  refine wpAny_bind (wpAny_holding (wpAny_mono h (fun mv s₁ h₁ => ?_) fun _ _ e => e))
  obtain ⟨o, more, rfl, hne, hoS, hd0, ho, hsz, h₁⟩ := h₁
  have hnd : merged [] more = more := by
    obtain ⟨_, _, _, _, _, _, _, _, hn⟩ := ho
    exact merged_nil_of_nodup more hn
  refine wpAny_bind (wpAny_onRaise (wpAny_tryCatch (wpAny_onRaise (wpAny_holding (laid_over (knd := knd) hne hoS hnr hd0 ho (fun h' hd' _ hs' => ?_) (by simpa using hsz))))))
  rw [hnd] at hd'
  refine wpAny_bind (wpAny_holding (wpAny_subDict (knd := knd) (pairs := [pk]) (by simp) (wpAny_mono (h₁ h' hd' hs') (fun vs s₂ h₂ => ?_) fun _ _ e => e)))
  obtain ⟨kvs, more', hc, hne2, hsS, hq0, hdm, hz2, h₂⟩ := h₂
  refine ⟨kvs, hc, hq0, fun h₂' hq' hs2 => ?_⟩
  have hkn : merged [] (merged [] kvs) = merged [] kvs := by
    obtain ⟨_, _, _, _, _, _, _, _, hn⟩ := hq'
    exact merged_nil_of_nodup _ hn
  have hz3 : more'.length + (merged [] kvs).length ≤ sizeLine := by
    have := merged_length_le ([] : List (K × Value)) kvs
    simp at this
    omega
  refine wpAny_bind (wpAny_onRaise (wpAny_holding (laid_over (knd := knd) (Ne.symm hne2) hsS hnr (hdm.sameBut hs2 (Ne.symm hne2)) hq' (fun h₃ hd3 hq3 hs3 => ?_) hz3)))
  exact wpAny_pure (h₂ h₂' h₃ hq' hs2 hd3 hq3 hs3)
end
end PySem

namespace DL
open PySem PySem.Spec L2
variable [TbC]
/-- {**m, k: v}, keys ints and texts -/
def tDput (tm tk tv : TE) : TE := fun σ H Q => ∀ p, H p = none → tm σ (upd H p (.dK [])) fun x H1 => ∃ a kvs, x = .ref a ∧ a ≠ p ∧ H1 p = some (.dK []) ∧ H1 a = some (.dK kvs) ∧ kvs.length < sizeLine ∧
  ∀ q, (upd H1 p (.dK kvs)) q = none → tk σ (upd (upd H1 p (.dK kvs)) q (.dK [])) fun y H2 => tv σ H2 fun z H3 => ∃ k, y = kV k ∧ H3 q = some (.dK []) ∧ H3 p = some (.dK kvs) ∧
    Q (.ref p) (upd (upd H3 q (.dK [(k, z)])) p (.dK (putK kvs k z)))
theorem mix_nr {P : Program} {w : World} : ∀ k a, (mixKind P w).is k (.ref a) = false := by
  intro k a
  cases k <;> rfl
theorem pe_dput {X : Cx} {m k v : Expr} {pos : Pos} {tm tk tv : TE} (hm : PE X m tm) (hk : PE X k tk) (hv : PE X v tv) : PE X (.Dict [none, some k] [m, v] pos) (tDput tm tk tv) := by
  refine ⟨fun pins s σ H Q I h => ?_⟩
  rw [arm_eval_Dict]
  refine wpAny_bind (wpAny_standAt ?_)
  show wpAny _ _ (dictDisplay [(none, (do let x ← eval m X.env; standAt pos; pure x)), (some (eval k X.env), (do let x ← eval v X.env; standAt pos; pure x))]) _ _ _
  have hn := I.hok.fresh (Nat.le_refl s.heap.objs.size)
  have I1 := I.laid (a := s.heap.objs.size) (o := .dK []) (h' := s.heap.push { cls := .type "dict", data := .dict #[] }) (t' := s.toks) (fun _ _ q => Heap.get?_push_of_some _ q) (Nat.le_refl _) (dk_empty s.heap I.big)
  refine wpAny_dictDisplay_star1 (knd := mixKind X.prog X.w) (pk := (eval k X.env, (do let x ← eval v X.env; standAt pos; pure x))) mix_nr ?_
  refine wpAny_bind (thn (hm.run pins _ σ _ _ I1 (h _ hn)) fun mv s1 ⟨x, H1, I1, rx, a, kvs, ex, hap, hp, ha, hz, h1⟩ => wpAny_bind (wpAny_standAt (wpAny_pure ?_)))
  subst ex
  obtain rfl : mv = Value.ref a := rx
  obtain ⟨_, haS, vs, rk, da⟩ := dk_of I1.hok ha
  obtain ⟨_, hpS, vs0, r0, dp⟩ := dk_of I1.hok hp
  cases r0
  have hlen : vs.length = kvs.length := rk.length.symm
  refine ⟨a, vs, rfl, Ne.symm hap, haS, dp, da, by rw [hlen]; exact Nat.le_of_lt hz, fun h1' dp' hs1 => ?_⟩
  have hpe : ∃ q, h1'.get? s.heap.objs.size = some q := let ⟨q, _, _, hq, _⟩ := dp'; ⟨q, hq⟩
  have I2 : Inv X pins σ (upd H1 s.heap.objs.size (.dK kvs)) { s1 with heap := h1', toks := s1.toks } := d_write I1 (by rw [hp]; exact True.intro) hs1 hpe (dk_new (Nat.le_of_lt hz) hpS rk dp')
  have hn2 := I2.hok.fresh (Nat.le_refl h1'.objs.size)
  have I3 := I2.laid (a := h1'.objs.size) (o := .dK []) (h' := h1'.push { cls := .type "dict", data := .dict #[] }) (t' := s1.toks) (fun _ _ q => Heap.get?_push_of_some _ q) (Nat.le_refl _) (dk_empty h1' I2.big)
  have hqp : h1'.objs.size ≠ s.heap.objs.size := fun e => by rw [e, upd_same] at hn2; cases hn2
  refine evalPairs_cons (thn (hk.run pins _ σ _ _ I3 (h1 _ hn2)) fun kv s2 ⟨y, H2, I4, ry, q2⟩ => wpAny_bind (thn (hv.run pins s2 σ H2 _ I4 q2) fun vv s3 ⟨z, H3, I5, rz, key, ey, hq, hp3, q3⟩ => wpAny_bind (wpAny_standAt (wpAny_pure ?_))))
  refine evalPairs_nil ?_
  subst ey
  obtain ⟨_, hqS, vs1, r1, dq⟩ := dk_of I5.hok hq
  cases r1
  obtain ⟨_, _, vs3, rk3, dp3⟩ := dk_of I5.hok hp3
  have hl3 : vs3.length = kvs.length := rk3.length.symm
  refine ⟨[(key, vv)], vs3, ⟨kV_is ry, rfl, True.intro⟩, hqp, hqS, dq, dp3, by rw [hl3]; simp; omega, ?_⟩
  intro h2 h3 hq2 hs2 hp4 hq3 hs3
  have hqe : ∃ q, h2.get? h1'.objs.size = some q := let ⟨q, _, _, hq, _⟩ := hq2; ⟨q, hq⟩
  have hpe3 : ∃ q, h3.get? s.heap.objs.size = some q := let ⟨q, _, _, hq, _⟩ := hp4; ⟨q, hq⟩
  have I6 : Inv X pins σ (upd H3 h1'.objs.size (.dK [(key, z)])) { s3 with heap := h2, toks := s3.toks } := d_write I5 (by rw [hq]; exact True.intro) hs2 hqe (dk_new (by simp [sizeLine_eq]) hqS (.cons ⟨rfl, rz⟩ .nil) hq2)
  have hp6 : (upd H3 h1'.objs.size (.dK [(key, z)])) s.heap.objs.size = some (.dK kvs) := by rw [upd_ne (Ne.symm hqp)]; exact hp3
  have hz4 : (putK kvs key z).length ≤ sizeLine := by
    have := length_putK kvs key z
    omega
  have I7 := d_write (ob := .dK (putK kvs key z)) (t' := s3.toks + 1) I6 (by rw [hp6]; exact True.intro) hs3 hpe3 (dk_new hz4 hpS (rk3.put key rz) hp4)
  exact ⟨.ref s.heap.objs.size, _, I7, rfl, q3⟩
end DL

set_option Elab.async false
set_option linter.all false
set_option maxRecDepth 100000
set_option maxHeartbeats 4000000
namespace DL
open PySem PySem.Spec L2
variable [TbC]
section
variable {X : Cx} {Γ : MEnv} {ρ : DEnv} {a k v : Expr} {pos p0 : Pos} {i : Nat} {x : Str}
theorem key_ok' {K : PySem.W.Frag} {B H : Hp} {v : V} {d : D} {key : Key} (hk : keyD d = some key) (r : Bor K B H v d) : ∀ x, key = .inr x → okS x := by
  intro x e
  subst e
  cases d with
  | str s => cases hk; exact (bor_str r).2
  | _ => cases hk
/-- {**a, k: v} -/
theorem ev_dput {ks : List Key} {ds : List D} {kd y : D} {key : Key} (hN : X.N[i]? = some x) (hvs : Vis X.env.scope x) (hd : (x == ("__debug__" : Str)) = false) (hcd : (x == ("__classdict__" : Str)) = false)
    (hr : ρ[i]? = some (some (.dic ks ds))) (hno : Γ[i]? ≠ some Md.od) (hk : keyD kd = some key) (hz : ks.length < lim)
    (hkk : EvM .bo X k Γ ρ kd) (hv : EvM .sh X v Γ ρ y) : EvM .ow X (.Dict [none, some k] [.Name x p0, v] pos) Γ ρ (.dic (putKs key ks) (putD key y ks ds)) := fun lv B0 H0 B H σ S Q q => by
  refine of_pe (pe_dput (pe_var hN hvs hd hcd) pe_of pe_of) ?_
  intro p hp
  obtain ⟨w, hw, rw⟩ := S.read hr hno
  have e0 := S.ext.bh
  obtain ⟨ad, kvs, rfl, had, hks, ko, rk⟩ := bor_dic e0 rw
  have hap : ad ≠ p := fun e => by rw [e, hp] at had; cases had
  have hBp : B p = none := e0.back hp
  have hlen : kvs.length = ks.length := by rw [← hks, List.length_map]
  refine ⟨_, hw, ad, kvs, rfl, hap, upd_same, by rw [upd_ne hap]; exact had, by rw [hlen]; exact lim_lt hz, fun qd hqd => ?_⟩
  rw [upd_upd] at hqd ⊢
  have hqp : qd ≠ p := fun e => by rw [e, upd_same] at hqd; cases hqd
  have x1 : Ext B H B (upd H p (.dK kvs)) := .own e0 hp
  have x2 : Ext B (upd H p (.dK kvs)) B (upd (upd H p (.dK kvs)) qd (.dK [])) := .own x1.bh hqd
  have x12 := x1.trans x2
  refine hkk lv B0 H0 B _ σ (S.grow x12) _ fun w2 B2 H2 x3 r2 => ?_
  refine hv lv B0 H0 B2 H2 σ ((S.grow x12).grow x3) _ fun w3 B3 H3 x4 r3 => ?_
  have hkv : w2 = kV key := keyD_V (B := B2) (H := H2) hk r2
  have x34 := x3.trans x4
  have hq2 : (upd (upd H p (.dK kvs)) qd (.dK [])) qd = some (.dK []) := upd_same
  have hp2 : (upd (upd H p (.dK kvs)) qd (.dK [])) p = some (.dK kvs) := by rw [upd_ne (Ne.symm hqp)]; exact upd_same
  have hBq : B qd = none := x1.bh.back hqd
  have hHq : H qd = none := by rw [upd_ne hqp] at hqd; exact hqd
  have hB3p : B3 p = none := x34.sep p (by rw [hp2]; simp) (by rw [hp2]; simp) hBp
  have hB3q : B3 qd = none := x34.sep qd (by rw [hq2]; simp) (by rw [hq2]; simp) hBq
  have xx := x12.trans x34
  refine ⟨key, hkv, x34.hh _ _ hq2, x34.hh _ _ hp2, ?_⟩
  refine q _ B3 _ ⟨fun a u ha => ?_, xx.bb, fun a u ha => ?_, xx.sep⟩ ⟨p, rfl, hp, hB3p, .dic (kvs := putK kvs key w3) upd_same (putK_keys hks) (putKs_ok ko (key_ok' hk r2)) (putK_reps hks r3 (rk.mono xx.bb))⟩
  · rw [upd_ne (ne_of_none ha hp), upd_ne (ne_of_none ha hHq)]; exact xx.hh a u ha
  · rw [upd_ne (ne_of_none ha hB3p), upd_ne (ne_of_none ha hB3q)]; exact xx.bh a u ha
/-- {k: v} -/
theorem ev_d1 {kd y : D} {key : Key} (hk : keyD kd = some key) (hkk : EvM .bo X k Γ ρ kd) (hv : EvM .sh X v Γ ρ y) : EvM .ow X (.Dict [some k] [v] pos) Γ ρ (.dic [key] [y]) := fun lv B0 H0 B H σ S Q q => by
  refine of_pe (pe_disp (pps_cons pe_of pe_of pps_nil) (by rfl) (by rfl) (by simp) (by simp)) ?_
  intro p hp
  have x0 : Ext B H B (upd H p (.dK [])) := .own S.ext.bh hp
  refine hkk lv B0 H0 B _ σ (S.grow x0) _ fun w2 B2 H2 x3 r2 => ?_
  refine hv lv B0 H0 B2 H2 σ ((S.grow x0).grow x3) _ fun w3 B3 H3 x4 r3 => ?_
  have x34 := x3.trans x4
  have here : (upd H p (.dK [])) p = some (.dK []) := upd_same
  have hB3 : B3 p = none := x34.sep p (by rw [here]; simp) (by rw [here]; simp) (S.ext.bh.back hp)
  have xx := x0.trans x34
  refine ⟨x34.hh _ _ here, [(key, w3)], by rw [keyD_V (B := B2) (H := H2) hk r2]; rfl, by simp, ?_⟩
  have hks : KsOk [key] := fun x hx => by
    simp only [List.mem_singleton] at hx
    exact key_ok' hk r2 x hx.symm
  refine q _ B3 _ ⟨fun a u ha => ?_, xx.bb, fun a u ha => ?_, xx.sep⟩ ⟨p, rfl, hp, hB3, .dic (kvs := [(key, w3)]) upd_same rfl hks (.cons r3 .nil)⟩
  · rw [upd_ne (ne_of_none ha hp)]; exact xx.hh a u ha
  · rw [upd_ne (ne_of_none ha hB3)]; exact xx.bh a u ha
end
end DL

set_option Elab.async false
set_option linter.all false
set_option maxRecDepth 100000
set_option maxHeartbeats 4000000
namespace DL
open PySem PySem.Spec L2
variable [TbC]
variable (N : List Str) (fs : List (Str × List Md)) (Φ : Nat → List D → Option D) (k : Nat)

theorem evT_op2 {o : Op2} {a b : E} {ρ : DEnv} : evT Φ (.op2 o a b) ρ = (evE Φ (.op2 o a b) ρ).bind truD := by simp only [evT, evE]
theorem dcT_sndE {n : Nat} (hE : SE N fs Φ k n) (hI : SI N fs Φ k n) {sc scope : Scope} {kx elt tg iter : Expr} {ifs : List Expr} {pos : Pos} {t : T} {h1 hk h3 h4 : E} (hb : blkC N sc scope (ownOf N scope) = true) (hpl : plainE iter = true)
    (e1 : cI N fs n sc (isTup tg) iter = some h1) (e2 : cT N n scope tg = some t) (ek : cE N fs n scope kx = some hk) (e3 : cE N fs n scope elt = some h3)
    (e4 : (match ifs with | [] => some E.nop | [c] => cE N fs n scope c | _ => none : Option E) = some h4) :
    plainE (.DictComp kx elt [⟨tg, iter, ifs, 0⟩] scope pos) = true ∧ ∀ X, Good X N sc k → Hyp X fs Φ k → ∀ Γ ρ, okE fs Γ (.dcT t ((ownOf N scope).map (·.2)) hk h3 h1 h4) = true →
      (∀ d, evE Φ (.dcT t ((ownOf N scope).map (·.2)) hk h3 h1 h4) ρ = some d → R3 X (.DictComp kx elt [⟨tg, iter, ifs, 0⟩] scope pos) Γ ρ (.dcT t ((ownOf N scope).map (·.2)) hk h3 h1 h4) d) ∧ (∀ j, evT Φ (.dcT t ((ownOf N scope).map (·.2)) hk h3 h1 h4) ρ = some j → EvT X (.DictComp kx elt [⟨tg, iter, ifs, 0⟩] scope pos) Γ ρ j) := by
  obtain ⟨_, s3⟩ := hE scope elt h3 e3
  obtain ⟨_, sk⟩ := hE scope kx hk ek
  refine ⟨rfl, fun X g hy Γ ρ ok => ⟨fun d hd => ?_, fun j hj => by simp [evT] at hj⟩⟩
  simp only [okE, Bool.and_eq_true, List.all_eq_true, List.contains_iff_mem] at ok
  obtain ⟨⟨⟨⟨⟨⟨⟨ok1, okk⟩, okk2⟩, ok2⟩, ok3⟩, ok4⟩, ok5⟩, ok6⟩ := ok
  simp only [evE] at hd
  obtain ⟨l, d1, hd⟩ := Option.bind_eq_some_iff.mp hd
  obtain ⟨r, d2, rfl⟩ := Option.map_eq_some_iff.mp hd
  obtain ⟨_, wi, hpi, hwi⟩ := hI sc (isTup tg) iter h1 e1 X g hy Γ ρ ok1 l d1 false tg isTup_eq (fun z => by cases z)
  have w := one_of N fs Φ k hE hb hpl e2 e4 g hy ok4 ok5 ok6
  have gb : ∀ (s : Shared) (H : Hp) (C : Addr) (cl : List (Str × Addr)) (fp : List Addr), Good (X.blk s H scope (compEnvC scope cl C X.env) fp) N scope k := fun s H C cl fp => g.blk hb s H C cl fp
  have hyb : ∀ (s : Shared) (H : Hp) (C : Addr) (cl : List (Str × Addr)) (fp : List Addr), Hyp (X.blk s H scope (compEnvC scope cl C X.env) fp) fs Φ k := fun s H C cl fp => hy.blk s H scope _ fp
  refine .of_ow fun lv B0 H0 B H σ S Q q => of_pe (pe_D1 (T := true) (w.c1 hpi)) ?_
  exact dcT_read w (fun ρ' y r s H C cl fp => ((sk _ (gb s H C cl fp) (hyb s H C cl fp) Γ ρ' okk).1 y r).2.1 okk2) (fun ρ' y r s H C cl fp => ((s3 _ (gb s H C cl fp) (hyb s H C cl fp) Γ ρ' ok2).1 y r).2.1 ok3) hwi d2 lv B0 H0 B H σ S Q q
theorem se_succ {n : Nat} (hE : SE N fs Φ k n) (hA : SA N fs Φ k n) (hO : SO N fs Φ k n) (hI : SI N fs Φ k n) (hN : SN N fs Φ k n) (hM : SM N fs Φ k n) : SE N fs Φ k (n + 1) := by
  intro sc e ir h
  cases e with
  | Name x pos =>
    simp only [cE] at h
    split at h
    · rename_i hc
      simp only [Bool.and_eq_true] at hc
      obtain ⟨i, h1, rfl⟩ := Option.map_eq_some_iff.mp h
      refine ⟨rfl, fun X g hy Γ ρ ok => ?_⟩
      obtain ⟨n1, n2⟩ := nameOk_1 hc.2
      have hx : X.N[i]? = some x := by rw [g.hN]; exact ixOf_0 h1
      have hv := g.vis x hc.1
      have hno : Γ[i]? ≠ some Md.od := by simpa [okE] using ok
      have rd : ∀ d, evE Φ (.var i) ρ = some d → ρ[i]? = some (some d) := fun d hd => by
        simp only [evE] at hd
        obtain ⟨o, o1, o2⟩ := Option.bind_eq_some_iff.mp hd
        have : o = some d := o2
        rw [o1, this]
      refine ⟨fun d hd => ⟨ev_var hx hv n1 n2 (rd d hd) hno, fun hm => ev_varS hx hv n1 n2 (rd d hd) (by simpa [esc] using hm), (fun z => by cases z), fun j hj hb => ?_⟩, fun j hj => ?_⟩
      · cases hj; exact EvB.var hx hv n1 n2 (rd d hd) hb
      · simp only [evT] at hj
        obtain ⟨d, d1, d2⟩ := Option.bind_eq_some_iff.mp hj
        exact ev_truth rfl d2 (ev_var hx hv n1 n2 (rd d (by simpa only [evE] using d1)) hno)
    · split at h
      · rename_i hc
        simp only [Bool.and_eq_true] at hc
        obtain ⟨d0, h1, rfl⟩ := Option.map_eq_some_iff.mp h
        refine ⟨rfl, fun X g hy Γ ρ ok => ?_⟩
        obtain ⟨i, hi⟩ := Option.isSome_iff_exists.mp hc.2
        obtain ⟨ms, hf⟩ := fnIx_0 hi
        obtain ⟨u, v, c1, c2, c3⟩ := hy.cst i x ms d0 hf h1
        have he : EvM .sh X (.Name x pos) Γ ρ d0 := ev_const (pe_glob (g.gl x hc.1.1) c1 c2 (nameOk_1 hc.1.2).1) (fun B => c3 _ B)
        refine ⟨fun d' hd => ?_, fun j hj => ?_⟩
        · simp only [evE, Option.some.injEq] at hd; subst hd; exact .of_sh he rfl
        · simp only [evT] at hj; exact ev_truth rfl hj he.bo_of
      · cases h
  | Constant c kk pos =>
    simp only [cE] at h
    have fin : ∀ {d : D}, (∀ X : Cx, PE X (.Constant c kk pos) (tC (match d with | .non => .non | .bl b => .bl b | .int i => .int i | .str s => .str s | _ => .non)) ∧ ∀ B, Rep X.K B (match d with | .non => .non | .bl b => .bl b | .int i => .int i | .str s => .str s | _ => .non) d) → plainE (.Constant c kk pos) = true ∧ ∀ X, Good X N sc k → Hyp X fs Φ k → ∀ Γ ρ, okE fs Γ (.con d) = true → (∀ d', evE Φ (.con d) ρ = some d' → R3 X (.Constant c kk pos) Γ ρ (.con d) d') ∧ (∀ j, evT Φ (.con d) ρ = some j → EvT X (.Constant c kk pos) Γ ρ j) := fun {d} hp => by
      refine ⟨rfl, fun X g hy Γ ρ ok => ⟨fun d' hd => ?_, fun j hj => ?_⟩⟩
      · simp only [evE, Option.some.injEq] at hd
        subst hd
        exact .of_sh (ev_const (hp X).1 (hp X).2) rfl
      · simp only [evT] at hj
        exact ev_truth rfl hj (ev_const (hp X).1 (hp X).2).bo_of
    cases c with
    | none => simp only [Option.some.injEq] at h; subst h; exact fin fun X => ⟨pe_non, fun B => .non⟩
    | bool b => simp only [Option.some.injEq] at h; subst h; exact fin fun X => ⟨pe_bl, fun B => .bl b⟩
    | int i => simp only [Option.some.injEq] at h; subst h; exact fin fun X => ⟨pe_int, fun B => .int i⟩
    | str s =>
      simp only at h
      split at h
      · rename_i hs
        simp only [Bool.and_eq_true, decide_eq_true_eq] at hs
        cases h
        exact fin fun X => ⟨pe_str, fun B => .str s ⟨hs.1, lim_le hs.2⟩⟩
      · cases h
    | _ => cases h
  | BinOp a op b pos =>
    simp only [cE] at h
    obtain ⟨o, ho, h⟩ := Option.bind_eq_some_iff.mp h
    obtain ⟨h1, e1, h⟩ := Option.bind_eq_some_iff.mp h
    obtain ⟨h2, e2, rfl⟩ := Option.map_eq_some_iff.mp h
    obtain ⟨_, s1⟩ := hE sc a h1 e1
    obtain ⟨_, s2⟩ := hE sc b h2 e2
    refine ⟨rfl, fun X g hy Γ ρ ok => ?_⟩
    simp only [okE, Bool.and_eq_true] at ok
    have main : ∀ d, evE Φ (.op2 o h1 h2) ρ = some d → EvM (mdR d) X (.BinOp a op b pos) Γ ρ d := fun d hd => by
      simp only [evE] at hd
      obtain ⟨x, d1, hd⟩ := Option.bind_eq_some_iff.mp hd
      obtain ⟨y, d2, hd⟩ := Option.bind_eq_some_iff.mp hd
      exact ev_bin ho hd ((s1 X g hy Γ ρ ok.1).1 x d1).1 ((s2 X g hy Γ ρ ok.2).1 y d2).1
    refine ⟨fun d hd => .of_md (main d hd), fun j hj => ?_⟩
    rw [evT_op2] at hj
    exact snd_t rfl (fun d hd => (R3.of_md (ir := .nop) (main d hd)).1) hj
  | UnaryOp op a pos =>
    cases op with
    | Not =>
      simp only [cE] at h
      obtain ⟨h1, e1, rfl⟩ := Option.map_eq_some_iff.mp h
      obtain ⟨_, s1⟩ := hE sc a h1 e1
      refine ⟨rfl, fun X g hy Γ ρ ok => ?_⟩
      simp only [okE] at ok
      refine ⟨fun d hd => ?_, fun j hj => ?_⟩
      · simp only [evE] at hd
        obtain ⟨x, d1, hd⟩ := Option.bind_eq_some_iff.mp hd
        cases x <;> cases hd
        exact .of_sh (ev_not ((s1 X g hy Γ ρ ok).1 _ d1).1) rfl
      · simp only [evT] at hj
        obtain ⟨c, c1, rfl⟩ := Option.map_eq_some_iff.mp hj
        exact ev_tNot ((s1 X g hy Γ ρ ok).2 c c1)
    | USub =>
      simp only [cE] at h
      obtain ⟨h1, e1, rfl⟩ := Option.map_eq_some_iff.mp h
      obtain ⟨_, s1⟩ := hE sc a h1 e1
      refine ⟨rfl, fun X g hy Γ ρ ok => ?_⟩
      simp only [okE] at ok
      have main : ∀ d, evE Φ (.op1 .neg h1) ρ = some d → EvM .sh X (.UnaryOp .USub a pos) Γ ρ d := fun d hd => by
        simp only [evE] at hd
        obtain ⟨x, d1, hd⟩ := Option.bind_eq_some_iff.mp hd
        cases x <;> simp [op1D] at hd
        subst hd
        exact ev_neg ((s1 X g hy Γ ρ ok).1 _ d1).1
      refine ⟨fun d hd => .of_sh (main d hd) rfl, fun j hj => ?_⟩
      simp only [evT] at hj
      exact snd_t rfl (fun d hd => (main d (by simpa only [evE] using hd)).bo_of) hj
    | _ => simp [cE] at h
  | BoolOp op vs pos =>
    cases vs with
    | nil => simp [cE] at h
    | cons a r =>
      cases r with
      | nil =>
        simp only [cE] at h
        obtain ⟨_, s1⟩ := hE sc a ir h
        refine ⟨rfl, fun X g hy Γ ρ ok => ⟨fun d hd => ?_, fun j hj => ev_tOne ((s1 X g hy Γ ρ ok).2 j hj)⟩⟩
        obtain ⟨r1, r2, r3, r4⟩ := (s1 X g hy Γ ρ ok).1 d hd
        exact ⟨ev_one r1, fun z => ev_one (r2 z), fun z w => ev_one (r3 z w), fun i z w => ev_boneB (r4 i z w)⟩
      | cons b rest =>
        simp only [cE] at h
        obtain ⟨h1, e1, h⟩ := Option.bind_eq_some_iff.mp h
        obtain ⟨h2, e2, h⟩ := Option.map_eq_some_iff.mp h
        obtain ⟨_, s1⟩ := hE sc a h1 e1
        obtain ⟨_, s2⟩ := hE sc _ h2 e2
        refine ⟨rfl, fun X g hy Γ ρ ok => ?_⟩
        cases op with
        | And =>
          subst h
          simp only [okE, Bool.and_eq_true] at ok
          refine ⟨fun d hd => ?_, fun j hj => ?_⟩
          · simp only [evE] at hd
            obtain ⟨x, d1, hd⟩ := Option.bind_eq_some_iff.mp hd
            cases x <;> try cases hd
            rename_i p
            refine .of_sh (ev_and (p := p) ((s1 X g hy Γ ρ ok.1.1).1 _ d1).1 (fun hp => ?_) fun hp => ?_) rfl
            · subst hp; exact ((s2 X g hy Γ ρ ok.1.2).1 d hd).2.1 ok.2
            · subst hp; cases hd; rfl
          · simp only [evT] at hj
            obtain ⟨p, p1, hj⟩ := Option.bind_eq_some_iff.mp hj
            cases p with
            | true => exact ev_tAnd (p := true) (q := j) ((s1 X g hy Γ ρ ok.1.1).2 _ p1) (fun _ => (s2 X g hy Γ ρ ok.1.2).2 j (by simpa using hj)) (by simp) fun t ht => pw_bool ht
            | false =>
              have : j = false := by simpa [eq_comm] using hj
              subst this
              exact ev_tAnd (p := false) (q := false) ((s1 X g hy Γ ρ ok.1.1).2 _ p1) (fun z => by cases z) (by simp) fun t ht => pw_bool ht
        | Or =>
          subst h
          simp only [okE, Bool.and_eq_true] at ok
          refine ⟨fun d hd => ?_, fun j hj => ?_⟩
          · simp only [evE] at hd
            obtain ⟨x, d1, hd⟩ := Option.bind_eq_some_iff.mp hd
            cases x <;> try cases hd
            rename_i p
            refine .of_sh (ev_or (p := p) ((s1 X g hy Γ ρ ok.1.1).1 _ d1).1 (fun hp => ?_) fun hp => ?_) rfl
            · subst hp; exact ((s2 X g hy Γ ρ ok.1.2).1 d hd).2.1 ok.2
            · subst hp; cases hd; rfl
          · simp only [evT] at hj
            obtain ⟨p, p1, hj⟩ := Option.bind_eq_some_iff.mp hj
            cases p with
            | false => exact ev_tOr (p := false) (q := j) ((s1 X g hy Γ ρ ok.1.1).2 _ p1) (fun _ => (s2 X g hy Γ ρ ok.1.2).2 j (by simpa using hj)) (by simp) fun t ht => pw_bool ht
            | true =>
              have : j = true := by simpa [eq_comm] using hj
              subst this
              exact ev_tOr (p := true) (q := false) ((s1 X g hy Γ ρ ok.1.1).2 _ p1) (fun z => by cases z) (by simp) fun t ht => pw_bool ht
  | IfExp c a b pos =>
    simp only [cE] at h
    obtain ⟨h0, e0, h⟩ := Option.bind_eq_some_iff.mp h
    obtain ⟨h1, e1, h⟩ := Option.bind_eq_some_iff.mp h
    obtain ⟨h2, e2, rfl⟩ := Option.map_eq_some_iff.mp h
    obtain ⟨_, s0⟩ := hE sc c h0 e0
    obtain ⟨_, s1⟩ := hE sc a h1 e1
    obtain ⟨_, s2⟩ := hE sc b h2 e2
    refine ⟨rfl, fun X g hy Γ ρ ok => ⟨fun d hd => ?_, fun j hj => by simp [evT] at hj⟩⟩
    simp only [okE, Bool.and_eq_true] at ok
    simp only [evE] at hd
    obtain ⟨p, p1, hd⟩ := Option.bind_eq_some_iff.mp hd
    have hc := (s0 X g hy Γ ρ ok.1.1).2 p p1
    have all : ∀ m, (p = true → EvM m X a Γ ρ d) → (p = false → EvM m X b Γ ρ d) → EvM m X (.IfExp c a b pos) Γ ρ d := fun m => ev_ite hc
    refine ⟨all .bo (fun z => ?_) fun z => ?_, fun he => all .sh (fun z => ?_) fun z => ?_, (fun z => by cases z), fun i z => by cases z⟩
    · subst z; exact ((s1 X g hy Γ ρ ok.1.2).1 d hd).1
    · subst z; exact ((s2 X g hy Γ ρ ok.2).1 d hd).1
    · simp only [esc, Bool.and_eq_true] at he; subst z; exact ((s1 X g hy Γ ρ ok.1.2).1 d hd).2.1 he.1
    · simp only [esc, Bool.and_eq_true] at he; subst z; exact ((s2 X g hy Γ ρ ok.2).1 d hd).2.1 he.2
  | Compare a ops bs pos =>
    match ops, bs, h with
    | [op], [b], h =>
      simp only [cE] at h
      split at h
      · rename_i hb
        obtain ⟨h1, e1, h⟩ := Option.bind_eq_some_iff.mp h
        obtain ⟨h2, e2, rfl⟩ := Option.map_eq_some_iff.mp h
        obtain ⟨_, s1⟩ := hE sc a h1 e1
        obtain ⟨_, s2⟩ := hE sc b h2 e2
        refine ⟨rfl, fun X g hy Γ ρ ok => ?_⟩
        simp only [okE, Bool.and_eq_true] at ok
        refine ⟨fun d hd => ?_, fun j hj => ?_⟩
        · simp only [evE] at hd
          obtain ⟨x, d1, hd⟩ := Option.bind_eq_some_iff.mp hd
          obtain ⟨y, d2, hd⟩ := Option.bind_eq_some_iff.mp hd
          exact .of_sh (ev_cmp g hb hd ((s1 X g hy Γ ρ ok.1).1 x d1).1 ((s2 X g hy Γ ρ ok.2).1 y d2).1) (by cases op <;> rfl)
        · rw [evT_op2] at hj
          refine snd_tc (fun k' hk => ?_) (fun d hd => ?_) hj
          · simp only [evE] at hk
            obtain ⟨x, d1, hk⟩ := Option.bind_eq_some_iff.mp hk
            obtain ⟨y, d2, hk⟩ := Option.bind_eq_some_iff.mp hk
            exact ev_cmpT g hb hk ((s1 X g hy Γ ρ ok.1).1 x d1).1 ((s2 X g hy Γ ρ ok.2).1 y d2).1
          · simp only [evE] at hd
            obtain ⟨x, d1, hd⟩ := Option.bind_eq_some_iff.mp hd
            obtain ⟨y, d2, hd⟩ := Option.bind_eq_some_iff.mp hd
            exact cmp_bl hd
      · cases h
    | [op, op'], [b, c], h =>
      simp only [cE] at h
      split at h
      · rename_i hb
        simp only [Bool.and_eq_true] at hb
        obtain ⟨h1, e1, h⟩ := Option.bind_eq_some_iff.mp h
        obtain ⟨h2, e2, h⟩ := Option.bind_eq_some_iff.mp h
        obtain ⟨h3, e3, rfl⟩ := Option.map_eq_some_iff.mp h
        obtain ⟨_, s1⟩ := hE sc a h1 e1
        obtain ⟨_, s2⟩ := hE sc b h2 e2
        obtain ⟨_, s3⟩ := hE sc c h3 e3
        refine ⟨rfl, fun X g hy Γ ρ ok => ?_⟩
        simp only [okE, Bool.and_eq_true] at ok
        refine ⟨fun d hd => ?_, fun j hj => ?_⟩
        · simp only [evE] at hd
          obtain ⟨x, d1, hd⟩ := Option.bind_eq_some_iff.mp hd
          obtain ⟨y, d2, hd⟩ := Option.bind_eq_some_iff.mp hd
          obtain ⟨r, d3, hd⟩ := Option.bind_eq_some_iff.mp hd
          obtain ⟨j, rfl⟩ := cmp_bl d3
          cases j with
          | true =>
            obtain ⟨z, d4, hd⟩ := Option.bind_eq_some_iff.mp hd
            exact .of_sh (ev_chain (j := true) g hb.2 d3 ((s1 X g hy Γ ρ ok.1.1).1 x d1).1 ((s2 X g hy Γ ρ ok.1.2).1 y d2).1 (fun _ => ⟨((s3 X g hy Γ ρ ok.2).1 z d4).1, hd⟩) (fun z => by cases z)) rfl
          | false =>
            have hd : some (D.bl false) = some d := hd
            cases hd
            exact .of_sh (ev_chain (j := false) (z := .non) g hb.2 d3 ((s1 X g hy Γ ρ ok.1.1).1 x d1).1 ((s2 X g hy Γ ρ ok.1.2).1 y d2).1 (fun z => by cases z) (fun _ => rfl)) rfl
        · simp only [evT] at hj
          obtain ⟨x, d1, hj⟩ := Option.bind_eq_some_iff.mp hj
          obtain ⟨y, d2, hj⟩ := Option.bind_eq_some_iff.mp hj
          obtain ⟨r, d3, hj⟩ := Option.bind_eq_some_iff.mp hj
          obtain ⟨b', rfl⟩ := cmp_bl d3
          cases b' with
          | true =>
            obtain ⟨w, w1, w2⟩ := Option.bind_eq_some_iff.mp hj
            obtain ⟨z, d4, w1⟩ := Option.bind_eq_some_iff.mp w1
            obtain ⟨b2, rfl⟩ := cmp_bl w1
            cases w2
            exact ev_chainT N k (j := true) g hb.2 d3 ((s1 X g hy Γ ρ ok.1.1).1 x d1).1 ((s2 X g hy Γ ρ ok.1.2).1 y d2).1 (fun _ => ⟨((s3 X g hy Γ ρ ok.2).1 z d4).1, w1⟩) (fun z => by cases z)
          | false =>
            have hj : some false = some j := hj
            cases hj
            exact ev_chainT N k (j := false) (z := .non) g hb.2 d3 ((s1 X g hy Γ ρ ok.1.1).1 x d1).1 ((s2 X g hy Γ ρ ok.1.2).1 y d2).1 (fun z => by cases z) (fun _ => rfl)
      · cases h
    | [], _, h => simp [cE] at h
    | [_], [], h => simp [cE] at h
    | [_], _ :: _ :: _, h => simp [cE] at h
    | _ :: _ :: _ :: _, _, h => simp [cE] at h
    | [_, _], [], h => simp [cE] at h
    | [_, _], [_], h => simp [cE] at h
    | [_, _], _ :: _ :: _ :: _, h => simp [cE] at h
  | Subscript a b pos =>
    have gen : plainE b = true → (∀ h1 h2, cE N fs n sc a = some h1 → cE N fs n sc b = some h2 → ir = .op2 .ix h1 h2 → plainE (.Subscript a b pos) = true ∧ ∀ X, Good X N sc k → Hyp X fs Φ k → ∀ Γ ρ, okE fs Γ ir = true → (∀ d, evE Φ ir ρ = some d → R3 X (.Subscript a b pos) Γ ρ ir d) ∧ (∀ j, evT Φ ir ρ = some j → EvT X (.Subscript a b pos) Γ ρ j)) := fun hb h1 h2 e1 e2 he => by
      subst he
      obtain ⟨_, s1⟩ := hE sc a h1 e1
      obtain ⟨_, s2⟩ := hE sc b h2 e2
      refine ⟨rfl, fun X g hy Γ ρ ok => ?_⟩
      simp only [okE, Bool.and_eq_true] at ok
      have main : ∀ d, evE Φ (.op2 .ix h1 h2) ρ = some d → EvM .sh X (.Subscript a b pos) Γ ρ d := fun d hd => by
        simp only [evE] at hd
        obtain ⟨x, d1, hd⟩ := Option.bind_eq_some_iff.mp hd
        obtain ⟨y, d2, hd⟩ := Option.bind_eq_some_iff.mp hd
        exact ev_ix g hb hd ((s1 X g hy Γ ρ ok.1).1 x d1).1 ((s2 X g hy Γ ρ ok.2).1 y d2).1
      refine ⟨fun d hd => .of_sh (main d hd) rfl, fun j hj => ?_⟩
      rw [evT_op2] at hj
      exact snd_t rfl (fun d hd => (main d hd).bo_of) hj
    simp only [cE] at h
    split at h
    · rename_i lo hi p2
      obtain ⟨h1, e1, h⟩ := Option.bind_eq_some_iff.mp h
      obtain ⟨h2, e2, h⟩ := Option.bind_eq_some_iff.mp h
      obtain ⟨h3, e3, rfl⟩ := Option.map_eq_some_iff.mp h
      obtain ⟨_, s1⟩ := hE sc a h1 e1
      refine ⟨rfl, fun X g hy Γ ρ ok => ?_⟩
      simp only [okE, Bool.and_eq_true] at ok
      refine ⟨fun d hd => ?_, fun j hj => by simp [evT] at hj⟩
      simp only [evE] at hd
      obtain ⟨x, d1, hd⟩ := Option.bind_eq_some_iff.mp hd
      obtain ⟨l, d2, hd⟩ := Option.bind_eq_some_iff.mp hd
      obtain ⟨u, d3, hd⟩ := Option.bind_eq_some_iff.mp hd
      exact .of_md (ev_sl hd ((s1 X g hy Γ ρ ok.1.1).1 x d1).1 (hO sc lo h2 e2 X g hy Γ ρ ok.1.2 l d2) (hO sc hi h3 e3 X g hy Γ ρ ok.2 u d3))
    · split at h
      · rename_i hb
        obtain ⟨h1, e1, h⟩ := Option.bind_eq_some_iff.mp h
        obtain ⟨h2, e2, h⟩ := Option.map_eq_some_iff.mp h
        exact gen hb h1 h2 e1 e2 h.symm
      · cases h
  | List es pos =>
    simp only [cE] at h
    obtain ⟨h1, e1, rfl⟩ := Option.map_eq_some_iff.mp h
    have s1 := hA sc es h1 e1
    refine ⟨rfl, fun X g hy Γ ρ ok => ⟨fun d hd => ?_, fun j hj => by simp [evT] at hj⟩⟩
    simp only [okE, Bool.and_eq_true] at ok
    simp only [evE] at hd
    obtain ⟨ds, d1, hd⟩ := Option.bind_eq_some_iff.mp hd
    split at hd
    · rename_i hl
      cases hd
      exact .of_ow (ev_lst hl ((s1 X g hy Γ ρ ok.1 ds d1).2.1 ok.2))
    · cases hd
  | Tuple es kk pos =>
    simp only [cE] at h
    obtain ⟨h1, e1, rfl⟩ := Option.map_eq_some_iff.mp h
    have s1 := hA sc es h1 e1
    refine ⟨rfl, fun X g hy Γ ρ ok => ⟨fun d hd => ?_, fun j hj => by simp [evT] at hj⟩⟩
    simp only [okE, Bool.and_eq_true] at ok
    simp only [evE] at hd
    obtain ⟨ds, d1, hd⟩ := Option.bind_eq_some_iff.mp hd
    split at hd
    · rename_i hl
      cases hd
      exact .of_sh (ev_tup hl ((s1 X g hy Γ ρ ok.1 ds d1).2.1 ok.2)) rfl
    · cases hd
  | Dict ks vs pos =>
    simp only [cE] at h
    split at h
    · rename_i kx vx hd1
      obtain ⟨rfl, rfl⟩ := d1Of_eq hd1
      obtain ⟨ik, h2, h⟩ := Option.bind_eq_some_iff.mp h
      obtain ⟨iv, h3, rfl⟩ := Option.map_eq_some_iff.mp h
      obtain ⟨_, s1⟩ := hE sc kx ik h2
      obtain ⟨_, s2⟩ := hE sc vx iv h3
      refine ⟨rfl, fun X g hy Γ ρ ok => ⟨fun d hd => ?_, fun j hj => by simp [evT] at hj⟩⟩
      simp only [okE, Bool.and_eq_true] at ok
      simp only [evE] at hd
      obtain ⟨kd, d1, hd⟩ := Option.bind_eq_some_iff.mp hd
      obtain ⟨y, d2, hd⟩ := Option.bind_eq_some_iff.mp hd
      obtain ⟨key, d3, rfl⟩ := Option.map_eq_some_iff.mp hd
      exact .of_ow (ev_d1 d3 ((s1 X g hy Γ ρ ok.1.1).1 kd d1).1 (((s2 X g hy Γ ρ ok.1.2).1 y d2).2.1 ok.2))
    rename_i hd0
    clear hd0
    obtain ⟨o, h0, h⟩ := Option.bind_eq_some_iff.mp h
    cases o with
    | none =>
      obtain ⟨rfl, rfl⟩ := dispOf_none h0
      replace h : some (if (fnIx "{}" fs 0).isSome then E.dnewT else E.dnew) = some ir := by assumption
      by_cases hq : (fnIx "{}" fs 0).isSome = true
      · rw [if_pos hq] at h
        cases h
        refine ⟨rfl, fun X g hy Γ ρ ok => ⟨fun d hd => ?_, fun j hj => by simp [evT] at hj⟩⟩
        simp only [evE, Option.some.injEq] at hd
        subst hd
        exact .of_ow ev_dnewT
      · rw [if_neg hq] at h
        cases h
        refine ⟨rfl, fun X g hy Γ ρ ok => ⟨fun d hd => ?_, fun j hj => by simp [evT] at hj⟩⟩
        simp only [evE, Option.some.injEq] at hd
        subst hd
        exact .of_ow ev_dnew
    | some o =>
      obtain ⟨x, kx, vx⟩ := o
      obtain ⟨p0, rfl, rfl⟩ := dispOf_some h0
      replace h : (if (visS sc x && nameOk x) = true then (ixOf x N 0).bind fun i => (cE N fs n sc kx).bind fun y => (cE N fs n sc vx).map fun z => E.dput i y z else none) = some ir := by assumption
      split at h
      · rename_i hc
        simp only [Bool.and_eq_true] at hc
        obtain ⟨i, h1, h⟩ := Option.bind_eq_some_iff.mp h
        obtain ⟨ik, h2, h⟩ := Option.bind_eq_some_iff.mp h
        obtain ⟨iv, h3, rfl⟩ := Option.map_eq_some_iff.mp h
        obtain ⟨_, s1⟩ := hE sc kx ik h2
        obtain ⟨_, s2⟩ := hE sc vx iv h3
        refine ⟨rfl, fun X g hy Γ ρ ok => ⟨fun d hd => ?_, fun j hj => by simp [evT] at hj⟩⟩
        simp only [okE, Bool.and_eq_true] at ok
        simp only [evE] at hd
        obtain ⟨kd, d1, hd⟩ := Option.bind_eq_some_iff.mp hd
        obtain ⟨y, d2, hd⟩ := Option.bind_eq_some_iff.mp hd
        split at hd
        · rename_i ks ds hr
          obtain ⟨key, d3, hd⟩ := Option.bind_eq_some_iff.mp hd
          split at hd
          · rename_i hz
            cases hd
            obtain ⟨n1, n2⟩ := nameOk_1 hc.2
            exact .of_ow (ev_dput (by rw [g.hN]; exact ixOf_0 h1) (g.vis x hc.1) n1 n2 hr (by simpa using ok.1.1.1) d3 hz ((s1 X g hy Γ ρ ok.1.1.2).1 kd d1).1 (((s2 X g hy Γ ρ ok.1.2).1 y d2).2.1 ok.2))
          · cases hd
        · cases hd
      · cases h
  | ListComp elt gs scope pos =>
    match gs, h with
    | [⟨tg, iter, ifs, ia⟩], h =>
      simp only [cE] at h
      split at h
      · rename_i hc
        simp only [Bool.and_eq_true, decide_eq_true_eq] at hc
        obtain ⟨⟨rfl, hb⟩, hpl⟩ := hc
        obtain ⟨h1, e1, h⟩ := Option.bind_eq_some_iff.mp h
        obtain ⟨t, e2, h⟩ := Option.bind_eq_some_iff.mp h
        obtain ⟨h3, e3, h⟩ := Option.bind_eq_some_iff.mp h
        obtain ⟨h4, e4, rfl⟩ := Option.map_eq_some_iff.mp h
        obtain ⟨_, s3⟩ := hE scope elt h3 e3
        refine ⟨rfl, fun X g hy Γ ρ ok => ⟨fun d hd => ?_, fun j hj => by simp [evT] at hj⟩⟩
        simp only [okE, Bool.and_eq_true, List.all_eq_true, List.contains_iff_mem] at ok
        obtain ⟨⟨⟨⟨⟨ok1, ok2⟩, ok3⟩, ok4⟩, ok5⟩, ok6⟩ := ok
        simp only [evE] at hd
        obtain ⟨l, d1, hd⟩ := Option.bind_eq_some_iff.mp hd
        obtain ⟨r, d2, rfl⟩ := Option.map_eq_some_iff.mp hd
        have hi := hI sc (isTup tg) iter h1 e1 X g hy Γ ρ ok1 l d1 false tg isTup_eq (fun z => by cases z)
        have gb : ∀ (s : Shared) (H : Hp) (C : Addr) (cl : List (Str × Addr)) (fp : List Addr), Good (X.blk s H scope (compEnvC scope cl C X.env) fp) N scope k := fun s H C cl fp => g.blk hb s H C cl fp
        have hyb : ∀ (s : Shared) (H : Hp) (C : Addr) (cl : List (Str × Addr)) (fp : List Addr), Hyp (X.blk s H scope (compEnvC scope cl C X.env) fp) fs Φ k := fun s H C cl fp => hy.blk s H scope _ fp
        have hif : ifs.length ≤ 1 := by
          match ifs, e4 with
          | [], _ => exact Nat.zero_le _
          | [_], _ => exact Nat.le_refl _
          | _ :: _ :: _, e4 => cases e4
        refine .of_ow (ev_lc g hb hpl hif hi (fun s H C cl fp => (pg_of N k (gb s H C cl fp) n).1 tg t e2) ok5 ok6 (fun x hx o ho => ?_) d2)
        obtain ⟨ρ', r1, ho⟩ := Option.bind_eq_some_iff.mp ho
        obtain ⟨j, r2, ho⟩ := Option.bind_eq_some_iff.mp ho
        refine ⟨ρ', j, r1, fun z => ?_, fun s H C cl fp => ?_, fun z => ?_, fun z => ?_⟩
        · subst z
          simp only [Option.some.injEq] at e4
          subst e4
          simp only [evT, Option.some.injEq] at r2
          exact r2.symm
        · match ifs, e4 with
          | [], e4 =>
            simp only [Option.some.injEq] at e4
            subst e4
            simp only [evT, Option.some.injEq] at r2
            exact r2.symm
          | [c], e4 => exact ((hE scope c h4 e4).2 _ (gb s H C cl fp) (hyb s H C cl fp) Γ ρ' ok4).2 j r2
          | _ :: _ :: _, e4 => cases e4
        · subst z; simpa [eq_comm] using ho
        · subst z
          obtain ⟨y, r3, rfl⟩ := Option.map_eq_some_iff.mp (show (evE Φ h3 ρ').map some = some o by simpa using ho)
          exact ⟨y, rfl, fun s H C cl fp => ((s3 _ (gb s H C cl fp) (hyb s H C cl fp) Γ ρ' ok2).1 y r3).2.1 ok3⟩
      · cases h
    | [⟨tg, iter, ifs, ia⟩, ⟨tg1, iter1, ifs1, ia1⟩], h =>
      simp only [cE] at h
      split at h
      · rename_i hc
        simp only [Bool.and_eq_true, decide_eq_true_eq] at hc
        obtain ⟨⟨⟨⟨rfl, rfl⟩, hbb⟩, hq⟩, hq1⟩ := hc
        obtain ⟨h1, e1, h⟩ := Option.bind_eq_some_iff.mp h
        obtain ⟨t, e2, h⟩ := Option.bind_eq_some_iff.mp h
        obtain ⟨h3, e3, h⟩ := Option.bind_eq_some_iff.mp h
        obtain ⟨t1, e4, h⟩ := Option.bind_eq_some_iff.mp h
        obtain ⟨he, e5, h⟩ := Option.bind_eq_some_iff.mp h
        obtain ⟨hc, e6, h⟩ := Option.bind_eq_some_iff.mp h
        obtain ⟨hc1, e7, rfl⟩ := Option.map_eq_some_iff.mp h
        refine ⟨rfl, fun X g hy Γ ρ ok => ⟨fun d hd => ?_, fun j hj => by simp [evT] at hj⟩⟩
        simp only [okE, Bool.and_eq_true, List.all_eq_true, List.contains_iff_mem] at ok
        obtain ⟨⟨⟨⟨⟨⟨⟨⟨⟨⟨⟨ok1, ok2⟩, ok3⟩, ok4⟩, ok5⟩, ok6⟩, ok7⟩, ok8⟩, ok9⟩, oka⟩, okb⟩, okc⟩ := ok
        obtain ⟨w, hev, hi⟩ := two_of N fs Φ k hE hI hbb hq hq1 e1 e2 e3 e4 e5 e6 e7 g hy (ρ := ρ) ok1 ok2 ok3 ok4 ok5 ok6 ok7 ok8 ok9 oka okb okc
        simp only [evE] at hd
        obtain ⟨l, d1, hd⟩ := Option.bind_eq_some_iff.mp hd
        obtain ⟨r, d2, rfl⟩ := Option.map_eq_some_iff.mp hd
        exact .of_ow (ev_L2 w hev (hi l d1) d2)
      · cases h
    | [], h => simp [cE] at h
    | _ :: _ :: _ :: _, h => simp [cE] at h
  | DictComp kx elt gs scope pos =>
    match gs, h with
    | [⟨tg, iter, ifs, ia⟩], h =>
      simp only [cE] at h
      split at h
      · rename_i hc
        simp only [Bool.and_eq_true, decide_eq_true_eq] at hc
        obtain ⟨⟨rfl, hb⟩, hpl⟩ := hc
        obtain ⟨h1, e1, h⟩ := Option.bind_eq_some_iff.mp h
        obtain ⟨t, e2, h⟩ := Option.bind_eq_some_iff.mp h
        obtain ⟨hk, ek, h⟩ := Option.bind_eq_some_iff.mp h
        obtain ⟨h3, e3, h⟩ := Option.bind_eq_some_iff.mp h
        obtain ⟨h4, e4, h⟩ := Option.map_eq_some_iff.mp h
        by_cases hq : (fnIx "{}" fs 0).isSome = true
        · rw [if_pos hq] at h
          subst h
          exact dcT_sndE N fs Φ k hE hI hb hpl e1 e2 ek e3 e4
        rw [if_neg hq] at h
        subst h
        obtain ⟨_, s3⟩ := hE scope elt h3 e3
        obtain ⟨_, sk⟩ := hE scope kx hk ek
        refine ⟨rfl, fun X g hy Γ ρ ok => ⟨fun d hd => ?_, fun j hj => by simp [evT] at hj⟩⟩
        simp only [okE, Bool.and_eq_true, List.all_eq_true, List.contains_iff_mem] at ok
        obtain ⟨⟨⟨⟨⟨⟨⟨ok1, okk⟩, okk2⟩, ok2⟩, ok3⟩, ok4⟩, ok5⟩, ok6⟩ := ok
        simp only [evE] at hd
        obtain ⟨l, d1, hd⟩ := Option.bind_eq_some_iff.mp hd
        obtain ⟨⟨rk, rv⟩, d2, rfl⟩ := Option.map_eq_some_iff.mp hd
        have hi := hI sc (isTup tg) iter h1 e1 X g hy Γ ρ ok1 l d1 false tg isTup_eq (fun z => by cases z)
        have gb : ∀ (s : Shared) (H : Hp) (C : Addr) (cl : List (Str × Addr)) (fp : List Addr), Good (X.blk s H scope (compEnvC scope cl C X.env) fp) N scope k := fun s H C cl fp => g.blk hb s H C cl fp
        have hyb : ∀ (s : Shared) (H : Hp) (C : Addr) (cl : List (Str × Addr)) (fp : List Addr), Hyp (X.blk s H scope (compEnvC scope cl C X.env) fp) fs Φ k := fun s H C cl fp => hy.blk s H scope _ fp
        have hif : ifs.length ≤ 1 := by
          match ifs, e4 with
          | [], _ => exact Nat.zero_le _
          | [_], _ => exact Nat.le_refl _
          | _ :: _ :: _, e4 => cases e4
        refine .of_ow (ev_dc g hb hpl hif hi (fun s H C cl fp => (pg_of N k (gb s H C cl fp) n).1 tg t e2) ok5 ok6 (fun x hx o ho => ?_) d2)
        obtain ⟨ρ', r1, ho⟩ := Option.bind_eq_some_iff.mp ho
        obtain ⟨j, r2, ho⟩ := Option.bind_eq_some_iff.mp ho
        refine ⟨ρ', j, r1, fun z => ?_, fun s H C cl fp => ?_, fun z => ?_, fun z => ?_⟩
        · subst z
          simp only [Option.some.injEq] at e4
          subst e4
          simp only [evT, Option.some.injEq] at r2
          exact r2.symm
        · match ifs, e4 with
          | [], e4 =>
            simp only [Option.some.injEq] at e4
            subst e4
            simp only [evT, Option.some.injEq] at r2
            exact r2.symm
          | [c], e4 => exact ((hE scope c h4 e4).2 _ (gb s H C cl fp) (hyb s H C cl fp) Γ ρ' ok4).2 j r2
          | _ :: _ :: _, e4 => cases e4
        · subst z; simpa [eq_comm] using ho
        · subst z
          have ho : (evE Φ hk ρ').bind (fun kd => (keyD kd).bind fun key => (evE Φ h3 ρ').map fun y => some (key, y)) = some o := by simpa using ho
          obtain ⟨kd, r3, ho⟩ := Option.bind_eq_some_iff.mp ho
          obtain ⟨key, r4, ho⟩ := Option.bind_eq_some_iff.mp ho
          obtain ⟨y, r5, rfl⟩ := Option.map_eq_some_iff.mp ho
          exact ⟨key, y, kd, rfl, r4, fun s H C cl fp => ((sk _ (gb s H C cl fp) (hyb s H C cl fp) Γ ρ' okk).1 kd r3).2.1 okk2, fun s H C cl fp => ((s3 _ (gb s H C cl fp) (hyb s H C cl fp) Γ ρ' ok2).1 y r5).2.1 ok3⟩
      · cases h
    | [], h => simp [cE] at h
    | _ :: _ :: _, h => simp [cE] at h
  | Call f es kw pos =>
    simp only [cE] at h
    split at h
    · rename_i hkw
      have hkw : kw = [] := by simpa using hkw
      subst hkw
      split at h
      · rename_i g' p
        split at h
        · rename_i hc
          simp only [Bool.and_eq_true] at hc
          exact ⟨rfl, fun X g hy Γ ρ ok => hN sc g' es ir h hc.1.1 hc.1.2 hc.2 p pos X g hy Γ ρ ok⟩
        · cases h
      · rename_i o m apos
        split at h
        · rename_i hc
          simp only [Bool.and_eq_true] at hc
          exact ⟨rfl, fun X g hy Γ ρ ok => hM sc o m es ir h hc.1.1 hc.1.2 apos pos hc.2 X g hy Γ ρ ok⟩
        · cases h
      · cases h
    · cases h
  | _ => simp [cE] at h
theorem snd_all : ∀ n, SE N fs Φ k n ∧ SA N fs Φ k n ∧ SO N fs Φ k n ∧ SI N fs Φ k n ∧ SN N fs Φ k n ∧ SM N fs Φ k n
  | 0 => by
    refine ⟨fun sc e ir h => by simp [cE] at h, fun sc es ir h => ?_, fun sc o ir h => ?_, fun sc tp e ir h => by simp [cI] at h, fun sc g es ir h => by simp [cName] at h, fun sc o m es ir h => by simp [cMeth] at h⟩
    · cases es with
      | nil =>
        simp only [cA, Option.some.injEq] at h
        subst h
        refine fun X g hy Γ ρ _ ds hd => ?_
        simp only [evA, Option.some.injEq] at hd
        subst hd
        refine ⟨fun ms hm => ?_, fun _ => ea_nil, fun _ => rfl⟩
        cases ms with
        | nil => exact ea_nil
        | cons m ms => cases m <;> simp [okArgs] at hm
      | cons _ _ => simp [cA] at h
    · cases o with
      | none =>
        simp only [cO, Option.some.injEq] at h
        subst h
        intro X g hy Γ ρ _ r hr
        simp only [evO, Option.some.injEq] at hr
        subst hr; rfl
      | some e => simp [cO] at h
  | n + 1 => by
    obtain ⟨hE, hA, hO, hI, hN, hM⟩ := snd_all n
    exact ⟨se_succ N fs Φ k hE hA hO hI hN hM, sa_succ N fs Φ k hE hA, so_succ N fs Φ k hE, si_succ N fs Φ k hE, sn_succ N fs Φ k hE hA hI, sm_succ N fs Φ k hE⟩
end DL

set_option Elab.async false
set_option linter.all false
set_option maxRecDepth 100000
set_option maxHeartbeats 4000000
/-! d.setdefault(k, x), keys tuples. -/
namespace DL
open PySem PySem.Spec L2
variable [TbC]
def tDSetT (td ty tx : TE) : TE := fun σ H Q => td σ H fun x H1 => ∃ a, x = .ref a ∧ IsD H1 a ∧ ty σ H1 fun y H2 => tx σ H2 fun z H3 => ∃ (kvs : List (List Key × V)) (k : List Key) (b : Addr), H3 a = some (.dT kvs) ∧ y = .ref b ∧ H3 b = some (.tup (k.map kV)) ∧ kvs.length < sizeLine ∧
  (∀ v, valV kvs k = some v → Q v H3) ∧ (valV kvs k = none → Q z (upd H3 a (.dT (putK kvs k z))))
section
variable {X : Cx} {o e f : Expr} {td ty tx : TE} {apos cpos : Pos}
theorem pe_dsetT (hu : X.A.units + 1 < cLine) (ho : PE X o td) (he : PE X e ty) (hf : PE X f tx) (m : M2 X o "setdefault" apos e f cpos) : PE X (.Call (.Attribute o "setdefault" apos) [e, f] [] cpos) (tDSetT td ty tx) := by
  refine ⟨fun pins s σ H Q I h => ?_⟩
  refine wpAny_Call_method m.base m.few m.line PySem.F.plainAttrs_dict PySem.F.slot_dict_setdefault PySem.F.type_dict_setdefault (thn (ho.run pins s σ H _ I h) fun u s1 ⟨x, H1, I1, rx, a, ex, d, q1⟩ => ?_)
  subst ex
  obtain rfl : u = Value.ref a := rx
  obtain ⟨t1, t2, _⟩ := isD_at I1 d
  refine ⟨t1, t2, ?_⟩
  rw [m.trees]
  refine Calls.callWith_builtin rfl (Calls.evalArgs_plain (Calls.spliced_cons (thn (he.run pins s1 σ H1 _ I1 q1) fun iv s2 ⟨y, H2, I2, ry, q2⟩ =>
    Calls.spliced_cons (thn (hf.run pins s2 σ H2 _ I2 q2) fun fv s3 ⟨z, H3, I3, rz, kvs, k, b, ea, ey, eb, hl, q3, q4⟩ => Calls.spliced_nil ?_))))
  subst ey
  cases (show iv = Value.ref b from ry)
  obtain ⟨z0, hd, xs, rel, dd⟩ := dt_of I3.hok ea
  refine call_setdefault_heap (tupleKind_room_in1 hu) (key_of I3.hok eb) hd dd (fun p hp => ?_) (fun hn h' dd' hs => ?_) (by rw [← Paired.length rel]; exact z0)
  · have q := rel.val k
    rw [hp] at q
    cases hv : valV kvs k with
    | none => rw [hv] at q; exact q.elim
    | some v =>
      rw [hv] at q
      exact ⟨v, H3, I3.tok _, q, q3 v hv⟩
  · have q := rel.val k
    rw [hn] at q
    have hv : valV kvs k = none := by
      cases hv : valV kvs k with
      | none => rfl
      | some v => rw [hv] at q; exact q.elim
    have hl2 : (putK kvs k z).length ≤ sizeLine := by have := length_putK kvs k z; omega
    obtain ⟨qo, es, ep, hq, h2, h3, h4, _, h5⟩ := dd'
    refine ⟨z, _, d_write (ob := .dT (putK kvs k z)) I3 (by rw [ea]; exact True.intro) hs ⟨qo, hq⟩ ⟨hl2, hd, _, (rel.put k eb rz).keeps fun c ys ec => ?_, qo, es, ep, hq, h2, h3, h4, h5⟩, rz, q4 hv⟩
    rw [upd_ne (ne_of ec ea (fun z => nomatch z))]
    exact ec
end
end DL

set_option Elab.async false
set_option linter.all false
set_option maxRecDepth 100000
set_option maxHeartbeats 4000000
/-! Lists within what is one's own. -/
namespace DL
open PySem PySem.Spec L2
variable [TbC]
section
variable {K : PySem.W.Frag} {Γ : MEnv} {lv : Nat → Option (V × Bool × Hp)} {B0 H0 B H B' H' : Hp} {σ : L2.St} {ρ : DEnv}
/-- it changes: nothing but it and the lists in it, old ones and new -/
theorem Stt.mutOd {i : Nat} {p : Addr} {fp fp2 : List Addr} {d d' : D} {H2 : Hp} (S : Stt K Γ lv B0 H0 B H σ ρ) (hm : Γ[i]? = some Md.od) (hi : ρ[i]? = some (some d)) (hp : σ[i]? = some (some (V.ref p)))
    (hb : ∀ a ∈ p :: fp, H0 a = none ∧ B a = none) (hf : ∀ (j : Nat) (e : D) (q : Addr), Γ[j]? = some Md.ow → ρ[j]? = some (some e) → σ[j]? = some (some (V.ref q)) → q ∉ p :: fp)
    (h1 : ∀ a, a ∉ p :: fp2 → H2 a = H a) (h2 : ∀ a ∈ fp2, a ∈ fp ∨ H a = none) (n : OwnD K B H2 p fp2 d') : Stt K Γ lv B0 H0 B H2 σ (ρ.set i (some d')) := by
  have il : i < ρ.length := (List.getElem?_eq_some_iff.mp hi).1
  have hb2 : ∀ a ∈ p :: fp2, H0 a = none ∧ B a = none := fun a ha => by
    rcases List.mem_cons.mp ha with rfl | ha
    · exact hb a (by simp)
    · rcases h2 a ha with q | q
      · exact hb a (by simp [q])
      · exact ⟨S.ext.hh.back q, S.ext.bh.back q⟩
  have hf2 : ∀ (j : Nat) (e : D) (q : Addr), Γ[j]? = some Md.ow → ρ[j]? = some (some e) → σ[j]? = some (some (V.ref q)) → q ∉ p :: fp2 := fun j e q g1 g2 g3 hq => by
    have hn := hf j e q g1 g2 g3
    obtain ⟨q', a, _, _, o⟩ := S.ow j e g1 g2
    rw [g3] at a; cases a
    rcases List.mem_cons.mp hq with rfl | hq
    · exact hn (by simp)
    · rcases h2 q hq with z | z
      · exact hn (by simp [z])
      · exact o.there z
  have f : ∀ (c : Nat) (e : D), i ≠ c → (ρ.set i (some d'))[c]? = some (some e) → ρ[c]? = some (some e) := fun c e hc h => by
    rw [List.getElem?_set_ne hc] at h; exact h
  have ne : ∀ {m : Md} {j : Nat}, Γ[j]? = some m → m ≠ .od → i ≠ j := fun h hm' z => by subst z; rw [hm] at h; cases h; exact hm' rfl
  refine ⟨⟨fun a u ha => ?_, S.ext.bb, fun a u ha => ?_, S.ext.sep⟩, S.lvx, by rw [List.length_set]; exact S.len, by rw [List.length_set]; exact S.mlen, fun j e g1 g2 => ?_, fun j e g1 g2 => ?_, fun j e g1 g2 => ?_, fun a b q d1 d2 hab g1 g2 g3 g4 g5 => ?_, fun j e g1 g2 => ?_, S.one, S.tabs⟩
  · rw [h1 a fun z => by rw [(hb2 a z).1] at ha; cases ha]; exact S.ext.hh _ _ ha
  · rw [h1 a fun z => by rw [(hb2 a z).2] at ha; cases ha]; exact S.ext.bh _ _ ha
  · exact S.sh j e g1 (f j e (ne g1 (by simp)) g2)
  · have g2' := f j e (ne g1 (by simp)) g2
    obtain ⟨q, a, b, c, o⟩ := S.ow j e g1 g2'
    exact ⟨q, a, b, c, o.keep (.refl _) (h1 q (hf2 j e q g1 g2' a))⟩
  · exact S.bo j e g1 (f j e (ne g1 (by simp)) g2)
  · exact S.apart a b q d1 d2 hab g1 g2 (f a d1 (ne g1 (by simp)) g3) (f b d2 (ne g2 (by simp)) g4) g5
  · have hij := S.one i j hm g1
    subst hij
    rw [List.getElem?_set_self il] at g2
    cases g2
    exact ⟨p, fp2, hp, hb2, n, fun j e q k1 k2 k3 => hf2 j e q k1 (f j e (ne k1 (by simp)) k2) k3⟩
/-- it is new -/
theorem Stt.setOd {i : Nat} {p : Addr} {fp : List Addr} {d : D} (S : Stt K Γ lv B0 H0 B H σ ρ) (x : Ext B H B' H') (hm : Γ[i]? = some Md.od) (hp : ∀ a ∈ p :: fp, H a = none ∧ B' a = none) (n : OwnD K B' H' p fp d) :
    Stt K Γ lv B0 H0 B' H' (σ.set i (some (.ref p))) (ρ.set i (some d)) := by
  have S' := S.grow x
  have il : i < ρ.length := by rw [← S.mlen]; exact (List.getElem?_eq_some_iff.mp hm).1
  have ne : ∀ {m : Md} {j : Nat}, Γ[j]? = some m → m ≠ .od → i ≠ j := fun h hm' z => by subst z; rw [hm] at h; cases h; exact hm' rfl
  refine ⟨S'.ext, S'.lvx, by rw [List.length_set, List.length_set]; exact S.len, by rw [List.length_set]; exact S.mlen, fun j e g1 g2 => ?_, fun j e g1 g2 => ?_, fun j e g1 g2 => ?_, fun a b q d1 d2 hab g1 g2 g3 g4 g5 => ?_, fun j e g1 g2 => ?_, S.one, S.tabs⟩
  · have q := ne g1 (by simp)
    rw [List.getElem?_set_ne q] at g2 ⊢; exact S'.sh j e g1 g2
  · have q := ne g1 (by simp)
    rw [List.getElem?_set_ne q] at g2 ⊢; exact S'.ow j e g1 g2
  · have q := ne g1 (by simp)
    rw [List.getElem?_set_ne q] at g2 ⊢; exact S'.bo j e g1 g2
  · have q1 := ne g1 (by simp)
    have q2 := ne g2 (by simp)
    rw [List.getElem?_set_ne q1] at g3 g5
    rw [List.getElem?_set_ne q2] at g4 ⊢
    exact S.apart a b q d1 d2 hab g1 g2 g3 g4 g5
  · have hij := S.one i j hm g1
    subst hij
    rw [List.getElem?_set_self il] at g2
    cases g2
    refine ⟨p, fp, List.getElem?_set_self (by rw [S.len]; exact il), fun a ha => ⟨S.ext.hh.back (hp a ha).1, (hp a ha).2⟩, n, fun j e q k1 k2 k3 hq => ?_⟩
    have hne := ne k1 (by simp)
    rw [List.getElem?_set_ne hne] at k2 k3
    obtain ⟨q', a, _, _, o⟩ := S.ow j e k1 k2
    rw [k3] at a; cases a
    exact o.there (hp q hq).1
end
/-! ### the lists in it, one by one -/
section
variable {K : PySem.W.Frag} {B H : Hp}
theorem Inn.len : ∀ {qs : List Addr} {ls : List (List D)}, Inn K B H qs ls → qs.length = ls.length
  | _, _, .nil => rfl
  | _, _, .cons _ _ _ t => by rw [List.length_cons, List.length_cons, t.len]
theorem Inn.get : ∀ {qs : List Addr} {ls : List (List D)} {i : Nat} {l : List D}, Inn K B H qs ls → ls[i]? = some l → ∃ q vs, qs[i]? = some q ∧ H q = some (.lst vs) ∧ Reps K B vs l
  | _, _, _, _, .nil, h => by simp at h
  | _, _, 0, _, .cons h1 r _ _, h => by simp at h; subst h; exact ⟨_, _, rfl, h1, r⟩
  | _, _, i + 1, _, .cons _ _ _ t, h => by
    obtain ⟨q, vs, a, b, c⟩ := t.get (i := i) (by simpa using h)
    exact ⟨q, vs, by simpa using a, b, c⟩
theorem Inn.nodup : ∀ {qs : List Addr} {ls : List (List D)}, Inn K B H qs ls → qs.Nodup
  | _, _, .nil => .nil
  | _, _, .cons _ _ n t => List.nodup_cons.mpr ⟨n, t.nodup⟩
/-- one of them changes -/
theorem Inn.put {q : Addr} {ws : List V} {m : List D} (r : Reps K B ws m) : ∀ {qs : List Addr} {ls : List (List D)} {i : Nat}, Inn K B H qs ls → qs[i]? = some q → Inn K B (upd H q (.lst ws)) qs (ls.set i m)
  | _, _, _, .nil, h => by simp at h
  | p :: qs, _, 0, .cons h1 _ n t, h => by
    simp at h; subst h
    refine .cons upd_same r n (t.at (.refl _) fun a ha o e => ?_)
    have hne : a ≠ p := fun z => n (by rw [← z]; exact ha)
    exact (upd_ne hne).trans e
  | _, _, i + 1, .cons h1 r1 n t, h => by
    rw [List.getElem?_cons_succ] at h
    have hq := List.mem_of_getElem? h
    refine .cons ?_ r1 n (t.put r h)
    exact (upd_ne fun z => n (by rw [z]; exact hq)).trans h1
/-- one more -/
theorem Inn.snoc {q : Addr} {ws : List V} {m : List D} (hq : H q = some (.lst ws)) (r : Reps K B ws m) : ∀ {qs : List Addr} {ls : List (List D)}, Inn K B H qs ls → q ∉ qs → Inn K B H (qs ++ [q]) (ls ++ [m])
  | _, _, .nil, _ => .cons hq r (by simp) .nil
  | _, _, .cons h1 r1 n t, hn => .cons h1 r1 (fun z => (List.mem_append.mp z).elim n fun z => hn (by rw [List.mem_singleton.mp z]; simp)) (t.snoc hq r fun z => hn (by simp [z]))
end
/-! ### by key -/
theorem idx_val {κ : Type} [DecidableEq κ] {k : κ} : ∀ {kvs : List (κ × V)}, valV kvs k = match idxK k (kvs.map (·.1)) with | none => none | some j => (kvs.map (·.2))[j]?
  | [] => rfl
  | (k', v) :: r => by
    by_cases q : k' = k
    · rw [valV_pos q]; simp [idxK, q]
    · rw [valV_neg q, idx_val]
      simp only [List.map_cons, idxK, if_neg q]
      cases idxK k (r.map (·.1)) <;> simp
theorem idx_put {κ : Type} [DecidableEq κ] {k : κ} {v : V} {kvs : List (κ × V)} (h : idxK k (kvs.map (·.1)) = none) : putK kvs k v = kvs ++ [(k, v)] := by
  have key : ∀ kvs : List (κ × V), idxK k (kvs.map (·.1)) = none → ¬ (kvs.any fun kv => decide (kv.1 = k)) = true := by
    intro kvs
    induction kvs with
    | nil => intro _; simp
    | cons p r ih =>
      intro h
      simp only [List.map_cons, idxK] at h
      split at h
      · cases h
      · rename_i q
        have := ih (Option.map_eq_none_iff.mp h)
        simp only [List.any_cons, decide_eq_false q, Bool.false_or]
        exact this
  unfold putK
  rw [if_neg (key kvs h)]
section
variable {X : Cx} {N : List Str} {sc : Scope} {k : Nat} {e kx : Expr} {Γ : MEnv} {ρ : DEnv} {d y : D} {pos apos apos2 p pl cpos cpos2 : Pos} {i : Nat} {nm : Str}
/-- x = {}, x one's own with lists in it; keys tuples -/
theorem so_newDT (g : Good X N sc k) (hi : N[i]? = some nm) (hv : stS sc nm = true) (hm : Γ[i]? = some Md.od) : StO X (.Assign [.Name nm p] (.Dict [] [] pl) pos) Γ ρ (.nx (ρ.set i (some (.dit [] [])))) := fun lv B0 H0 B H σ S D q => by
  obtain ⟨h1, h2⟩ := g.st nm hv
  refine of_ps (ps_set (by rw [g.hN]; exact g.nd) (by rw [g.hN]; exact hi) h1 pe_dnewT (by rfl) h2) ?_
  intro ad had
  exact q _ B _ (S.setOd (.own S.ext.bh had) hm (fp := []) (fun a ha => by rw [List.mem_singleton.mp ha]; exact ⟨had, S.ext.bh.back had⟩) (.dit (kvs := []) (ls := []) upd_same rfl (fun x hx => by cases hx) rfl (by simp) .nil))
theorem so_newDK (g : Good X N sc k) (hi : N[i]? = some nm) (hv : stS sc nm = true) (hm : Γ[i]? = some Md.od) : StO X (.Assign [.Name nm p] (.Dict [] [] pl) pos) Γ ρ (.nx (ρ.set i (some (.dic [] [])))) := fun lv B0 H0 B H σ S D q => by
  obtain ⟨h1, h2⟩ := g.st nm hv
  refine of_ps (ps_set (by rw [g.hN]; exact g.nd) (by rw [g.hN]; exact hi) h1 pe_dnewK (by rfl) h2) ?_
  intro ad had
  exact q _ B _ (S.setOd (.own S.ext.bh had) hm (fp := []) (fun a ha => by rw [List.mem_singleton.mp ha]; exact ⟨had, S.ext.bh.back had⟩) (.dic (kvs := []) (ls := []) upd_same rfl (fun x hx => by cases hx) rfl (by simp) .nil))
/-- a list within it gets one more -/
theorem app_in {lv : Nat → Option (V × Bool × Hp)} {B0 H0 B H : Hp} {σ : L2.St} {P : Addr} {fp : List Addr} {dd : Hp → D → Prop} {d0 d1 : D} {q : Addr} {vs : List V} {v : V}
    (S : Stt X.K Γ lv B0 H0 B H σ ρ) (hm : Γ[i]? = some Md.od) (hr : ρ[i]? = some (some d0)) (hp : σ[i]? = some (some (V.ref P))) (hb : ∀ a ∈ P :: fp, H0 a = none ∧ B a = none)
    (hf : ∀ (j : Nat) (e : D) (q : Addr), Γ[j]? = some Md.ow → ρ[j]? = some (some e) → σ[j]? = some (some (V.ref q)) → q ∉ P :: fp) (hq : q ∈ fp) (n : OwnD X.K B (upd H q (.lst (vs ++ [v]))) P fp d1) :
    Stt X.K Γ lv B0 H0 B (upd H q (.lst (vs ++ [v]))) σ (ρ.set i (some d1)) :=
  S.mutOd hm hr hp hb hf (fun a ha => upd_ne fun z => ha (by rw [z]; exact List.mem_cons_of_mem _ hq)) (fun a ha => .inl ha) n
theorem setM {l : List (List D)} {j : Nat} {m : List D} : (l.map D.lst).set j (.lst m) = (l.set j m).map D.lst := by rw [List.map_set]
theorem atM {l : List (List D)} {j : Nat} {d : D} (h : (l.map D.lst)[j]? = some d) : ∃ m, d = .lst m ∧ l[j]? = some m := by
  rw [List.getElem?_map] at h
  obtain ⟨m, h1, h2⟩ := Option.map_eq_some_iff.mp h
  exact ⟨m, h2.symm, h1⟩
/-- the end of x.setdefault(k, []).append(e), from where the list is told -/
theorem sdef_fin {lv : Nat → Option (V × Bool × Hp)} {B0 H0 B4 H4 : Hp} {σ : L2.St} {P q : Addr} {fp : List Addr} {ks : List (List Key)} {ds ds2 : List D} {j : Nat} {kvs : List (List Key × V)} {ls : List (List D)} {Q : L2.St → Hp → Prop}
    (S : Stt X.K Γ lv B0 H0 B4 H4 σ ρ) (hm : Γ[i]? = some Md.od) (hr : ρ[i]? = some (some (.dit ks ds))) (hp : σ[i]? = some (some (V.ref P))) (hb : ∀ a ∈ P :: fp, H0 a = none ∧ B4 a = none)
    (hf : ∀ (j : Nat) (e : D) (q : Addr), Γ[j]? = some Md.ow → ρ[j]? = some (some e) → σ[j]? = some (some (V.ref q)) → q ∉ P :: fp)
    (h1 : H4 P = some (.dT kvs)) (h2 : kvs.map (·.1) = ks) (h3 : KsOkT ks) (h4 : kvs.map (·.2) = fp.map V.ref) (h5 : P ∉ fp) (hi : Inn X.K B4 H4 fp ls) (hd : ds = ls.map .lst) (hq : fp[j]? = some q) (hs : sdefQ j d ds = some ds2)
    (he : EvM .sh X e Γ ρ d) (q0 : ∀ σ' B H, Stt X.K Γ lv B0 H0 B H σ' (ρ.set i (some (.dit ks ds2))) → Q σ' H) :
    (∃ vs0, SqL X.K H4 q vs0) ∧ tOf X e σ H4 fun v H => rAppend (.ref q) [v] H fun _ H' => Q σ H' := by
  subst hd
  have hjl : j < ls.length := by rw [← hi.len]; exact (List.getElem?_eq_some_iff.mp hq).1
  have hlj : ls[j]? = some ls[j] := List.getElem?_eq_getElem hjl
  obtain ⟨q', vs, e1, e2, _⟩ := hi.get hlj
  rw [hq] at e1; cases e1
  refine ⟨⟨vs, SqL.of e2⟩, ?_⟩
  refine he lv B0 H0 B4 H4 σ S _ fun v B5 H5 x5 r5 => ?_
  have S5 := S.grow x5
  have o4 : OwnD X.K B4 H4 P fp (.dit ks (ls.map .lst)) := .dit h1 h2 h3 h4 h5 hi
  have hi5 : Inn X.K B5 H5 fp ls := hi.at x5.bb fun a _ u z => x5.hh _ _ z
  obtain ⟨q', vs, e1, e2, r2⟩ := hi5.get hlj
  rw [hq] at e1; cases e1
  have hqf : q ∈ fp := List.mem_of_getElem? hq
  have hPq : P ≠ q := fun z => h5 (by rw [z]; exact hqf)
  unfold sdefQ at hs
  rw [List.getElem?_map, hlj] at hs
  simp only [Option.map_some] at hs
  split at hs
  · rename_i hz
    cases hs
    refine ⟨q, vs, v, rfl, rfl, e2, by rw [r2.length]; exact lim_lt hz, q0 σ B5 _ ?_⟩
    refine S5.mutOd hm hr hp (fun a ha => ⟨(hb a ha).1, x5.sep a (o4.there a ha).1 (o4.there a ha).2 (hb a ha).2⟩) hf (fp2 := fp) (fun a ha => upd_ne fun z => ha (by rw [z]; exact List.mem_cons_of_mem _ hqf)) (fun a ha => .inl ha) ?_
    rw [setM]
    exact .dit (by rw [upd_ne hPq]; exact x5.hh _ _ h1) h2 h3 h4 h5 (hi5.put (r2.append (.cons r5 .nil)) hq)
  · cases hs
theorem idx_lt {κ : Type} [DecidableEq κ] {k : κ} : ∀ {ks : List κ} {j : Nat}, idxK k ks = some j → j < ks.length
  | [], _, h => by simp [idxK] at h
  | k' :: ks, j, h => by
    simp only [idxK] at h
    split at h
    · cases h; simp
    · obtain ⟨j', h1, rfl⟩ := Option.map_eq_some_iff.mp h
      have := idx_lt h1
      simp; omega
theorem m2m {o e f : Expr} {m : Str} (hb : plainB o = true) (h1 : plainE e = true) (h2 : plainE f = true) (hl : (apos.endLine == cpos.line) = true) : M2 X o m apos e f cpos := by
  have st : starEach [e, f] X.env = [(false, eval e X.env), (false, eval f X.env)] := by rw [star1 h1, star1 h2]; rfl
  exact ⟨plainBase hb, by rw [st]; rfl, hl, by rw [st]; rfl⟩
/-- x.setdefault(k, []).append(e), keys tuples -/
theorem so_sdefT {ks : List (List Key)} {ds ds2 : List D} {key : List Key} {r : Nat × List (List Key) × List D} (g : Good X N sc k) (hi : N[i]? = some nm) (hv : visS sc nm = true) (hd : (nm == ("__debug__" : Str)) = false) (hcd : (nm == ("__classdict__" : Str)) = false)
    (hl : (apos.endLine == cpos.line) = true) (hl2 : (apos2.endLine == cpos2.line) = true) (hm : Γ[i]? = some Md.od) (hr : ρ[i]? = some (some (.dit ks ds))) (hpk : plainE kx = true) (hpe : plainE e = true) (hk : keyT y = some key) (hs : sdefP key ks ds = some r)
    (hky : EvM .bo X kx Γ ρ y) (he : EvM .sh X e Γ (ρ.set i (some (.dit r.2.1 r.2.2))) d) (hq : sdefQ r.1 d r.2.2 = some ds2) :
    StO X (.Expr (.Call (.Attribute (.Call (.Attribute (.Name nm p) "setdefault" apos) [kx, .List [] pl] [] cpos) "append" apos2) [e] [] cpos2) pos) Γ ρ (.nx (ρ.set i (some (.dit r.2.1 ds2)))) := fun lv B0 H0 B H σ S D q0 => by
  refine of_ps (ps_expr (pe_bm PySem.F.plainAttrs_list PySem.F.slot_list_append PySem.F.type_list_append mt_append (pe_dsetT (by have := g.hu; omega) (pe_var (by rw [g.hN]; exact hi) (g.vis nm hv) hd hcd) pe_of (pe_lst pa_nil) (m2m rfl hpk rfl hl)) (pa_cons pe_of pa_nil (star1 hpe)) (by rfl) (by rw [star1 hpe]; rfl) hl2 (star1 hpe)) (by rfl)) ?_
  obtain ⟨P, fp, ha, hb, o, hf⟩ := S.od i _ hm hr
  have key1 : ∃ (kvs : List (List Key × V)) (ls : List (List DL.D)), H P = some (.dT kvs) ∧ kvs.map (·.1) = ks ∧ KsOkT ks ∧ kvs.map (·.2) = fp.map V.ref ∧ P ∉ fp ∧ Inn X.K B H fp ls ∧ ds = ls.map .lst := by
    cases o with | dit h1 h2 h3 h4 h5 h6 => exact ⟨_, _, h1, h2, h3, h4, h5, h6, rfl⟩
  obtain ⟨kvs, ls, h1, h2, h3, h4, h5, h6, rfl⟩ := key1
  refine ⟨.ref P, ha, P, rfl, .inr ⟨kvs, .inl h1⟩, ?_⟩
  refine hky lv B0 H0 B H σ S _ fun v1 B1 H1 x1 r1 => ?_
  obtain ⟨bb, rfl, hbb, hko⟩ := keyT_V x1.bh hk r1
  refine ⟨Nat.zero_le _, fun qn hqn => ?_⟩
  have x2 : Ext B1 H1 B1 (upd H1 qn (.lst [])) := .own x1.bh hqn
  have x12 := x1.trans x2
  have S3 := S.grow x12
  have hP3 := x12.hh _ _ h1
  have oo : OwnD X.K B H P fp (.dit ks (ls.map .lst)) := .dit h1 h2 h3 h4 h5 h6
  have hb3 : ∀ a ∈ P :: fp, H0 a = none ∧ B1 a = none := fun a ha => ⟨(hb a ha).1, x12.sep a (oo.there a ha).1 (oo.there a ha).2 (hb a ha).2⟩
  have h63 : Inn X.K B1 (upd H1 qn (.lst [])) fp ls := h6.at x12.bb fun a _ u z => x12.hh _ _ z
  have hqnP : qn ≠ P := fun z => by rw [z, x1.hh _ _ h1] at hqn; cases hqn
  have hqnf : qn ∉ fp := fun z => by
    obtain ⟨vs, e⟩ := h6.there qn z
    rw [x1.hh _ _ e] at hqn; cases hqn
  have hlen : kvs.length = ks.length := by rw [← h2, List.length_map]
  have hll : kvs.length = ls.length := by
    have h7 := congrArg List.length h4
    rw [List.length_map, List.length_map] at h7
    rw [h7, h6.len]
  have hval := idx_val (k := key) (kvs := kvs)
  rw [h2, h4] at hval
  have hset : ∀ z : DL.D, (ρ.set i (some z)).length = ρ.length := fun z => List.length_set ..
  have il : i < ρ.length := (List.getElem?_eq_some_iff.mp hr).1
  unfold sdefP at hs
  split at hs
  · rename_i hz
    refine ⟨kvs, key, bb, hP3, rfl, x2.hh _ _ hbb, by rw [hlen]; exact lim_lt hz, fun v hv => ?_, fun hn => ?_⟩
    · cases hix : idxK key ks with
      | none => rw [hix] at hval; rw [hval] at hv; cases hv
      | some j =>
        rw [hix] at hs hval
        cases hs
        rw [hval] at hv
        simp only at hv
        rw [List.getElem?_map] at hv
        obtain ⟨qq, hqq, rfl⟩ := Option.map_eq_some_iff.mp hv
        have hset : ρ.set i (some (DL.D.dit ks (ls.map .lst))) = ρ := by
          apply List.ext_getElem?
          intro c
          by_cases hc : i = c
          · subst hc; rw [List.getElem?_set_self il, hr]
          · rw [List.getElem?_set_ne hc]
        have he' : EvM .sh X e Γ ρ d := by rw [hset] at he; exact he
        obtain ⟨⟨vs0, w1⟩, w2⟩ := sdef_fin (Q := fun σ' H' => D.nx σ' H') S3 hm hr ha hb3 hf hP3 h2 h3 h4 h5 h63 rfl hqq hq he' (fun σ' B' H' S' => q0 σ' B' H' S')
        exact ⟨.inl ⟨rfl, vs0, w1⟩, w2⟩
    · cases hix : idxK key ks with
      | some j =>
        rw [hix] at hval
        have h8 := idx_lt hix
        rw [hval] at hn
        simp only at hn
        rw [List.getElem?_map, List.getElem?_eq_getElem (by rw [h6.len, ← hll, hlen]; exact h8)] at hn
        cases hn
      | none =>
        rw [hix] at hs
        cases hs
        rw [idx_put (by rw [h2]; exact hix)]
        have S1 := S.grow x1
        have hb1 : ∀ a ∈ P :: fp, H0 a = none ∧ B1 a = none := hb3
        have hne : ∀ a ∈ fp, a ≠ P := fun a ha z => h5 (by rw [← z]; exact ha)
        have h64 : Inn X.K B1 (upd (upd H1 qn (.lst [])) P (.dT (kvs ++ [(key, .ref qn)]))) (fp ++ [qn]) (ls ++ [[]]) :=
          (h63.at (.refl _) fun a hh u z => by rw [upd_ne (hne a hh)]; exact z).snoc (ws := []) (by rw [upd_ne hqnP]; exact upd_same) .nil hqnf
        have h44 : (kvs ++ [(key, V.ref qn)]).map (·.2) = (fp ++ [qn]).map V.ref := by rw [List.map_append, List.map_append, h4]; rfl
        have h24 : (kvs ++ [(key, V.ref qn)]).map (·.1) = ks ++ [key] := by rw [List.map_append, h2]; rfl
        have h34 : KsOkT (ks ++ [key]) := fun c hc => (List.mem_append.mp hc).elim (h3 c) fun z => by rw [List.mem_singleton.mp z]; exact hko
        have h54 : P ∉ fp ++ [qn] := fun z => (List.mem_append.mp z).elim h5 fun z => hqnP (List.mem_singleton.mp z).symm
        have hd4 : ls.map DL.D.lst ++ [.lst []] = (ls ++ [[]]).map .lst := by rw [List.map_append]; rfl
        have S4 := S1.mutOd hm hr ha hb1 hf (fp2 := fp ++ [qn]) (d' := .dit (ks ++ [key]) (ls.map .lst ++ [.lst []])) (H2 := upd (upd H1 qn (.lst [])) P (.dT (kvs ++ [(key, .ref qn)])))
          (fun a hna => by
            rw [upd_ne fun z => hna (by rw [z]; simp), upd_ne fun z => hna (by rw [z]; simp)])
          (fun a hh => (List.mem_append.mp hh).elim .inl fun z => .inr (by rw [List.mem_singleton.mp z]; exact hqn))
          (by rw [hd4]; exact .dit upd_same h24 h34 h44 h54 h64)
        have hr4 : (ρ.set i (some (DL.D.dit (ks ++ [key]) (ls.map .lst ++ [.lst []]))))[i]? = some (some (.dit (ks ++ [key]) (ls.map .lst ++ [.lst []]))) := List.getElem?_set_self il
        have hb4 : ∀ a ∈ P :: (fp ++ [qn]), H0 a = none ∧ B1 a = none := fun a hh => by
          rcases List.mem_cons.mp hh with rfl | hh
          · exact hb1 _ (by simp)
          · rcases List.mem_append.mp hh with z | z
            · exact hb1 a (by simp [z])
            · rw [List.mem_singleton.mp z]; exact ⟨S1.ext.hh.back hqn, x1.bh.back hqn⟩
        have hf4 : ∀ (j : Nat) (e : DL.D) (q : Addr), Γ[j]? = some Md.ow → (ρ.set i (some (DL.D.dit (ks ++ [key]) (ls.map .lst ++ [.lst []]))))[j]? = some (some e) → σ[j]? = some (some (V.ref q)) → q ∉ P :: (fp ++ [qn]) := fun j e q k1 k2 k3 hq => by
          have hij : i ≠ j := fun z => by subst z; rw [hm] at k1; cases k1
          rw [List.getElem?_set_ne hij] at k2
          obtain ⟨q', a', _, _, oq⟩ := S1.ow j e k1 k2
          rw [k3] at a'; cases a'
          rcases List.mem_cons.mp hq with z | hq
          · exact hf j e q k1 k2 k3 (by rw [z]; simp)
          · rcases List.mem_append.mp hq with z | z
            · exact hf j e q k1 k2 k3 (by simp [z])
            · exact oq.there (by rw [List.mem_singleton.mp z]; exact hqn)
        have hq4 : (fp ++ [qn])[(ls.map DL.D.lst).length]? = some qn := by
          rw [List.length_map, ← h6.len]; simp
        obtain ⟨⟨vs0, w1⟩, w2⟩ := sdef_fin (Q := fun σ' H' => D.nx σ' H') S4 hm hr4 ha hb4 hf4 upd_same h24 h34 h44 h54 h64 hd4 hq4 hq he (fun σ' B' H' S' => q0 σ' B' H' (by rw [List.set_set] at S'; exact S'))
        exact ⟨.inl ⟨rfl, vs0, w1⟩, w2⟩
  · cases hs
end
end DL

set_option Elab.async false
set_option linter.all false
set_option maxRecDepth 100000
set_option maxHeartbeats 4000000
namespace DL
open PySem PySem.Spec L2
variable [TbC]
variable (N : List Str) (fs : List (Str × List Md)) (Φ : Nat → List D → Option D) (k : Nat)

/-! ### a comprehension that is named -/
def swapS (sc scope : Scope) (y : Str) (py pos : Pos) : Bool := loS sc y && py.line == pos.line && !(scope.names.any fun (n, k) => n == y && (k == .local || k == .cell))
theorem swap_not {X : Cx} {sc scope : Scope} {y : Str} {py pos : Pos} {elt : Expr} {gs : List Comprehension} {l : Nat} (g : Good X N sc k) (hs : stS sc y = true) (h : swapS sc scope y py pos = false) : swapsWith (.ListComp elt gs scope pos) (some (.Name y py)) l X.env = pure false := by
  show (pure (X.env.blockKind == .function && X.env.kindOf y == some .local && py.line == pos.line && !(scope.names.any fun (n, k) => n == y && (k == .local || k == .cell))) : Sem Bool) = pure false
  congr 1
  unfold swapS at h
  by_cases hl : loS sc y = true
  · rw [hl, Bool.true_and] at h
    rw [Bool.and_assoc, h, Bool.and_false]
  · have hc : ceS sc y = true := by
      unfold stS at hs
      unfold loS at hl
      unfold ceS
      split at hs <;> rename_i e <;> first | (rw [e] at hl; exact absurd rfl hl) | rw [e] | cases hs
    have e : X.env.kindOf y = some .cell := g.ce y hc
    rw [e]
    simp
theorem swap_yes {X : Cx} {sc scope : Scope} {y : Str} {py pos : Pos} {elt : Expr} {gs : List Comprehension} {l : Nat} (g : Good X N sc k) (h : swapS sc scope y py pos = true) : swapsWith (.ListComp elt gs scope pos) (some (.Name y py)) l X.env = pure true := by
  unfold swapS at h
  simp only [Bool.and_eq_true] at h
  exact sw_true g.kind (g.lo y h.1.1) h.1.2 (by simpa using h.2)
theorem swap_notD {X : Cx} {sc scope : Scope} {y : Str} {py pos : Pos} {kx elt : Expr} {gs : List Comprehension} {l : Nat} (g : Good X N sc k) (hs : stS sc y = true) (h : swapS sc scope y py pos = false) : swapsWith (.DictComp kx elt gs scope pos) (some (.Name y py)) l X.env = pure false := by
  show (pure (X.env.blockKind == .function && X.env.kindOf y == some .local && py.line == pos.line && !(scope.names.any fun (n, k) => n == y && (k == .local || k == .cell))) : Sem Bool) = pure false
  congr 1
  unfold swapS at h
  by_cases hl : loS sc y = true
  · rw [hl, Bool.true_and] at h
    rw [Bool.and_assoc, h, Bool.and_false]
  · have hc : ceS sc y = true := by
      unfold stS at hs
      unfold loS at hl
      unfold ceS
      split at hs <;> rename_i e <;> first | (rw [e] at hl; exact absurd rfl hl) | rw [e] | cases hs
    have e : X.env.kindOf y = some .cell := g.ce y hc
    rw [e]
    simp
theorem sw_trueD {kx elt : Expr} {gs : List Comprehension} {scope : Scope} {pos py : Pos} {y : Str} {l : Nat} {env : Env} (hk : env.scope.kind = .function) (hy : env.scope.names.lookup y = some .local) (hl : (py.line == pos.line) = true)
    (ha : (scope.names.any fun (n, k) => n == y && (k == .local || k == .cell)) = false) : swapsWith (.DictComp kx elt gs scope pos) (some (.Name y py)) l env = pure true := by
  have ky : env.kindOf y = some .local := hy
  have hb : env.blockKind = .function := by unfold Env.blockKind; rw [hk]; rfl
  unfold swapsWith
  simp only [hb, ky, ha, Expr.pos, hl]
  rfl
theorem swap_yesD {X : Cx} {sc scope : Scope} {y : Str} {py pos : Pos} {kx elt : Expr} {gs : List Comprehension} {l : Nat} (g : Good X N sc k) (h : swapS sc scope y py pos = true) : swapsWith (.DictComp kx elt gs scope pos) (some (.Name y py)) l X.env = pure true := by
  unfold swapS at h
  simp only [Bool.and_eq_true] at h
  exact sw_trueD g.kind (g.lo y h.1.1) h.1.2 (by simpa using h.2)
/-- all that the rules of a comprehension ask -/
theorem lc_snd {n : Nat} {sc scope : Scope} {elt tg iter : Expr} {ifs : List Expr} {ia : Int} {pos : Pos} {ir : E} (h : cE N fs (n + 1) sc (.ListComp elt [⟨tg, iter, ifs, ia⟩] scope pos) = some ir) {X : Cx} (g : Good X N sc k) (hy : Hyp X fs Φ k) {Γ : MEnv} {ρ : DEnv} (ok : okE fs Γ ir = true) {d : D} (hd : evE Φ ir ρ = some d) :
    ia = 0 ∧ isL d = true ∧ ∃ wi gg tt te own, PI X tg iter wi ∧ BlkOk X.N X.env.scope scope own ∧ (∀ (s : Shared) (H : Hp) (C : Addr) (cl : List (Str × Addr)) (fp : List Addr), PG (X.blk s H scope (compEnvC scope cl C X.env) fp) tg gg) ∧
      (∀ (s : Shared) (H : Hp) (C : Addr) (cl : List (Str × Addr)) (fp : List Addr), PTs (X.blk s H scope (compEnvC scope cl C X.env) fp) ifs tt) ∧ (∀ (s : Shared) (H : Hp) (C : Addr) (cl : List (Str × Addr)) (fp : List Addr), PE (X.blk s H scope (compEnvC scope cl C X.env) fp) elt te) ∧
      (∀ x, foldedSetIterable iter X.env x = pure x) ∧ ∀ lv B0 H0 B H σ, Stt X.K Γ lv B0 H0 B H σ ρ → ∀ Q : VK, (∀ v B' H', Ext B H B' H' → RM X.K .ow H B' H' v d → Q v H') → tLc wi gg tt te (own.map (·.2)) σ H Q := by
  obtain ⟨hE, _, _, hI, _, _⟩ := snd_all N fs Φ k n
  simp only [cE] at h
  split at h
  · rename_i hc
    simp only [Bool.and_eq_true, decide_eq_true_eq] at hc
    obtain ⟨⟨rfl, hb⟩, hpl⟩ := hc
    obtain ⟨h1, e1, h⟩ := Option.bind_eq_some_iff.mp h
    obtain ⟨t, e2, h⟩ := Option.bind_eq_some_iff.mp h
    obtain ⟨h3, e3, h⟩ := Option.bind_eq_some_iff.mp h
    obtain ⟨h4, e4, rfl⟩ := Option.map_eq_some_iff.mp h
    obtain ⟨_, s3⟩ := hE scope elt h3 e3
    simp only [okE, Bool.and_eq_true, List.all_eq_true, List.contains_iff_mem] at ok
    obtain ⟨⟨⟨⟨⟨ok1, ok2⟩, ok3⟩, ok4⟩, ok5⟩, ok6⟩ := ok
    simp only [evE] at hd
    obtain ⟨l, d1, hd⟩ := Option.bind_eq_some_iff.mp hd
    obtain ⟨r, d2, rfl⟩ := Option.map_eq_some_iff.mp hd
    obtain ⟨hl, wi, hpi, hwi⟩ := hI sc (isTup tg) iter h1 e1 X g hy Γ ρ ok1 l d1 false tg isTup_eq (fun z => by cases z)
    have gb : ∀ (s : Shared) (H : Hp) (C : Addr) (cl : List (Str × Addr)) (fp : List Addr), Good (X.blk s H scope (compEnvC scope cl C X.env) fp) N scope k := fun s H C cl fp => g.blk hb s H C cl fp
    have hyb : ∀ (s : Shared) (H : Hp) (C : Addr) (cl : List (Str × Addr)) (fp : List Addr), Hyp (X.blk s H scope (compEnvC scope cl C X.env) fp) fs Φ k := fun s H C cl fp => hy.blk s H scope _ fp
    have hif : ifs.length ≤ 1 := by
      match ifs, e4 with
      | [], _ => exact Nat.zero_le _
      | [_], _ => exact Nat.le_refl _
      | _ :: _ :: _, e4 => cases e4
    refine ⟨rfl, rfl, wi, gOf X.K t, tTBlk X scope ifs, tBlk X scope elt, ownOf N scope, hpi, g.blkOk hb, fun s H C cl fp => (pg_of N k (gb s H C cl fp) n).1 tg t e2, pts_of hif, pe_blk, plainFold hpl, lc_read hl hif hwi ok5 ok6 (fun x hx o ho => ?_) d2⟩
    obtain ⟨ρ', r1, ho⟩ := Option.bind_eq_some_iff.mp ho
    obtain ⟨j, r2, ho⟩ := Option.bind_eq_some_iff.mp ho
    refine ⟨ρ', j, r1, fun z => ?_, fun s H C cl fp => ?_, fun z => ?_, fun z => ?_⟩
    · subst z
      simp only [Option.some.injEq] at e4
      subst e4
      simp only [evT, Option.some.injEq] at r2
      exact r2.symm
    · match ifs, e4 with
      | [], e4 =>
        simp only [Option.some.injEq] at e4
        subst e4
        simp only [evT, Option.some.injEq] at r2
        exact r2.symm
      | [c], e4 => exact ((hE scope c h4 e4).2 _ (gb s H C cl fp) (hyb s H C cl fp) Γ ρ' ok4).2 j r2
      | _ :: _ :: _, e4 => cases e4
    · subst z; simpa [eq_comm] using ho
    · subst z
      obtain ⟨y, r3, rfl⟩ := Option.map_eq_some_iff.mp (show (evE Φ h3 ρ').map some = some o by simpa using ho)
      exact ⟨y, rfl, fun s H C cl fp => ((s3 _ (gb s H C cl fp) (hyb s H C cl fp) Γ ρ' ok2).1 y r3).2.1 ok3⟩
  · cases h
theorem dc_snd {n : Nat} {sc scope : Scope} {kx elt tg iter : Expr} {ifs : List Expr} {ia : Int} {pos : Pos} {ir : E} (hq : ¬ (fnIx "{}" fs 0).isSome = true) (h : cE N fs (n + 1) sc (.DictComp kx elt [⟨tg, iter, ifs, ia⟩] scope pos) = some ir) {X : Cx} (g : Good X N sc k) (hy : Hyp X fs Φ k) {Γ : MEnv} {ρ : DEnv} (ok : okE fs Γ ir = true) {d : D} (hd : evE Φ ir ρ = some d) :
    ia = 0 ∧ isL d = true ∧ ∃ wi gg tt tk te own, PI X tg iter wi ∧ BlkOk X.N X.env.scope scope own ∧ (∀ (s : Shared) (H : Hp) (C : Addr) (cl : List (Str × Addr)) (fp : List Addr), PG (X.blk s H scope (compEnvC scope cl C X.env) fp) tg gg) ∧
      (∀ (s : Shared) (H : Hp) (C : Addr) (cl : List (Str × Addr)) (fp : List Addr), PTs (X.blk s H scope (compEnvC scope cl C X.env) fp) ifs tt) ∧ (∀ (s : Shared) (H : Hp) (C : Addr) (cl : List (Str × Addr)) (fp : List Addr), PE (X.blk s H scope (compEnvC scope cl C X.env) fp) kx tk) ∧ (∀ (s : Shared) (H : Hp) (C : Addr) (cl : List (Str × Addr)) (fp : List Addr), PE (X.blk s H scope (compEnvC scope cl C X.env) fp) elt te) ∧
      (∀ x, foldedSetIterable iter X.env x = pure x) ∧ ∀ lv B0 H0 B H σ, Stt X.K Γ lv B0 H0 B H σ ρ → ∀ Q : VK, (∀ v B' H', Ext B H B' H' → RM X.K .ow H B' H' v d → Q v H') → tDc wi gg tt tk te (own.map (·.2)) σ H Q := by
  obtain ⟨hE, _, _, hI, _, _⟩ := snd_all N fs Φ k n
  simp only [cE] at h
  split at h
  · rename_i hc
    simp only [Bool.and_eq_true, decide_eq_true_eq] at hc
    obtain ⟨⟨rfl, hb⟩, hpl⟩ := hc
    obtain ⟨h1, e1, h⟩ := Option.bind_eq_some_iff.mp h
    obtain ⟨t, e2, h⟩ := Option.bind_eq_some_iff.mp h
    obtain ⟨hk, ek, h⟩ := Option.bind_eq_some_iff.mp h
    obtain ⟨h3, e3, h⟩ := Option.bind_eq_some_iff.mp h
    obtain ⟨h4, e4, h⟩ := Option.map_eq_some_iff.mp h
    subst h
    obtain ⟨_, s3⟩ := hE scope elt h3 e3
    obtain ⟨_, sk⟩ := hE scope kx hk ek
    simp only [okE, Bool.and_eq_true, List.all_eq_true, List.contains_iff_mem] at ok
    obtain ⟨⟨⟨⟨⟨⟨⟨ok1, okk⟩, okk2⟩, ok2⟩, ok3⟩, ok4⟩, ok5⟩, ok6⟩ := ok
    simp only [evE] at hd
    obtain ⟨l, d1, hd⟩ := Option.bind_eq_some_iff.mp hd
    obtain ⟨⟨rk, rv⟩, d2, rfl⟩ := Option.map_eq_some_iff.mp hd
    obtain ⟨hl, wi, hpi, hwi⟩ := hI sc (isTup tg) iter h1 e1 X g hy Γ ρ ok1 l d1 false tg isTup_eq (fun z => by cases z)
    have gb : ∀ (s : Shared) (H : Hp) (C : Addr) (cl : List (Str × Addr)) (fp : List Addr), Good (X.blk s H scope (compEnvC scope cl C X.env) fp) N scope k := fun s H C cl fp => g.blk hb s H C cl fp
    have hyb : ∀ (s : Shared) (H : Hp) (C : Addr) (cl : List (Str × Addr)) (fp : List Addr), Hyp (X.blk s H scope (compEnvC scope cl C X.env) fp) fs Φ k := fun s H C cl fp => hy.blk s H scope _ fp
    have hif : ifs.length ≤ 1 := by
      match ifs, e4 with
      | [], _ => exact Nat.zero_le _
      | [_], _ => exact Nat.le_refl _
      | _ :: _ :: _, e4 => cases e4
    refine ⟨rfl, rfl, wi, gOf X.K t, tTBlk X scope ifs, tBlk X scope kx, tBlk X scope elt, ownOf N scope, hpi, g.blkOk hb, fun s H C cl fp => (pg_of N k (gb s H C cl fp) n).1 tg t e2, pts_of hif, pe_blk, pe_blk, plainFold hpl, dc_read hl hif hwi ok5 ok6 (fun x hx o ho => ?_) d2⟩
    obtain ⟨ρ', r1, ho⟩ := Option.bind_eq_some_iff.mp ho
    obtain ⟨j, r2, ho⟩ := Option.bind_eq_some_iff.mp ho
    refine ⟨ρ', j, r1, fun z => ?_, fun s H C cl fp => ?_, fun z => ?_, fun z => ?_⟩
    · subst z
      simp only [Option.some.injEq] at e4
      subst e4
      simp only [evT, Option.some.injEq] at r2
      exact r2.symm
    · match ifs, e4 with
      | [], e4 =>
        simp only [Option.some.injEq] at e4
        subst e4
        simp only [evT, Option.some.injEq] at r2
        exact r2.symm
      | [c], e4 => exact ((hE scope c h4 e4).2 _ (gb s H C cl fp) (hyb s H C cl fp) Γ ρ' ok4).2 j r2
      | _ :: _ :: _, e4 => cases e4
    · subst z; simpa [eq_comm] using ho
    · subst z
      have ho : (evE Φ hk ρ').bind (fun kd => (keyD kd).bind fun key => (evE Φ h3 ρ').map fun y => some (key, y)) = some o := by simpa using ho
      obtain ⟨kd, r3, ho⟩ := Option.bind_eq_some_iff.mp ho
      obtain ⟨key, r4, ho⟩ := Option.bind_eq_some_iff.mp ho
      obtain ⟨y, r5, rfl⟩ := Option.map_eq_some_iff.mp ho
      exact ⟨key, y, kd, rfl, r4, fun s H C cl fp => ((sk _ (gb s H C cl fp) (hyb s H C cl fp) Γ ρ' okk).1 kd r3).2.1 okk2, fun s H C cl fp => ((s3 _ (gb s H C cl fp) (hyb s H C cl fp) Γ ρ' ok2).1 y r5).2.1 ok3⟩
  · cases h
theorem dcT_snd {n : Nat} {sc scope : Scope} {kx elt tg iter : Expr} {ifs : List Expr} {ia : Int} {pos : Pos} {ir : E} (hq : (fnIx "{}" fs 0).isSome = true) (h : cE N fs (n + 1) sc (.DictComp kx elt [⟨tg, iter, ifs, ia⟩] scope pos) = some ir) {X : Cx} (g : Good X N sc k) (hy : Hyp X fs Φ k) {Γ : MEnv} {ρ : DEnv} (ok : okE fs Γ ir = true) {d : D} (hd : evE Φ ir ρ = some d) :
    ia = 0 ∧ ∃ wi gg tt tk te own, Cl1 X kx elt tg iter ifs scope own wi gg tt tk te ∧ ∀ lv B0 H0 B H σ, Stt X.K Γ lv B0 H0 B H σ ρ → ∀ Q : VK, (∀ v B' H', Ext B H B' H' → RM X.K .ow H B' H' v d → Q v H') → tD1 true wi gg tt tk te (own.map (·.2)) σ H Q := by
  obtain ⟨hE, _, _, hI, _, _⟩ := snd_all N fs Φ k n
  simp only [cE] at h
  split at h
  · rename_i hc
    simp only [Bool.and_eq_true, decide_eq_true_eq] at hc
    obtain ⟨⟨rfl, hb⟩, hpl⟩ := hc
    obtain ⟨h1, e1, h⟩ := Option.bind_eq_some_iff.mp h
    obtain ⟨t, e2, h⟩ := Option.bind_eq_some_iff.mp h
    obtain ⟨hk, ek, h⟩ := Option.bind_eq_some_iff.mp h
    obtain ⟨h3, e3, h⟩ := Option.bind_eq_some_iff.mp h
    obtain ⟨h4, e4, h⟩ := Option.map_eq_some_iff.mp h
    subst h
    obtain ⟨_, s3⟩ := hE scope elt h3 e3
    obtain ⟨_, sk⟩ := hE scope kx hk ek
    simp only [okE, Bool.and_eq_true, List.all_eq_true, List.contains_iff_mem] at ok
    obtain ⟨⟨⟨⟨⟨⟨⟨ok1, okk⟩, okk2⟩, ok2⟩, ok3⟩, ok4⟩, ok5⟩, ok6⟩ := ok
    simp only [evE] at hd
    obtain ⟨l, d1, hd⟩ := Option.bind_eq_some_iff.mp hd
    obtain ⟨r, d2, rfl⟩ := Option.map_eq_some_iff.mp hd
    obtain ⟨_, wi, hpi, hwi⟩ := hI sc (isTup tg) iter h1 e1 X g hy Γ ρ ok1 l d1 false tg isTup_eq (fun z => by cases z)
    have w := one_of N fs Φ k hE hb hpl e2 e4 g hy ok4 ok5 ok6
    have gb : ∀ (s : Shared) (H : Hp) (C : Addr) (cl : List (Str × Addr)) (fp : List Addr), Good (X.blk s H scope (compEnvC scope cl C X.env) fp) N scope k := fun s H C cl fp => g.blk hb s H C cl fp
    have hyb : ∀ (s : Shared) (H : Hp) (C : Addr) (cl : List (Str × Addr)) (fp : List Addr), Hyp (X.blk s H scope (compEnvC scope cl C X.env) fp) fs Φ k := fun s H C cl fp => hy.blk s H scope _ fp
    exact ⟨rfl, wi, _, _, _, _, _, w.c1 hpi, dcT_read w (fun ρ' y r s H C cl fp => ((sk _ (gb s H C cl fp) (hyb s H C cl fp) Γ ρ' okk).1 y r).2.1 okk2) (fun ρ' y r s H C cl fp => ((s3 _ (gb s H C cl fp) (hyb s H C cl fp) Γ ρ' ok2).1 y r).2.1 ok3) hwi d2⟩
  · cases h
theorem plainA_of {n : Nat} {sc : Scope} {e : Expr} {ir : E} (h : cE N fs n sc e = some ir) (hp : plainE e = true) (hn : ∀ elt gs s p, e ≠ .ListComp elt gs s p) (hn2 : ∀ kx elt gs s p, e ≠ .DictComp kx elt gs s p) : plainA e = true := by
  cases n with
  | zero => simp [cE] at h
  | succ n =>
    cases e with
    | ListComp elt gs s p => exact absurd rfl (hn elt gs s p)
    | DictComp kx elt gs s p => exact absurd rfl (hn2 kx elt gs s p)
    | SetComp _ _ _ _ => simp [cE] at h
    | _ => exact hp
/-- x = e -/
theorem so_assign {n : Nat} {sc : Scope} {e : Expr} {ir : E} {i : Nat} {nm : Str} {p pos : Pos} (h : cE N fs n sc e = some ir) {X : Cx} (g : Good X N sc k) (hy : Hyp X fs Φ k) {Γ : MEnv} {ρ : DEnv} (ok : okE fs Γ ir = true) {d : D} (hd : evE Φ ir ρ = some d) (hi : N[i]? = some nm) (hv : stS sc nm = true)
    (hm : (Γ[i]? = some Md.sh ∧ esc Γ ir = true) ∨ (Γ[i]? = some Md.ow ∧ fresh ir = true ∧ isL d = true)) : StO X (.Assign [.Name nm p] e pos) Γ ρ (.nx (ρ.set i (some d))) := by
  obtain ⟨hp, s⟩ := (snd_all N fs Φ k n).1 sc e ir h
  obtain ⟨r1, r2, r3, _⟩ := (s X g hy Γ ρ ok).1 d hd
  by_cases hlc : ∃ elt gs s p, e = .ListComp elt gs s p
  · obtain ⟨elt, gs, scope, lp, rfl⟩ := hlc
    cases hsw : swapS sc scope nm p lp with
    | false =>
      obtain ⟨h1, h2⟩ := g.st nm hv
      have ps : ∀ {te : TE}, PE X (.ListComp elt gs scope lp) te → PS X (.Assign [.Name nm p] (.ListComp elt gs scope lp) pos) (tAsg te (gName i)) := fun pe => ps_set (by rw [g.hN]; exact g.nd) (by rw [g.hN]; exact hi) h1 pe (swap_not N k g hv hsw) h2
      intro lv B0 H0 B H σ S D q
      refine of_ps (ps pe_of) ?_
      rcases hm with ⟨hm, he⟩ | ⟨hm, hf, hl⟩
      · exact r2 he lv B0 H0 B H σ S _ fun v B' H' x r => q _ B' H' ((S.grow x).setSh hm r)
      · refine r3 hf hl lv B0 H0 B H σ S _ fun v B' H' x r => ?_
        obtain ⟨a, rfl, ha, hb, o⟩ := r
        exact q _ B' H' (S.setOw x hm ha hb o)
    | true =>
      cases n with
      | zero => simp [cE] at h
      | succ n =>
        match gs, h with
        | [⟨tg, iter, ifs, ia⟩], h =>
          obtain ⟨rfl, hl, wi, gg, tt, te, own, a1, a2, a3, a4, a5, a6, a7⟩ := lc_snd N fs Φ k h g hy ok hd
          have hlo : X.env.scope.names.lookup nm = some .local := by
            apply g.lo
            unfold swapS at hsw
            simp only [Bool.and_eq_true] at hsw
            exact hsw.1.1
          intro lv B0 H0 B H σ S D q
          refine of_ps (ps_setLc g.calm (by rw [g.hN]; exact g.nd) (by rw [g.hN]; exact hi) hlo (swap_yes N k g hsw) a1 a2 a3 a4 a5 a6) ?_
          rcases hm with ⟨hm, _⟩ | ⟨hm, _, _⟩
          · refine a7 lv B0 H0 B H σ S _ fun v B' H' x r => ?_
            obtain ⟨B2, x2, _, r2⟩ := fresh_sh x r
            exact q _ B2 H' ((S.grow x2).setSh hm r2)
          · refine a7 lv B0 H0 B H σ S _ fun v B' H' x r => ?_
            obtain ⟨a, rfl, ha, hb, o⟩ := r
            exact q _ B' H' (S.setOw x hm ha hb o)
        | [⟨tg, iter, ifs, ia⟩, ⟨tg1, iter1, ifs1, ia1⟩], h =>
          obtain ⟨hE, _, _, hI, _, _⟩ := snd_all N fs Φ k n
          simp only [cE] at h
          split at h
          · rename_i hc
            simp only [Bool.and_eq_true, decide_eq_true_eq] at hc
            obtain ⟨⟨⟨⟨rfl, rfl⟩, hbb⟩, hq⟩, hq1⟩ := hc
            obtain ⟨h1, e1, h⟩ := Option.bind_eq_some_iff.mp h
            obtain ⟨t, e2, h⟩ := Option.bind_eq_some_iff.mp h
            obtain ⟨h3, e3, h⟩ := Option.bind_eq_some_iff.mp h
            obtain ⟨t1, e4, h⟩ := Option.bind_eq_some_iff.mp h
            obtain ⟨he, e5, h⟩ := Option.bind_eq_some_iff.mp h
            obtain ⟨hc, e6, h⟩ := Option.bind_eq_some_iff.mp h
            obtain ⟨hc1, e7, rfl⟩ := Option.map_eq_some_iff.mp h
            simp only [okE, Bool.and_eq_true, List.all_eq_true, List.contains_iff_mem] at ok
            obtain ⟨⟨⟨⟨⟨⟨⟨⟨⟨⟨⟨ok1, ok2⟩, ok3⟩, ok4⟩, ok5⟩, ok6⟩, ok7⟩, ok8⟩, ok9⟩, oka⟩, okb⟩, okc⟩ := ok
            obtain ⟨w, hev, hI2⟩ := two_of N fs Φ k hE hI hbb hq hq1 e1 e2 e3 e4 e5 e6 e7 g hy (ρ := ρ) ok1 ok2 ok3 ok4 ok5 ok6 ok7 ok8 ok9 oka okb okc
            simp only [evE] at hd
            obtain ⟨l, d1, hd⟩ := Option.bind_eq_some_iff.mp hd
            obtain ⟨r, d2, rfl⟩ := Option.map_eq_some_iff.mp hd
            obtain ⟨_, wi, hpi, hwi⟩ := hI2 l d1
            have hlo : X.env.scope.names.lookup nm = some .local := by
              apply g.lo
              unfold swapS at hsw
              simp only [Bool.and_eq_true] at hsw
              exact hsw.1.1
            intro lv B0 H0 B H σ S D q
            refine of_ps (ps_L2 (w.cl hpi) (by rw [g.hN]; exact hi) hlo (swap_yes N k g hsw)) ?_
            rcases hm with ⟨hm, _⟩ | ⟨hm, _, _⟩
            · refine L2_read w hev hwi d2 lv B0 H0 B H σ S _ fun v B' H' x r => ?_
              obtain ⟨B2, x2, _, r2⟩ := fresh_sh x r
              exact q _ B2 H' ((S.grow x2).setSh hm r2)
            · refine L2_read w hev hwi d2 lv B0 H0 B H σ S _ fun v B' H' x r => ?_
              obtain ⟨a, rfl, ha, hb, o⟩ := r
              exact q _ B' H' (S.setOw x hm ha hb o)
          · cases h
        | [], h => simp [cE] at h
        | _ :: _ :: _ :: _, h => simp [cE] at h
  · by_cases hdc : ∃ kx elt gs s p, e = .DictComp kx elt gs s p
    · obtain ⟨kx, elt, gs, scope, lp, rfl⟩ := hdc
      cases hsw : swapS sc scope nm p lp with
      | false =>
        obtain ⟨h1, h2⟩ := g.st nm hv
        have ps : ∀ {te : TE}, PE X (.DictComp kx elt gs scope lp) te → PS X (.Assign [.Name nm p] (.DictComp kx elt gs scope lp) pos) (tAsg te (gName i)) := fun pe => ps_set (by rw [g.hN]; exact g.nd) (by rw [g.hN]; exact hi) h1 pe (swap_notD N k g hv hsw) h2
        intro lv B0 H0 B H σ S D q
        refine of_ps (ps pe_of) ?_
        rcases hm with ⟨hm, he⟩ | ⟨hm, hf, hl⟩
        · exact r2 he lv B0 H0 B H σ S _ fun v B' H' x r => q _ B' H' ((S.grow x).setSh hm r)
        · refine r3 hf hl lv B0 H0 B H σ S _ fun v B' H' x r => ?_
          obtain ⟨a, rfl, ha, hb, o⟩ := r
          exact q _ B' H' (S.setOw x hm ha hb o)
      | true =>
        cases n with
        | zero => simp [cE] at h
        | succ n =>
          match gs, h with
          | [⟨tg, iter, ifs, ia⟩], h =>
            have hlo : X.env.scope.names.lookup nm = some .local := by
              apply g.lo
              unfold swapS at hsw
              simp only [Bool.and_eq_true] at hsw
              exact hsw.1.1
            by_cases hq : (fnIx "{}" fs 0).isSome = true
            · obtain ⟨rfl, wi, gg, tt, tk, te, own, c1, a7⟩ := dcT_snd N fs Φ k hq h g hy ok hd
              intro lv B0 H0 B H σ S D q
              refine of_ps (ps_D1 (T := true) c1 (by rw [g.hN]; exact hi) hlo (swap_yesD N k g hsw)) ?_
              rcases hm with ⟨hm, _⟩ | ⟨hm, _, _⟩
              · refine a7 lv B0 H0 B H σ S _ fun v B' H' x r => ?_
                obtain ⟨B2, x2, _, r2⟩ := fresh_sh x r
                exact q _ B2 H' ((S.grow x2).setSh hm r2)
              · refine a7 lv B0 H0 B H σ S _ fun v B' H' x r => ?_
                obtain ⟨a, rfl, ha, hb, o⟩ := r
                exact q _ B' H' (S.setOw x hm ha hb o)
            obtain ⟨rfl, hl, wi, gg, tt, tk, te, own, a1, a2, a3, a4, ak, a5, a6, a7⟩ := dc_snd N fs Φ k hq h g hy ok hd
            intro lv B0 H0 B H σ S D q
            refine of_ps (ps_setDc g.calm (by rw [g.hN]; exact g.nd) (by rw [g.hN]; exact hi) hlo (swap_yesD N k g hsw) a1 a2 a3 a4 ak a5 a6) ?_
            rcases hm with ⟨hm, _⟩ | ⟨hm, _, _⟩
            · refine a7 lv B0 H0 B H σ S _ fun v B' H' x r => ?_
              obtain ⟨B2, x2, _, r2⟩ := fresh_sh x r
              exact q _ B2 H' ((S.grow x2).setSh hm r2)
            · refine a7 lv B0 H0 B H σ S _ fun v B' H' x r => ?_
              obtain ⟨a, rfl, ha, hb, o⟩ := r
              exact q _ B' H' (S.setOw x hm ha hb o)
          | [], h => simp [cE] at h
          | _ :: _ :: _, h => simp [cE] at h
    · have hpa := plainA_of N fs h hp (fun elt gs s p z => hlc ⟨elt, gs, s, p, z⟩) (fun kx elt gs s p z => hdc ⟨kx, elt, gs, s, p, z⟩)
      rcases hm with ⟨hm, he⟩ | ⟨hm, hf, hl⟩
      · exact so_set g hi hv hpa hm (r2 he)
      · exact so_setO g hi hv hpa hm (r3 hf hl)

/-! ### statements -/
def okSt (Γ : MEnv) : S → Bool
  | .asg t e => shT Γ t && okE fs Γ e && (match t with | .nm _ => esc Γ e | .tp _ => true | _ => false)
  | .asgO i e => decide (Γ[i]? = some Md.ow) && okE fs Γ e && fresh e
  | .asgC i f as => decide (Γ[i]? = some Md.ow) && okE fs Γ as && (match fs[f]? with | some (_, ms) => okArgs Γ ms as | none => false)
  | .app i e => decide (Γ[i]? = some Md.ow) && okE fs Γ e && esc Γ e
  | .ext i e => decide (Γ[i]? = some Md.ow) && okE fs Γ e
  | .setk i y e => decide (Γ[i]? = some Md.ow) && okE fs Γ y && esc Γ y && okE fs Γ e && esc Γ e
  | .newd i _ => decide (Γ[i]? = some Md.od)
  | .sdef i y e => decide (Γ[i]? = some Md.od) && okE fs Γ y && okE fs Γ e && esc Γ e
  | .popl t i => decide (Γ[i]? = some Md.ow) && decide (Γ[t]? = some Md.sh)
  | .drop e => okE fs Γ e
  | .ret e => okE fs (Γ.map frM) e && esc (Γ.map frM) e
  | .retN => true
  | .ite c a b => okE fs Γ c && okSt Γ a && okSt Γ b
  | .for_ pins t it b => okE fs (pinM pins Γ) it && okIt (pinM pins Γ) it && shT (pinM pins Γ) t && okSt (pinM pins Γ) b
  | .while_ c b => okE fs Γ c && okSt Γ b
  | .brk => true
  | .cnt => true
  | .nx => true
  | .err => true
  | .seq a b => okSt Γ a && okSt Γ b
def SS (n : Nat) : Prop := ∀ Γ0 sc st ir, cS N fs Γ0 n sc st = some ir → ∀ X, Good X N sc k → Hyp X fs Φ k → PassesOwn (model X.prog X.w) X.A X.env X.xe → ∀ Γ, okSt fs Γ ir = true → ∀ m ρ o, exS Φ m ir ρ = some o → StO X st Γ ρ o
def SB (n : Nat) : Prop := ∀ Γ0 sc sts ir, cB N fs Γ0 n sc sts = some ir → ∀ X, Good X N sc k → Hyp X fs Φ k → PassesOwn (model X.prog X.w) X.A X.env X.xe → ∀ Γ, okSt fs Γ ir = true → ∀ m ρ o, exS Φ m ir ρ = some o → StS X sts Γ ρ o
theorem sb_nil {Γ0 : MEnv} {n : Nat} {sc : Scope} {ir : S} (h : cB N fs Γ0 n sc [] = some ir) : ir = .nx := by
  cases n <;> simp only [cB, Option.some.injEq] at h <;> exact h.symm
theorem sb_succ {n : Nat} (hS : SS N fs Φ k n) (hB : SB N fs Φ k n) : SB N fs Φ k (n + 1) := by
  intro Γ0 sc sts ir h X g hy hpo Γ ok m ρ o ho
  cases sts with
  | nil =>
    cases sb_nil N fs h
    simp only [exS, Option.some.injEq] at ho
    subst ho
    exact ss_nil
  | cons s ss =>
    simp only [cB] at h
    obtain ⟨a, e1, h⟩ := Option.bind_eq_some_iff.mp h
    obtain ⟨b, e2, rfl⟩ := Option.map_eq_some_iff.mp h
    simp only [okSt, Bool.and_eq_true] at ok
    simp only [exS] at ho
    obtain ⟨o1, r1, ho⟩ := Option.bind_eq_some_iff.mp ho
    have h1 := hS Γ0 sc s a e1 X g hy hpo Γ ok.1 m ρ o1 r1
    refine ss_cons h1 (fun ρ' z => ?_) fun z => ?_
    · subst z
      exact hB Γ0 sc ss b e2 X g hy hpo Γ ok.2 m ρ' o ho
    · cases o1 with
      | nx ρ' => exact absurd rfl (z ρ')
      | _ => cases ho; rfl
theorem isEmptyD_eq {e : Expr} (h : isEmptyD e = true) : ∃ p, e = .Dict [] [] p := by
  unfold isEmptyD at h
  split at h
  · exact ⟨_, rfl⟩
  · cases h
theorem sdefOf_eq {e : Expr} {x : Str} {k a : Expr} (h : sdefOf e = some (x, k, a)) : ∃ p m1 apos pl cpos m2 apos2 cpos2, e = .Call (.Attribute (.Call (.Attribute (.Name x p) m1 apos) [k, .List [] pl] [] cpos) m2 apos2) [a] [] cpos2 ∧ m1 = "setdefault" ∧ m2 = "append" ∧ (apos.endLine == cpos.line) = true ∧ (apos2.endLine == cpos2.line) = true ∧ plainE k = true ∧ plainE a = true := by
  unfold sdefOf at h
  split at h
  · split at h
    · rename_i hc
      cases h
      simp only [Bool.and_eq_true, decide_eq_true_eq] at hc
      obtain ⟨⟨⟨⟨⟨h1, h2⟩, h3⟩, h4⟩, h5⟩, h6⟩ := hc
      exact ⟨_, _, _, _, _, _, _, _, rfl, h1, h2, h3, h4, h5, h6⟩
    · cases h
  · cases h
theorem popOf_eq {e : Expr} {y : Str} (h : popOf e = some y) : ∃ p mm apos cpos, e = .Call (.Attribute (.Name y p) mm apos) [] [] cpos ∧ mm = "popleft" ∧ (apos.endLine == cpos.line) = true := by
  unfold popOf at h
  split at h
  · split at h
    · rename_i hc
      cases h
      simp only [Bool.and_eq_true, decide_eq_true_eq] at hc
      exact ⟨_, _, _, _, rfl, hc.1, hc.2⟩
    · cases h
  · cases h
theorem ss_succ {n : Nat} (hB : SB N fs Φ k n) : SS N fs Φ k (n + 1) := by
  intro Γ0 sc st ir h X g hy hpo Γ ok m ρ o ho
  have hsE : SE N fs Φ k n := (snd_all N fs Φ k n).1
  have hsA : SA N fs Φ k n := (snd_all N fs Φ k n).2.1
  have hsI : SI N fs Φ k n := (snd_all N fs Φ k n).2.2.2.1
  cases st with
  | Assign tgs e pos =>
    match tgs, h with
    | [tg], h =>
      simp only [cS] at h
      split at h
      · rename_i x p
        split at h
        · rename_i hv
          split at h
          · rename_i y hpop
            obtain ⟨p1, mm, apos, cpos, hee, hmm, hl⟩ := popOf_eq hpop
            split at h
            · rename_i hc
              simp only [Bool.and_eq_true] at hc
              obtain ⟨t, i1, h⟩ := Option.bind_eq_some_iff.mp h
              obtain ⟨i, i2, rfl⟩ := Option.map_eq_some_iff.mp h
              simp only [okSt, Bool.and_eq_true, decide_eq_true_eq] at ok
              simp only [exS] at ho
              split at ho
              · rename_i dx l hr
                cases ho
                obtain ⟨n1, n2⟩ := nameOk_1 hc.2
                rw [hee, hmm]
                exact so_popl g (ixOf_0 i2) hc.1 n1 n2 hl ok.1 hr (ixOf_0 i1) hv ok.2
              · cases ho
            · cases h
          obtain ⟨i, i1, h⟩ := Option.bind_eq_some_iff.mp h
          split at h
          · split at h
            · rename_i hem
              cases h
              simp only [okSt, decide_eq_true_eq] at ok
              simp only [exS, Option.some.injEq] at ho
              subst ho
              obtain ⟨pl, hee⟩ := isEmptyD_eq hem
              rw [hee]
              cases hfl : (fnIx "{}" fs 0).isSome with
              | true => exact so_newDT g (ixOf_0 i1) hv ok
              | false => exact so_newDK g (ixOf_0 i1) hv ok
            · cases h
          split at h
          · split at h
            · rename_i gg es hoc
              obtain ⟨f, e0, h⟩ := Option.bind_eq_some_iff.mp h
              obtain ⟨as, e1, rfl⟩ := Option.map_eq_some_iff.mp h
              obtain ⟨p9, pos9, hee, hne, o1, o2, o3, o4⟩ := ownC_eq hoc
              obtain ⟨ms, hf⟩ := fnIx_0 e0
              simp only [okSt, hf, Bool.and_eq_true, decide_eq_true_eq] at ok
              simp only [exS] at ho
              obtain ⟨d, d1, ho⟩ := Option.bind_eq_some_iff.mp ho
              obtain ⟨ds, d2, d3⟩ := Option.bind_eq_some_iff.mp d1
              split at ho
              · rename_i hl
                cases ho
                obtain ⟨t1, _, _⟩ := hsA sc es as e1 X g hy Γ ρ ok.1.2 ds d2
                have hev := ev_callO (p := p9) (pos := pos9) g (hy.fno f gg ms hf o1) o2 (nameOk_1 o4).1 o3 hne d3 (t1 ms ok.2)
                rw [hee]
                exact so_setO g (ixOf_0 i1) hv rfl ok.1.1 hev
              · cases ho
            · obtain ⟨v, e1, rfl⟩ := Option.map_eq_some_iff.mp h
              simp only [okSt, Bool.and_eq_true, decide_eq_true_eq] at ok
              simp only [exS] at ho
              obtain ⟨d, d1, ho⟩ := Option.bind_eq_some_iff.mp ho
              split at ho
              · rename_i hl
                cases ho
                exact so_assign N fs Φ k e1 g hy ok.1.2 d1 (ixOf_0 i1) hv (.inr ⟨ok.1.1, ok.2, hl⟩)
              · cases ho
          · obtain ⟨v, e1, rfl⟩ := Option.map_eq_some_iff.mp h
            simp only [okSt, shT, Bool.and_eq_true, decide_eq_true_eq] at ok
            simp only [exS] at ho
            obtain ⟨d, d1, ho⟩ := Option.bind_eq_some_iff.mp ho
            simp only [asgT, Option.map_some, Option.some.injEq] at ho
            subst ho
            exact so_assign N fs Φ k e1 g hy ok.1.2 d1 (ixOf_0 i1) hv (.inl ⟨ok.1.1, ok.2⟩)
        · cases h
      · rename_i x p b p2
        split at h
        · rename_i hc
          simp only [Bool.and_eq_true] at hc
          obtain ⟨i, i1, h⟩ := Option.bind_eq_some_iff.mp h
          obtain ⟨v, e1, h⟩ := Option.bind_eq_some_iff.mp h
          obtain ⟨y, e2, rfl⟩ := Option.map_eq_some_iff.mp h
          simp only [okSt, Bool.and_eq_true, decide_eq_true_eq] at ok
          obtain ⟨⟨⟨⟨ok1, ok2⟩, ok3⟩, ok4⟩, ok5⟩ := ok
          simp only [exS] at ho
          obtain ⟨d, d1, ho⟩ := Option.bind_eq_some_iff.mp ho
          obtain ⟨kd, d2, ho⟩ := Option.bind_eq_some_iff.mp ho
          split at ho
          · rename_i ks ds hr
            obtain ⟨key, d3, ho⟩ := Option.bind_eq_some_iff.mp ho
            split at ho
            · rename_i hz
              cases ho
              obtain ⟨n1, n2⟩ := nameOk_1 hc.1.1.2
              exact so_putK g (ixOf_0 i1) hc.1.1.1 n1 n2 ok1 hr hz hc.1.2 d3 (((hsE sc e v e1).2 X g hy Γ ρ ok4).1 d d1 |>.2.1 ok5) (((hsE sc b y e2).2 X g hy Γ ρ ok2).1 kd d2 |>.2.1 ok3)
            · cases ho
          · rename_i ks ds hr
            obtain ⟨key, d3, ho⟩ := Option.bind_eq_some_iff.mp ho
            split at ho
            · rename_i hz
              cases ho
              obtain ⟨n1, n2⟩ := nameOk_1 hc.1.1.2
              exact so_putT g (ixOf_0 i1) hc.1.1.1 n1 n2 ok1 hr hz hc.1.2 d3 (((hsE sc e v e1).2 X g hy Γ ρ ok4).1 d d1 |>.2.1 ok5) (((hsE sc b y e2).2 X g hy Γ ρ ok2).1 kd d2 |>.2.1 ok3)
            · cases ho
          · rename_i l hr
            split at ho
            · rename_i z
              obtain ⟨j, d3, rfl⟩ := Option.map_eq_some_iff.mp ho
              obtain ⟨n1, n2⟩ := nameOk_1 hc.1.1.2
              exact so_seti g (ixOf_0 i1) hc.1.1.1 n1 n2 ok1 hr hc.1.2 hc.2 d3 (((hsE sc e v e1).2 X g hy Γ ρ ok4).1 d d1 |>.2.1 ok5) (((hsE sc b y e2).2 X g hy Γ ρ ok2).1 _ d2 |>.1)
            · cases ho
          · cases ho
        · cases h
      · rename_i ts kt p2
        split at h
        · rename_i hc
          simp only [Bool.and_eq_true] at hc
          obtain ⟨t, e2, h⟩ := Option.bind_eq_some_iff.mp h
          obtain ⟨v, e1, rfl⟩ := Option.map_eq_some_iff.mp h
          simp only [exS] at ho
          obtain ⟨d, d1, ho⟩ := Option.bind_eq_some_iff.mp ho
          obtain ⟨ρ', a1, rfl⟩ := Option.map_eq_some_iff.mp ho
          have hpg := (pg_of N k g n).1 _ t e2
          have ht : ∃ t', t = .tp t' := by
            cases n with
            | zero => simp [cT] at e2
            | succ n =>
              simp only [cT] at e2
              obtain ⟨t', _, rfl⟩ := Option.map_eq_some_iff.mp e2
              exact ⟨t', rfl⟩
          obtain ⟨t', rfl⟩ := ht
          simp only [okSt, Bool.and_eq_true] at ok
          exact so_tupB hpg ok.1.1 hc.1 (by cases e <;> first | rfl | cases hc.2) (((hsE sc e v e1).2 X g hy Γ ρ ok.1.2).1 d d1).1 a1
        · cases h
      · cases h
    | [], h => simp [cS] at h
    | _ :: _ :: _, h => simp [cS] at h
  | Expr e pos =>
    simp only [cS] at h
    split at h
    · rename_i x p mm apos a cpos
      split at h
      · rename_i hc
        simp only [Bool.and_eq_true] at hc
        obtain ⟨n1, n2⟩ := nameOk_1 hc.1.1.2
        split at h
        · rename_i hm
          subst hm
          obtain ⟨i, i1, h⟩ := Option.bind_eq_some_iff.mp h
          obtain ⟨v, e1, rfl⟩ := Option.map_eq_some_iff.mp h
          simp only [okSt, Bool.and_eq_true, decide_eq_true_eq] at ok
          simp only [exS] at ho
          obtain ⟨d, d1, ho⟩ := Option.bind_eq_some_iff.mp ho
          split at ho
          · rename_i l hr
            split at ho
            · rename_i hz
              cases ho
              exact so_app g (ixOf_0 i1) hc.1.1.1 n1 n2 hc.2 ok.1.1 hr hz hc.1.2 (((hsE sc a v e1).2 X g hy Γ ρ ok.1.2).1 d d1 |>.2.1 ok.2)
            · cases ho
          · rename_i l hr
            split at ho
            · rename_i hz
              cases ho
              exact so_dqApp g (ixOf_0 i1) hc.1.1.1 n1 n2 hc.2 ok.1.1 hr hz hc.1.2 (((hsE sc a v e1).2 X g hy Γ ρ ok.1.2).1 d d1 |>.2.1 ok.2)
            · cases ho
          · cases ho
        · split at h
          · rename_i hm
            subst hm
            obtain ⟨i, i1, h⟩ := Option.bind_eq_some_iff.mp h
            obtain ⟨v, e1, rfl⟩ := Option.map_eq_some_iff.mp h
            simp only [okSt, Bool.and_eq_true, decide_eq_true_eq] at ok
            simp only [exS] at ho
            obtain ⟨d, d1, ho⟩ := Option.bind_eq_some_iff.mp ho
            split at ho
            · rename_i l m' hr
              split at ho
              · rename_i hz
                cases ho
                exact so_ext g (ixOf_0 i1) hc.1.1.1 n1 n2 hc.2 ok.1 hr hz hc.1.2 (((hsE sc a v e1).2 X g hy Γ ρ ok.2).1 _ d1).1
              · cases ho
            · rename_i l m' hr
              split at ho
              · rename_i hz
                cases ho
                exact so_dqExt g (ixOf_0 i1) hc.1.1.1 n1 n2 hc.2 ok.1 hr hz hc.1.2 (((hsE sc a v e1).2 X g hy Γ ρ ok.2).1 _ d1).1
              · cases ho
            · cases ho
          · cases h
      · cases h
    · split at h
      · rename_i x kk a hsd
        obtain ⟨p, m1, apos, pl, cpos, m2, apos2, cpos2, hee, rfl, rfl, l1, l2, pk, pe⟩ := sdefOf_eq hsd
        split at h
        · rename_i hc
          simp only [Bool.and_eq_true] at hc
          obtain ⟨n1, n2⟩ := nameOk_1 hc.2
          obtain ⟨i, i1, h⟩ := Option.bind_eq_some_iff.mp h
          obtain ⟨y, e1, h⟩ := Option.bind_eq_some_iff.mp h
          obtain ⟨v, e2, rfl⟩ := Option.map_eq_some_iff.mp h
          simp only [okSt, Bool.and_eq_true, decide_eq_true_eq] at ok
          simp only [exS] at ho
          obtain ⟨kd, d1, ho⟩ := Option.bind_eq_some_iff.mp ho
          split at ho
          · rename_i ks ds hr
            obtain ⟨key, d2, ho⟩ := Option.bind_eq_some_iff.mp ho
            obtain ⟨r, d3, ho⟩ := Option.bind_eq_some_iff.mp ho
            obtain ⟨dv, d4, ho⟩ := Option.bind_eq_some_iff.mp ho
            obtain ⟨ds2, d5, rfl⟩ := Option.map_eq_some_iff.mp ho
            rw [hee]
            exact so_sdefT g (ixOf_0 i1) hc.1 n1 n2 l1 l2 ok.1.1.1 hr pk pe d2 d3 (((hsE sc kk y e1).2 X g hy Γ ρ ok.1.1.2).1 kd d1).1 (((hsE sc a v e2).2 X g hy Γ _ ok.1.2).1 dv d4 |>.2.1 ok.2) d5
          · cases ho
        · cases h
      split at h
      · rename_i hp
        obtain ⟨v, e1, rfl⟩ := Option.map_eq_some_iff.mp h
        simp only [okSt] at ok
        simp only [exS] at ho
        obtain ⟨d, d1, rfl⟩ := Option.map_eq_some_iff.mp ho
        exact so_drop hp (((hsE sc e v e1).2 X g hy Γ ρ ok).1 d d1).1
      · cases h
  | Return oe pos =>
    cases oe with
    | none =>
      simp only [cS, Option.some.injEq] at h
      subst h
      simp only [exS, Option.some.injEq] at ho
      subst ho
      exact so_retN
    | some e =>
      simp only [cS] at h
      obtain ⟨v, e1, rfl⟩ := Option.map_eq_some_iff.mp h
      simp only [okSt, Bool.and_eq_true] at ok
      simp only [exS] at ho
      obtain ⟨d, d1, rfl⟩ := Option.map_eq_some_iff.mp ho
      exact so_ret (((hsE sc e v e1).2 X g hy (Γ.map frM) ρ ok.1).1 d d1 |>.2.1 ok.2)
  | If c a b pos =>
    simp only [cS] at h
    obtain ⟨x, e1, h⟩ := Option.bind_eq_some_iff.mp h
    obtain ⟨y, e2, h⟩ := Option.bind_eq_some_iff.mp h
    obtain ⟨z, e3, rfl⟩ := Option.map_eq_some_iff.mp h
    simp only [okSt, Bool.and_eq_true] at ok
    simp only [exS] at ho
    obtain ⟨j, j1, ho⟩ := Option.bind_eq_some_iff.mp ho
    refine so_if (((hsE sc c x e1).2 X g hy Γ ρ ok.1.1).2 j j1) (fun w => ?_) fun w => ?_
    · subst w; exact hB Γ0 sc a y e2 X g hy hpo Γ ok.1.2 m ρ o ho
    · subst w; exact hB Γ0 sc b z e3 X g hy hpo Γ ok.2 m ρ o (by simpa using ho)
  | For tg iter body oe pos =>
    cases oe with
    | cons _ _ => simp [cS] at h
    | nil =>
      simp only [cS] at h
      split at h
      · rename_i hpl
        obtain ⟨it, e1, h⟩ := Option.bind_eq_some_iff.mp h
        obtain ⟨t, e2, h⟩ := Option.bind_eq_some_iff.mp h
        obtain ⟨b, e3, rfl⟩ := Option.map_eq_some_iff.mp h
        simp only [okSt, Bool.and_eq_true] at ok
        obtain ⟨⟨⟨ok1, ok2⟩, ok3⟩, ok4⟩ := ok
        simp only [exS] at ho
        obtain ⟨l, l1, ho⟩ := Option.bind_eq_some_iff.mp ho
        exact so_for g hpl hpo (hsI sc (isTup tg) iter it e1 X g hy _ ρ ok1 l l1 true tg isTup_eq (fun _ => ok2)) ((pg_of N k g n).1 tg t e2) ok3 (fun ρ2 o2 h2 => hB Γ0 sc body b e3 X g hy hpo _ ok4 m ρ2 o2 h2) ho
      · cases h
  | While c body oe pos =>
    cases oe with
    | cons _ _ => simp [cS] at h
    | nil =>
      simp only [cS] at h
      obtain ⟨x, e1, h⟩ := Option.bind_eq_some_iff.mp h
      obtain ⟨b, e3, rfl⟩ := Option.map_eq_some_iff.mp h
      simp only [okSt, Bool.and_eq_true] at ok
      simp only [exS] at ho
      exact so_while hpo (fun ρ2 j h2 => ((hsE sc c x e1).2 X g hy Γ ρ2 ok.1).2 j h2) (fun ρ2 o2 h2 => hB Γ0 sc body b e3 X g hy hpo Γ ok.2 m ρ2 o2 h2) ho
  | Raise exc cause pos =>
    simp only [cS, Option.some.injEq] at h
    subst h
    simp [exS] at ho
  | Pass pos =>
    simp only [cS, Option.some.injEq] at h
    subst h
    simp only [exS, Option.some.injEq] at ho
    subst ho
    exact so_pass
  | Break pos =>
    simp only [cS, Option.some.injEq] at h
    subst h
    simp only [exS, Option.some.injEq] at ho
    subst ho
    exact so_brk
  | Continue pos =>
    simp only [cS, Option.some.injEq] at h
    subst h
    simp only [exS, Option.some.injEq] at ho
    subst ho
    exact so_cnt
  | _ => simp [cS] at h
theorem sst_all : ∀ n, SS N fs Φ k n ∧ SB N fs Φ k n
  | 0 => by
    refine ⟨fun Γ0 sc st ir h => by simp [cS] at h, fun Γ0 sc sts ir h X g hy hpo Γ ok m ρ o ho => ?_⟩
    cases sts with
    | nil =>
      cases sb_nil N fs h
      simp only [exS, Option.some.injEq] at ho
      subst ho
      exact ss_nil
    | cons _ _ => simp [cB] at h
  | n + 1 => by
    obtain ⟨hS, hB⟩ := sst_all n
    exact ⟨ss_succ N fs Φ k hB, sb_succ N fs Φ k hS hB⟩
/-- THE RULE: a def whose text reads as ir, and whose reading gives what sem says, keeps the promise of sem -/
theorem def_ok {P : Program} {w : World} {K : PySem.W.Frag} {mg : Str → Option Value} {base : Heap} {x qual : Str} {st : Stmt} {f : Addr} {fd : FuncData} {ps : List Str} {ms : List Md} {sem : List D → Option D} {Γ : MEnv} {n m : Nat} {ir : S}
    (F : Fun K x qual st f fd) (S : FnScope N ps (defScope st)) (hc : cB N fs Γ n (defScope st) (defBody st) = some ir) (hok : okSt fs Γ ir = true)
    (hms : (ms.all fun m => decide (m ≠ .ow ∧ m ≠ .od)) = true) (hod : oneOd Γ = true) (hps : ms.length = ps.length) (hΓ : Γ.length = N.length) (ht : Γ.take ms.length = ms)
    (hfn : ∀ i nm ms, fs[i]? = some (nm, ms) → isMark nm = false → ∃ (f : Addr) (fd : FuncData) (ps : List Str) (j : Nat), j ≤ k ∧ mg nm = some (.ref f) ∧ PySem.W.keepIn K (.ref f) = true ∧ Binds K fd ps [] ∧ FnOk P w K mg base CX0 j f fd ps (spD K ms (Φ i)))
    (hfno : ∀ i nm ms, fs[i]? = some (nm, ms) → ownRets.contains nm = true → ∃ (f : Addr) (fd : FuncData) (ps : List Str) (j : Nat), j ≤ k ∧ mg nm = some (.ref f) ∧ PySem.W.keepIn K (.ref f) = true ∧ Binds K fd ps [] ∧ FnOk P w K mg base CX0 j f fd ps (spO K ms (Φ i)))
    (hblt : ∀ x ∈ bltNames, mg x = none) (hdq : ∀ (i : Nat) (ms : List Md), fs[i]? = some (("deque" : Str), ms) → mg "deque" = some (.type "collections.deque")) (hgen : ∀ (i : Nat) (ms : List Md), fs[i]? = some (("<genexpr>" : Str), ms) → ∃ c P, (c, P) ∈ TbC.ts ∧ fd.code = .ref c ∧ GxR.TabB base mg c P)
    (hcst : ∀ (i : Nat) (x : Str) (ms : List Md) (d : D), fs[i]? = some (x, ms) → constOf x = some d → CstAt mg x d)
    (hsem : ∀ ds d, ds.length = ms.length → sem ds = some d → runF Φ m N.length ir ds = some d) : FnOk P w K mg base CX0 (k + 1) f fd ps (spD K ms sem) := by
  refine fn_ok F S (fun m hm => by simpa using (List.all_eq_true.mp hms) m hm) hod hps hΓ ht fun X eP ew eK em eb ec g hpo ds d hl hd => ?_
  have hy : Hyp X fs Φ k := ⟨fun i nm ms hi hmk => ⟨by rw [eP, ew, eK, em, eb]; exact hfn i nm ms hi hmk⟩, fun i nm ms hi hmk => ⟨by rw [eP, ew, eK, em, eb]; exact hfno i nm ms hi hmk⟩, fun i ms hi => by rw [em]; exact hdq i ms hi, fun x hx => by rw [em]; exact hblt x hx, fun i ms hi => by unfold GenAtX; rw [em, eb, ec]; exact hgen i ms hi, fun i x ms d hi hd => by rw [em]; exact hcst i x ms d hi hd⟩
  have hr := hsem ds d hl hd
  unfold runF at hr
  obtain ⟨o, o1, o2⟩ := Option.bind_eq_some_iff.mp hr
  refine ⟨o, (sst_all N fs Φ k n).2 Γ (defScope st) (defBody st) ir hc X g hy hpo Γ hok m _ o o1, ?_⟩
  cases o with
  | ret d' => cases o2; exact .inl rfl
  | nx ρ => cases o2; exact .inr ⟨ρ, rfl, rfl⟩
  | _ => cases o2
/-- .. whose text is one «return» of what is new -/
theorem def_okO {P : Program} {w : World} {K : PySem.W.Frag} {mg : Str → Option Value} {base : Heap} {x qual : Str} {st : Stmt} {f : Addr} {fd : FuncData} {ps : List Str} {ms : List Md} {sem : List D → Option D} {Γ : MEnv} {n : Nat} {e : Expr} {rpos : Pos} {ire : E}
    (F : Fun K x qual st f fd) (S : FnScope N ps (defScope st)) (hbody : defBody st = [.Return (some e) rpos]) (hc : cE N fs n (defScope st) e = some ire) (hok : okE fs Γ ire = true) (hfr : fresh ire = true)
    (hms : (ms.all fun m => decide (m ≠ .ow ∧ m ≠ .od)) = true) (hod : oneOd Γ = true) (hps : ms.length = ps.length) (hΓ : Γ.length = N.length) (ht : Γ.take ms.length = ms)
    (hfn : ∀ i nm ms, fs[i]? = some (nm, ms) → isMark nm = false → ∃ (f : Addr) (fd : FuncData) (ps : List Str) (j : Nat), j ≤ k ∧ mg nm = some (.ref f) ∧ PySem.W.keepIn K (.ref f) = true ∧ Binds K fd ps [] ∧ FnOk P w K mg base CX0 j f fd ps (spD K ms (Φ i)))
    (hfno : ∀ i nm ms, fs[i]? = some (nm, ms) → ownRets.contains nm = true → ∃ (f : Addr) (fd : FuncData) (ps : List Str) (j : Nat), j ≤ k ∧ mg nm = some (.ref f) ∧ PySem.W.keepIn K (.ref f) = true ∧ Binds K fd ps [] ∧ FnOk P w K mg base CX0 j f fd ps (spO K ms (Φ i)))
    (hblt : ∀ x ∈ bltNames, mg x = none) (hdq : ∀ (i : Nat) (ms : List Md), fs[i]? = some (("deque" : Str), ms) → mg "deque" = some (.type "collections.deque")) (hgen : ∀ (i : Nat) (ms : List Md), fs[i]? = some (("<genexpr>" : Str), ms) → ∃ c P, (c, P) ∈ TbC.ts ∧ fd.code = .ref c ∧ GxR.TabB base mg c P)
    (hcst : ∀ (i : Nat) (x : Str) (ms : List Md) (d : D), fs[i]? = some (x, ms) → constOf x = some d → CstAt mg x d)
    (hsem : ∀ ds d, ds.length = ms.length → sem ds = some d → evE Φ ire (inD0 N.length ds) = some d ∧ isL d = true) : FnOk P w K mg base CX0 (k + 1) f fd ps (spO K ms sem) := by
  refine fn_okO F S hbody (fun m hm => by simpa using (List.all_eq_true.mp hms) m hm) hod hps hΓ ht fun X eP ew eK em eb ec g ds d hl hd => ?_
  have hy : Hyp X fs Φ k := ⟨fun i nm ms hi hmk => ⟨by rw [eP, ew, eK, em, eb]; exact hfn i nm ms hi hmk⟩, fun i nm ms hi hmk => ⟨by rw [eP, ew, eK, em, eb]; exact hfno i nm ms hi hmk⟩, fun i ms hi => by rw [em]; exact hdq i ms hi, fun x hx => by rw [em]; exact hblt x hx, fun i ms hi => by unfold GenAtX; rw [em, eb, ec]; exact hgen i ms hi, fun i x ms d hi hd => by rw [em]; exact hcst i x ms d hi hd⟩
  obtain ⟨h1, h2⟩ := hsem ds d hl hd
  exact ((((snd_all N fs Φ k n).1 (defScope st) e ire hc).2 X g hy Γ _ hok).1 d h1).2.2.1 hfr h2
end DL

set_option Elab.async false
set_option linter.all false
set_option maxRecDepth 100000
set_option maxHeartbeats 4000000
namespace DL
open PySem PySem.Spec L2
variable [TbC]

/-! ### a def as callers see it -/
structure Fg (P : Program) (w : World) (K : PySem.W.Frag) (mg : Str → Option Value) (base : Heap) (k : Nat) (nm : Str) (ms : List Md) (sem : List D → Option D) : Prop where
  ex : ∃ (f : Addr) (fd : FuncData) (ps : List Str) (j : Nat), j ≤ k ∧ mg nm = some (.ref f) ∧ PySem.W.keepIn K (.ref f) = true ∧ Binds K fd ps [] ∧ FnOk P w K mg base CX0 j f fd ps (spD K ms sem)
section
variable {P : Program} {w : World} {K : PySem.W.Frag} {mg : Str → Option Value} {base : Heap}
theorem Fg.mono {j k : Nat} {nm : Str} {ms : List Md} {sem : List D → Option D} (h : j ≤ k) (F : Fg P w K mg base j nm ms sem) : Fg P w K mg base k nm ms sem := by
  obtain ⟨f, fd, ps, i, h1, h2⟩ := F.ex
  exact ⟨f, fd, ps, i, Nat.le_trans h1 h, h2⟩
/-- what the end finds of a def -/
structure FgO (P : Program) (w : World) (K : PySem.W.Frag) (mg : Str → Option Value) (base : Heap) (k : Nat) (nm : Str) (ms : List Md) (sem : List D → Option D) : Prop where
  ex : ∃ (f : Addr) (fd : FuncData) (ps : List Str) (j : Nat), j ≤ k ∧ mg nm = some (.ref f) ∧ PySem.W.keepIn K (.ref f) = true ∧ Binds K fd ps [] ∧ FnOk P w K mg base CX0 j f fd ps (spO K ms sem)
theorem FgO.fg {k : Nat} {nm : Str} {ms : List Md} {sem : List D → Option D} (F : FgO P w K mg base k nm ms sem) : Fg P w K mg base k nm ms sem := by
  obtain ⟨f, fd, ps, j, h1, h2, h3, h4, h5⟩ := F.ex
  exact ⟨f, fd, ps, j, h1, h2, h3, h4, h5.imp spO_of⟩
theorem FgO.mono {j k : Nat} {nm : Str} {ms : List Md} {sem : List D → Option D} (h : j ≤ k) (F : FgO P w K mg base j nm ms sem) : FgO P w K mg base k nm ms sem := by
  obtain ⟨f, fd, ps, i, h1, h2⟩ := F.ex
  exact ⟨f, fd, ps, i, Nat.le_trans h1 h, h2⟩
/-- the callees that give what is new -/
def Owns (P : Program) (w : World) (K : PySem.W.Frag) (mg : Str → Option Value) (base : Heap) (k : Nat) (fs : List (Str × List Md)) (Φ : Nat → List D → Option D) : Prop := ∀ i nm ms, fs[i]? = some (nm, ms) → ownRets.contains nm = true → FgO P w K mg base k nm ms (Φ i)
theorem owns_no {k : Nat} {fs : List (Str × List Md)} {Φ : Nat → List D → Option D} (h : fs.all (fun p => !ownRets.contains p.1) = true) : Owns P w K mg base k fs Φ := fun i nm ms e o => by
  have := List.all_eq_true.mp h _ (List.mem_of_getElem? e)
  simp only [o, Bool.not_true] at this
  cases this
theorem owns_cons {k : Nat} {Φ : Nat → List D → Option D} {nm : Str} {ms : List Md} {fs : List (Str × List Md)} (h0 : FgO P w K mg base k nm ms (Φ 0)) (h : Owns P w K mg base k fs (fun i => Φ (i + 1))) : Owns P w K mg base k ((nm, ms) :: fs) Φ
  | 0, _, _, e, _ => by simp at e; obtain ⟨rfl, rfl⟩ := e; exact h0
  | i + 1, nm', ms', e, hm => h i nm' ms' (by simpa using e) hm
theorem owns_skip {k : Nat} {Φ : Nat → List D → Option D} {nm : Str} {ms : List Md} {fs : List (Str × List Md)} (h0 : ownRets.contains nm = false) (h : Owns P w K mg base k fs (fun i => Φ (i + 1))) : Owns P w K mg base k ((nm, ms) :: fs) Φ
  | 0, _, _, e, hm => by simp at e; obtain ⟨rfl, rfl⟩ := e; rw [h0] at hm; cases hm
  | i + 1, nm', ms', e, hm => h i nm' ms' (by simpa using e) hm
structure Fw (K : PySem.W.Frag) (mg : Str → Option Value) (x : Str) (st : Stmt) (ps : List Str) : Prop where
  ex : ∃ (f : Addr) (fd : FuncData), mg x = some (.ref f) ∧ Fun K x x st f fd ∧ Binds K fd ps []
theorem cst_no {fs : List (Str × List Md)} (h : fs.all (fun p => (constOf p.1).isNone) = true) : ∀ (i : Nat) (x : Str) (ms : List Md) (d : D), fs[i]? = some (x, ms) → constOf x = some d → CstAt mg x d := fun i x ms d e hd => by
  have := List.all_eq_true.mp h _ (List.mem_of_getElem? e)
  simp only [hd] at this
  cases this
/-- .. found one by one -/
theorem cst_all {fs : List (Str × List Md)} (L : List Str) (h : fs.all (fun p => (constOf p.1).isNone || L.contains p.1) = true) (hL : ∀ x ∈ L, ∀ d, constOf x = some d → CstAt mg x d) : ∀ (i : Nat) (x : Str) (ms : List Md) (d : D), fs[i]? = some (x, ms) → constOf x = some d → CstAt mg x d := fun i x ms d e hd => by
  have := List.all_eq_true.mp h _ (List.mem_of_getElem? e)
  simp only [hd, Option.isNone_some, Bool.false_or] at this
  exact hL x (by simpa using this) d hd
theorem no_gen {fs : List (Str × List Md)} {p : Prop} (h : fs.all (fun p => !(p.1 == ("<genexpr>" : Str))) = true) : ∀ (i : Nat) (ms : List Md), fs[i]? = some (("<genexpr>" : Str), ms) → p := fun i ms e => by
  have := List.all_eq_true.mp h _ (List.mem_of_getElem? e)
  simp at this
structure FwC (K : PySem.W.Frag) (mg : Str → Option Value) (x : Str) (st : Stmt) (ps : List Str) (c : Addr) : Prop where
  ex : ∃ (f : Addr) (fd : FuncData), mg x = some (.ref f) ∧ Fun K x x st f fd ∧ Binds K fd ps [] ∧ fd.code = .ref c
theorem fg_ok (N : List Str) (fs : List (Str × List Md)) (Φ : Nat → List D → Option D) (k : Nat) {x : Str} {st : Stmt} {ps : List Str} {ms : List Md} {Γ : MEnv} {n m : Nat} {ir : S}
    (W : Fw K mg x st ps) (S : FnScope N ps (defScope st)) (hc : cB N fs Γ n (defScope st) (defBody st) = some ir) (hok : okSt fs Γ ir = true)
    (hblt : ∀ x ∈ bltNames, mg x = none) (hfn : ∀ i nm ms, fs[i]? = some (nm, ms) → isMark nm = false → Fg P w K mg base k nm ms (Φ i))
    (hdq : ∀ (i : Nat) (ms : List Md), fs[i]? = some (("deque" : Str), ms) → mg "deque" = some (.type "collections.deque"))
    (hgn : fs.all (fun p => !(p.1 == ("<genexpr>" : Str))) = true := by decide) (hfo : Owns P w K mg base k fs Φ := by exact owns_no (by decide)) (hcs : ∀ (i : Nat) (x : Str) (ms : List Md) (d : D), fs[i]? = some (x, ms) → constOf x = some d → CstAt mg x d := by exact cst_no (by decide)) (hms : (ms.all fun m => decide (m ≠ .ow ∧ m ≠ .od)) = true := by decide) (hod : oneOd Γ = true := by decide) (hps : ms.length = ps.length := by rfl) (hΓ : Γ.length = N.length := by rfl) (ht : Γ.take ms.length = ms := by rfl) : Fg P w K mg base (k + 1) x ms (runF Φ m N.length ir) := by
  obtain ⟨f, fd, h1, F, b⟩ := W.ex
  exact ⟨f, fd, ps, k + 1, Nat.le_refl _, h1, F.kp, b, def_ok N fs Φ k F S hc hok hms hod hps hΓ ht (fun i nm ms h hm => (hfn i nm ms h hm).ex) (fun i nm ms h hm => (hfo i nm ms h hm).ex) hblt hdq (no_gen hgn) hcs (fun ds d _ h => h)⟩
/-- .. of a def with generator expressions -/
theorem fg_okG (N : List Str) (fs : List (Str × List Md)) (Φ : Nat → List D → Option D) (k : Nat) {x : Str} {st : Stmt} {ps : List Str} {ms : List Md} {Γ : MEnv} {n m : Nat} {ir : S}
    {c P' : Addr} (W : FwC K mg x st ps c) (hts : (c, P') ∈ TbC.ts) (TB : GxR.TabB base mg c P') (S : FnScope N ps (defScope st)) (hc : cB N fs Γ n (defScope st) (defBody st) = some ir) (hok : okSt fs Γ ir = true)
    (hblt : ∀ x ∈ bltNames, mg x = none) (hfn : ∀ i nm ms, fs[i]? = some (nm, ms) → isMark nm = false → Fg P w K mg base k nm ms (Φ i))
    (hdq : ∀ (i : Nat) (ms : List Md), fs[i]? = some (("deque" : Str), ms) → mg "deque" = some (.type "collections.deque"))
    (hfo : Owns P w K mg base k fs Φ := by exact owns_no (by decide)) (hcs : ∀ (i : Nat) (x : Str) (ms : List Md) (d : D), fs[i]? = some (x, ms) → constOf x = some d → CstAt mg x d := by exact cst_no (by decide)) (hms : (ms.all fun m => decide (m ≠ .ow ∧ m ≠ .od)) = true := by decide) (hod : oneOd Γ = true := by decide) (hps : ms.length = ps.length := by rfl) (hΓ : Γ.length = N.length := by rfl) (ht : Γ.take ms.length = ms := by rfl) : Fg P w K mg base (k + 1) x ms (runF Φ m N.length ir) := by
  obtain ⟨f, fd, h1, F, b, ec⟩ := W.ex
  exact ⟨f, fd, ps, k + 1, Nat.le_refl _, h1, F.kp, b, def_ok N fs Φ k F S hc hok hms hod hps hΓ ht (fun i nm ms h hm => (hfn i nm ms h hm).ex) (fun i nm ms h hm => (hfo i nm ms h hm).ex) hblt hdq (fun _ _ _ => ⟨c, P', hts, ec, TB⟩) hcs (fun ds d _ h => h)⟩
/-- .. that gives what is new -/
theorem fg_okO (N : List Str) (fs : List (Str × List Md)) (Φ : Nat → List D → Option D) (k : Nat) {x : Str} {st : Stmt} {ps : List Str} {ms : List Md} {Γ : MEnv} {n : Nat} {e : Expr} {rpos : Pos} {ire : E} {sem : List D → Option D}
    (W : Fw K mg x st ps) (S : FnScope N ps (defScope st)) (hbody : defBody st = [.Return (some e) rpos]) (hc : cE N fs n (defScope st) e = some ire) (hok : okE fs Γ ire = true) (hfr : fresh ire = true)
    (hsem : ∀ ds d, ds.length = ms.length → sem ds = some d → evE Φ ire (inD0 N.length ds) = some d ∧ isL d = true)
    (hblt : ∀ x ∈ bltNames, mg x = none) (hfn : ∀ i nm ms, fs[i]? = some (nm, ms) → isMark nm = false → Fg P w K mg base k nm ms (Φ i))
    (hdq : ∀ (i : Nat) (ms : List Md), fs[i]? = some (("deque" : Str), ms) → mg "deque" = some (.type "collections.deque"))
    (hgn : fs.all (fun p => !(p.1 == ("<genexpr>" : Str))) = true := by decide) (hfo : Owns P w K mg base k fs Φ := by exact owns_no (by decide))
    (hcs : ∀ (i : Nat) (x : Str) (ms : List Md) (d : D), fs[i]? = some (x, ms) → constOf x = some d → CstAt mg x d := by exact cst_no (by decide)) (hms : (ms.all fun m => decide (m ≠ .ow ∧ m ≠ .od)) = true := by decide) (hod : oneOd Γ = true := by decide) (hps : ms.length = ps.length := by rfl) (hΓ : Γ.length = N.length := by rfl) (ht : Γ.take ms.length = ms := by rfl) : FgO P w K mg base (k + 1) x ms sem := by
  obtain ⟨f, fd, h1, F, b⟩ := W.ex
  exact ⟨f, fd, ps, k + 1, Nat.le_refl _, h1, F.kp, b, def_okO N fs Φ k F S hbody hc hok hfr hms hod hps hΓ ht (fun i nm ms h hm => (hfn i nm ms h hm).ex) (fun i nm ms h hm => (hfo i nm ms h hm).ex) hblt hdq (no_gen hgn) hcs hsem⟩
/-- the callees, one by one -/
theorem fns_nil {k : Nat} {Φ : Nat → List D → Option D} : ∀ i nm ms, ([] : List (Str × List Md))[i]? = some (nm, ms) → isMark nm = false → Fg P w K mg base k nm ms (Φ i) := fun i nm ms h => by simp at h
theorem fns_cons {k : Nat} {Φ : Nat → List D → Option D} {nm : Str} {ms : List Md} {fs : List (Str × List Md)} (h0 : Fg P w K mg base k nm ms (Φ 0)) (h : ∀ i nm ms, fs[i]? = some (nm, ms) → isMark nm = false → Fg P w K mg base k nm ms (Φ (i + 1))) : ∀ i nm' ms', ((nm, ms) :: fs)[i]? = some (nm', ms') → isMark nm' = false → Fg P w K mg base k nm' ms' (Φ i)
  | 0, _, _, e, _ => by simp at e; obtain ⟨rfl, rfl⟩ := e; exact h0
  | i + 1, nm', ms', e, hm => h i nm' ms' (by simpa using e) hm
/-- a mark -/
theorem fns_mark {k : Nat} {Φ : Nat → List D → Option D} {nm : Str} {ms : List Md} {fs : List (Str × List Md)} (h0 : isMark nm = true) (h : ∀ i nm ms, fs[i]? = some (nm, ms) → isMark nm = false → Fg P w K mg base k nm ms (Φ (i + 1))) : ∀ i nm' ms', ((nm, ms) :: fs)[i]? = some (nm', ms') → isMark nm' = false → Fg P w K mg base k nm' ms' (Φ i)
  | 0, _, _, e, hm => by simp at e; obtain ⟨rfl, rfl⟩ := e; rw [h0] at hm; cases hm
  | i + 1, nm', ms', e, hm => h i nm' ms' (by simpa using e) hm
/-- no deque among the names -/
theorem no_dq {fs : List (Str × List Md)} (h : fs.all (fun p => !(p.1 == ("deque" : Str))) = true) : ∀ (i : Nat) (ms : List Md), fs[i]? = some (("deque" : Str), ms) → mg "deque" = some (.type "collections.deque") := fun i ms e => by
  have := List.all_eq_true.mp h _ (List.mem_of_getElem? e)
  simp at this
end
/-- the end of a law -/
theorem law_walk {l : PySem.W.OpenLaw} {q : Program} {loose : List Str} {XP : (Str → Option Value) → Heap → Prop} {YP : World → Heap → Prop} {d : DefRec} {K : Params → PySem.W.Frag} {k : Nat} {m : Md} {sem : List D → Option D} {x : Str} (hn : l.most = some 63) (hdf : d.params.defaults = []) (hk : Room k callerA) (hm : m ≠ .ow) (hts : ∀ p, p ∉ TbC.ts)
    (hsem : ∀ ns : List Int, ns.length ≤ 63 → sem [.scr (ns.map D.int)] = some (.bl true))
    (hY : ∀ (w : World) (h : Heap), YP w h → (K w.params).In h)
    (F : ∀ (w : World) (mg : Str → Option Value) (fa : Addr) (h : Heap), (K w.params).In h → h.Ns mainGlobals mg → mg d.name = some (.ref fa) →
      ∃ fd : FuncData, (∀ (s : Shared) (u : Value), BindsTo s fd ⟨[u], []⟩ [(x, u)]) ∧ ∀ base : Heap, (K w.params).In base → base.Ns mainGlobals mg → FnOk l.prog w (K w.params) mg base CX0 k fa fd [x] (spD (K w.params) [m] sem)) :
    PySem.W.WalkO q loose XP YP l.row.toRowW d [] (fun f vs => PySem.call f vs) :=
  L2.walk_of (n := 63) (k := k) (x := x) (CX := fun _ => CX0) (sp := fun w => spD (K w.params) [m] sem) hn (by decide) hdf hk hY F (fun w H a ns hl _ hS => by
    have r : Rep (K w.params) H (.ref a) (.scr (ns.map D.int)) := by
      refine .scr hS ?_
      clear hl hS
      induction ns with
      | nil => exact .nil
      | cons n ns ih => exact .cons (.int n) ih
    refine ⟨H, [.scr (ns.map D.int)], .bl true, .refl _, fun p hp => (hts p hp).elim, .cons ?_ .nil, hsem ns hl, fun v B' H' _ r => ?_⟩
    · cases m with
      | sh => exact r
      | bo => exact .inl r
      | ow => exact absurd rfl hm
      | od => exact .inl r
    · cases r; rfl) fun _ _ _ _ _ z => z
end DL

set_option Elab.async false
set_option linter.all false
set_option maxRecDepth 100000
set_option maxHeartbeats 4000000

/-! The readings of the defs of notfound_k06_kept_out. -/
namespace R
open PySem L2 DL
def top (i : Nat) : Stmt := PySem.Challenge.pw_notfound_k06_kept_out.main.body.getD i (.Pass ⟨0, 0, 0, 0⟩)
/-! ### facts_of -/
abbrev s_facts_of : Stmt := top 2
def N_facts_of : List Str := ["filled", "facts", "_", "head", "yeses", "nots"]
def F_facts_of : List (Str × List Md) := []
def G_facts_of : MEnv := [.bo, .ow, .sh, .sh, .sh, .sh]
def lp_facts_of_1 : S := (.seq (.ext 1 (.lst (.cons (.var 3) (.star (.var 4) (.star (.var 5) .nil))))) .nx)
def sq_facts_of_2 : S := (.seq (.ret (.var 1)) .nx)
def sq_facts_of_1 : S := (.seq (.for_ [0, 2, 3, 4, 5] (.tp (.cn (.nm 2) (.cn (.nm 3) (.cn (.nm 4) (.cn (.nm 5) .nl))))) (.iV (.var 0)) lp_facts_of_1) sq_facts_of_2)
def ir_facts_of : S := .seq (.asgO 1 (.lst .nil)) sq_facts_of_1
def Φ_facts_of : Nat → List D → Option D
  | _ => fun _ => none
def sem_facts_of : List D → Option D := runF Φ_facts_of 1000 6 ir_facts_of
theorem sc_facts_of : FnScope N_facts_of ["filled"] (defScope s_facts_of) := ⟨rfl, rfl, rfl, by decide +kernel, rfl, by decide +kernel, by decide +kernel⟩
theorem rd_facts_of : cB N_facts_of F_facts_of G_facts_of 200 (defScope s_facts_of) (defBody s_facts_of) = some ir_facts_of := by kernel_rfl
theorem md_facts_of : okSt F_facts_of G_facts_of ir_facts_of = true := by decide +kernel
/-! ### marked -/
abbrev s_marked : Stmt := top 3
def N_marked : List Str := ["facts", "fact"]
def F_marked : List (Str × List Md) := [("{}", [])]
def G_marked : MEnv := [.bo, .sh]
def ir_marked : S := .seq (.ret (.dcT (.nm 1) [1] (.var 1) (.con (.bl true)) (.iV (.var 0)) .nop)) .nx
def Φ_marked : Nat → List D → Option D
  | _ => fun _ => none
def sem_marked : List D → Option D := runF Φ_marked 1000 2 ir_marked
theorem sc_marked : FnScope N_marked ["facts"] (defScope s_marked) := ⟨rfl, rfl, rfl, by decide +kernel, rfl, by decide +kernel, by decide +kernel⟩
theorem rd_marked : cB N_marked F_marked G_marked 200 (defScope s_marked) (defBody s_marked) = some ir_marked := by kernel_rfl
theorem md_marked : okSt F_marked G_marked ir_marked = true := by decide +kernel
/-! ### places_by_yes -/
abbrev s_places_by_yes : Stmt := top 4
def N_places_by_yes : List Str := ["filled", "places", "users", "place", "fact"]
def F_places_by_yes : List (Str × List Md) := [("{}", [])]
def G_places_by_yes : MEnv := [.bo, .bo, .od, .sh, .sh]
def lp_places_by_yes_1 : S := (.seq (.sdef 2 (.var 4) (.var 3)) .nx)
def lp_places_by_yes_2 : S := (.seq (.for_ [0, 1, 3, 4] (.nm 4) (.iV (.op2 .ix (.op2 .ix (.var 0) (.var 3)) (.con (.int 2)))) lp_places_by_yes_1) .nx)
def sq_places_by_yes_2 : S := (.seq (.ret (.var 2)) .nx)
def sq_places_by_yes_1 : S := (.seq (.for_ [0, 1, 3] (.nm 3) (.iV (.var 1)) lp_places_by_yes_2) sq_places_by_yes_2)
def ir_places_by_yes : S := .seq (.newd 2 true) sq_places_by_yes_1
def Φ_places_by_yes : Nat → List D → Option D
  | _ => fun _ => none
def sem_places_by_yes : List D → Option D := runF Φ_places_by_yes 1000 5 ir_places_by_yes
theorem sc_places_by_yes : FnScope N_places_by_yes ["filled", "places"] (defScope s_places_by_yes) := ⟨rfl, rfl, rfl, by decide +kernel, rfl, by decide +kernel, by decide +kernel⟩
theorem rd_places_by_yes : cB N_places_by_yes F_places_by_yes G_places_by_yes 200 (defScope s_places_by_yes) (defBody s_places_by_yes) = some ir_places_by_yes := by kernel_rfl
theorem md_places_by_yes : okSt F_places_by_yes G_places_by_yes ir_places_by_yes = true := by decide +kernel
/-! ### chained -/
abbrev s_chained : Stmt := top 5
def N_chained : List Str := ["filled", "places", "held", "met", "users", "pairs", "queue", "place", "_", "head", "yeses", "fact"]
def F_chained : List (Str × List Md) := [("marked", [.bo]), ("places_by_yes", [.bo, .bo]), ("deque", []), ("<genexpr>", [])]
def G_chained : MEnv := [.bo, .bo, .bo, .ow, .sh, .ow, .ow, .sh, .sh, .sh, .sh, .sh]
def sq_chained_2 : S := (.seq (.ite (.and (.op2 .notin (.var 9) (.var 3)) (.qin true (.var 10) 3)) (.seq (.setk 3 (.var 9) (.con (.bl true))) (.seq (.app 5 (.tup (.cons (.var 9) (.cons (.var 7) .nil)))) (.seq (.ext 6 (.op3 .get (.var 4) (.var 9) (.lst .nil))) .nx))) .nx) .nx)
def sq_chained_1 : S := (.seq (.asg (.tp (.cn (.nm 8) (.cn (.nm 9) (.cn (.nm 10) (.cn (.nm 8) .nl))))) (.op2 .ix (.var 0) (.var 7))) sq_chained_2)
def lp_chained_1 : S := (.seq (.popl 7 6) sq_chained_1)
def sq_chained_7 : S := (.seq (.ret (.var 5)) .nx)
def sq_chained_6 : S := (.seq (.while_ (.var 6) lp_chained_1) sq_chained_7)
def sq_chained_5 : S := (.seq (.asgO 6 (.deq (.var 1))) sq_chained_6)
def sq_chained_4 : S := (.seq (.asgO 5 (.lst .nil)) sq_chained_5)
def sq_chained_3 : S := (.seq (.asg (.nm 4) (.call 1 (.cons (.var 0) (.cons (.var 1) .nil)))) sq_chained_4)
def ir_chained : S := .seq (.asgC 3 0 (.cons (.var 2) .nil)) sq_chained_3
def Φ_chained : Nat → List D → Option D
  | 0 => sem_marked
  | 1 => sem_places_by_yes
  | _ => fun _ => none
def sem_chained : List D → Option D := runF Φ_chained 1000 12 ir_chained
theorem sc_chained : FnScope N_chained ["filled", "places", "held"] (defScope s_chained) := ⟨rfl, rfl, rfl, by decide +kernel, rfl, by decide +kernel, by decide +kernel⟩
theorem rd_chained : cB N_chained F_chained G_chained 200 (defScope s_chained) (defBody s_chained) = some ir_chained := by kernel_rfl
theorem md_chained : okSt F_chained G_chained ir_chained = true := by decide +kernel
/-! ### enterable -/
abbrev s_enterable : Stmt := top 6
def N_enterable : List Str := ["filled", "told", "refuted", "yes", "no", "places", "place", "_", "yeses", "nots", "fact"]
def F_enterable : List (Str × List Md) := [("marked", [.bo]), ("chained", [.bo, .bo, .bo]), ("<genexpr>", [])]
def G_enterable : MEnv := [.bo, .bo, .bo, .sh, .sh, .ow, .sh, .sh, .sh, .sh, .sh]
def lp_enterable_1 : S := (.seq (.ite (.and (.not (.qin false (.var 8) 4)) (.not (.qin false (.var 9) 3))) (.seq (.app 5 (.var 6)) .nx) .nx) .nx)
def sq_enterable_4 : S := (.seq (.ret (.call 1 (.cons (.var 0) (.cons (.var 5) (.cons (.var 1) .nil))))) .nx)
def sq_enterable_3 : S := (.seq (.for_ [0, 1, 2, 3, 4, 6, 7, 8, 9, 10] (.tp (.cn (.nm 6) (.cn (.tp (.cn (.nm 7) (.cn (.nm 7) (.cn (.nm 8) (.cn (.nm 9) .nl))))) .nl))) (.iEn (.var 0)) lp_enterable_1) sq_enterable_4)
def sq_enterable_2 : S := (.seq (.asgO 5 (.lst .nil)) sq_enterable_3)
def sq_enterable_1 : S := (.seq (.asg (.nm 4) (.call 0 (.cons (.var 2) .nil))) sq_enterable_2)
def ir_enterable : S := .seq (.asg (.nm 3) (.call 0 (.cons (.var 1) .nil))) sq_enterable_1
def Φ_enterable : Nat → List D → Option D
  | 0 => sem_marked
  | 1 => sem_chained
  | _ => fun _ => none
def sem_enterable : List D → Option D := runF Φ_enterable 1000 11 ir_enterable
theorem sc_enterable : FnScope N_enterable ["filled", "told", "refuted"] (defScope s_enterable) := ⟨rfl, rfl, rfl, by decide +kernel, rfl, by decide +kernel, by decide +kernel⟩
theorem rd_enterable : cB N_enterable F_enterable G_enterable 200 (defScope s_enterable) (defBody s_enterable) = some ir_enterable := by kernel_rfl
theorem md_enterable : okSt F_enterable G_enterable ir_enterable = true := by decide +kernel
/-! ### kept_out -/
abbrev s_kept_out : Stmt := top 7
def N_kept_out : List Str := ["filled", "told", "refuted", "heads", "head", "_", "others", "fact"]
def F_kept_out : List (Str × List Md) := [("marked", [.bo]), ("enterable", [.bo, .bo, .bo]), ("facts_of", [.bo])]
def G_kept_out : MEnv := [.bo, .sh, .sh, .sh, .sh, .sh, .sh, .sh]
def el_kept_out_1 : E := (.var 4)
def sq_kept_out_2 : S := (.seq (.ret (.ss1 (.nm 7) [7] (.var 7) (.iV (.call 2 (.cons (.var 0) .nil))) (.op2 .notin (.var 7) (.var 6)))) .nx)
def sq_kept_out_1 : S := (.seq (.asg (.nm 6) (.call 0 (.cons (.lst (.star (.var 1) (.star (.var 2) (.star (.var 3) .nil)))) .nil))) sq_kept_out_2)
def ir_kept_out : S := .seq (.asg (.nm 3) (.lc (.tp (.cn (.nm 4) (.cn (.nm 5) .nl))) [4, 5] el_kept_out_1 (.iV (.call 1 (.cons (.var 0) (.cons (.var 1) (.cons (.var 2) .nil))))) .nop)) sq_kept_out_1
def Φ_kept_out : Nat → List D → Option D
  | 0 => sem_marked
  | 1 => sem_enterable
  | 2 => sem_facts_of
  | _ => fun _ => none
def sem_kept_out : List D → Option D := runF Φ_kept_out 1000 8 ir_kept_out
theorem sc_kept_out : FnScope N_kept_out ["filled", "told", "refuted"] (defScope s_kept_out) := ⟨rfl, rfl, rfl, by decide +kernel, rfl, by decide +kernel, by decide +kernel⟩
theorem rd_kept_out : cB N_kept_out F_kept_out G_kept_out 200 (defScope s_kept_out) (defBody s_kept_out) = some ir_kept_out := by kernel_rfl
theorem md_kept_out : okSt F_kept_out G_kept_out ir_kept_out = true := by decide +kernel
/-! ### _law_cell_at -/
abbrev s_l_cell_at : Stmt := top 9
def N_l_cell_at : List Str := ["_law_script", "_law_k"]
def F_l_cell_at : List (Str × List Md) := []
def G_l_cell_at : MEnv := [.bo, .bo]
def sq_l_cell_at_1 : S := (.seq (.ret (.con (.int 0))) .nx)
def ir_l_cell_at : S := .seq (.ite (.op2 .lt (.var 1) (.op1 .len (.var 0))) (.seq (.ret (.op2 .ix (.var 0) (.var 1))) .nx) .nx) sq_l_cell_at_1
def Φ_l_cell_at : Nat → List D → Option D
  | _ => fun _ => none
def sem_l_cell_at : List D → Option D := runF Φ_l_cell_at 1000 2 ir_l_cell_at
theorem sc_l_cell_at : FnScope N_l_cell_at ["_law_script", "_law_k"] (defScope s_l_cell_at) := ⟨rfl, rfl, rfl, by decide +kernel, rfl, by decide +kernel, by decide +kernel⟩
theorem rd_l_cell_at : cB N_l_cell_at F_l_cell_at G_l_cell_at 200 (defScope s_l_cell_at) (defBody s_l_cell_at) = some ir_l_cell_at := by kernel_rfl
theorem md_l_cell_at : okSt F_l_cell_at G_l_cell_at ir_l_cell_at = true := by decide +kernel
/-! ### _law_word_by -/
abbrev s_l_word_by : Stmt := top 10
def N_l_word_by : List Str := ["_law_cell", "_law_k", "_law_letters", "_law_base", "_law_j", "_law_at", "_law_tail", "_law_found"]
def F_l_word_by : List (Str × List Md) := []
def G_l_word_by : MEnv := [.bo, .bo, .sh, .sh, .sh, .sh, .sh, .sh]
def lp_l_word_by_1 : S := (.seq (.asg (.nm 7) (.op2 .add (.var 7) (.op2 .ix (.var 2) (.op2 .mod (.op2 .add (.op2 .add (.op2 .fdiv (.var 0) (.con (.int 208))) (.op2 .mul (.con (.int 5)) (.var 4))) (.var 1)) (.con (.int 26)))))) .nx)
def el_l_word_by_2 : E := (.op2 .ix (.var 2) (.op2 .mod (.op2 .add (.op2 .fdiv (.var 0) (.con (.int 208))) (.op2 .mul (.con (.int 5)) (.var 4))) (.con (.int 26))))
def sq_l_word_by_7 : S := (.seq (.ret (.var 7)) .nx)
def sq_l_word_by_6 : S := (.seq (.for_ [0, 1, 2, 3, 4, 5, 6] (.nm 4) (.iR1 (.op2 .mod (.op2 .add (.op2 .fdiv (.var 0) (.con (.int 26))) (.op2 .mul (.con (.int 3)) (.var 1))) (.con (.int 8)))) lp_l_word_by_1) sq_l_word_by_7)
def sq_l_word_by_5 : S := (.seq (.asg (.nm 7) (.op2 .ix (.var 2) (.op2 .mod (.op2 .add (.var 0) (.var 1)) (.con (.int 26))))) sq_l_word_by_6)
def sq_l_word_by_4 : S := (.seq (.ite (.op2 .eq (.op2 .mod (.var 0) (.con (.int 4))) (.con (.int 2))) (.seq (.ret (.sl (.var 3) .nop (.cons (.op2 .add (.con (.int 1)) (.var 1)) .nil))) .nx) .nx) sq_l_word_by_5)
def sq_l_word_by_3 : S := (.seq (.ite (.op2 .eq (.op2 .mod (.var 0) (.con (.int 4))) (.con (.int 1))) (.seq (.asg (.nm 6) (.sl (.var 3) (.cons (.var 5) .nil) (.cons (.op2 .add (.var 5) (.op2 .mod (.op2 .fdiv (.var 0) (.con (.int 5))) (.op2 .sub (.con (.int 8)) (.var 5)))) .nil))) (.seq (.ret (.op2 .add (.op2 .add (.sl (.var 3) .nop (.cons (.var 5) .nil)) (.op2 .ix (.var 2) (.op2 .mod (.op2 .add (.var 0) (.var 1)) (.con (.int 26))))) (.var 6))) .nx)) .nx) sq_l_word_by_4)
def sq_l_word_by_2 : S := (.seq (.asg (.nm 5) (.op2 .mod (.op2 .fdiv (.var 0) (.con (.int 26))) (.con (.int 8)))) sq_l_word_by_3)
def sq_l_word_by_1 : S := (.seq (.asg (.nm 3) (.op2 .join (.con (.str ⟨#[]⟩)) (.lc (.nm 4) [4] el_l_word_by_2 (.iR1 (.con (.int 8))) .nop))) sq_l_word_by_2)
def ir_l_word_by : S := .seq (.asg (.nm 2) (.con (.str ⟨#[97, 98, 99, 100, 101, 102, 103, 104, 105, 106, 107, 108, 109, 110, 111, 112, 113, 114, 115, 116, 117, 118, 119, 120, 121, 122]⟩))) sq_l_word_by_1
def Φ_l_word_by : Nat → List D → Option D
  | _ => fun _ => none
def sem_l_word_by : List D → Option D := runF Φ_l_word_by 1000 8 ir_l_word_by
theorem sc_l_word_by : FnScope N_l_word_by ["_law_cell", "_law_k"] (defScope s_l_word_by) := ⟨rfl, rfl, rfl, by decide +kernel, rfl, by decide +kernel, by decide +kernel⟩
theorem rd_l_word_by : cB N_l_word_by F_l_word_by G_l_word_by 200 (defScope s_l_word_by) (defBody s_l_word_by) = some ir_l_word_by := by kernel_rfl
theorem md_l_word_by : okSt F_l_word_by G_l_word_by ir_l_word_by = true := by decide +kernel
/-! ### _law_thing_by -/
abbrev s_l_thing_by : Stmt := top 11
def N_l_thing_by : List Str := ["_law_cell", "_law_k", "_law_signs", "_law_base", "_law_j", "_law_at", "_law_tail", "_law_found"]
def F_l_thing_by : List (Str × List Md) := []
def G_l_thing_by : MEnv := [.bo, .bo, .sh, .sh, .sh, .sh, .sh, .sh]
def lp_l_thing_by_1 : S := (.seq (.asg (.nm 7) (.op2 .add (.var 7) (.op2 .ix (.var 2) (.op2 .mod (.op2 .add (.op2 .add (.op2 .fdiv (.var 0) (.con (.int 288))) (.op2 .mul (.con (.int 7)) (.var 4))) (.var 1)) (.con (.int 36)))))) .nx)
def el_l_thing_by_2 : E := (.op2 .ix (.var 2) (.op2 .mod (.op2 .add (.op2 .fdiv (.var 0) (.con (.int 288))) (.op2 .mul (.con (.int 7)) (.var 4))) (.con (.int 36))))
def sq_l_thing_by_7 : S := (.seq (.ret (.var 7)) .nx)
def sq_l_thing_by_6 : S := (.seq (.for_ [0, 1, 2, 3, 4, 5, 6] (.nm 4) (.iR1 (.op2 .mod (.op2 .add (.op2 .fdiv (.var 0) (.con (.int 36))) (.op2 .mul (.con (.int 3)) (.var 1))) (.con (.int 8)))) lp_l_thing_by_1) sq_l_thing_by_7)
def sq_l_thing_by_5 : S := (.seq (.asg (.nm 7) (.op2 .ix (.var 2) (.op2 .mod (.op2 .add (.var 0) (.var 1)) (.con (.int 36))))) sq_l_thing_by_6)
def sq_l_thing_by_4 : S := (.seq (.ite (.op2 .eq (.op2 .mod (.var 0) (.con (.int 4))) (.con (.int 2))) (.seq (.ret (.sl (.var 3) .nop (.cons (.op2 .add (.con (.int 1)) (.var 1)) .nil))) .nx) .nx) sq_l_thing_by_5)
def sq_l_thing_by_3 : S := (.seq (.ite (.op2 .eq (.op2 .mod (.var 0) (.con (.int 4))) (.con (.int 1))) (.seq (.asg (.nm 6) (.sl (.var 3) (.cons (.var 5) .nil) (.cons (.op2 .add (.var 5) (.op2 .mod (.op2 .fdiv (.var 0) (.con (.int 5))) (.op2 .sub (.con (.int 8)) (.var 5)))) .nil))) (.seq (.ret (.op2 .add (.op2 .add (.sl (.var 3) .nop (.cons (.var 5) .nil)) (.op2 .ix (.var 2) (.op2 .mod (.op2 .add (.var 0) (.var 1)) (.con (.int 36))))) (.var 6))) .nx)) .nx) sq_l_thing_by_4)
def sq_l_thing_by_2 : S := (.seq (.asg (.nm 5) (.op2 .mod (.op2 .fdiv (.var 0) (.con (.int 36))) (.con (.int 8)))) sq_l_thing_by_3)
def sq_l_thing_by_1 : S := (.seq (.asg (.nm 3) (.op2 .join (.con (.str ⟨#[]⟩)) (.lc (.nm 4) [4] el_l_thing_by_2 (.iR1 (.con (.int 8))) .nop))) sq_l_thing_by_2)
def ir_l_thing_by : S := .seq (.asg (.nm 2) (.con (.str ⟨#[48, 49, 50, 51, 52, 53, 54, 55, 56, 57, 97, 98, 99, 100, 101, 102, 103, 104, 105, 106, 107, 108, 109, 110, 111, 112, 113, 114, 115, 116, 117, 118, 119, 120, 121, 122]⟩))) sq_l_thing_by_1
def Φ_l_thing_by : Nat → List D → Option D
  | _ => fun _ => none
def sem_l_thing_by : List D → Option D := runF Φ_l_thing_by 1000 8 ir_l_thing_by
theorem sc_l_thing_by : FnScope N_l_thing_by ["_law_cell", "_law_k"] (defScope s_l_thing_by) := ⟨rfl, rfl, rfl, by decide +kernel, rfl, by decide +kernel, by decide +kernel⟩
theorem rd_l_thing_by : cB N_l_thing_by F_l_thing_by G_l_thing_by 200 (defScope s_l_thing_by) (defBody s_l_thing_by) = some ir_l_thing_by := by kernel_rfl
theorem md_l_thing_by : okSt F_l_thing_by G_l_thing_by ir_l_thing_by = true := by decide +kernel
/-! ### _law_atoms -/
abbrev s_l_atoms : Stmt := top 12
def N_l_atoms : List Str := ["_law_script", "_law_many", "_law_words", "_law_k", "_law_things", "_law_found"]
def F_l_atoms : List (Str × List Md) := [("_law_word_by", [.bo, .bo]), ("_law_thing_by", [.bo, .bo]), ("_law_cell_at", [.bo, .bo])]
def G_l_atoms : MEnv := [.bo, .bo, .sh, .sh, .sh, .ow]
def lp_l_atoms_1 : S := (.seq (.app 5 (.tup (.cons (.op2 .ix (.var 2) (.op2 .mod (.var 3) (.con (.int 3)))) (.cons (.op2 .ix (.var 4) (.op2 .mod (.op2 .fdiv (.var 3) (.con (.int 3))) (.con (.int 3)))) .nil)))) .nx)
def el_l_atoms_2 : E := (.tup (.cons (.op2 .ix (.var 2) (.var 3)) .nil))
def el_l_atoms_3 : E := (.call 1 (.cons (.call 2 (.cons (.var 0) (.cons (.con (.int 1)) .nil))) (.cons (.var 3) .nil)))
def el_l_atoms_4 : E := (.call 0 (.cons (.call 2 (.cons (.var 0) (.cons (.con (.int 0)) .nil))) (.cons (.var 3) .nil)))
def sq_l_atoms_4 : S := (.seq (.ret (.var 5)) .nx)
def sq_l_atoms_3 : S := (.seq (.for_ [0, 1, 2, 3, 4] (.nm 3) (.iR2 (.con (.int 3)) (.var 1)) lp_l_atoms_1) sq_l_atoms_4)
def sq_l_atoms_2 : S := (.seq (.asgO 5 (.lc (.nm 3) [3] el_l_atoms_2 (.iR1 (.op2 .min2 (.var 1) (.con (.int 3)))) .nop)) sq_l_atoms_3)
def sq_l_atoms_1 : S := (.seq (.asg (.nm 4) (.lc (.nm 3) [3] el_l_atoms_3 (.iR1 (.con (.int 3))) .nop)) sq_l_atoms_2)
def ir_l_atoms : S := .seq (.asg (.nm 2) (.lc (.nm 3) [3] el_l_atoms_4 (.iR1 (.con (.int 3))) .nop)) sq_l_atoms_1
def Φ_l_atoms : Nat → List D → Option D
  | 0 => sem_l_word_by
  | 1 => sem_l_thing_by
  | 2 => sem_l_cell_at
  | _ => fun _ => none
def sem_l_atoms : List D → Option D := runF Φ_l_atoms 1000 6 ir_l_atoms
theorem sc_l_atoms : FnScope N_l_atoms ["_law_script", "_law_many"] (defScope s_l_atoms) := ⟨rfl, rfl, rfl, by decide +kernel, rfl, by decide +kernel, by decide +kernel⟩
theorem rd_l_atoms : cB N_l_atoms F_l_atoms G_l_atoms 200 (defScope s_l_atoms) (defBody s_l_atoms) = some ir_l_atoms := by kernel_rfl
theorem md_l_atoms : okSt F_l_atoms G_l_atoms ir_l_atoms = true := by decide +kernel
/-! ### _law_ground -/
abbrev s_l_ground : Stmt := top 13
def N_l_ground : List Str := ["_law_cell", "_law_atoms_here", "_law_one", "_law_two", "_law_three", "_law_many", "_law_yeses", "_law_k", "_law_nots"]
def F_l_ground : List (Str × List Md) := []
def G_l_ground : MEnv := [.bo, .bo, .sh, .sh, .sh, .sh, .ow, .sh, .ow]
def lp_l_ground_1 : S := (.seq (.app 8 (.op2 .ix (.var 1) (.op2 .mod (.op2 .fdiv (.var 4) (.op2 .add (.con (.int 1)) (.op2 .mul (.con (.int 40)) (.var 7)))) (.op1 .len (.var 1))))) .nx)
def lp_l_ground_2 : S := (.seq (.app 6 (.op2 .ix (.var 1) (.op2 .mod (.op2 .fdiv (.op2 .fdiv (.var 3) (.con (.int 12))) (.op2 .add (.con (.int 1)) (.op2 .mul (.con (.int 40)) (.var 7)))) (.op1 .len (.var 1))))) .nx)
def sq_l_ground_8 : S := (.seq (.ret (.tup (.cons (.op2 .mod (.op2 .fdiv (.var 2) (.con (.int 16))) (.con (.int 20))) (.cons (.op2 .ix (.var 1) (.op2 .mod (.var 2) (.op1 .len (.var 1)))) (.cons (.op1 .tuple (.var 6)) (.cons (.op1 .tuple (.var 8)) .nil)))))) .nx)
def sq_l_ground_7 : S := (.seq (.for_ [0, 1, 2, 3, 4, 5, 6, 7] (.nm 7) (.iR1 (.op2 .ix (.var 5) (.con (.int 1)))) lp_l_ground_1) sq_l_ground_8)
def sq_l_ground_6 : S := (.seq (.asgO 8 (.lst .nil)) sq_l_ground_7)
def sq_l_ground_5 : S := (.seq (.for_ [0, 1, 2, 3, 4, 5, 7, 8] (.nm 7) (.iR1 (.op2 .ix (.var 5) (.con (.int 0)))) lp_l_ground_2) sq_l_ground_6)
def sq_l_ground_4 : S := (.seq (.asgO 6 (.lst .nil)) sq_l_ground_5)
def sq_l_ground_3 : S := (.seq (.asg (.nm 5) (.op2 .ix (.lst (.cons (.tup (.cons (.con (.int 0)) (.cons (.con (.int 0)) .nil))) (.cons (.tup (.cons (.con (.int 0)) (.cons (.con (.int 1)) .nil))) (.cons (.tup (.cons (.con (.int 1)) (.cons (.con (.int 0)) .nil))) (.cons (.tup (.cons (.con (.int 1)) (.cons (.con (.int 1)) .nil))) (.cons (.tup (.cons (.con (.int 1)) (.cons (.con (.int 2)) .nil))) (.cons (.tup (.cons (.con (.int 2)) (.cons (.con (.int 1)) .nil))) (.cons (.tup (.cons (.con (.int 2)) (.cons (.con (.int 0)) .nil))) (.cons (.tup (.cons (.con (.int 0)) (.cons (.con (.int 2)) .nil))) (.cons (.tup (.cons (.con (.int 4)) (.cons (.con (.int 2)) .nil))) (.cons (.tup (.cons (.con (.int 3)) (.cons (.con (.int 3)) .nil))) (.cons (.tup (.cons (.con (.int 2)) (.cons (.con (.int 4)) .nil))) (.cons (.tup (.cons (.con (.int 6)) (.cons (.con (.int 0)) .nil))) .nil))))))))))))) (.op2 .mod (.var 3) (.con (.int 12))))) sq_l_ground_4)
def sq_l_ground_2 : S := (.seq (.asg (.nm 4) (.op2 .mod (.op2 .mul (.var 0) (.con (.int 16807))) (.con (.int 1000000007)))) sq_l_ground_3)
def sq_l_ground_1 : S := (.seq (.asg (.nm 3) (.op2 .mod (.op2 .mul (.var 0) (.con (.int 69621))) (.con (.int 998244353)))) sq_l_ground_2)
def ir_l_ground : S := .seq (.asg (.nm 2) (.op2 .mod (.op2 .mul (.var 0) (.con (.int 48271))) (.con (.int 2147483647)))) sq_l_ground_1
def Φ_l_ground : Nat → List D → Option D
  | _ => fun _ => none
def sem_l_ground : List D → Option D := runF Φ_l_ground 1000 9 ir_l_ground
theorem sc_l_ground : FnScope N_l_ground ["_law_cell", "_law_atoms_here"] (defScope s_l_ground) := ⟨rfl, rfl, rfl, by decide +kernel, rfl, by decide +kernel, by decide +kernel⟩
theorem rd_l_ground : cB N_l_ground F_l_ground G_l_ground 200 (defScope s_l_ground) (defBody s_l_ground) = some ir_l_ground := by kernel_rfl
theorem md_l_ground : okSt F_l_ground G_l_ground ir_l_ground = true := by decide +kernel
/-! ### _law_blocked -/
abbrev s_l_blocked : Stmt := top 14
def N_l_blocked : List Str := ["_law_rule", "_law_told", "_law_refuted", "_law_left_here", "_law_fact"]
def F_l_blocked : List (Str × List Md) := []
def G_l_blocked : MEnv := [.bo, .bo, .bo, .bo, .sh]
def lp_l_blocked_1 : S := (.seq (.ite (.op2 .isin (.var 4) (.var 1)) (.seq (.ret (.con (.bl true))) .nx) .nx) .nx)
def lp_l_blocked_2 : S := (.seq (.ite (.or (.op2 .isin (.var 4) (.var 2)) (.op2 .isin (.var 4) (.var 3))) (.seq (.ret (.con (.bl true))) .nx) .nx) .nx)
def sq_l_blocked_2 : S := (.seq (.ret (.con (.bl false))) .nx)
def sq_l_blocked_1 : S := (.seq (.for_ [0, 1, 2, 3, 4] (.nm 4) (.iV (.op2 .ix (.var 0) (.con (.int 3)))) lp_l_blocked_1) sq_l_blocked_2)
def ir_l_blocked : S := .seq (.for_ [0, 1, 2, 3, 4] (.nm 4) (.iV (.op2 .ix (.var 0) (.con (.int 2)))) lp_l_blocked_2) sq_l_blocked_1
def Φ_l_blocked : Nat → List D → Option D
  | _ => fun _ => none
def sem_l_blocked : List D → Option D := runF Φ_l_blocked 1000 5 ir_l_blocked
theorem sc_l_blocked : FnScope N_l_blocked ["_law_rule", "_law_told", "_law_refuted", "_law_left_here"] (defScope s_l_blocked) := ⟨rfl, rfl, rfl, by decide +kernel, rfl, by decide +kernel, by decide +kernel⟩
theorem rd_l_blocked : cB N_l_blocked F_l_blocked G_l_blocked 200 (defScope s_l_blocked) (defBody s_l_blocked) = some ir_l_blocked := by kernel_rfl
theorem md_l_blocked : okSt F_l_blocked G_l_blocked ir_l_blocked = true := by decide +kernel
/-! ### _law_left -/
abbrev s_l_left : Stmt := top 15
def N_l_left : List Str := ["_law_filled", "_law_told", "_law_refuted", "_law_left_here", "_law_rule", "_law_fact", "_law_turn"]
def F_l_left : List (Str × List Md) := [("_law_blocked", [.bo, .bo, .bo, .bo])]
def G_l_left : MEnv := [.bo, .bo, .bo, .ow, .sh, .sh, .sh]
def el_l_left_1 : E := (.var 5)
def el_l_left_2 : E := (.op2 .ne (.var 5) (.op2 .ix (.var 4) (.con (.int 1))))
def lp_l_left_3 : S := (.seq (.ite (.and (.op2 .isin (.op2 .ix (.var 4) (.con (.int 1))) (.var 3)) (.not (.call 0 (.cons (.var 4) (.cons (.var 1) (.cons (.var 2) (.cons (.var 3) .nil))))))) (.seq (.asgO 3 (.lc (.nm 5) [5] el_l_left_1 (.iV (.var 3)) el_l_left_2)) .nx) .nx) .nx)
def lp_l_left_4 : S := (.seq (.for_ [0, 1, 2, 4, 5, 6] (.nm 4) (.iV (.var 0)) lp_l_left_3) .nx)
def lp_l_left_5 : S := (.seq (.ite (.and (.op2 .notin (.var 5) (.var 1)) (.and (.op2 .notin (.var 5) (.var 2)) (.op2 .notin (.var 5) (.var 3)))) (.seq (.app 3 (.var 5)) .nx) .nx) .nx)
def lp_l_left_6 : S := (.seq (.for_ [0, 1, 2, 4, 5, 6] (.nm 5) (.iV (.op2 .add (.op2 .add (.lst (.cons (.op2 .ix (.var 4) (.con (.int 1))) .nil)) (.op1 .list (.op2 .ix (.var 4) (.con (.int 2))))) (.op1 .list (.op2 .ix (.var 4) (.con (.int 3)))))) lp_l_left_5) .nx)
def sq_l_left_3 : S := (.seq (.ret (.op1 .sorted (.var 3))) .nx)
def sq_l_left_2 : S := (.seq (.for_ [0, 1, 2, 5, 6] (.nm 6) (.iR1 (.op1 .len (.var 3))) lp_l_left_4) sq_l_left_3)
def sq_l_left_1 : S := (.seq (.for_ [0, 1, 2, 4, 6] (.nm 4) (.iV (.var 0)) lp_l_left_6) sq_l_left_2)
def ir_l_left : S := .seq (.asgO 3 (.lst .nil)) sq_l_left_1
def Φ_l_left : Nat → List D → Option D
  | 0 => sem_l_blocked
  | _ => fun _ => none
def sem_l_left : List D → Option D := runF Φ_l_left 1000 7 ir_l_left
theorem sc_l_left : FnScope N_l_left ["_law_filled", "_law_told", "_law_refuted"] (defScope s_l_left) := ⟨rfl, rfl, rfl, by decide +kernel, rfl, by decide +kernel, by decide +kernel⟩
theorem rd_l_left : cB N_l_left F_l_left G_l_left 200 (defScope s_l_left) (defBody s_l_left) = some ir_l_left := by kernel_rfl
theorem md_l_left : okSt F_l_left G_l_left ir_l_left = true := by decide +kernel
/-! ### law -/
abbrev s_law : Stmt := top 16
def N_law : List Str := ["_law_script", "_law_atoms_here", "_law_states", "_law_k", "_law_told", "_law_refuted", "_law_filled", "_law_cell", "_law_handed", "_law_found", "_law_fact"]
def F_law : List (Str × List Md) := [("_law_atoms", [.bo, .bo]), ("kept_out", [.bo, .sh, .sh]), ("_law_ground", [.bo, .bo]), ("_law_left", [.bo, .bo, .bo]), ("_law_cell_at", [.bo, .bo])]
def G_law : MEnv := [.bo, .sh, .sh, .sh, .sh, .sh, .sh, .sh, .sh, .sh, .sh]
def el_law_1 : E := (.var 10)
def el_law_2 : E := (.not (.op1 (.isi "tuple") (.var 10)))
def el_law_3 : E := (.call 2 (.cons (.var 7) (.cons (.var 1) .nil)))
def el_law_4 : E := (.op2 .ix (.var 1) (.var 3))
def el_law_5 : E := (.op2 .eq (.op2 .ix (.var 2) (.var 3)) (.con (.int 2)))
def el_law_6 : E := (.op2 .ix (.var 1) (.var 3))
def el_law_7 : E := (.op2 .eq (.op2 .ix (.var 2) (.var 3)) (.con (.int 1)))
def el_law_8 : E := (.op2 .mod (.op2 .fdiv (.call 4 (.cons (.var 0) (.cons (.op2 .add (.con (.int 3)) (.op2 .mod (.var 3) (.con (.int 3)))) .nil))) (.op2 .ix (.lst (.cons (.con (.int 1)) (.cons (.con (.int 4)) (.cons (.con (.int 16)) .nil)))) (.op2 .mod (.op2 .fdiv (.var 3) (.con (.int 3))) (.con (.int 3))))) (.con (.int 4)))
def sq_law_8 : S := (.seq (.ret (.and (.op2 .eq (.var 9) (.call 3 (.cons (.var 6) (.cons (.var 4) (.cons (.var 5) .nil))))) (.op2 .eq (.var 8) (.lst (.cons (.var 6) (.cons (.var 4) (.cons (.var 5) .nil))))))) .nx)
def sq_law_7 : S := (.seq (.ite (.or (.not (.op1 (.isi "list") (.var 9))) (.op2 .ne (.lc (.nm 10) [10] el_law_1 (.iV (.var 9)) el_law_2) (.lst .nil))) (.seq (.ret (.con (.bl false))) .nx) .nx) sq_law_8)
def sq_law_6 : S := (.seq (.asg (.nm 9) (.call 1 (.cons (.op2 .ix (.var 8) (.con (.int 0))) (.cons (.op2 .ix (.var 8) (.con (.int 1))) (.cons (.op2 .ix (.var 8) (.con (.int 2))) .nil))))) sq_law_7)
def sq_law_5 : S := (.seq (.asg (.nm 8) (.lst (.cons (.op1 .list (.var 6)) (.cons (.op1 .list (.var 4)) (.cons (.op1 .list (.var 5)) .nil))))) sq_law_6)
def sq_law_4 : S := (.seq (.asg (.nm 6) (.lc (.nm 7) [7] el_law_3 (.iV (.sl (.var 0) (.cons (.con (.int 6)) .nil) (.cons (.con (.int 18)) .nil))) .nop)) sq_law_5)
def sq_law_3 : S := (.seq (.asg (.nm 5) (.lc (.nm 3) [3] el_law_4 (.iR1 (.op1 .len (.var 1))) el_law_5)) sq_law_4)
def sq_law_2 : S := (.seq (.asg (.nm 4) (.lc (.nm 3) [3] el_law_6 (.iR1 (.op1 .len (.var 1))) el_law_7)) sq_law_3)
def sq_law_1 : S := (.seq (.asg (.nm 2) (.lc (.nm 3) [3] el_law_8 (.iR1 (.op1 .len (.var 1))) .nop)) sq_law_2)
def ir_law : S := .seq (.asg (.nm 1) (.call 0 (.cons (.var 0) (.cons (.op2 .add (.con (.int 2)) (.op2 .mod (.call 4 (.cons (.var 0) (.cons (.con (.int 2)) .nil))) (.con (.int 8)))) .nil)))) sq_law_1
def Φ_law : Nat → List D → Option D
  | 0 => sem_l_atoms
  | 1 => sem_kept_out
  | 2 => sem_l_ground
  | 3 => sem_l_left
  | 4 => sem_l_cell_at
  | _ => fun _ => none
def sem_law : List D → Option D := runF Φ_law 1000 11 ir_law
theorem sc_law : FnScope N_law ["_law_script"] (defScope s_law) := ⟨rfl, rfl, rfl, by decide +kernel, rfl, by decide +kernel, by decide +kernel⟩
theorem rd_law : cB N_law F_law G_law 200 (defScope s_law) (defBody s_law) = some ir_law := by kernel_rfl
theorem md_law : okSt F_law G_law ir_law = true := by decide +kernel
end R

set_option Elab.async false
set_option linter.all false
set_option maxRecDepth 100000
set_option maxHeartbeats 4000000
/-! Running the readings: what serves every law. -/
namespace M
open PySem L2 DL

/-! ### texts -/
theorem starts_q (x : Str) : Txt.startswith x ⟨#[63]⟩ = decide (x.cps.toList.head? = some 63) := by
  obtain ⟨l, rfl⟩ : ∃ l : List Nat, x = ⟨l.toArray⟩ := ⟨x.cps.toList, by cases x; simp⟩
  cases l with
  | nil => rfl
  | cons c r =>
    show (decide (0 + 1 ≤ (c :: r).toArray.size) && ((c :: r).toArray.extract 0 (0 + 1) == #[63])) = _
    have e : (c :: r).toArray.extract 0 (0 + 1) = #[c] := by simp
    rw [e]
    simp
    by_cases h : c = 63
    · subst h; rfl
    · rw [decide_eq_false h]; exact beq_eq_false_iff_ne.mpr fun z => h (by simpa using z)
theorem str_beq (a b : Str) : (a == b) = decide (a = b) := by
  by_cases h : a = b
  · subst h; simp
  · rw [decide_eq_false h]; exact beq_eq_false_iff_ne.mpr h
theorem eqv_str (a b : Str) : eqv (.str a) (.str b) = decide (a = b) := by rw [eqv, str_beq]
theorem any_str (x : Str) : ∀ l : List Str, ((l.map D.str).any fun z => eqv z (.str x)) = decide (x ∈ l)
  | [] => by simp
  | y :: r => by
    rw [List.map_cons, List.any_cons, eqv_str, any_str x r]
    by_cases h : y = x
    · subst h; simp
    · simp [h, Ne.symm h, eq_comm]
theorem dOk_str (n : Nat) (x : Str) : dOk n (.str x) = true := by cases n <;> rfl
theorem dOks_strs (n : Nat) : ∀ l : List Str, dOks n (l.map D.str) = true
  | [] => by cases n <;> rfl
  | y :: r => by rw [List.map_cons, dOks, dOk_str, dOks_strs n r]; rfl
theorem in_strs (x : Str) (l : List Str) : inD (.str x) (.lst (l.map D.str)) = some (decide (x ∈ l)) := by
  unfold inD
  dsimp only
  rw [dOk_str, show dOk 60 (.lst (l.map D.str)) = true from dOks_strs 59 l, any_str]
  rfl
/-! ### loops -/
theorem lcG_map {f : D → Option (Option D)} {g : D → D} : ∀ {l : List D}, (∀ x ∈ l, f x = some (some (g x))) → lcG f l = some (l.map g)
  | [], _ => rfl
  | x :: xs, h => by
    rw [lcG, h x (by simp), lcG_map (l := xs) fun y hy => h y (by simp [hy])]; rfl
theorem atI_lt {α : Type} {l : List α} {i : Int} (h0 : 0 ≤ i) (h1 : i < l.length) : atI l i = some (l[i.toNat]'(by omega)) := by
  unfold atI ixN
  rw [if_pos h0, if_pos h1]
  simp
/-! ### running, row by row -/
def loopF (Φ : Nat → List D → Option D) (t : T) (b : S) : D → DEnv → Option Out := fun x ρ => (asgT t x ρ).bind (exS Φ 1000 b)
def lcF (Φ : Nat → List D → Option D) (t : T) (vs : List Nat) (elt c : E) (ρ : DEnv) : D → Option (Option D) := fun x => (asgT t x (wipeD ρ vs)).bind fun ρ' => (evT Φ c ρ').bind fun k => if k then (evE Φ elt ρ').map some else some none
section
variable {Φ : Nat → List D → Option D} {ρ : DEnv} {i j : Nat} {a b c e : E} {s s' : S} {t : T} {vs pins : List Nat} {d : D}
@[simp] theorem x_asg : exS Φ 1000 (.asg (.nm i) e) ρ = (evE Φ e ρ).bind fun d => some (.nx (ρ.set i (some d))) := id rfl
@[simp] theorem x_asgT {t : T} : exS Φ 1000 (.asg (.tp t) e) ρ = (evE Φ e ρ).bind fun d => (asgT (.tp t) d ρ).map .nx := id rfl
@[simp] theorem x_asgO : exS Φ 1000 (.asgO i e) ρ = (evE Φ e ρ).bind fun d => if isL d then some (.nx (ρ.set i (some d))) else none := id rfl
@[simp] theorem x_app : exS Φ 1000 (.app i e) ρ = (evE Φ e ρ).bind fun d => (match ρ[i]? with | some (some (.lst l)) => if l.length < lim then some (.nx (ρ.set i (some (.lst (l ++ [d]))))) else none | some (some (.deq l)) => if l.length < lim then some (.nx (ρ.set i (some (.deq (l ++ [d]))))) else none | _ => none) := id rfl
@[simp] theorem x_ext : exS Φ 1000 (.ext i e) ρ = (evE Φ e ρ).bind fun d => (match ρ[i]?, d with | some (some (.lst l)), .lst m => if l.length + m.length ≤ lim then some (.nx (ρ.set i (some (.lst (l ++ m))))) else none | some (some (.deq l)), .lst m => if l.length + m.length ≤ lim then some (.nx (ρ.set i (some (.deq (l ++ m))))) else none | _, _ => none) := id rfl
@[simp] theorem x_setk : exS Φ 1000 (.setk i a e) ρ = (evE Φ e ρ).bind fun d => (evE Φ a ρ).bind fun kd => (match ρ[i]? with
      | some (some (.dic ks ds)) => (keyD kd).bind fun key => if ks.length < lim then some (.nx (ρ.set i (some (.dic (putKs key ks) (putD key d ks ds))))) else none
      | some (some (.dit ks ds)) => (keyT kd).bind fun key => if ks.length < lim then some (.nx (ρ.set i (some (.dit (putKs key ks) (putD key d ks ds))))) else none
      | some (some (.lst l)) => (match kd with | .int z => (ixN l.length z).map fun j => .nx (ρ.set i (some (.lst (l.set j d)))) | _ => none)
      | _ => none) := id rfl
@[simp] theorem x_popl {t : Nat} : exS Φ 1000 (.popl t i) ρ = (match ρ[i]? with | some (some (.deq (x :: l))) => some (.nx ((ρ.set i (some (.deq l))).set t (some x))) | _ => none) := id rfl
@[simp] theorem x_newd {t : Bool} : exS Φ 1000 (.newd i t) ρ = some (.nx (ρ.set i (some (if t then .dit [] [] else .dic [] [])))) := id rfl
@[simp] theorem x_asgC {f : Nat} : exS Φ 1000 (.asgC i f a) ρ = ((evA Φ a ρ).bind (Φ f)).bind fun d => if isL d then some (.nx (ρ.set i (some d))) else none := id rfl
@[simp] theorem x_sdef : exS Φ 1000 (.sdef i a e) ρ = (evE Φ a ρ).bind fun kd => (match ρ[i]? with
      | some (some (.dit ks ds)) => (keyT kd).bind fun key => (sdefP key ks ds).bind fun r => (evE Φ e (ρ.set i (some (.dit r.2.1 r.2.2)))).bind fun y => (sdefQ r.1 y r.2.2).map fun ds2 => .nx (ρ.set i (some (.dit r.2.1 ds2)))
      | _ => none) := id rfl
def qinD (all : Bool) (x : D) (y : Option (Option D)) : Option D := match x, y with | .tup l, some (some (.dit ks _)) => (keysL l).map fun kks => .bl (if all = true then kks.all (fun k => ks.any fun k' => decide (k' = k)) else kks.any (fun k => ks.any fun k' => decide (k' = k))) | _, _ => none
@[simp] theorem t_qin {all : Bool} : evT Φ (.qin all e i) ρ = ((evE Φ e ρ).bind fun x => qinD all x ρ[i]?).bind truD := id rfl
@[simp] theorem e_dcT {t : T} {vs : List Nat} {ke : E} : evE Φ (.dcT t vs ke e b c) ρ = (evI Φ b ρ).bind fun l => (foldG (f1G t vs (evT Φ c) (emDT (evE Φ ke) (evE Φ e)) ρ) l ([], [])).map fun p => .dit p.1 p.2 := id rfl
@[simp] theorem isL_t {ks : List (List Key)} {ds : List D} : isL (.dit ks ds) = true := id rfl
@[simp] theorem isL_q {l : List D} : isL (.deq l) = true := id rfl
@[simp] theorem tru_deq {l : List D} : truD (.deq l) = some (!l.isEmpty) := id rfl
@[simp] theorem x_drop : exS Φ 1000 (.drop e) ρ = (evE Φ e ρ).map fun _ => .nx ρ := id rfl
@[simp] theorem x_ret : exS Φ 1000 (.ret e) ρ = (evE Φ e ρ).map .ret := id rfl
@[simp] theorem x_retN : exS Φ 1000 .retN ρ = some (.ret .non) := id rfl
@[simp] theorem x_ite : exS Φ 1000 (.ite c s s') ρ = (evT Φ c ρ).bind fun k => if k then exS Φ 1000 s ρ else exS Φ 1000 s' ρ := id rfl
@[simp] theorem x_for : exS Φ 1000 (.for_ pins t e s) ρ = (evI Φ e ρ).bind fun l => forG (loopF Φ t s) l ρ := id rfl
@[simp] theorem x_while : exS Φ 1000 (.while_ c s) ρ = whileG (evT Φ c) (exS Φ 1000 s) 1000 ρ := id rfl
@[simp] theorem x_err : exS Φ 1000 .err ρ = none := id rfl
@[simp] theorem x_brk : exS Φ 1000 .brk ρ = some (.brk ρ) := id rfl
@[simp] theorem x_cnt : exS Φ 1000 .cnt ρ = some (.cnt ρ) := id rfl
@[simp] theorem x_nx : exS Φ 1000 .nx ρ = some (.nx ρ) := id rfl
def andThen (o : Option Out) (k : DEnv → Option Out) : Option Out := o.bind fun o => (match o with | .nx ρ' => k ρ' | o => some o)
@[simp] theorem x_seq : exS Φ 1000 (.seq s s') ρ = andThen (exS Φ 1000 s ρ) (exS Φ 1000 s') := id rfl
@[simp] theorem then_nx {k : DEnv → Option Out} : andThen (some (.nx ρ)) k = k ρ := id rfl
@[simp] theorem then_ret {k : DEnv → Option Out} : andThen (some (.ret d)) k = some (.ret d) := id rfl
@[simp] theorem then_brk {k : DEnv → Option Out} : andThen (some (.brk ρ)) k = some (.brk ρ) := id rfl
@[simp] theorem then_cnt {k : DEnv → Option Out} : andThen (some (.cnt ρ)) k = some (.cnt ρ) := id rfl
@[simp] theorem then_none {k : DEnv → Option Out} : andThen none k = none := id rfl
@[simp] theorem then_map {k : DEnv → Option Out} {o : Option D} : andThen (o.map .ret) k = o.map .ret := by cases o <;> rfl
@[simp] theorem e_var : evE Φ (.var i) ρ = (ρ[i]?).bind id := id rfl
@[simp] theorem e_con : evE Φ (.con d) ρ = some d := id rfl
@[simp] theorem e_op1 {o : Op1} : evE Φ (.op1 o a) ρ = (evE Φ a ρ).bind (op1D o) := id rfl
@[simp] theorem e_op2 {o : Op2} : evE Φ (.op2 o a b) ρ = (evE Φ a ρ).bind fun x => (evE Φ b ρ).bind fun y => op2D o x y := id rfl
@[simp] theorem e_op3 {o : Op3} : evE Φ (.op3 o a b c) ρ = (evE Φ a ρ).bind fun x => (evE Φ b ρ).bind fun y => (evE Φ c ρ).bind fun z => op3D o x y z := id rfl
@[simp] theorem e_and : evE Φ (.and a b) ρ = (evE Φ a ρ).bind fun x => (match x with | .bl true => evE Φ b ρ | .bl false => some (.bl false) | _ => none) := id rfl
@[simp] theorem e_or : evE Φ (.or a b) ρ = (evE Φ a ρ).bind fun x => (match x with | .bl true => some (.bl true) | .bl false => evE Φ b ρ | _ => none) := id rfl
@[simp] theorem e_not : evE Φ (.not a) ρ = (evE Φ a ρ).bind fun x => (match x with | .bl c => some (.bl (!c)) | _ => none) := id rfl
@[simp] theorem e_ite : evE Φ (.ite c a b) ρ = (evT Φ c ρ).bind fun k => if k then evE Φ a ρ else evE Φ b ρ := id rfl
@[simp] theorem e_sl : evE Φ (.sl a b c) ρ = (evE Φ a ρ).bind fun x => (evO Φ b ρ).bind fun l => (evO Φ c ρ).bind fun h => slD x l h := id rfl
@[simp] theorem e_lst : evE Φ (.lst a) ρ = (evA Φ a ρ).bind fun l => if l.length ≤ lim then some (.lst l) else none := id rfl
@[simp] theorem e_tup : evE Φ (.tup a) ρ = (evA Φ a ρ).bind fun l => if l.length ≤ lim then some (.tup l) else none := id rfl
@[simp] theorem e_dnew : evE Φ .dnew ρ = some (.dic [] []) := id rfl
@[simp] theorem e_lc : evE Φ (.lc t vs e b c) ρ = (evI Φ b ρ).bind fun l => (lcG (lcF Φ t vs e c ρ) l).map .lst := id rfl
@[simp] theorem e_d1 : evE Φ (.d1 a e) ρ = (evE Φ a ρ).bind fun kd => (evE Φ e ρ).bind fun y => (keyD kd).map fun key => .dic [key] [y] := id rfl
@[simp] theorem e_dnewT : evE Φ .dnewT ρ = some (.dit [] []) := id rfl
@[simp] theorem e_deq : evE Φ (.deq a) ρ = (evE Φ a ρ).bind fun x => (match x with | .lst l => if l.length ≤ lim then some (.deq l) else none | _ => none) := id rfl
@[simp] theorem e_call : evE Φ (.call i a) ρ = (evA Φ a ρ).bind (Φ i) := id rfl
@[simp] theorem t_and : evT Φ (.and a b) ρ = (evT Φ a ρ).bind fun k => if k then evT Φ b ρ else some false := id rfl
@[simp] theorem t_or : evT Φ (.or a b) ρ = (evT Φ a ρ).bind fun k => if k then some true else evT Φ b ρ := id rfl
@[simp] theorem t_not : evT Φ (.not a) ρ = (evT Φ a ρ).map (!·) := id rfl
@[simp] theorem t_nop : evT Φ .nop ρ = some true := id rfl
@[simp] theorem t_var : evT Φ (.var i) ρ = ((ρ[i]?).bind id).bind truD := id rfl
@[simp] theorem t_op1 {o : Op1} : evT Φ (.op1 o a) ρ = ((evE Φ a ρ).bind (op1D o)).bind truD := id rfl
@[simp] theorem t_op2 {o : Op2} : evT Φ (.op2 o a b) ρ = ((evE Φ a ρ).bind fun x => (evE Φ b ρ).bind fun y => op2D o x y).bind truD := id rfl
@[simp] theorem t_call : evT Φ (.call i a) ρ = ((evA Φ a ρ).bind (Φ i)).bind truD := id rfl
@[simp] theorem a_nil : evA Φ .nil ρ = some [] := id rfl
@[simp] theorem a_cons : evA Φ (.cons a b) ρ = (evE Φ a ρ).bind fun x => (evA Φ b ρ).map (x :: ·) := id rfl
@[simp] theorem a_star : evA Φ (.star a b) ρ = (evE Φ a ρ).bind fun x => (starL x).bind fun l => (evA Φ b ρ).map (l ++ ·) := id rfl
@[simp] theorem o_nop : evO Φ .nop ρ = some none := id rfl
@[simp] theorem o_cons : evO Φ (.cons a b) ρ = (evE Φ a ρ).bind fun x => (match x with | .int i => some (some i) | _ => none) := id rfl
@[simp] theorem i_V : evI Φ (.iV e) ρ = (evE Φ e ρ).bind seqL := id rfl
@[simp] theorem i_R1 : evI Φ (.iR1 a) ρ = (evE Φ a ρ).bind fun x => (match x with | .int j => if j ≤ lim ∧ -(lim : Int) ≤ j then some (rngD 0 j.toNat) else none | _ => none) := id rfl
@[simp] theorem i_R2 : evI Φ (.iR2 a b) ρ = (evE Φ a ρ).bind fun x => (evE Φ b ρ).bind fun y => (match x, y with | .int i, .int j => if 0 ≤ i ∧ i ≤ lim ∧ j ≤ lim ∧ -(lim : Int) ≤ j then some (rngD i (j - i).toNat) else none | _, _ => none) := id rfl
@[simp] theorem i_Zip : evI Φ (.iZip a b) ρ = (evE Φ a ρ).bind fun x => (evE Φ b ρ).bind fun y => (zipD x y).bind fun l => if l.length ≤ lim then some l else none := id rfl
@[simp] theorem i_En : evI Φ (.iEn a) ρ = (evE Φ a ρ).bind fun d => (match d with | .lst l => if l.length ≤ lim then some (enumD l) else none | _ => none) := id rfl
@[simp] theorem o2_max {i j : Int} : op2D .max2 (.int i) (.int j) = some (.int (if j > i then j else i)) := id rfl
@[simp] theorem o2_min {i j : Int} : op2D .min2 (.int i) (.int j) = some (.int (if j < i then j else i)) := id rfl
@[simp] theorem o2_mulS {x : Str} {n : Int} : op2D .mul (.str x) (.int n) = if -(lim : Int) ≤ n ∧ n ≤ lim ∧ x.length * n.toNat ≤ lim then some (.str (Txt.mul x n)) else none := id rfl
@[simp] theorem o1_sorted {l : List D} : op1D .sorted (.lst l) = (match strsD l with | some xs => if xs.length < 64 then some (.lst ((sortS xs).map .str)) else none | none => (rowsD l).map fun ks => .lst ((sortK ks).map tupK)) := id rfl
@[simp] theorem e_ss1 {t : T} {vs : List Nat} : evE Φ (.ss1 t vs e b c) ρ = (evI Φ b ρ).bind fun l => (foldG (f1G t vs (evT Φ c) (emU (evE Φ e)) ρ) l []).map fun ks => .lst ((sortK ks).map tupK) := id rfl
def dcF (Φ : Nat → List D → Option D) (t : T) (vs : List Nat) (ke elt c : E) (ρ : DEnv) : D → Option (Option (Key × D)) := fun x => (asgT t x (wipeD ρ vs)).bind fun ρ' => (evT Φ c ρ').bind fun k => if k then (evE Φ ke ρ').bind fun kd => (keyD kd).bind fun key => (evE Φ elt ρ').map fun y => some (key, y) else some none
@[simp] theorem e_dc {ke : E} : evE Φ (.dc t vs ke e b c) ρ = (evI Φ b ρ).bind fun l => (dcG (dcF Φ t vs ke e c ρ) l [] []).map fun p => .dic p.1 p.2 := id rfl
@[simp] theorem tru_bl {b : Bool} : truD (.bl b) = some b := id rfl
@[simp] theorem o2_add {i j : Int} : op2D .add (.int i) (.int j) = some (.int (i + j)) := id rfl
@[simp] theorem o2_addS {x y : Str} : op2D .add (.str x) (.str y) = catS x y := id rfl
@[simp] theorem o2_addL {x y : List D} : op2D .add (.lst x) (.lst y) = if x.length + y.length ≤ lim then some (.lst (x ++ y)) else none := id rfl
@[simp] theorem o2_addT {x y : List D} : op2D .add (.tup x) (.tup y) = if x.length + y.length ≤ lim then some (.tup (x ++ y)) else none := id rfl
@[simp] theorem o2_sub {i j : Int} : op2D .sub (.int i) (.int j) = some (.int (i - j)) := id rfl
@[simp] theorem o2_mul {i j : Int} : op2D .mul (.int i) (.int j) = if mulOk i j then some (.int (i * j)) else none := id rfl
@[simp] theorem o2_fdiv {i j : Int} : op2D .fdiv (.int i) (.int j) = if 0 < j ∧ j < 1073741824 then some (.int (i / j)) else none := id rfl
@[simp] theorem o2_mod {i j : Int} : op2D .mod (.int i) (.int j) = if 0 < j then some (.int (i % j)) else none := id rfl
@[simp] theorem o2_eq {x y : D} : op2D .eq x y = (eqD x y).map .bl := id rfl
@[simp] theorem o2_ne {x y : D} : op2D .ne x y = (eqD x y).map fun b => .bl (!b) := id rfl
@[simp] theorem o2_lt {i j : Int} : op2D .lt (.int i) (.int j) = some (.bl (decide (i < j))) := id rfl
@[simp] theorem o2_le {i j : Int} : op2D .le (.int i) (.int j) = some (.bl (decide (i ≤ j))) := id rfl
@[simp] theorem o2_gt {i j : Int} : op2D .gt (.int i) (.int j) = some (.bl (decide (j < i))) := id rfl
@[simp] theorem o2_ge {i j : Int} : op2D .ge (.int i) (.int j) = some (.bl (decide (j ≤ i))) := id rfl
@[simp] theorem o2_isin {x y : D} : op2D .isin x y = (inD x y).map .bl := id rfl
@[simp] theorem o2_notin {x y : D} : op2D .notin x y = (inD x y).map fun b => .bl (!b) := id rfl
@[simp] theorem o2_ixL {l : List D} {i : Int} : op2D .ix (.lst l) (.int i) = atI l i := id rfl
@[simp] theorem o2_ixT {l : List D} {i : Int} : op2D .ix (.tup l) (.int i) = atI l i := id rfl
@[simp] theorem o2_ixZ {l : List D} {i : Int} : op2D .ix (.scr l) (.int i) = atI l i := id rfl
@[simp] theorem o2_ixS {x : Str} {i : Int} : op2D .ix (.str x) (.int i) = (atI x.cps.toList i).map fun c => .str ⟨#[c]⟩ := id rfl
@[simp] theorem o2_ixD {ks : List Key} {ds : List D} {x : Str} : op2D .ix (.dic ks ds) (.str x) = lookD (Sum.inr x : Key) ks ds := id rfl
@[simp] theorem o2_starts {x y : Str} : op2D .starts (.str x) (.str y) = some (.bl (Txt.startswith x y)) := id rfl
@[simp] theorem o2_join {s : Str} {l : List D} : op2D .join (.str s) (.lst l) = (strsD l).bind fun xs => if (xs.map (·.length)).sum + xs.length * s.length ≤ lim then some (.str (Txt.join s xs)) else none := id rfl
@[simp] theorem o1_lenL {l : List D} : op1D .len (.lst l) = some (.int l.length) := id rfl
@[simp] theorem o1_lenT {l : List D} : op1D .len (.tup l) = some (.int l.length) := id rfl
@[simp] theorem o1_lenZ {l : List D} : op1D .len (.scr l) = some (.int l.length) := id rfl
@[simp] theorem o1_listL {l : List D} : op1D .list (.lst l) = some (.lst l) := id rfl
@[simp] theorem o1_listT {l : List D} : op1D .list (.tup l) = some (.lst l) := id rfl
@[simp] theorem o1_tupL {l : List D} : op1D .tuple (.lst l) = some (.tup l) := id rfl
@[simp] theorem o1_tupT {l : List D} : op1D .tuple (.tup l) = some (.tup l) := id rfl
@[simp] theorem o1_isiL {l : List D} : op1D (.isi "list") (.lst l) = some (.bl true) := id rfl
@[simp] theorem o1_isiT {l : List D} : op1D (.isi "tuple") (.tup l) = some (.bl true) := id rfl
@[simp] theorem o1_isiD {ks : List Key} {ds : List D} : op1D (.isi "dict") (.dic ks ds) = some (.bl true) := id rfl
@[simp] theorem o1_isiI {i : Int} : op1D (.isi "int") (.int i) = some (.bl true) := id rfl
@[simp] theorem o1_isiB {i : Int} : op1D (.isi "bool") (.int i) = some (.bl false) := id rfl
@[simp] theorem o1_isiS {x : Str} : op1D (.isi "str") (.str x) = some (.bl true) := id rfl
@[simp] theorem o1_items {ks : List Key} {ds : List D} : op1D .items (.dic ks ds) = some (.lst ((ks.zip ds).map fun p => .tup [keyE p.1, p.2])) := id rfl
@[simp] theorem sl_L {l : List D} {lo hi : Option Int} : slD (.lst l) lo hi = some (.lst (cutD l lo hi)) := id rfl
@[simp] theorem sl_T {l : List D} {lo hi : Option Int} : slD (.tup l) lo hi = some (.tup (cutD l lo hi)) := id rfl
@[simp] theorem sl_Z {l : List D} {lo hi : Option Int} : slD (.scr l) lo hi = some (.lst (cutD l lo hi)) := id rfl
@[simp] theorem sl_S {x : Str} {lo hi : Option Int} : slD (.str x) lo hi = some (.str (cutS x lo hi)) := id rfl
@[simp] theorem as_nm : asgT (.nm i) d ρ = some (ρ.set i (some d)) := id rfl
@[simp] theorem isL_l {l : List D} : isL (.lst l) = true := id rfl
@[simp] theorem isL_d {ks : List Key} {ds : List D} : isL (.dic ks ds) = true := id rfl
def fin (o : Option Out) : Option D := o.bind fun o => (match o with | .ret d => some d | .nx _ => some .non | _ => none)
theorem run_def {many : Nat} {ds : List D} : runF Φ 1000 many s ds = fin (exS Φ 1000 s (inD0 many ds)) := rfl
@[simp] theorem fin_ret : fin (some (.ret d)) = some d := id rfl
@[simp] theorem fin_nx : fin (some (.nx ρ)) = some .non := id rfl
@[simp] theorem fin_map {o : Option D} : fin (o.map .ret) = o := by cases o <;> rfl
theorem for_nil {f : D → DEnv → Option Out} : forG f [] ρ = some (.nx ρ) := rfl
/-- a turn that goes on -/
theorem for_cons {f : D → DEnv → Option Out} {x : D} {xs : List D} {ρ' : DEnv} (h : f x ρ = some (.nx ρ')) : forG f (x :: xs) ρ = forG f xs ρ' := by rw [forG, h]; rfl
theorem for_ret {f : D → DEnv → Option Out} {x : D} {xs : List D} (h : f x ρ = some (.ret d)) : forG f (x :: xs) ρ = some (.ret d) := by rw [forG, h]; rfl
end
end M

set_option Elab.async false
set_option linter.all false
set_option maxRecDepth 100000
set_option maxHeartbeats 4000000
/-! Words and things: texts of signs that are drawn. -/
namespace M
open PySem L2 DL

def one (c : Nat) : Str := ⟨#[c]⟩
def chL (L : List Nat) (i : Int) : Nat := L.getD i.toNat 0
theorem ch_at {L : List Nat} {n : Int} (i : Int) (hn : (L.length : Int) = n) (h0 : 0 < n) : atI L (i % n) = some (chL L (i % n)) ∧ chL L (i % n) ∈ L := by
  have h1 := Int.emod_nonneg i (by omega : n ≠ 0)
  have h2 := Int.emod_lt_of_pos i h0
  have hl : (i % n).toNat < L.length := by omega
  rw [atI_lt h1 (by omega)]
  have e : chL L (i % n) = L[(i % n).toNat] := by unfold chL; rw [List.getD_eq_getElem?_getD, List.getElem?_eq_getElem hl]; rfl
  rw [e]
  exact ⟨rfl, List.getElem_mem hl⟩
theorem strs_map {α : Type} (f : α → Str) : ∀ l : List α, strsD (l.map fun x => .str (f x)) = some (l.map f)
  | [] => rfl
  | x :: xs => by rw [List.map_cons, strsD, strs_map f xs]; rfl
theorem joinL_nil : ∀ ps : List (List Nat), TL.joinL [] ps = ps.flatten
  | [] => rfl
  | [p] => by simp [TL.joinL]
  | p :: q :: r => by rw [TL.joinL, joinL_nil (q :: r)]; simp
theorem join_ones (l : List Nat) : (Txt.join ⟨#[]⟩ (l.map one)).cps.toList = l := by
  rw [TL.join_eq]
  have e : (Str.join ⟨#[]⟩ (l.map one)).cps.toList = TL.joinL [] ((l.map one).map TL.tl) := TL.tl_join ⟨#[]⟩ (l.map one)
  rw [e, joinL_nil, List.map_map]
  clear e
  induction l with
  | nil => rfl
  | cons x xs ih => rw [List.map_cons, List.flatten_cons, ih]; rfl
theorem len_ones : ∀ l : List Nat, ((l.map one).map (·.length)).sum = l.length
  | [] => rfl
  | x :: xs => by rw [List.map_cons, List.map_cons, List.sum_cons, len_ones xs, List.length_cons]; show 1 + _ = _; omega
/-- a list of one-signed texts, joined -/
theorem run_join (l : List Nat) (h : l.length ≤ 1000) : ∃ s : Str, op2D .join (.str ⟨#[]⟩) (.lst (l.map fun c => .str (one c))) = some (.str s) ∧ s.cps.toList = l := by
  refine ⟨Txt.join ⟨#[]⟩ (l.map one), ?_, join_ones l⟩
  rw [o2_join, strs_map one l]
  simp only [Option.bind_some]
  rw [if_pos]
  rw [len_ones, List.length_map]
  show l.length + l.length * 0 ≤ lim
  have : lim = 100000 := rfl
  omega
theorem cut_list (x : Str) (lo hi : Option Int) : (cutS x lo hi).cps.toList = (x.cps.toList.drop (HT.sIx x.length 0 lo)).take (HT.sIx x.length x.length hi - HT.sIx x.length 0 lo) := by
  unfold cutS
  simp [Str.length]
theorem sIx_pos {n d : Nat} {i : Int} (h : 0 ≤ i) : HT.sIx n d (some i) = min i.toNat n := by
  obtain ⟨j, rfl⟩ : ∃ j : Nat, i = (j : Int) := ⟨i.toNat, by omega⟩
  rw [HT.sIx_nat]; simp
/-- a word or a thing: one to eight signs of L -/
structure Wd (L : List Nat) (x : Str) : Prop where
  mem : ∀ c ∈ x.cps.toList, c ∈ L
  pos : 1 ≤ x.cps.toList.length
  few : x.cps.toList.length ≤ 8
theorem Wd.ne {L : List Nat} {x : Str} (h : Wd L x) : x.cps.toList ≠ [] := fun e => by have := h.pos; rw [e] at this; simp at this
theorem Wd.len {L : List Nat} {x : Str} (h : Wd L x) : x.length ≤ 8 := by rw [← str_len]; exact h.few
theorem cat_str {x y : Str} (h : x.length + y.length ≤ 1000) : catS x y = some (.str (x ++ y)) := by
  unfold catS
  rw [if_pos]
  have : lim = 100000 := rfl
  omega
theorem lc_rng {f : D → Option (Option D)} {g : Int → D} {n : Nat} (h : ∀ j : Int, 0 ≤ j → j < n → f (.int j) = some (some (g j))) : lcG f (rngD 0 n) = some ((List.range n).map fun (k : Nat) => g (k : Int)) := by
  have : rngD 0 n = (List.range n).map fun (k : Nat) => D.int (k : Int) := by unfold rngD; simp
  rw [this, lcG_map (g := fun d => match d with | .int j => g j | d => d)]
  · rw [List.map_map]; rfl
  · intro x hx
    obtain ⟨k, hk, rfl⟩ := List.mem_map.mp hx
    have := List.mem_range.mp hk
    exact h k (by omega) (by omega)
end M

set_option Elab.async false
set_option linter.all false
set_option maxRecDepth 100000
set_option maxHeartbeats 4000000
/-! Lists that are drawn; equal data; dicts of texts. -/
namespace M
open PySem L2 DL

theorem lcG_ex {f : D → Option (Option D)} {P : D → Prop} : ∀ {l : List D}, (∀ x ∈ l, ∃ y, f x = some (some y) ∧ P y) → ∃ ys, lcG f l = some ys ∧ (∀ y ∈ ys, P y) ∧ ys.length = l.length
  | [], _ => ⟨[], rfl, by simp, rfl⟩
  | x :: xs, h => by
    obtain ⟨y, h1, h2⟩ := h x (by simp)
    obtain ⟨ys, h3, h4, h5⟩ := lcG_ex (l := xs) fun z hz => h z (by simp [hz])
    refine ⟨y :: ys, by rw [lcG, h1, h3]; rfl, fun z hz => ?_, by simp [h5]⟩
    rcases List.mem_cons.mp hz with rfl | hz
    · exact h2
    · exact h4 z hz
theorem map_of {α : Type} {g : α → D} {Q : α → Prop} : ∀ {ys : List D}, (∀ y ∈ ys, ∃ s, y = g s ∧ Q s) → ∃ ss : List α, ys = ss.map g ∧ (∀ s ∈ ss, Q s) ∧ ss.length = ys.length
  | [], _ => ⟨[], rfl, by simp, rfl⟩
  | y :: ys, h => by
    obtain ⟨s, rfl, h1⟩ := h y (by simp)
    obtain ⟨ss, rfl, h2, h3⟩ := map_of (ys := ys) fun z hz => h z (by simp [hz])
    refine ⟨s :: ss, rfl, fun z hz => ?_, by simp⟩
    rcases List.mem_cons.mp hz with rfl | hz
    · exact h1
    · exact h2 z hz
/-- a comprehension over numbers that makes texts -/
theorem lc_ex {α : Type} {g : α → D} {Q : α → Prop} {f : D → Option (Option D)} {l : List D} (h : ∀ x ∈ l, ∃ s, f x = some (some (g s)) ∧ Q s) : ∃ ss : List α, lcG f l = some (ss.map g) ∧ (∀ s ∈ ss, Q s) ∧ ss.length = l.length := by
  obtain ⟨ys, h1, h2, h3⟩ := lcG_ex (f := f) (P := fun y => ∃ s, y = g s ∧ Q s) (l := l) fun x hx => let ⟨s, a, b⟩ := h x hx; ⟨g s, a, s, rfl, b⟩
  obtain ⟨ss, rfl, h4, h5⟩ := map_of h2
  exact ⟨ss, h1, h4, by rw [h5, h3]⟩
theorem rng_mem {x : D} {n : Nat} (h : x ∈ rngD 0 n) : ∃ j : Int, x = .int j ∧ 0 ≤ j ∧ j < n := by
  unfold rngD at h
  obtain ⟨k, hk, rfl⟩ := List.mem_map.mp h
  have := List.mem_range.mp hk
  exact ⟨_, rfl, by omega, by omega⟩
mutual
theorem eqv_refl : ∀ (n : Nat) (d : D), dOk n d = true → eqv d d = true
  | _, .non, _ => by simp [eqv]
  | _, .bl b, _ => by simp [eqv]
  | _, .int i, _ => by simp [eqv]
  | _, .str s, _ => by simp [eqv]
  | n, .dic _ _, h => by cases n <;> simp [dOk] at h
  | n, .scr _, h => by cases n <;> simp [dOk] at h
  | 0, .lst l, h => by simp [dOk] at h
  | 0, .tup l, h => by simp [dOk] at h
  | n + 1, .lst l, h => by rw [dOk] at h; simp only [eqv]; exact eqvs_refl n l h
  | n + 1, .tup l, h => by rw [dOk] at h; simp only [eqv]; exact eqvs_refl n l h
theorem eqvs_refl : ∀ (n : Nat) (l : List D), dOks n l = true → eqvs l l = true
  | _, [], _ => by simp [eqvs]
  | n, x :: xs, h => by
    simp only [dOks, Bool.and_eq_true] at h
    simp only [eqvs, eqv_refl n x h.1, eqvs_refl n xs h.2, Bool.and_self]
end
theorem eqD_refl {d : D} (h : dOk 60 d = true) : eqD d d = some true := by
  have e : eqv d d = true := eqv_refl 60 d h
  cases d <;> first | (simp [dOk] at h; done) | (unfold eqD; simp only [h, e]; rfl)
theorem dOks_map {α : Type} {g : α → D} {n : Nat} (h : ∀ a, dOk n (g a) = true) : ∀ l : List α, dOks n (l.map g) = true
  | [] => by cases n <;> rfl
  | x :: xs => by rw [List.map_cons, dOks, h x, dOks_map h xs]; rfl

theorem cutD_nat {l : List D} {a b : Nat} (h : a ≤ b) : cutD l (some (a : Int)) (some (b : Int)) = (l.drop a).take (b - a) := by
  unfold cutD
  rw [HT.sIx_nat, HT.sIx_nat]
  by_cases h1 : l.length ≤ a
  · rw [Nat.min_eq_right h1, List.drop_eq_nil_of_le (Nat.le_refl _), List.drop_eq_nil_of_le h1]; simp
  · rw [Nat.min_eq_left (by omega : a ≤ l.length)]
    by_cases h2 : b ≤ l.length
    · rw [Nat.min_eq_left h2]
    · rw [Nat.min_eq_right (by omega : l.length ≤ b), List.take_of_length_le (by simp), List.take_of_length_le (by simp; omega)]

/-! ### a dict of texts -/
def fil (l : List (Str × Str)) : D := .dic (l.map fun p => .inr p.1) (l.map fun p => .str p.2)
def subst (l : List (Str × Str)) (t : Str) : Str := ((l.find? fun p => decide (p.1 = t)).map (·.2)).getD t
theorem look_fil (t : Str) : ∀ l : List (Str × Str), lookD (Sum.inr t : Key) (l.map fun p => .inr p.1) (l.map fun p => D.str p.2) = (l.find? fun p => decide (p.1 = t)).map fun p => D.str p.2
  | [] => rfl
  | p :: r => by
    rw [List.map_cons, List.map_cons, lookD]
    by_cases h : p.1 = t
    · rw [if_pos (by rw [h]), List.find?_cons_of_pos (by simp [h])]; rfl
    · rw [if_neg (fun z => h (Sum.inr.inj z)), List.find?_cons_of_neg (by simp [h]), look_fil t r]
theorem getD_fil (t : Str) (l : List (Str × Str)) : (lookD (Sum.inr t : Key) (l.map fun p => .inr p.1) (l.map fun p => D.str p.2)).getD (.str t) = .str (subst l t) := by
  rw [look_fil]; unfold subst
  cases l.find? fun p => decide (p.1 = t) <;> rfl
theorem any_fil (t : Str) (l : List (Str × Str)) : ((l.map fun p => (Sum.inr p.1 : Key)).any fun k' => decide (k' = .inr t)) = (l.find? fun p => decide (p.1 = t)).isSome := by
  induction l with
  | nil => rfl
  | cons p r ih =>
    rw [List.map_cons, List.any_cons, ih]
    by_cases h : p.1 = t
    · rw [List.find?_cons_of_pos (by simp [h])]; simp [h]
    · rw [List.find?_cons_of_neg (by simp [h])]
      have : ¬ (Sum.inr p.1 : Key) = .inr t := fun z => h (Sum.inr.inj z)
      simp [this]
/-- one more entry, or another value -/
theorem put_fil (s t : Str) (l : List (Str × Str)) : ∃ l', D.dic (putKs (Sum.inr s : Key) (l.map fun p => .inr p.1)) (putD (Sum.inr s : Key) (.str t) (l.map fun p => .inr p.1) (l.map fun p => .str p.2)) = fil l' ∧ l'.length ≤ l.length + 1 ∧ ∀ p ∈ l', p.1 = s ∨ ∃ q ∈ l, q.1 = p.1 := by
  unfold putKs putD
  rw [any_fil]
  cases h : (l.find? fun p => decide (p.1 = s)).isSome with
  | false =>
    refine ⟨l ++ [(s, t)], ?_, by simp, fun p hp => ?_⟩
    · simp [fil]
    · rcases List.mem_append.mp hp with h | h
      · exact .inr ⟨p, h, rfl⟩
      · rw [List.mem_singleton.mp h]; exact .inl rfl
  | true =>
    refine ⟨l.map fun p => if p.1 = s then (p.1, t) else p, ?_, by simp, fun p hp => ?_⟩
    · simp only [if_true, fil]
      congr 1
      · rw [List.map_map]
        apply List.map_congr_left
        intro p _
        show (Sum.inr p.1 : Key) = .inr (if p.1 = s then (p.1, t) else p).1
        split <;> rfl
      · clear h
        induction l with
        | nil => rfl
        | cons p r ih =>
          simp only [List.map_cons, repD, ih]
          by_cases h : p.1 = s
          · simp [h]
          · have : ¬ (Sum.inr p.1 : Key) = .inr s := fun z => h (Sum.inr.inj z)
            simp [h, this]
    · obtain ⟨q, hq, rfl⟩ := List.mem_map.mp hp
      refine .inr ⟨q, hq, ?_⟩
      split <;> rfl
end M

set_option Elab.async false
set_option linter.all false
set_option maxRecDepth 100000
set_option maxHeartbeats 4000000
namespace R
open PySem L2 DL M
variable [TbC]
/-! ### facts as keys -/
def dPat (p : List Str) : D := .tup (p.map D.str)
def dPats (ps : List (List Str)) : D := .tup (ps.map dPat)
def fk (p : List Str) : List Key := p.map Sum.inr
theorem fk_inj {a b : List Str} (h : fk a = fk b) : a = b := by
  unfold fk at h
  induction a generalizing b with
  | nil => cases b with
    | nil => rfl
    | cons _ _ => cases h
  | cons x a ih => cases b with
    | nil => cases h
    | cons y b => simp at h; obtain ⟨rfl, h⟩ := h; rw [ih h]
theorem keyTs_str : ∀ p : List Str, keyTs (p.map D.str) = some (fk p)
  | [] => rfl
  | x :: p => by rw [List.map_cons, keyTs, keyTs_str p]; rfl
@[simp] theorem keyT_pat (p : List Str) : keyT (dPat p) = some (fk p) := keyTs_str p
theorem keysL_pats : ∀ ps : List (List Str), keysL (ps.map dPat) = some (ps.map fk)
  | [] => rfl
  | p :: ps => by rw [List.map_cons, keysL, keyT_pat, keysL_pats ps]; rfl
theorem atI_nat {α : Type} {l : List α} {i : Nat} {x : α} (h : l[i]? = some x) : atI l (i : Int) = some x := by
  obtain ⟨h1, h2⟩ := List.getElem?_eq_some_iff.mp h
  rw [atI_lt (by omega) (by omega)]
  simp [h2]
/-- the keys ks are those of the facts L -/
structure MK (ks : List (List Key)) (ds : List D) (L : List (List Str)) : Prop where
  len : ks.length = ds.length
  few : ks.length ≤ L.length
  mem : ∀ f, fk f ∈ ks ↔ f ∈ L
theorem any_key {κ : Type} [DecidableEq κ] (ks : List κ) (k : κ) : (ks.any fun k' => decide (k' = k)) = decide (k ∈ ks) := by
  rw [Bool.eq_iff_iff, List.any_eq_true]
  simp
theorem MK.has {ks : List (List Key)} {ds : List D} {L : List (List Str)} (h : MK ks ds L) (f : List Str) : (ks.any fun k' => decide (k' = fk f)) = decide (f ∈ L) := by
  rw [any_key]
  exact decide_eq_decide.mpr (h.mem f)
theorem repD_len {κ : Type} [DecidableEq κ] (k : κ) (v : D) : ∀ (ks : List κ) (ds : List D), ks.length = ds.length → (repD k v ks ds).length = ds.length
  | [], [], _ => rfl
  | _ :: ks, _ :: ds, h => by rw [repD, List.length_cons, repD_len k v ks ds (by simpa using h), List.length_cons]
  | [], _ :: _, h => by simp at h
  | _ :: _, [], h => by simp at h
theorem MK.add {ks : List (List Key)} {ds : List D} {L : List (List Str)} (h : MK ks ds L) (f : List Str) (y : D) : MK (putKs (fk f) ks) (putD (fk f) y ks ds) (L ++ [f]) := by
  unfold putKs putD
  rw [h.has]
  by_cases hf : f ∈ L
  · simp only [hf, decide_true, if_true]
    refine ⟨by rw [repD_len _ _ _ _ h.len]; exact h.len, by simp; have := h.few; omega, fun g => ?_⟩
    rw [h.mem, List.mem_append]
    constructor
    · exact .inl
    · rintro (z | z)
      · exact z
      · simp at z; rw [z]; exact hf
  · simp only [hf, decide_false, Bool.false_eq_true, if_false]
    refine ⟨by simp [h.len], by simp; have := h.few; omega, fun g => ?_⟩
    rw [List.mem_append, List.mem_append, h.mem]
    constructor
    · rintro (z | z)
      · exact .inl z
      · simp at z; exact .inr (by simp [fk_inj z])
    · rintro (z | z)
      · exact .inl z
      · simp at z; exact .inr (by simp [z])
theorem inD_key {ks : List (List Key)} {ds : List D} {L : List (List Str)} (h : MK ks ds L) (f : List Str) : inD (dPat f) (.dit ks ds) = some (decide (f ∈ L)) := by
  show (keyT (dPat f)).map (fun k => ks.any fun k' => decide (k' = k)) = _
  rw [keyT_pat, ← h.has]; rfl
theorem qin_all {ks : List (List Key)} {ds : List D} {L : List (List Str)} (h : MK ks ds L) (ps : List (List Str)) : qinD true (dPats ps) (some (some (.dit ks ds))) = some (.bl (ps.all fun f => decide (f ∈ L))) := by
  show (keysL (ps.map dPat)).map _ = _
  rw [keysL_pats]
  show some (D.bl (if true = true then (ps.map fk).all (fun k => ks.any fun k' => decide (k' = k)) else _)) = _
  rw [if_pos rfl, List.all_map]
  congr 2
  exact congrArg _ (funext fun f => h.has f)
theorem qin_any {ks : List (List Key)} {ds : List D} {L : List (List Str)} (h : MK ks ds L) (ps : List (List Str)) : qinD false (dPats ps) (some (some (.dit ks ds))) = some (.bl (ps.any fun f => decide (f ∈ L))) := by
  show (keysL (ps.map dPat)).map _ = _
  rw [keysL_pats]
  show some (D.bl (if false = true then _ else (ps.map fk).any (fun k => ks.any fun k' => decide (k' = k)))) = _
  rw [if_neg (by simp), List.any_map]
  congr 2
  exact congrArg _ (funext fun f => h.has f)

/-! ### the program: marked -/
theorem marked_fold (d0 : Option D) : ∀ (fs L : List (List Str)) (ks : List (List Key)) (ds : List D), MK ks ds L → L.length + fs.length ≤ 90000 →
    ∃ ks' ds', foldG (f1G (.nm 1) [1] (evT Φ_marked .nop) (emDT (evE Φ_marked (.var 1)) (evE Φ_marked (.con (.bl true)))) [d0, none]) (fs.map dPat) (ks, ds) = some (ks', ds') ∧ MK ks' ds' (L ++ fs)
  | [], L, ks, ds, h, _ => ⟨ks, ds, rfl, by simpa using h⟩
  | f :: fs, L, ks, ds, h, hl => by
    rw [List.length_cons] at hl
    obtain ⟨ks', ds', e, h'⟩ := marked_fold d0 fs (L ++ [f]) _ _ (h.add f (.bl true)) (by simp; omega)
    refine ⟨ks', ds', ?_, by simpa using h'⟩
    have hz : ks.length < lim := by have := h.few; have : lim = 100000 := rfl; omega
    rw [List.map_cons, foldG, ← e]
    have e1 : f1G (.nm 1) [1] (evT Φ_marked .nop) (emDT (evE Φ_marked (.var 1)) (evE Φ_marked (.con (.bl true)))) [d0, none] (dPat f) (ks, ds) = some (putKs (fk f) ks, putD (fk f) (.bl true) ks ds) := by
      simp [f1G, wipeD, emDT, hz]
    rw [e1]; rfl
theorem run_marked (fs : List (List Str)) (h : fs.length ≤ 90000) (l : D) (hl : seqL l = some (fs.map dPat)) : ∃ ks ds, sem_marked [l] = some (.dit ks ds) ∧ MK ks ds fs := by
  obtain ⟨ks, ds, e, h'⟩ := marked_fold (some l) fs [] [] [] ⟨rfl, by simp, fun f => by simp⟩ (by simpa using h)
  refine ⟨ks, ds, ?_, by simpa using h'⟩
  unfold sem_marked
  rw [run_def]
  simp [ir_marked, inD0, hl, e]
theorem seqL_pats (fs : List (List Str)) (h : fs.length ≤ 90000) : seqL (.lst (fs.map dPat)) = some (fs.map dPat) := by
  have : lim = 100000 := rfl
  simp [seqL, seqD]; omega
end R

set_option Elab.async false
set_option linter.all false
set_option maxRecDepth 100000
set_option maxHeartbeats 4000000
namespace R
open PySem L2 DL M
variable [TbC]
/-! ### the program: places_by_yes -/
structure Gr where
  n : Int
  hd : List Str
  ys : List (List Str)
  ns : List (List Str)
def dGr (r : Gr) : D := .tup [.int r.n, dPat r.hd, dPats r.ys, dPats r.ns]
abbrev Us := List (Nat × List Str)
def usersOf (U : Us) (h : List Str) : List Nat := (U.filter fun u => decide (u.2 = h)).map (·.1)
def dI (p : Nat) : D := .int (p : Int)
section
variable {κ : Type} [DecidableEq κ] {k k' : κ} {v : D}
theorem idx_some : ∀ {ks : List κ} {ds : List D} {j : Nat}, ks.length = ds.length → idxK k ks = some j → lookD k ks ds = ds[j]? ∧ j < ds.length
  | [], _, _, _, h => by simp [idxK] at h
  | x :: ks, [], _, hl, _ => by simp at hl
  | x :: ks, d :: ds, j, hl, h => by
    simp only [idxK] at h
    by_cases e : x = k
    · rw [if_pos e] at h; cases h
      simp [lookD, e]
    · rw [if_neg e] at h
      obtain ⟨i, h1, rfl⟩ := Option.map_eq_some_iff.mp h
      obtain ⟨a, b⟩ := idx_some (ks := ks) (ds := ds) (by simpa using hl) h1
      simp [lookD, e, a, b]
theorem idx_none : ∀ {ks : List κ} {ds : List D}, idxK k ks = none → lookD k ks ds = none
  | [], _, _ => by simp [lookD]
  | x :: ks, [], _ => by simp [lookD]
  | x :: ks, d :: ds, h => by
    simp only [idxK] at h
    by_cases e : x = k
    · rw [if_pos e] at h; cases h
    · rw [if_neg e] at h
      rw [lookD, if_neg e]
      exact idx_none (by simpa using h)
theorem idx_set : ∀ {ks : List κ} {ds : List D} {j : Nat}, ks.length = ds.length → idxK k ks = some j → lookD k' ks (ds.set j v) = if k' = k then some v else lookD k' ks ds
  | [], _, _, _, h => by simp [idxK] at h
  | x :: ks, [], _, hl, _ => by simp at hl
  | x :: ks, d :: ds, j, hl, h => by
    simp only [idxK] at h
    by_cases e : x = k
    · rw [if_pos e] at h; cases h
      subst e
      by_cases e2 : x = k'
      · subst e2; simp [lookD]
      · simp [lookD, e2]; intro z; exact absurd z.symm e2
    · rw [if_neg e] at h
      obtain ⟨i, h1, rfl⟩ := Option.map_eq_some_iff.mp h
      have ih := idx_set (ks := ks) (ds := ds) (by simpa using hl) h1
      rw [List.set_cons_succ, lookD, lookD, ih]
      by_cases e2 : x = k'
      · subst e2; simp [e]
      · simp [e2]
theorem look_snoc : ∀ {ks : List κ} {ds : List D}, ks.length = ds.length → lookD k' (ks ++ [k]) (ds ++ [v]) = (match lookD k' ks ds with | some d => some d | none => if k = k' then some v else none)
  | [], [], _ => by simp [lookD]
  | [], _ :: _, h => by simp at h
  | _ :: _, [], h => by simp at h
  | x :: ks, d :: ds, h => by
    have ih := look_snoc (ks := ks) (ds := ds) (by simpa using h)
    rw [List.cons_append, List.cons_append, lookD, lookD, ih]
    by_cases e : x = k'
    · simp [e]
    · simp [e]
end
structure UR (ks : List (List Key)) (ds : List D) (U : Us) : Prop where
  len : ks.length = ds.length
  few : ks.length ≤ U.length
  look : ∀ f, lookD (fk f) ks ds = if usersOf U f = [] then none else some (.lst ((usersOf U f).map dI))
theorem users_snoc (U : Us) (p : Nat) (f g : List Str) : usersOf (U ++ [(p, f)]) g = usersOf U g ++ if f = g then [p] else [] := by
  unfold usersOf
  rw [List.filter_append, List.map_append]
  congr 1
  by_cases e : f = g <;> simp [e]
theorem users_len (U : Us) (f : List Str) : (usersOf U f).length ≤ U.length := by
  unfold usersOf; rw [List.length_map]; exact List.length_filter_le _ _
theorem UR.add {ks : List (List Key)} {ds : List D} {U : Us} (h : UR ks ds U) (hl : U.length < lim) (p : Nat) (f : List Str) :
    ∃ j ks' ds1 ds2, sdefP (fk f) ks ds = some (j, ks', ds1) ∧ sdefQ j (dI p) ds1 = some ds2 ∧ UR ks' ds2 (U ++ [(p, f)]) := by
  have hk : ks.length < lim := Nat.lt_of_le_of_lt h.few hl
  unfold sdefP
  rw [if_pos hk]
  cases e : idxK (fk f) ks with
  | some j =>
    obtain ⟨a, b⟩ := idx_some h.len e
    have hu : usersOf U f ≠ [] := fun z => by
      have := h.look f
      rw [a, List.getElem?_eq_getElem b, if_pos z] at this
      cases this
    have hd : ds[j]? = some (.lst ((usersOf U f).map dI)) := by rw [← a, h.look f, if_neg hu]
    refine ⟨j, ks, ds, ds.set j (.lst ((usersOf U f).map dI ++ [dI p])), rfl, ?_, ⟨by simp [h.len], by simp; have := h.few; omega, fun g => ?_⟩⟩
    · unfold sdefQ
      rw [hd]
      have : ((usersOf U f).map dI).length < lim := by rw [List.length_map]; exact Nat.lt_of_le_of_lt (users_len U f) hl
      simp only [if_pos this]
    · rw [idx_set h.len e, users_snoc]
      by_cases hg : f = g
      · subst hg
        simp [List.map_append]
      · rw [if_neg (fun z => hg (fk_inj z).symm), h.look g]
        simp [hg]
  | none =>
    have hn := idx_none (ds := ds) e
    have hu : usersOf U f = [] := by
      have := h.look f
      rw [hn] at this
      split at this
      · assumption
      · cases this
    refine ⟨ds.length, ks ++ [fk f], ds ++ [.lst []], ds ++ [.lst [dI p]], rfl, ?_, ⟨by simp [h.len], by simp; exact h.few, fun g => ?_⟩⟩
    · unfold sdefQ
      simp [lim]
    · rw [look_snoc h.len, h.look g, users_snoc]
      by_cases hg : f = g
      · subst hg
        simp [hu]
      · have : ¬ fk f = fk g := fun z => hg (fk_inj z)
        simp only [this, hg, if_false, List.append_nil]
        split <;> rename_i e2 <;> split at e2 <;> simp_all
theorem pby_in (d0 d1 : Option D) (p : Nat) : ∀ (fs : List (List Str)) (U : Us) (ks : List (List Key)) (ds : List D) (o4 : Option D), UR ks ds U → U.length + fs.length ≤ 90000 →
    ∃ ks' ds' o4', forG (loopF Φ_places_by_yes (.nm 4) lp_places_by_yes_1) (fs.map dPat) [d0, d1, some (.dit ks ds), some (dI p), o4] = some (.nx [d0, d1, some (.dit ks' ds'), some (dI p), o4']) ∧ UR ks' ds' (U ++ fs.map fun f => (p, f))
  | [], U, ks, ds, o4, h, _ => ⟨ks, ds, o4, by simp [for_nil], by simpa using h⟩
  | f :: fs, U, ks, ds, o4, h, hl => by
    rw [List.length_cons] at hl
    obtain ⟨j, ks1, ds1, ds2, e1, e2, h2⟩ := h.add (by have : lim = 100000 := rfl; omega) p f
    obtain ⟨ks', ds', o4', e, h'⟩ := pby_in d0 d1 p fs (U ++ [(p, f)]) ks1 ds2 (some (dPat f)) h2 (by simp; omega)
    refine ⟨ks', ds', o4', ?_, by simpa using h'⟩
    rw [List.map_cons]
    have e3 : loopF Φ_places_by_yes (.nm 4) lp_places_by_yes_1 (dPat f) [d0, d1, some (.dit ks ds), some (dI p), o4] = some (.nx [d0, d1, some (.dit ks1 ds2), some (dI p), some (dPat f)]) := by
      simp [loopF, lp_places_by_yes_1, e1, e2]
    rw [for_cons e3, e]
/-- the uses of facts as yeses, in the rules at the places -/
def useOf (F : List Gr) (p : Nat) : Us := match F[p]? with | some r => r.ys.map fun f => (p, f) | none => []
def usesOf (F : List Gr) (P : List Nat) : Us := P.flatMap (useOf F)
theorem pby_out (F : List Gr) (d1 : Option D) : ∀ (P : List Nat) (U : Us) (ks : List (List Key)) (ds : List D) (o3 o4 : Option D), UR ks ds U → (∀ p ∈ P, p < F.length) → (∀ r ∈ F, r.ys.length ≤ 1000) → U.length + (usesOf F P).length ≤ 90000 →
    ∃ ks' ds' o3' o4', forG (loopF Φ_places_by_yes (.nm 3) lp_places_by_yes_2) (P.map dI) [some (.lst (F.map dGr)), d1, some (.dit ks ds), o3, o4] = some (.nx [some (.lst (F.map dGr)), d1, some (.dit ks' ds'), o3', o4']) ∧ UR ks' ds' (U ++ usesOf F P)
  | [], U, ks, ds, o3, o4, h, _, _, _ => ⟨ks, ds, o3, o4, by simp [for_nil], by simpa [usesOf] using h⟩
  | p :: P, U, ks, ds, o3, o4, h, hp, hr, hl => by
    have hpl := hp p (by simp)
    have hF : F[p]? = some F[p] := List.getElem?_eq_getElem hpl
    have hy := hr _ (List.getElem_mem hpl)
    have hu : usesOf F (p :: P) = (F[p].ys.map fun f => (p, f)) ++ usesOf F P := by simp [usesOf, useOf, hF]
    rw [hu] at hl ⊢
    rw [List.length_append, List.length_map] at hl
    obtain ⟨ks1, ds1, o41, e1, h1⟩ := pby_in (some (.lst (F.map dGr))) d1 p F[p].ys U ks ds o4 h (by omega)
    obtain ⟨ks', ds', o3', o4', e, h'⟩ := pby_out F d1 P (U ++ F[p].ys.map fun f => (p, f)) ks1 ds1 (some (dI p)) o41 h1 (fun q hq => hp q (by simp [hq])) hr (by simp; omega)
    refine ⟨ks', ds', o3', o4', ?_, by simpa using h'⟩
    rw [List.map_cons]
    have hat : atI (F.map dGr) (p : Int) = some (dGr F[p]) := atI_nat (by rw [List.getElem?_map, hF]; rfl)
    have hs : seqL (dPats F[p].ys) = some (F[p].ys.map dPat) := by
      have : lim = 100000 := rfl
      simp [dPats, seqL, seqD]; omega
    have h2 : atI [D.int F[p].n, dPat F[p].hd, dPats F[p].ys, dPats F[p].ns] 2 = some (dPats F[p].ys) := rfl
    have e3 : loopF Φ_places_by_yes (.nm 3) lp_places_by_yes_2 (dI p) [some (.lst (F.map dGr)), d1, some (.dit ks ds), o3, o4] = some (.nx [some (.lst (F.map dGr)), d1, some (.dit ks1 ds1), some (dI p), o41]) := by
      have hix : evI Φ_places_by_yes (.iV (.op2 .ix (.op2 .ix (.var 0) (.var 3)) (.con (.int 2)))) [some (.lst (F.map dGr)), d1, some (.dit ks ds), some (dI p), o4] = some (F[p].ys.map dPat) := by
        show Option.bind (Option.bind (op2D .ix (.lst (F.map dGr)) (.int (p : Int))) (fun x => op2D .ix x (.int 2))) seqL = _
        rw [o2_ixL, hat]
        exact hs
      have hset : ([some (.lst (F.map dGr)), d1, some (.dit ks ds), o3, o4] : DEnv).set 3 (some (dI p)) = [some (.lst (F.map dGr)), d1, some (.dit ks ds), some (dI p), o4] := rfl
      simp only [loopF, lp_places_by_yes_2, as_nm, Option.bind_some, hset, x_seq, x_for, hix, e1, then_nx, x_nx]
    rw [for_cons e3, e]
end R

set_option Elab.async false
set_option linter.all false
set_option maxRecDepth 100000
set_option maxHeartbeats 4000000
namespace R
open PySem L2 DL M
variable [TbC]
theorem usesOf_len (F : List Gr) (m : Nat) (hr : ∀ r ∈ F, r.ys.length ≤ m) : ∀ P : List Nat, (usesOf F P).length ≤ m * P.length
  | [] => by simp [usesOf]
  | p :: P => by
    have ih := usesOf_len F m hr P
    have : usesOf F (p :: P) = useOf F p ++ usesOf F P := by unfold usesOf; rw [List.flatMap_cons]
    rw [this, List.length_append, List.length_cons, Nat.mul_succ]
    unfold useOf
    cases h : F[p]? with
    | none => simp; omega
    | some r =>
      have := hr r (List.mem_of_getElem? h)
      simp; omega
theorem uses_mem {F : List Gr} {P : List Nat} {p : Nat} {f : List Str} : p ∈ usersOf (usesOf F P) f ↔ p ∈ P ∧ ∃ r, F[p]? = some r ∧ f ∈ r.ys := by
  unfold usersOf usesOf useOf
  simp only [List.mem_map, List.mem_filter, List.mem_flatMap, decide_eq_true_eq]
  constructor
  · rintro ⟨⟨q, g⟩, ⟨⟨a, ha, h⟩, rfl⟩, rfl⟩
    cases e : F[a]? with
    | none => rw [e] at h; cases h
    | some r =>
      rw [e] at h
      obtain ⟨y, hy, e2⟩ := List.mem_map.mp h
      cases e2
      exact ⟨ha, r, e, hy⟩
  · rintro ⟨hp, r, e, hf⟩
    exact ⟨(p, f), ⟨⟨p, hp, by rw [e]; exact List.mem_map.mpr ⟨f, hf, rfl⟩⟩, rfl⟩, rfl⟩
theorem run_pby (F : List Gr) (P : List Nat) (hp : ∀ p ∈ P, p < F.length) (hr : ∀ r ∈ F, r.ys.length ≤ 1000) (hl : (usesOf F P).length ≤ 90000) (hP : P.length ≤ 90000) :
    ∃ ks ds, sem_places_by_yes [.lst (F.map dGr), .lst (P.map dI)] = some (.dit ks ds) ∧ UR ks ds (usesOf F P) := by
  obtain ⟨ks, ds, o3, o4, e, h⟩ := pby_out F (some (.lst (P.map dI))) P [] [] [] none none ⟨rfl, by simp, fun f => by simp [usersOf, lookD]⟩ hp hr (by simpa using hl)
  refine ⟨ks, ds, ?_, by simpa using h⟩
  have hs : seqL (.lst (P.map dI)) = some (P.map dI) := by
    have : lim = 100000 := rfl
    simp [seqL, seqD]; omega
  unfold sem_places_by_yes
  rw [run_def]
  simp [ir_places_by_yes, sq_places_by_yes_1, sq_places_by_yes_2, inD0, hs, e]
/-! ### the program: chained -/
abbrev Pr := List Str × Nat
def dPr (p : Pr) : D := .tup [dPat p.1, dI p.2]
def StepC (F : List Gr) (P : List Nat) (Y : List (List Str)) (p : Pr) : Prop := ∃ r, F[p.2]? = some r ∧ p.2 ∈ P ∧ r.hd = p.1 ∧ p.1 ∉ Y ∧ ∀ y ∈ r.ys, y ∈ Y
def Chain (F : List Gr) (P : List Nat) : List (List Str) → List Pr → Prop
  | _, [] => True
  | Y, p :: ps => StepC F P Y p ∧ Chain F P (Y ++ [p.1]) ps
theorem chain_snoc {F : List Gr} {P : List Nat} {p : Pr} : ∀ {ps : List Pr} {Y : List (List Str)}, Chain F P Y ps → StepC F P (Y ++ ps.map (·.1)) p → Chain F P Y (ps ++ [p])
  | [], Y, _, h => ⟨by simpa using h, trivial⟩
  | q :: ps, Y, h, h2 => ⟨h.1, chain_snoc h.2 (by simpa using h2)⟩
def mu (U : Us) (q : List Nat) (M : List (List Str)) : Nat := q.length + (U.filter fun u => !decide (u.2 ∈ M)).length
theorem mu_add (U : Us) (h : List Str) (M : List (List Str)) (hm : h ∉ M) : (U.filter fun u => !decide (u.2 ∈ M ++ [h])).length + (usersOf U h).length = (U.filter fun u => !decide (u.2 ∈ M)).length := by
  unfold usersOf
  rw [List.length_map]
  induction U with
  | nil => rfl
  | cons u U ih =>
    rw [List.filter_cons, List.filter_cons, List.filter_cons]
    by_cases h1 : u.2 = h
    · have e1 : (!decide (u.2 ∈ M ++ [h])) = false := by simp [h1]
      have e2 : decide (u.2 = h) = true := by simp [h1]
      have e3 : (!decide (u.2 ∈ M)) = true := by simp [h1, hm]
      simp only [e1, e2, e3, if_true, Bool.false_eq_true, if_false, List.length_cons]
      omega
    · have e2 : decide (u.2 = h) = false := by simp [h1]
      by_cases h2 : u.2 ∈ M
      · have e1 : (!decide (u.2 ∈ M ++ [h])) = false := by simp [h2]
        have e3 : (!decide (u.2 ∈ M)) = false := by simp [h2]
        simp only [e1, e2, e3, Bool.false_eq_true, if_false]
        exact ih
      · have e1 : (!decide (u.2 ∈ M ++ [h])) = true := by simp [h2, h1]
        have e3 : (!decide (u.2 ∈ M)) = true := by simp [h2]
        simp only [e1, e2, e3, Bool.false_eq_true, if_true, if_false, List.length_cons]
        omega
/-- all rules at the places whose head is missing lack a yes, or wait -/
def Inv2 (F : List Gr) (P : List Nat) (q : List Nat) (M : List (List Str)) : Prop := ∀ p ∈ P, ∀ r, F[p]? = some r → p ∈ q ∨ r.hd ∈ M ∨ ∃ y ∈ r.ys, y ∉ M
def envC (F : List Gr) (d1 d2 : Option D) (mk : List (List Key)) (md : List D) (uk : List (List Key)) (ud : List D) (prs : List Pr) (q : List Nat) (o7 o8 o9 o10 : Option D) : DEnv :=
  [some (.lst (F.map dGr)), d1, d2, some (.dit mk md), some (.dit uk ud), some (.lst (prs.map dPr)), some (.deq (q.map dI)), o7, o8, o9, o10, none]
theorem chained_step {F : List Gr} {d1 d2 : Option D} {mk : List (List Key)} {md : List D} {uk : List (List Key)} {ud : List D} {U : Us} {M : List (List Str)} {prs : List Pr} {p : Nat} {q : List Nat} {r : Gr} {o7 o8 o9 o10 : Option D}
    (hM : MK mk md M) (hU : UR uk ud U) (hr : F[p]? = some r) (h1 : M.length ≤ 90000) (h2 : prs.length ≤ 90000) (h3 : (r.hd ∉ M ∧ ∀ y ∈ r.ys, y ∈ M) → q.length + (usersOf U r.hd).length ≤ 90000) :
    ∃ mk' md' o7' o8' o9' o10', exS Φ_chained 1000 lp_chained_1 (envC F d1 d2 mk md uk ud prs (p :: q) o7 o8 o9 o10) = some (.nx (
      if r.hd ∉ M ∧ ∀ y ∈ r.ys, y ∈ M then envC F d1 d2 mk' md' uk ud (prs ++ [(r.hd, p)]) (q ++ usersOf U r.hd) o7' o8' o9' o10' else envC F d1 d2 mk md uk ud prs q o7' o8' o9' o10')) ∧ ((r.hd ∉ M ∧ ∀ y ∈ r.ys, y ∈ M) → MK mk' md' (M ++ [r.hd])) := by
  refine ⟨putKs (fk r.hd) mk, putD (fk r.hd) (.bl true) mk md, some (dI p), some (dPats r.ns), some (dPat r.hd), some (dPats r.ys), ?_, fun _ => hM.add _ _⟩
  have hat : atI (F.map dGr) (p : Int) = some (dGr r) := atI_nat (by rw [List.getElem?_map, hr]; rfl)
  have hlim : lim = 100000 := rfl
  have hg : op3D .get (.dit uk ud) (dPat r.hd) (.lst []) = some (.lst ((usersOf U r.hd).map dI)) := by
    show (keyT (dPat r.hd)).map (fun k => (lookD k uk ud).getD (.lst [])) = _
    rw [keyT_pat, Option.map_some, hU.look]
    by_cases e : usersOf U r.hd = []
    · simp [e]
    · simp [e]
  have e1 : exS Φ_chained 1000 lp_chained_1 (envC F d1 d2 mk md uk ud prs (p :: q) o7 o8 o9 o10) = exS Φ_chained 1000 sq_chained_2 (envC F d1 d2 mk md uk ud prs q (some (dI p)) (some (dPats r.ns)) (some (dPat r.hd)) (some (dPats r.ys))) := by
    have p1 : exS Φ_chained 1000 (.popl 7 6) (envC F d1 d2 mk md uk ud prs (p :: q) o7 o8 o9 o10) = some (.nx (envC F d1 d2 mk md uk ud prs q (some (dI p)) o8 o9 o10)) := rfl
    have a1 : evE Φ_chained (.op2 .ix (.var 0) (.var 7)) (envC F d1 d2 mk md uk ud prs q (some (dI p)) o8 o9 o10) = some (dGr r) := by
      show op2D .ix (.lst (F.map dGr)) (.int (p : Int)) = _
      rw [o2_ixL, hat]
    have p2 : exS Φ_chained 1000 (.asg (.tp (.cn (.nm 8) (.cn (.nm 9) (.cn (.nm 10) (.cn (.nm 8) .nl))))) (.op2 .ix (.var 0) (.var 7))) (envC F d1 d2 mk md uk ud prs q (some (dI p)) o8 o9 o10) = some (.nx (envC F d1 d2 mk md uk ud prs q (some (dI p)) (some (dPats r.ns)) (some (dPat r.hd)) (some (dPats r.ys)))) := by
      rw [x_asgT, a1]; rfl
    rw [lp_chained_1, x_seq, p1, then_nx, sq_chained_1, x_seq, p2, then_nx]
  have hl2 : 2 ≤ lim := by omega
  have hk : mk.length < lim := by have := hM.few; omega
  have hp : prs.length < lim := by omega
  rw [e1]
  by_cases hh : r.hd ∈ M
  · simp [sq_chained_2, envC, inD_key hM, hh]
  · by_cases hy : ∀ y ∈ r.ys, y ∈ M
    · have ha : (r.ys.all fun f => decide (f ∈ M)) = true := by simpa using hy
      have hq : q.length + (usersOf U r.hd).length ≤ lim := by have := h3 ⟨hh, hy⟩; omega
      rw [if_pos ⟨hh, hy⟩]
      simp [sq_chained_2, envC, inD_key hM, hh, qin_all hM, ha, keyT_pat, hk, hp, hg, hq, dPr, hl2]
    · have ha : (r.ys.all fun f => decide (f ∈ M)) = false := by
        rw [Bool.eq_false_iff]; intro z; exact hy (by simpa using z)
      rw [if_neg fun z => hy z.2]
      simp [sq_chained_2, envC, inD_key hM, hh, qin_all hM, ha]
theorem chained_loop {F : List Gr} {P : List Nat} {held : List (List Str)} {d1 d2 : Option D} {uk : List (List Key)} {ud : List D} (hU : UR uk ud (usesOf F P)) (hP : ∀ p ∈ P, p < F.length) :
    ∀ (n : Nat) (q : List Nat) (prs : List Pr) (mk : List (List Key)) (md : List D) (o7 o8 o9 o10 : Option D), mu (usesOf F P) q (held ++ prs.map (·.1)) < n → MK mk md (held ++ prs.map (·.1)) → (∀ p ∈ q, p ∈ P) → Inv2 F P q (held ++ prs.map (·.1)) → Chain F P held prs →
      held.length + prs.length + mu (usesOf F P) q (held ++ prs.map (·.1)) ≤ 80000 →
      ∃ prs' mk' md' o7' o8' o9' o10', whileG (evT Φ_chained (.var 6)) (exS Φ_chained 1000 lp_chained_1) n (envC F d1 d2 mk md uk ud prs q o7 o8 o9 o10) = some (.nx (envC F d1 d2 mk' md' uk ud prs' [] o7' o8' o9' o10')) ∧
        Chain F P held prs' ∧ Inv2 F P [] (held ++ prs'.map (·.1)) ∧ prs'.length ≤ prs.length + mu (usesOf F P) q (held ++ prs.map (·.1))
  | 0, _, _, _, _, _, _, _, _, h, _, _, _, _, _ => by omega
  | n + 1, [], prs, mk, md, o7, o8, o9, o10, _, hM, _, hI, hC, _ => ⟨prs, mk, md, o7, o8, o9, o10, rfl, hC, hI, by omega⟩
  | n + 1, p :: q, prs, mk, md, o7, o8, o9, o10, hn, hM, hq, hI, hC, hb => by
    have hpP := hq p (by simp)
    have hr : F[p]? = some (F[p]'(hP p hpP)) := List.getElem?_eq_getElem _
    generalize F[p]'(hP p hpP) = r at hr
    have hmu0 : mu (usesOf F P) (p :: q) (held ++ prs.map (·.1)) = mu (usesOf F P) q (held ++ prs.map (·.1)) + 1 := by unfold mu; rw [List.length_cons]; omega
    by_cases hc : r.hd ∉ held ++ prs.map (·.1) ∧ ∀ y ∈ r.ys, y ∈ held ++ prs.map (·.1)
    · have hma := mu_add (usesOf F P) r.hd _ hc.1
      have hsum : mu (usesOf F P) (q ++ usersOf (usesOf F P) r.hd) (held ++ (prs ++ [(r.hd, p)]).map (·.1)) = mu (usesOf F P) q (held ++ prs.map (·.1)) := by
        unfold mu
        rw [List.length_append, ← hma, List.map_append, ← List.append_assoc]
        simp only [List.map_cons, List.map_nil]
        omega
      have hlen : q.length + (usersOf (usesOf F P) r.hd).length ≤ mu (usesOf F P) q (held ++ prs.map (·.1)) := by
        unfold mu; omega
      obtain ⟨mk1, md1, a7, a8, a9, a10, e, hM1⟩ := chained_step (d1 := d1) (d2 := d2) (prs := prs) (q := q) (o7 := o7) (o8 := o8) (o9 := o9) (o10 := o10) hM hU hr (by simp; omega) (by omega) (fun _ => by omega)
      rw [if_pos hc] at e
      have hM2 := hM1 hc
      have hMe : held ++ prs.map (·.1) ++ [r.hd] = held ++ (prs ++ [(r.hd, p)]).map (·.1) := by simp
      rw [hMe] at hM2
      obtain ⟨prs', mk', md', o7', o8', o9', o10', e2, h1, h2, h3⟩ := chained_loop hU hP n (q ++ usersOf (usesOf F P) r.hd) (prs ++ [(r.hd, p)]) mk1 md1 a7 a8 a9 a10 (by rw [hsum]; omega) hM2
        (fun x hx => by
          rcases List.mem_append.mp hx with z | z
          · exact hq x (by simp [z])
          · exact (uses_mem.mp z).1)
        (fun x hx r2 hr2 => by
          rw [← hMe]
          rcases hI x hx r2 hr2 with z | z | ⟨y, hy, z⟩
          · rcases List.mem_cons.mp z with rfl | z
            · rw [hr] at hr2; cases hr2
              exact .inr (.inl (by simp))
            · exact .inl (by simp [z])
          · exact .inr (.inl (by rw [List.mem_append]; exact .inl z))
          · by_cases hyh : y = r.hd
            · subst hyh
              exact .inl (List.mem_append.mpr (.inr (uses_mem.mpr ⟨hx, r2, hr2, hy⟩)))
            · exact .inr (.inr ⟨y, hy, by rw [List.mem_append]; rintro (z2 | z2); exact z z2; simp at z2; exact hyh z2⟩))
        (chain_snoc hC ⟨r, hr, hpP, rfl, hc.1, hc.2⟩) (by rw [hsum]; simp; omega)
      refine ⟨prs', mk', md', o7', o8', o9', o10', ?_, h1, h2, by rw [hsum] at h3; simp at h3; omega⟩
      rw [← e2]
      show Option.bind (evT Φ_chained (.var 6) _) _ = _
      show Option.bind (exS Φ_chained 1000 lp_chained_1 _) _ = _
      rw [e]; rfl
    · obtain ⟨mk1, md1, a7, a8, a9, a10, e, _⟩ := chained_step (d1 := d1) (d2 := d2) (prs := prs) (q := q) (o7 := o7) (o8 := o8) (o9 := o9) (o10 := o10) (p := p) hM hU hr (by simp; omega) (by omega) (fun z => absurd z hc)
      rw [if_neg hc] at e
      obtain ⟨prs', mk', md', o7', o8', o9', o10', e2, h1, h2, h3⟩ := chained_loop hU hP n q prs mk md a7 a8 a9 a10 (by omega) hM (fun x hx => hq x (by simp [hx]))
        (fun x hx r2 hr2 => by
          rcases hI x hx r2 hr2 with z | z | z
          · rcases List.mem_cons.mp z with rfl | z
            · rw [hr] at hr2; cases hr2
              by_cases hh : r.hd ∈ held ++ prs.map (·.1)
              · exact .inr (.inl hh)
              · by_cases hy : ∃ y ∈ r.ys, y ∉ held ++ prs.map (·.1)
                · exact .inr (.inr hy)
                · exact absurd ⟨hh, fun y hyr => Classical.byContradiction fun z2 => hy ⟨y, hyr, z2⟩⟩ hc
            · exact .inl z
          · exact .inr (.inl z)
          · exact .inr (.inr z)) hC (by omega)
      refine ⟨prs', mk', md', o7', o8', o9', o10', ?_, h1, h2, by omega⟩
      rw [← e2]
      show Option.bind (exS Φ_chained 1000 lp_chained_1 _) _ = _
      rw [e]; rfl
/-- what follows from the held facts and the yeses alone -/
theorem run_chained (F : List Gr) (P : List Nat) (held : List (List Str)) (hP : ∀ p ∈ P, p < F.length) (hr : ∀ r ∈ F, r.ys.length ≤ 6) (hl : P.length * 7 < 1000) (hh : held.length ≤ 70000) (dh : D) (hdh : seqL dh = some (held.map dPat)) :
    ∃ prs, sem_chained [.lst (F.map dGr), .lst (P.map dI), dh] = some (.lst (prs.map dPr)) ∧ Chain F P held prs ∧ Inv2 F P [] (held ++ prs.map (·.1)) ∧ prs.length ≤ P.length * 7 := by
  have hu := usesOf_len F 6 hr P
  obtain ⟨uk, ud, eu, hU⟩ := run_pby F P hP (fun r h => by have := hr r h; omega) (by omega) (by omega)
  obtain ⟨mk, md, em, hM⟩ := run_marked held (by omega) dh hdh
  have hmu : mu (usesOf F P) P (held ++ ([] : List Pr).map (·.1)) ≤ P.length * 7 := by
    have := List.length_filter_le (fun u => !decide (u.2 ∈ held ++ ([] : List Pr).map (·.1))) (usesOf F P)
    unfold mu; omega
  obtain ⟨prs, mk', md', o7, o8, o9, o10, e, h1, h2, h3⟩ := chained_loop (F := F) (P := P) (held := held) (d1 := some (.lst (P.map dI))) (d2 := some dh) hU hP 1000 P [] mk md none none none none
    (by omega) (by simpa using hM) (fun p h => h) (fun p hp r hr => .inl hp) trivial (by simp only [List.length_nil]; omega)
  refine ⟨prs, ?_, h1, h2, by simp only [List.length_nil] at h3; omega⟩
  have hlim : P.length ≤ lim := by have : lim = 100000 := rfl; omega
  have hw : exS Φ_chained 1000 (.while_ (.var 6) lp_chained_1) (envC F (some (.lst (P.map dI))) (some dh) mk md uk ud [] P none none none none) = some (.nx (envC F (some (.lst (P.map dI))) (some dh) mk' md' uk ud prs [] o7 o8 o9 o10)) := e
  unfold sem_chained
  rw [run_def]
  have e1 : exS Φ_chained 1000 ir_chained (inD0 12 [.lst (F.map dGr), .lst (P.map dI), dh]) = exS Φ_chained 1000 sq_chained_6 (envC F (some (.lst (P.map dI))) (some dh) mk md uk ud [] P none none none none) := by
    simp [ir_chained, sq_chained_3, sq_chained_4, sq_chained_5, inD0, Φ_chained, em, eu, envC, hlim]
  rw [e1, sq_chained_6, x_seq, hw, then_nx]
  simp [sq_chained_7, envC]
end R

set_option Elab.async false
set_option linter.all false
set_option maxRecDepth 100000
set_option maxHeartbeats 4000000
namespace R
open PySem L2 DL M
variable [TbC]
/-! ### the program: enterable -/
def okQ (T Rf : List (List Str)) (r : Gr) : Bool := !(r.ys.any fun f => decide (f ∈ Rf)) && !(r.ns.any fun f => decide (f ∈ T))
def opL (T Rf : List (List Str)) (L : List (Gr × Nat)) : List Nat := (L.filter fun x => okQ T Rf x.1).map (·.2)
def dEn (x : Gr × Nat) : D := .tup [dI x.2, dGr x.1]
theorem enum_gr (F : List Gr) : enumD (F.map dGr) = F.zipIdx.map dEn := by
  unfold enumD dEn dI
  rw [List.zipIdx_map, List.map_map]
  rfl
theorem enterable_loop {d0 d1 d2 : Option D} {yk nk : List (List Key)} {yd nd : List D} {T Rf : List (List Str)} (hT : MK yk yd T) (hN : MK nk nd Rf) : ∀ (L : List (Gr × Nat)) (P : List Nat) (o6 o7 o8 o9 : Option D), P.length + L.length ≤ 90000 →
    ∃ o6' o7' o8' o9', forG (loopF Φ_enterable (.tp (.cn (.nm 6) (.cn (.tp (.cn (.nm 7) (.cn (.nm 7) (.cn (.nm 8) (.cn (.nm 9) .nl))))) .nl))) lp_enterable_1) (L.map dEn) [d0, d1, d2, some (.dit yk yd), some (.dit nk nd), some (.lst (P.map dI)), o6, o7, o8, o9, none] =
      some (.nx [d0, d1, d2, some (.dit yk yd), some (.dit nk nd), some (.lst ((P ++ opL T Rf L).map dI)), o6', o7', o8', o9', none])
  | [], P, o6, o7, o8, o9, _ => ⟨o6, o7, o8, o9, by simp [for_nil, opL]⟩
  | x :: L, P, o6, o7, o8, o9, h => by
    rw [List.length_cons] at h
    have hz : P.length < lim := by have : lim = 100000 := rfl; omega
    have e1 : loopF Φ_enterable (.tp (.cn (.nm 6) (.cn (.tp (.cn (.nm 7) (.cn (.nm 7) (.cn (.nm 8) (.cn (.nm 9) .nl))))) .nl))) lp_enterable_1 (dEn x) [d0, d1, d2, some (.dit yk yd), some (.dit nk nd), some (.lst (P.map dI)), o6, o7, o8, o9, none] =
        exS Φ_enterable 1000 lp_enterable_1 [d0, d1, d2, some (.dit yk yd), some (.dit nk nd), some (.lst (P.map dI)), some (dI x.2), some (dPat x.1.hd), some (dPats x.1.ys), some (dPats x.1.ns), none] := rfl
    have e2 : exS Φ_enterable 1000 lp_enterable_1 [d0, d1, d2, some (.dit yk yd), some (.dit nk nd), some (.lst (P.map dI)), some (dI x.2), some (dPat x.1.hd), some (dPats x.1.ys), some (dPats x.1.ns), none] =
        some (.nx [d0, d1, d2, some (.dit yk yd), some (.dit nk nd), some (.lst ((P ++ if okQ T Rf x.1 then [x.2] else []).map dI)), some (dI x.2), some (dPat x.1.hd), some (dPats x.1.ys), some (dPats x.1.ns), none]) := by
      have q1 := qin_any hN x.1.ys
      have q2 := qin_any hT x.1.ns
      cases ha : (x.1.ys.any fun f => decide (f ∈ Rf)) with
      | true => rw [ha] at q1; simp [lp_enterable_1, q1, okQ, ha]
      | false =>
        rw [ha] at q1
        cases hb : (x.1.ns.any fun f => decide (f ∈ T)) with
        | true => rw [hb] at q2; simp [lp_enterable_1, q1, q2, okQ, ha, hb]
        | false => rw [hb] at q2; simp [lp_enterable_1, q1, q2, okQ, ha, hb, hz]
    obtain ⟨o6', o7', o8', o9', e⟩ := enterable_loop hT hN L (P ++ if okQ T Rf x.1 then [x.2] else []) (some (dI x.2)) (some (dPat x.1.hd)) (some (dPats x.1.ys)) (some (dPats x.1.ns)) (by split <;> simp <;> omega)
    refine ⟨o6', o7', o8', o9', ?_⟩
    rw [List.map_cons, for_cons (e1.trans e2), e]
    have : (P ++ if okQ T Rf x.1 then [x.2] else []) ++ opL T Rf L = P ++ opL T Rf (x :: L) := by
      unfold opL
      rw [List.filter_cons, List.append_assoc]
      cases okQ T Rf x.1 <;> simp
    rw [this]
theorem opL_mem {T Rf : List (List Str)} {F : List Gr} {p : Nat} : p ∈ opL T Rf F.zipIdx ↔ ∃ r, F[p]? = some r ∧ okQ T Rf r = true := by
  unfold opL
  simp only [List.mem_map, List.mem_filter, List.mem_zipIdx_iff_getElem?]
  constructor
  · rintro ⟨⟨r, i⟩, ⟨h1, h2⟩, rfl⟩
    exact ⟨r, h1, h2⟩
  · rintro ⟨r, h1, h2⟩
    exact ⟨(r, p), ⟨h1, h2⟩, rfl⟩
theorem okQ_iff {T Rf : List (List Str)} {r : Gr} : okQ T Rf r = true ↔ (∀ y ∈ r.ys, y ∉ Rf) ∧ ∀ y ∈ r.ns, y ∉ T := by unfold okQ; simp
theorem run_enterable (F : List Gr) (T Rf : List (List Str)) (hr : ∀ r ∈ F, r.ys.length ≤ 6) (hl : F.length * 7 < 1000) (hT : T.length ≤ 70000) (hR : Rf.length ≤ 70000) :
    ∃ prs, sem_enterable [.lst (F.map dGr), .lst (T.map dPat), .lst (Rf.map dPat)] = some (.lst (prs.map dPr)) ∧ Chain F (opL T Rf F.zipIdx) T prs ∧ Inv2 F (opL T Rf F.zipIdx) [] (T ++ prs.map (·.1)) ∧ prs.length ≤ F.length * 7 := by
  obtain ⟨yk, yd, ey, hY⟩ := run_marked T (by omega) _ (seqL_pats T (by omega))
  obtain ⟨nk, nd, en, hN⟩ := run_marked Rf (by omega) _ (seqL_pats Rf (by omega))
  obtain ⟨o6, o7, o8, o9, e⟩ := enterable_loop (d0 := some (.lst (F.map dGr))) (d1 := some (.lst (T.map dPat))) (d2 := some (.lst (Rf.map dPat))) hY hN F.zipIdx [] none none none none (by simp; omega)
  have hlen : (opL T Rf F.zipIdx).length ≤ F.length := by
    unfold opL
    rw [List.length_map]
    have := List.length_filter_le (fun x => okQ T Rf x.1) F.zipIdx
    simpa using this
  obtain ⟨prs, ec, h1, h2, h3⟩ := run_chained F (opL T Rf F.zipIdx) T (fun p hp => by
    obtain ⟨r, h, _⟩ := opL_mem.mp hp
    exact (List.getElem?_eq_some_iff.mp h).1) hr (by omega) hT (.lst (T.map dPat)) (seqL_pats T (by omega))
  refine ⟨prs, ?_, h1, h2, by omega⟩
  have hlim : F.length ≤ lim := by have : lim = 100000 := rfl; omega
  have hi : evI Φ_enterable (.iEn (.var 0)) [some (.lst (F.map dGr)), some (.lst (T.map dPat)), some (.lst (Rf.map dPat)), some (.dit yk yd), some (.dit nk nd), some (.lst []), none, none, none, none, none] = some (F.zipIdx.map dEn) := by
    simp [hlim, enum_gr]
  have e' := e
  simp only [List.map_nil, List.nil_append] at e'
  unfold sem_enterable
  rw [run_def]
  have e1 : exS Φ_enterable 1000 ir_enterable (inD0 11 [.lst (F.map dGr), .lst (T.map dPat), .lst (Rf.map dPat)]) = exS Φ_enterable 1000 sq_enterable_3 [some (.lst (F.map dGr)), some (.lst (T.map dPat)), some (.lst (Rf.map dPat)), some (.dit yk yd), some (.dit nk nd), some (.lst []), none, none, none, none, none] := by
    simp [ir_enterable, sq_enterable_1, sq_enterable_2, inD0, Φ_enterable, ey, en]
  rw [e1, sq_enterable_3, x_seq, x_for, hi, Option.bind_some, e', then_nx]
  simp [sq_enterable_4, Φ_enterable, ec]
/-! ### the program: facts_of -/
def factsR (r : Gr) : List (List Str) := r.hd :: (r.ys ++ r.ns)
theorem facts_loop (d0 : Option D) : ∀ (L : List Gr) (G : List (List Str)) (o2 o3 o4 o5 : Option D), (∀ r ∈ L, r.ys.length ≤ 6 ∧ r.ns.length ≤ 6) → G.length + 13 * L.length ≤ 90000 →
    ∃ o2' o3' o4' o5', forG (loopF Φ_facts_of (.tp (.cn (.nm 2) (.cn (.nm 3) (.cn (.nm 4) (.cn (.nm 5) .nl))))) lp_facts_of_1) (L.map dGr) [d0, some (.lst (G.map dPat)), o2, o3, o4, o5] = some (.nx [d0, some (.lst ((G ++ L.flatMap factsR).map dPat)), o2', o3', o4', o5'])
  | [], G, o2, o3, o4, o5, _, _ => ⟨o2, o3, o4, o5, by simp [for_nil]⟩
  | r :: L, G, o2, o3, o4, o5, hr, h => by
    rw [List.length_cons] at h
    have hb := hr r (by simp)
    have hlim : lim = 100000 := rfl
    obtain ⟨o2', o3', o4', o5', e⟩ := facts_loop d0 L (G ++ factsR r) (some (.int r.n)) (some (dPat r.hd)) (some (dPats r.ys)) (some (dPats r.ns)) (fun q hq => hr q (by simp [hq])) (by simp [factsR]; omega)
    refine ⟨o2', o3', o4', o5', ?_⟩
    have hz1 : r.ys.length + r.ns.length + 1 ≤ lim := by omega
    have hz2 : G.length + (r.ys.length + r.ns.length + 1) ≤ lim := by omega
    have e1 : loopF Φ_facts_of (.tp (.cn (.nm 2) (.cn (.nm 3) (.cn (.nm 4) (.cn (.nm 5) .nl))))) lp_facts_of_1 (dGr r) [d0, some (.lst (G.map dPat)), o2, o3, o4, o5] = exS Φ_facts_of 1000 lp_facts_of_1 [d0, some (.lst (G.map dPat)), some (.int r.n), some (dPat r.hd), some (dPats r.ys), some (dPats r.ns)] := rfl
    have e2 : exS Φ_facts_of 1000 lp_facts_of_1 [d0, some (.lst (G.map dPat)), some (.int r.n), some (dPat r.hd), some (dPats r.ys), some (dPats r.ns)] = some (.nx [d0, some (.lst ((G ++ factsR r).map dPat)), some (.int r.n), some (dPat r.hd), some (dPats r.ys), some (dPats r.ns)]) := by
      have s1 : starL (dPats r.ys) = some (r.ys.map dPat) := rfl
      have s2 : starL (dPats r.ns) = some (r.ns.map dPat) := rfl
      simp [lp_facts_of_1, s1, s2, hz1, hz2, factsR]
    rw [List.map_cons, for_cons (e1.trans e2), e]
    simp
theorem run_facts_of (F : List Gr) (hr : ∀ r ∈ F, r.ys.length ≤ 6 ∧ r.ns.length ≤ 6) (hl : F.length ≤ 5000) : sem_facts_of [.lst (F.map dGr)] = some (.lst ((F.flatMap factsR).map dPat)) := by
  obtain ⟨o2, o3, o4, o5, e⟩ := facts_loop (some (.lst (F.map dGr))) F [] none none none none hr (by simp; omega)
  have hs : F.length ≤ lim := by have : lim = 100000 := rfl; omega
  unfold sem_facts_of
  rw [run_def]
  have e' := e
  simp only [List.map_nil, List.nil_append] at e'
  have e1 : exS Φ_facts_of 1000 ir_facts_of (inD0 6 [.lst (F.map dGr)]) = exS Φ_facts_of 1000 sq_facts_of_1 [some (.lst (F.map dGr)), some (.lst []), none, none, none, none] := by
    simp [ir_facts_of, inD0]
  have hi : evI Φ_facts_of (.iV (.var 0)) [some (.lst (F.map dGr)), some (.lst []), none, none, none, none] = some (F.map dGr) := by simp [seqL, seqD, hs]
  rw [e1, sq_facts_of_1, x_seq, x_for, hi, Option.bind_some, e', then_nx]
  simp [sq_facts_of_2]
end R

set_option Elab.async false
set_option linter.all false
set_option maxRecDepth 100000
set_option maxHeartbeats 4000000
namespace R
open PySem L2 DL M
variable [TbC]
/-! ### lists without doubles -/
theorem nodup_le {α : Type} [DecidableEq α] : ∀ {l m : List α}, l.Nodup → (∀ x ∈ l, x ∈ m) → l.length ≤ m.length
  | [], _, _, _ => Nat.zero_le _
  | x :: l, m, nd, sub => by
    obtain ⟨n1, n2⟩ := List.nodup_cons.mp nd
    have hx : x ∈ m := sub x (by simp)
    have ih := nodup_le (l := l) (m := m.erase x) n2 fun y hy => (List.mem_erase_of_ne (fun e => n1 (by rw [← e]; exact hy))).mpr (sub y (by simp [hy]))
    have z1 := List.length_erase_of_mem hx
    have z2 := List.length_pos_of_mem hx
    rw [List.length_cons]
    omega
theorem strsD_map : ∀ p : List Str, strsD (p.map D.str) = some p
  | [] => rfl
  | x :: p => by rw [List.map_cons, strsD, strsD_map p]; rfl
theorem strT_pat {p : List Str} (h : p ≠ []) : strT (dPat p) = some p := by
  show (strsD (p.map D.str)).bind (fun k => if k = [] then none else some k) = _
  rw [strsD_map]
  simp [h]
theorem tupK_pat : (tupK : List Str → D) = dPat := rfl
/-! ### the program: kept_out -/
theorem gather_set {d0 d1 d2 d3 : Option D} {ok : List (List Key)} {od : List D} {O A : List (List Str)} (hO : MK ok od O) (hA : A.length ≤ 60) (hne : ∀ a ∈ A, a ≠ []) : ∀ (fs K : List (List Str)), (∀ f ∈ fs, f ∈ A) → K.Nodup → (∀ f ∈ K, f ∈ A) →
    ∃ K', foldG (f1G (.nm 7) [7] (evT Φ_kept_out (.op2 .notin (.var 7) (.var 6))) (emU (evE Φ_kept_out (.var 7))) [d0, d1, d2, d3, none, none, some (.dit ok od), none]) (fs.map dPat) K = some K' ∧ K'.Nodup ∧ (∀ f, f ∈ K' ↔ f ∈ K ∨ (f ∈ fs ∧ f ∉ O))
  | [], K, _, nd, _ => ⟨K, rfl, nd, fun f => by simp⟩
  | f :: fs, K, hf, nd, hK => by
    have fA := hf f (by simp)
    have hlen := nodup_le nd hK
    have hk : K.length < 62 := by omega
    by_cases c : f ∈ O
    · obtain ⟨K', e, n, m⟩ := gather_set (d0 := d0) (d1 := d1) (d2 := d2) (d3 := d3) hO hA hne fs K (fun g hg => hf g (by simp [hg])) nd hK
      refine ⟨K', ?_, n, fun g => by
        rw [m g]
        constructor
        · rintro (z | ⟨z1, z2⟩)
          · exact .inl z
          · exact .inr ⟨by simp [z1], z2⟩
        · rintro (z | ⟨z1, z2⟩)
          · exact .inl z
          · rcases List.mem_cons.mp z1 with rfl | z1
            · exact absurd c z2
            · exact .inr ⟨z1, z2⟩⟩
      rw [List.map_cons, foldG]
      have e1 : f1G (.nm 7) [7] (evT Φ_kept_out (.op2 .notin (.var 7) (.var 6))) (emU (evE Φ_kept_out (.var 7))) [d0, d1, d2, d3, none, none, some (.dit ok od), none] (dPat f) K = some K := by
        simp [f1G, wipeD, inD_key hO, c]
      rw [e1]
      exact e
    · have nd' : (if f ∈ K then K else f :: K).Nodup := by
        split
        · exact nd
        · rename_i z; exact List.nodup_cons.mpr ⟨z, nd⟩
      have hK' : ∀ g ∈ (if f ∈ K then K else f :: K), g ∈ A := fun g hg => by
        split at hg
        · exact hK g hg
        · rcases List.mem_cons.mp hg with rfl | hg
          · exact fA
          · exact hK g hg
      obtain ⟨K', e, n, m⟩ := gather_set (d0 := d0) (d1 := d1) (d2 := d2) (d3 := d3) hO hA hne fs (if f ∈ K then K else f :: K) (fun g hg => hf g (by simp [hg])) nd' hK'
      refine ⟨K', ?_, n, fun g => by
        rw [m g]
        by_cases z : f ∈ K
        · rw [if_pos z, List.mem_cons]
          constructor
          · rintro (y | y)
            · exact .inl y
            · exact .inr ⟨.inr y.1, y.2⟩
          · rintro (y | ⟨rfl | y, y2⟩)
            · exact .inl y
            · exact .inl z
            · exact .inr ⟨y, y2⟩
        · rw [if_neg z, List.mem_cons, List.mem_cons]
          constructor
          · rintro ((rfl | y) | y)
            · exact .inr ⟨.inl rfl, c⟩
            · exact .inl y
            · exact .inr ⟨.inr y.1, y.2⟩
          · rintro (y | ⟨rfl | y, y2⟩)
            · exact .inl (.inr y)
            · exact .inl (.inl rfl)
            · exact .inr ⟨y, y2⟩⟩
      rw [List.map_cons, foldG]
      have e1 : f1G (.nm 7) [7] (evT Φ_kept_out (.op2 .notin (.var 7) (.var 6))) (emU (evE Φ_kept_out (.var 7))) [d0, d1, d2, d3, none, none, some (.dit ok od), none] (dPat f) K = some (if f ∈ K then K else f :: K) := by
        simp [f1G, wipeD, inD_key hO, c, emU, strT_pat (hne f fA), hk]
      rw [e1]
      exact e
theorem heads_lc (Φ : Nat → List D → Option D) (d0 d1 d2 : Option D) : ∀ prs : List Pr, lcG (lcF Φ (.tp (.cn (.nm 4) (.cn (.nm 5) .nl))) [4, 5] el_kept_out_1 .nop [d0, d1, d2, none, none, none, none, none]) (prs.map dPr) = some ((prs.map (·.1)).map dPat)
  | [] => rfl
  | p :: prs => by
    rw [List.map_cons, lcG, heads_lc Φ d0 d1 d2 prs]
    have e : lcF Φ (.tp (.cn (.nm 4) (.cn (.nm 5) .nl))) [4, 5] el_kept_out_1 .nop [d0, d1, d2, none, none, none, none, none] (dPr p) = some (some (dPat p.1)) := rfl
    rw [e]
    rfl
theorem run_kept (F : List Gr) (T Rf A : List (List Str)) (hr : ∀ r ∈ F, r.ys.length ≤ 6 ∧ r.ns.length ≤ 6) (hl : F.length * 7 < 1000) (hT : T.length ≤ 20000) (hR : Rf.length ≤ 20000) (hA : A.length ≤ 60) (hne : ∀ a ∈ A, a ≠ []) (hFA : ∀ f ∈ F.flatMap factsR, f ∈ A) :
    ∃ prs K, sem_kept_out [.lst (F.map dGr), .lst (T.map dPat), .lst (Rf.map dPat)] = some (.lst ((sortK K).map dPat)) ∧ K.Nodup ∧ Chain F (opL T Rf F.zipIdx) T prs ∧ Inv2 F (opL T Rf F.zipIdx) [] (T ++ prs.map (·.1)) ∧
      ∀ f, f ∈ K ↔ f ∈ F.flatMap factsR ∧ f ∉ T ∧ f ∉ Rf ∧ f ∉ prs.map (·.1) := by
  have hlim : lim = 100000 := rfl
  obtain ⟨prs, eE, h1, h2, h3⟩ := run_enterable F T Rf (fun r h => (hr r h).1) hl (by omega) (by omega)
  have hO : (T ++ (Rf ++ prs.map (·.1))).length ≤ 90000 := by simp; omega
  obtain ⟨ok, od, eO, mO⟩ := run_marked (T ++ (Rf ++ prs.map (·.1))) hO _ (seqL_pats _ hO)
  obtain ⟨K, eK, nK, mK⟩ := gather_set (d0 := some (.lst (F.map dGr))) (d1 := some (.lst (T.map dPat))) (d2 := some (.lst (Rf.map dPat))) (d3 := some (.lst ((prs.map (·.1)).map dPat))) mO hA hne (F.flatMap factsR) [] hFA .nil (by simp)
  refine ⟨prs, K, ?_, nK, h1, h2, fun f => by rw [mK f]; simp⟩
  have hfl : (F.flatMap factsR).length ≤ 13 * F.length := by
    have : ∀ L : List Gr, (∀ r ∈ L, r.ys.length ≤ 6 ∧ r.ns.length ≤ 6) → (L.flatMap factsR).length ≤ 13 * L.length := by
      intro L
      induction L with
      | nil => intro _; simp
      | cons r L ih =>
        intro h
        have hb := h r (by simp)
        have := ih fun q hq => h q (by simp [hq])
        rw [List.flatMap_cons, List.length_append, List.length_cons]
        have e : (factsR r).length = 1 + (r.ys.length + r.ns.length) := by simp [factsR]; omega
        omega
    exact this F hr
  have hp : prs.length ≤ lim := by omega
  have hs : seqL (.lst (prs.map dPr)) = some (prs.map dPr) := by simp [seqL, seqD, hp]
  have hs2 : seqL (.lst ((F.flatMap factsR).map dPat)) = some ((F.flatMap factsR).map dPat) := seqL_pats _ (by omega)
  have hcat : T.length + (Rf.length + prs.length) ≤ lim := by omega
  have hf := run_facts_of F hr (by omega)
  unfold sem_kept_out
  rw [run_def]
  have s1 : exS Φ_kept_out 1000 ir_kept_out (inD0 8 [.lst (F.map dGr), .lst (T.map dPat), .lst (Rf.map dPat)]) = exS Φ_kept_out 1000 sq_kept_out_1 [some (.lst (F.map dGr)), some (.lst (T.map dPat)), some (.lst (Rf.map dPat)), some (.lst ((prs.map (·.1)).map dPat)), none, none, none, none] := by
    have hl := heads_lc Φ_kept_out (some (.lst (F.map dGr))) (some (.lst (T.map dPat))) (some (.lst (Rf.map dPat))) prs
    simp [ir_kept_out, inD0, Φ_kept_out, eE, hs] at hl ⊢
    rw [hl]
    simp
  have s2 : exS Φ_kept_out 1000 sq_kept_out_1 [some (.lst (F.map dGr)), some (.lst (T.map dPat)), some (.lst (Rf.map dPat)), some (.lst ((prs.map (·.1)).map dPat)), none, none, none, none] = exS Φ_kept_out 1000 sq_kept_out_2 [some (.lst (F.map dGr)), some (.lst (T.map dPat)), some (.lst (Rf.map dPat)), some (.lst ((prs.map (·.1)).map dPat)), none, none, some (.dit ok od), none] := by
    rw [List.map_append, List.map_append] at eO
    have t1 : starL (.lst (T.map dPat)) = some (T.map dPat) := rfl
    have t2 : starL (.lst (Rf.map dPat)) = some (Rf.map dPat) := rfl
    have t3 : starL (.lst ((prs.map (·.1)).map dPat)) = some ((prs.map (·.1)).map dPat) := rfl
    simp only [sq_kept_out_1, x_seq, x_asg, e_call, a_cons, a_star, a_nil, e_lst, e_var, List.getElem?_cons_succ, List.getElem?_cons_zero, Option.bind_some, id, t1, t2, t3, Option.map_some, List.append_nil, List.length_append, List.length_map, hcat, if_true, Φ_kept_out, eO, List.set_cons_succ, List.set_cons_zero, then_nx]
  have s3 : exS Φ_kept_out 1000 sq_kept_out_2 [some (.lst (F.map dGr)), some (.lst (T.map dPat)), some (.lst (Rf.map dPat)), some (.lst ((prs.map (·.1)).map dPat)), none, none, some (.dit ok od), none] = some (.ret (.lst ((sortK K).map dPat))) := by
    have hi : evI Φ_kept_out (.iV (.call 2 (.cons (.var 0) .nil))) [some (.lst (F.map dGr)), some (.lst (T.map dPat)), some (.lst (Rf.map dPat)), some (.lst ((prs.map (·.1)).map dPat)), none, none, some (.dit ok od), none] = some ((F.flatMap factsR).map dPat) := by
      simp only [i_V, e_call, a_cons, a_nil, e_var, List.getElem?_cons_zero, Option.bind_some, id, Option.map_some, Φ_kept_out, hf, hs2]
    simp only [sq_kept_out_2, x_seq, x_ret, e_ss1, hi, Option.bind_some, eK, Option.map_some, then_ret, tupK_pat]
  rw [s1, s2, s3]
  rfl
end R

set_option Elab.async false
set_option linter.all false
set_option maxRecDepth 100000
set_option maxHeartbeats 4000000
namespace R
open PySem L2 DL M
variable [TbC]
def abc : List Nat := [97, 98, 99, 100, 101, 102, 103, 104, 105, 106, 107, 108, 109, 110, 111, 112, 113, 114, 115, 116, 117, 118, 119, 120, 121, 122]
def abcS : Str := ⟨#[97, 98, 99, 100, 101, 102, 103, 104, 105, 106, 107, 108, 109, 110, 111, 112, 113, 114, 115, 116, 117, 118, 119, 120, 121, 122]⟩
theorem abc_list : abcS.cps.toList = abc := rfl
theorem word_base (c : Int) (o1 o3 o4 o5 o6 o7 : Option D) : ∃ base : Str, (evE Φ_l_word_by (.op2 .join (.con (.str ⟨#[]⟩)) (.lc (.nm 4) [4] el_l_word_by_2 (.iR1 (.con (.int 8))) .nop)) [some (.int c), o1, some (.str abcS), o3, o4, o5, o6, o7] = some (.str base)) ∧ base.cps.toList.length = 8 ∧ ∀ x ∈ base.cps.toList, x ∈ abc := by
  have e : lcG (lcF Φ_l_word_by (.nm 4) [4] el_l_word_by_2 .nop [some (.int c), o1, some (.str abcS), o3, o4, o5, o6, o7]) (rngD 0 8) = some (((List.range 8).map fun (k : Nat) => chL abc ((c / 208 + 5 * (k : Int)) % 26)).map fun c => D.str (one c)) := by
    rw [lc_rng (g := fun j => .str (one (chL abc ((c / 208 + 5 * j) % 26))))]
    · rw [List.map_map]; rfl
    · intro j h0 h1
      obtain ⟨a1, _⟩ := ch_at (L := abc) (n := 26) (c / 208 + 5 * j) rfl (by decide)
      have hm : mulOk 5 j = true := by unfold mulOk; simp
      simp [lcF, el_l_word_by_2, wipeD, hm, abc_list, a1, one]
  obtain ⟨s, hs, hl⟩ := run_join ((List.range 8).map fun (k : Nat) => chL abc ((c / 208 + 5 * (k : Int)) % 26)) (by simp)
  refine ⟨s, ?_, by rw [hl]; simp, fun x hx => ?_⟩
  · have h8 : (8 : Int) ≤ (lim : Int) ∧ -(lim : Int) ≤ 8 := by decide
    simp only [e_op2, e_con, e_lc, i_R1, Option.bind_some, if_pos h8, show (8 : Int).toNat = 8 from rfl]
    rw [e]
    exact hs
  · rw [hl] at hx
    obtain ⟨k, _, rfl⟩ := List.mem_map.mp hx
    exact (ch_at (L := abc) (n := 26) _ rfl (by decide)).2
theorem word_loop (c k : Int) (o3 o5 o6 : Option D) : ∀ (js : List Int) (w : Str) (o4 : Option D), (∀ x ∈ w.cps.toList, x ∈ abc) → w.cps.toList.length + js.length ≤ 900 →
    ∃ w' o4', forG (loopF Φ_l_word_by (.nm 4) lp_l_word_by_1) (js.map D.int) [some (.int c), some (.int k), some (.str abcS), o3, o4, o5, o6, some (.str w)] = some (.nx [some (.int c), some (.int k), some (.str abcS), o3, o4', o5, o6, some (.str w')]) ∧ (∀ x ∈ w'.cps.toList, x ∈ abc) ∧ w'.cps.toList.length = w.cps.toList.length + js.length
  | [], w, o4, hw, hl => ⟨w, o4, by simp [for_nil], hw, by simp⟩
  | j :: js, w, o4, hw, hl => by
    simp only [List.length_cons] at hl
    have ch := ch_at (L := abc) (n := 26) (c / 208 + 5 * j + k) rfl (by decide)
    have hlw : (w ++ one (chL abc ((c / 208 + 5 * j + k) % 26))).cps.toList = w.cps.toList ++ [chL abc ((c / 208 + 5 * j + k) % 26)] := str_app _ _
    obtain ⟨w', o4', e, h1, h2⟩ := word_loop c k o3 o5 o6 js (w ++ one (chL abc ((c / 208 + 5 * j + k) % 26))) (some (.int j)) (by
      intro x hx
      rw [hlw] at hx
      rcases List.mem_append.mp hx with h | h
      · exact hw x h
      · rw [List.mem_singleton.mp h]; exact ch.2) (by rw [hlw, List.length_append, List.length_singleton]; omega)
    refine ⟨w', o4', ?_, h1, by rw [h2, hlw, List.length_append, List.length_singleton, List.length_cons]; omega⟩
    rw [List.map_cons]
    have e1 : loopF Φ_l_word_by (.nm 4) lp_l_word_by_1 (.int j) [some (.int c), some (.int k), some (.str abcS), o3, o4, o5, o6, some (.str w)] = some (.nx [some (.int c), some (.int k), some (.str abcS), o3, some (.int j), o5, o6, some (.str (w ++ one (chL abc ((c / 208 + 5 * j + k) % 26))))]) := by
      have hm : mulOk 5 j = true := by unfold mulOk; simp
      have hc : catS w ⟨#[chL abc ((c / 208 + 5 * j + k) % 26)]⟩ = some (.str (w ++ one (chL abc ((c / 208 + 5 * j + k) % 26)))) := cat_str (by rw [← str_len w]; show _ + 1 ≤ 1000; omega)
      simp [loopF, lp_l_word_by_1, hm, abc_list, ch.1, hc]
    rw [for_cons e1]
    exact e
theorem run_word (c k : Int) (h0 : 0 ≤ k) (h7 : k ≤ 7) : ∃ w : Str, sem_l_word_by [.int c, .int k] = some (.str w) ∧ Wd abc w := by
  obtain ⟨base, hb, hb8, hbm⟩ := word_base c (some (.int k)) none none none none none
  have hbl : base.length = 8 := by rw [← str_len]; exact hb8
  have a0 := Int.emod_nonneg (c / 26) (by decide : (8 : Int) ≠ 0)
  have a8 := Int.emod_lt_of_pos (c / 26) (by decide : (0 : Int) < 8)
  have chk := ch_at (L := abc) (n := 26) (c + k) rfl (by decide)
  unfold sem_l_word_by runF
  have start : exS Φ_l_word_by 1000 ir_l_word_by (inD0 8 [.int c, .int k]) = exS Φ_l_word_by 1000 sq_l_word_by_3 [some (.int c), some (.int k), some (.str abcS), some (.str base), none, some (.int (c / 26 % 8)), none, none] := by
    rw [ir_l_word_by, x_seq, x_asg, e_con, show inD0 8 [.int c, .int k] = [some (.int c), some (.int k), none, none, none, none, none, none] from rfl]
    simp only [Option.bind_some, then_nx, List.set_cons_succ, List.set_cons_zero]
    rw [sq_l_word_by_1, x_seq, x_asg, show (⟨#[97, 98, 99, 100, 101, 102, 103, 104, 105, 106, 107, 108, 109, 110, 111, 112, 113, 114, 115, 116, 117, 118, 119, 120, 121, 122]⟩ : Str) = abcS from rfl, hb]
    simp only [Option.bind_some, then_nx, List.set_cons_succ, List.set_cons_zero]
    rw [sq_l_word_by_2, x_seq, x_asg]
    simp
  have goal : ∀ w : Str, exS Φ_l_word_by 1000 sq_l_word_by_3 [some (.int c), some (.int k), some (.str abcS), some (.str base), none, some (.int (c / 26 % 8)), none, none] = some (.ret (.str w)) → Wd abc w → ∃ w : Str, ((exS Φ_l_word_by 1000 ir_l_word_by (inD0 8 [.int c, .int k])).bind fun o => (match o with | .ret d => some d | .nx _ => some .non | _ => none)) = some (.str w) ∧ Wd abc w := fun w h1 h2 => ⟨w, by rw [start, h1]; rfl, h2⟩
  have h4 : c % 4 = 1 ∨ c % 4 = 2 ∨ (c % 4 ≠ 1 ∧ c % 4 ≠ 2) := by omega
  generalize c / 26 % 8 = m at *
  rcases h4 with h4 | h4 | h4
  · -- a word, a sign otherwise
    have b0 := Int.emod_nonneg (c / 5) (by omega : (8 - m : Int) ≠ 0)
    have b1 := Int.emod_lt_of_pos (c / 5) (by omega : (0 : Int) < 8 - m)
    generalize hz : c / 5 % (8 - m) = z at b0 b1
    have l1 : (cutS base none (some m)).cps.toList = base.cps.toList.take m.toNat := by
      rw [cut_list, HT.sIx_none, sIx_pos a0, hbl, Nat.min_eq_left (by omega)]; simp
    have l2 : (cutS base (some m) (some (m + z))).cps.toList = (base.cps.toList.drop m.toNat).take z.toNat := by
      rw [cut_list, sIx_pos a0, sIx_pos (by omega), hbl, Nat.min_eq_left (by omega), Nat.min_eq_left (by omega)]
      congr 1; omega
    have n1 : (cutS base none (some m)).cps.toList.length = m.toNat := by rw [l1, List.length_take, hb8]; omega
    have n2 : (cutS base (some m) (some (m + z))).cps.toList.length = z.toNat := by rw [l2, List.length_take, List.length_drop, hb8]; omega
    have n1' : (cutS base none (some m)).length = m.toNat := by rw [← str_len]; exact n1
    have n2' : (cutS base (some m) (some (m + z))).length = z.toNat := by rw [← str_len]; exact n2
    have ap : (cutS base none (some m) ++ ⟨#[chL abc ((c + k) % 26)]⟩ ++ cutS base (some m) (some (m + z))).cps.toList = base.cps.toList.take m.toNat ++ [chL abc ((c + k) % 26)] ++ (base.cps.toList.drop m.toNat).take z.toNat := by
      rw [str_app, str_app, l1, l2]
    refine goal (cutS base none (some m) ++ ⟨#[chL abc ((c + k) % 26)]⟩ ++ cutS base (some m) (some (m + z))) ?_ ⟨fun x hx => ?_, ?_, ?_⟩
    · have hc1 : catS (cutS base none (some m)) ⟨#[chL abc ((c + k) % 26)]⟩ = some (.str (cutS base none (some m) ++ ⟨#[chL abc ((c + k) % 26)]⟩)) := cat_str (by rw [n1']; show _ + 1 ≤ 1000; omega)
      have hc2 : catS (cutS base none (some m) ++ ⟨#[chL abc ((c + k) % 26)]⟩) (cutS base (some m) (some (m + z))) = some (.str (cutS base none (some m) ++ ⟨#[chL abc ((c + k) % 26)]⟩ ++ cutS base (some m) (some (m + z)))) := cat_str (by rw [n2', ← str_len, str_app, List.length_append, n1]; show _ + 1 + _ ≤ 1000; omega)
      have m8 : 0 < 8 - m := by omega
      simp [sq_l_word_by_3, eqD, dOk, eqv, h4, hz, abc_list, chk.1, hc1, hc2, a8]
    · rw [ap] at hx
      rcases List.mem_append.mp hx with h | h
      · rcases List.mem_append.mp h with h | h
        · exact hbm x (List.mem_of_mem_take h)
        · rw [List.mem_singleton.mp h]; exact chk.2
      · exact hbm x (List.mem_of_mem_drop (List.mem_of_mem_take h))
    · rw [ap, List.length_append, List.length_append, List.length_singleton]; omega
    · rw [ap, List.length_append, List.length_append, List.length_singleton, List.length_take, List.length_take, List.length_drop, hb8]; omega
  · have l1 : (cutS base none (some (1 + k))).cps.toList = base.cps.toList.take (1 + k).toNat := by
      rw [cut_list, HT.sIx_none, sIx_pos (by omega), hbl, Nat.min_eq_left (by omega)]; simp
    refine goal (cutS base none (some (1 + k))) ?_ ⟨fun x hx => ?_, ?_, ?_⟩
    · simp [sq_l_word_by_3, sq_l_word_by_4, eqD, dOk, eqv, h4]
    · rw [l1] at hx; exact hbm x (List.mem_of_mem_take hx)
    · rw [l1, List.length_take, hb8]; omega
    · rw [l1, List.length_take, hb8]; omega
  · have q0 := Int.emod_nonneg (c / 26 + 3 * k) (by decide : (8 : Int) ≠ 0)
    have q1 := Int.emod_lt_of_pos (c / 26 + 3 * k) (by decide : (0 : Int) < 8)
    generalize hq : (c / 26 + 3 * k) % 8 = q at q0 q1
    have hr : rngD 0 q.toNat = ((List.range q.toNat).map fun (j : Nat) => (j : Int)).map D.int := by unfold rngD; rw [List.map_map]; simp
    obtain ⟨w', o4', e, h1, h2⟩ := word_loop c k (some (.str base)) (some (.int m)) none ((List.range q.toNat).map fun (j : Nat) => (j : Int)) (one (chL abc ((c + k) % 26))) none (by
      intro x hx
      have : x = chL abc ((c + k) % 26) := by simpa [one] using hx
      rw [this]; exact chk.2) (by rw [List.length_map, List.length_range]; show 1 + _ ≤ 900; omega)
    have h2' : w'.cps.toList.length = 1 + q.toNat := by rw [h2, List.length_map, List.length_range]; rfl
    refine goal w' ?_ ⟨h1, by omega, by omega⟩
    have hm : mulOk 3 k = true := by unfold mulOk; simp
    have hql : q ≤ (lim : Int) ∧ -(lim : Int) ≤ q := by have : (lim : Int) = 100000 := rfl; omega
    have ne1 : ¬ c % 4 = 1 := h4.1
    have ne2 : ¬ c % 4 = 2 := h4.2
    have e' := e
    unfold one at e'
    rw [List.map_map] at e'
    simp [sq_l_word_by_3, sq_l_word_by_4, sq_l_word_by_5, sq_l_word_by_6, sq_l_word_by_7, eqD, dOk, eqv, ne1, ne2, abc_list, chk.1, hm, hq, hql, hr, e']
def sgn : List Nat := [48, 49, 50, 51, 52, 53, 54, 55, 56, 57, 97, 98, 99, 100, 101, 102, 103, 104, 105, 106, 107, 108, 109, 110, 111, 112, 113, 114, 115, 116, 117, 118, 119, 120, 121, 122]
def sgnS : Str := ⟨#[48, 49, 50, 51, 52, 53, 54, 55, 56, 57, 97, 98, 99, 100, 101, 102, 103, 104, 105, 106, 107, 108, 109, 110, 111, 112, 113, 114, 115, 116, 117, 118, 119, 120, 121, 122]⟩
theorem sgn_list : sgnS.cps.toList = sgn := rfl
theorem thing_base (c : Int) (o1 o3 o4 o5 o6 o7 : Option D) : ∃ base : Str, (evE Φ_l_thing_by (.op2 .join (.con (.str ⟨#[]⟩)) (.lc (.nm 4) [4] el_l_thing_by_2 (.iR1 (.con (.int 8))) .nop)) [some (.int c), o1, some (.str sgnS), o3, o4, o5, o6, o7] = some (.str base)) ∧ base.cps.toList.length = 8 ∧ ∀ x ∈ base.cps.toList, x ∈ sgn := by
  have e : lcG (lcF Φ_l_thing_by (.nm 4) [4] el_l_thing_by_2 .nop [some (.int c), o1, some (.str sgnS), o3, o4, o5, o6, o7]) (rngD 0 8) = some (((List.range 8).map fun (k : Nat) => chL sgn ((c / 288 + 7 * (k : Int)) % 36)).map fun c => D.str (one c)) := by
    rw [lc_rng (g := fun j => .str (one (chL sgn ((c / 288 + 7 * j) % 36))))]
    · rw [List.map_map]; rfl
    · intro j h0 h1
      obtain ⟨a1, _⟩ := ch_at (L := sgn) (n := 36) (c / 288 + 7 * j) rfl (by decide)
      have hm : mulOk 7 j = true := by unfold mulOk; simp
      simp [lcF, el_l_thing_by_2, wipeD, hm, sgn_list, a1, one]
  obtain ⟨s, hs, hl⟩ := run_join ((List.range 8).map fun (k : Nat) => chL sgn ((c / 288 + 7 * (k : Int)) % 36)) (by simp)
  refine ⟨s, ?_, by rw [hl]; simp, fun x hx => ?_⟩
  · have h8 : (8 : Int) ≤ (lim : Int) ∧ -(lim : Int) ≤ 8 := by decide
    simp only [e_op2, e_con, e_lc, i_R1, Option.bind_some, if_pos h8, show (8 : Int).toNat = 8 from rfl]
    rw [e]
    exact hs
  · rw [hl] at hx
    obtain ⟨k, _, rfl⟩ := List.mem_map.mp hx
    exact (ch_at (L := sgn) (n := 36) _ rfl (by decide)).2
theorem thing_loop (c k : Int) (o3 o5 o6 : Option D) : ∀ (js : List Int) (w : Str) (o4 : Option D), (∀ x ∈ w.cps.toList, x ∈ sgn) → w.cps.toList.length + js.length ≤ 900 →
    ∃ w' o4', forG (loopF Φ_l_thing_by (.nm 4) lp_l_thing_by_1) (js.map D.int) [some (.int c), some (.int k), some (.str sgnS), o3, o4, o5, o6, some (.str w)] = some (.nx [some (.int c), some (.int k), some (.str sgnS), o3, o4', o5, o6, some (.str w')]) ∧ (∀ x ∈ w'.cps.toList, x ∈ sgn) ∧ w'.cps.toList.length = w.cps.toList.length + js.length
  | [], w, o4, hw, hl => ⟨w, o4, by simp [for_nil], hw, by simp⟩
  | j :: js, w, o4, hw, hl => by
    simp only [List.length_cons] at hl
    have ch := ch_at (L := sgn) (n := 36) (c / 288 + 7 * j + k) rfl (by decide)
    have hlw : (w ++ one (chL sgn ((c / 288 + 7 * j + k) % 36))).cps.toList = w.cps.toList ++ [chL sgn ((c / 288 + 7 * j + k) % 36)] := str_app _ _
    obtain ⟨w', o4', e, h1, h2⟩ := thing_loop c k o3 o5 o6 js (w ++ one (chL sgn ((c / 288 + 7 * j + k) % 36))) (some (.int j)) (by
      intro x hx
      rw [hlw] at hx
      rcases List.mem_append.mp hx with h | h
      · exact hw x h
      · rw [List.mem_singleton.mp h]; exact ch.2) (by rw [hlw, List.length_append, List.length_singleton]; omega)
    refine ⟨w', o4', ?_, h1, by rw [h2, hlw, List.length_append, List.length_singleton, List.length_cons]; omega⟩
    rw [List.map_cons]
    have e1 : loopF Φ_l_thing_by (.nm 4) lp_l_thing_by_1 (.int j) [some (.int c), some (.int k), some (.str sgnS), o3, o4, o5, o6, some (.str w)] = some (.nx [some (.int c), some (.int k), some (.str sgnS), o3, some (.int j), o5, o6, some (.str (w ++ one (chL sgn ((c / 288 + 7 * j + k) % 36))))]) := by
      have hm : mulOk 7 j = true := by unfold mulOk; simp
      have hc : catS w ⟨#[chL sgn ((c / 288 + 7 * j + k) % 36)]⟩ = some (.str (w ++ one (chL sgn ((c / 288 + 7 * j + k) % 36)))) := cat_str (by rw [← str_len w]; show _ + 1 ≤ 1000; omega)
      simp [loopF, lp_l_thing_by_1, hm, sgn_list, ch.1, hc]
    rw [for_cons e1]
    exact e
theorem run_thing (c k : Int) (h0 : 0 ≤ k) (h7 : k ≤ 7) : ∃ w : Str, sem_l_thing_by [.int c, .int k] = some (.str w) ∧ Wd sgn w := by
  obtain ⟨base, hb, hb8, hbm⟩ := thing_base c (some (.int k)) none none none none none
  have hbl : base.length = 8 := by rw [← str_len]; exact hb8
  have a0 := Int.emod_nonneg (c / 36) (by decide : (8 : Int) ≠ 0)
  have a8 := Int.emod_lt_of_pos (c / 36) (by decide : (0 : Int) < 8)
  have chk := ch_at (L := sgn) (n := 36) (c + k) rfl (by decide)
  unfold sem_l_thing_by runF
  have start : exS Φ_l_thing_by 1000 ir_l_thing_by (inD0 8 [.int c, .int k]) = exS Φ_l_thing_by 1000 sq_l_thing_by_3 [some (.int c), some (.int k), some (.str sgnS), some (.str base), none, some (.int (c / 36 % 8)), none, none] := by
    rw [ir_l_thing_by, x_seq, x_asg, e_con, show inD0 8 [.int c, .int k] = [some (.int c), some (.int k), none, none, none, none, none, none] from rfl]
    simp only [Option.bind_some, then_nx, List.set_cons_succ, List.set_cons_zero]
    rw [sq_l_thing_by_1, x_seq, x_asg, show (⟨#[48, 49, 50, 51, 52, 53, 54, 55, 56, 57, 97, 98, 99, 100, 101, 102, 103, 104, 105, 106, 107, 108, 109, 110, 111, 112, 113, 114, 115, 116, 117, 118, 119, 120, 121, 122]⟩ : Str) = sgnS from rfl, hb]
    simp only [Option.bind_some, then_nx, List.set_cons_succ, List.set_cons_zero]
    rw [sq_l_thing_by_2, x_seq, x_asg]
    simp
  have goal : ∀ w : Str, exS Φ_l_thing_by 1000 sq_l_thing_by_3 [some (.int c), some (.int k), some (.str sgnS), some (.str base), none, some (.int (c / 36 % 8)), none, none] = some (.ret (.str w)) → Wd sgn w → ∃ w : Str, ((exS Φ_l_thing_by 1000 ir_l_thing_by (inD0 8 [.int c, .int k])).bind fun o => (match o with | .ret d => some d | .nx _ => some .non | _ => none)) = some (.str w) ∧ Wd sgn w := fun w h1 h2 => ⟨w, by rw [start, h1]; rfl, h2⟩
  have h4 : c % 4 = 1 ∨ c % 4 = 2 ∨ (c % 4 ≠ 1 ∧ c % 4 ≠ 2) := by omega
  generalize c / 36 % 8 = m at *
  rcases h4 with h4 | h4 | h4
  · -- a word, a sign otherwise
    have b0 := Int.emod_nonneg (c / 5) (by omega : (8 - m : Int) ≠ 0)
    have b1 := Int.emod_lt_of_pos (c / 5) (by omega : (0 : Int) < 8 - m)
    generalize hz : c / 5 % (8 - m) = z at b0 b1
    have l1 : (cutS base none (some m)).cps.toList = base.cps.toList.take m.toNat := by
      rw [cut_list, HT.sIx_none, sIx_pos a0, hbl, Nat.min_eq_left (by omega)]; simp
    have l2 : (cutS base (some m) (some (m + z))).cps.toList = (base.cps.toList.drop m.toNat).take z.toNat := by
      rw [cut_list, sIx_pos a0, sIx_pos (by omega), hbl, Nat.min_eq_left (by omega), Nat.min_eq_left (by omega)]
      congr 1; omega
    have n1 : (cutS base none (some m)).cps.toList.length = m.toNat := by rw [l1, List.length_take, hb8]; omega
    have n2 : (cutS base (some m) (some (m + z))).cps.toList.length = z.toNat := by rw [l2, List.length_take, List.length_drop, hb8]; omega
    have n1' : (cutS base none (some m)).length = m.toNat := by rw [← str_len]; exact n1
    have n2' : (cutS base (some m) (some (m + z))).length = z.toNat := by rw [← str_len]; exact n2
    have ap : (cutS base none (some m) ++ ⟨#[chL sgn ((c + k) % 36)]⟩ ++ cutS base (some m) (some (m + z))).cps.toList = base.cps.toList.take m.toNat ++ [chL sgn ((c + k) % 36)] ++ (base.cps.toList.drop m.toNat).take z.toNat := by
      rw [str_app, str_app, l1, l2]
    refine goal (cutS base none (some m) ++ ⟨#[chL sgn ((c + k) % 36)]⟩ ++ cutS base (some m) (some (m + z))) ?_ ⟨fun x hx => ?_, ?_, ?_⟩
    · have hc1 : catS (cutS base none (some m)) ⟨#[chL sgn ((c + k) % 36)]⟩ = some (.str (cutS base none (some m) ++ ⟨#[chL sgn ((c + k) % 36)]⟩)) := cat_str (by rw [n1']; show _ + 1 ≤ 1000; omega)
      have hc2 : catS (cutS base none (some m) ++ ⟨#[chL sgn ((c + k) % 36)]⟩) (cutS base (some m) (some (m + z))) = some (.str (cutS base none (some m) ++ ⟨#[chL sgn ((c + k) % 36)]⟩ ++ cutS base (some m) (some (m + z)))) := cat_str (by rw [n2', ← str_len, str_app, List.length_append, n1]; show _ + 1 + _ ≤ 1000; omega)
      have m8 : 0 < 8 - m := by omega
      simp [sq_l_thing_by_3, eqD, dOk, eqv, h4, hz, sgn_list, chk.1, hc1, hc2, a8]
    · rw [ap] at hx
      rcases List.mem_append.mp hx with h | h
      · rcases List.mem_append.mp h with h | h
        · exact hbm x (List.mem_of_mem_take h)
        · rw [List.mem_singleton.mp h]; exact chk.2
      · exact hbm x (List.mem_of_mem_drop (List.mem_of_mem_take h))
    · rw [ap, List.length_append, List.length_append, List.length_singleton]; omega
    · rw [ap, List.length_append, List.length_append, List.length_singleton, List.length_take, List.length_take, List.length_drop, hb8]; omega
  · have l1 : (cutS base none (some (1 + k))).cps.toList = base.cps.toList.take (1 + k).toNat := by
      rw [cut_list, HT.sIx_none, sIx_pos (by omega), hbl, Nat.min_eq_left (by omega)]; simp
    refine goal (cutS base none (some (1 + k))) ?_ ⟨fun x hx => ?_, ?_, ?_⟩
    · simp [sq_l_thing_by_3, sq_l_thing_by_4, eqD, dOk, eqv, h4]
    · rw [l1] at hx; exact hbm x (List.mem_of_mem_take hx)
    · rw [l1, List.length_take, hb8]; omega
    · rw [l1, List.length_take, hb8]; omega
  · have q0 := Int.emod_nonneg (c / 36 + 3 * k) (by decide : (8 : Int) ≠ 0)
    have q1 := Int.emod_lt_of_pos (c / 36 + 3 * k) (by decide : (0 : Int) < 8)
    generalize hq : (c / 36 + 3 * k) % 8 = q at q0 q1
    have hr : rngD 0 q.toNat = ((List.range q.toNat).map fun (j : Nat) => (j : Int)).map D.int := by unfold rngD; rw [List.map_map]; simp
    obtain ⟨w', o4', e, h1, h2⟩ := thing_loop c k (some (.str base)) (some (.int m)) none ((List.range q.toNat).map fun (j : Nat) => (j : Int)) (one (chL sgn ((c + k) % 36))) none (by
      intro x hx
      have : x = chL sgn ((c + k) % 36) := by simpa [one] using hx
      rw [this]; exact chk.2) (by rw [List.length_map, List.length_range]; show 1 + _ ≤ 900; omega)
    have h2' : w'.cps.toList.length = 1 + q.toNat := by rw [h2, List.length_map, List.length_range]; rfl
    refine goal w' ?_ ⟨h1, by omega, by omega⟩
    have hm : mulOk 3 k = true := by unfold mulOk; simp
    have hql : q ≤ (lim : Int) ∧ -(lim : Int) ≤ q := by have : (lim : Int) = 100000 := rfl; omega
    have ne1 : ¬ c % 4 = 1 := h4.1
    have ne2 : ¬ c % 4 = 2 := h4.2
    have e' := e
    unfold one at e'
    rw [List.map_map] at e'
    simp [sq_l_thing_by_3, sq_l_thing_by_4, sq_l_thing_by_5, sq_l_thing_by_6, sq_l_thing_by_7, eqD, dOk, eqv, ne1, ne2, sgn_list, chk.1, hm, hq, hql, hr, e']
end R

set_option Elab.async false
set_option linter.all false
set_option maxRecDepth 100000
set_option maxHeartbeats 4000000
namespace R
open PySem L2 DL M
variable [TbC]
def cellF (ns : List Int) (k : Int) : Int := if k < ns.length then ns.getD k.toNat 0 else 0
theorem run_cell (ns : List Int) (k : Int) (h : 0 ≤ k) : sem_l_cell_at [.scr (ns.map D.int), .int k] = some (.int (cellF ns k)) := by
  unfold sem_l_cell_at
  rw [run_def]
  have hin : inD0 2 [.scr (ns.map D.int), .int k] = [some (.scr (ns.map D.int)), some (.int k)] := rfl
  rw [hin]
  by_cases hk : k < ns.length
  · have e : atI (ns.map D.int) k = some (.int (ns.getD k.toNat 0)) := by
      rw [atI_lt h (by simpa using hk)]
      have : k.toNat < ns.length := by omega
      simp [List.getD_eq_getElem?_getD, List.getElem?_eq_getElem this]
    simp [ir_l_cell_at, sq_l_cell_at_1, hk, e, cellF]
  · simp [ir_l_cell_at, sq_l_cell_at_1, hk, cellF]
theorem atI_map {α : Type} (g : α → D) {l : List α} {i : Int} (h0 : 0 ≤ i) (h1 : i < l.length) : ∃ x ∈ l, atI (l.map g) i = some (g x) := by
  have : i.toNat < l.length := by omega
  refine ⟨l[i.toNat], List.getElem_mem this, ?_⟩
  rw [atI_lt h0 (by simpa using h1)]; simp
theorem rng_succ (lo : Int) (n : Nat) : rngD lo (n + 1) = .int lo :: rngD (lo + 1) n := by
  unfold rngD
  rw [List.range_succ_eq_map, List.map_cons, List.map_map]
  congr 1
  · simp
  · apply List.map_congr_left
    intro k _
    simp; omega
/-! ### facts that are alike -/
theorem eqvs_strs : ∀ a b : List Str, eqvs (a.map D.str) (b.map D.str) = decide (a = b)
  | [], [] => by simp [eqvs]
  | [], _ :: _ => by simp [eqvs]
  | _ :: _, [] => by simp [eqvs]
  | x :: a, y :: b => by
    rw [List.map_cons, List.map_cons, eqvs, eqv_str, eqvs_strs a b]
    by_cases h1 : x = y <;> by_cases h2 : a = b <;> simp [h1, h2]
theorem eqv_pat (a b : List Str) : eqv (dPat a) (dPat b) = decide (a = b) := by unfold dPat; rw [eqv, eqvs_strs]
theorem dOk_pat (n : Nat) (p : List Str) : dOk (n + 1) (dPat p) = true := by unfold dPat; rw [dOk]; exact dOks_strs n p
theorem dOk_pats (n : Nat) (ps : List (List Str)) : dOk (n + 2) (dPats ps) = true := by unfold dPats; rw [dOk]; exact dOks_map (dOk_pat n) ps
theorem dOk_lpats (n : Nat) (ps : List (List Str)) : dOk (n + 2) (.lst (ps.map dPat)) = true := by rw [dOk]; exact dOks_map (dOk_pat n) ps
theorem dOk_gr (n : Nat) (r : Gr) : dOk (n + 3) (dGr r) = true := by
  unfold dGr
  rw [dOk, dOks, dOks, dOks, dOks, dOks, dOk_pat, dOk_pats, dOk_pats]
  rfl
theorem dOk_lgr (n : Nat) (F : List Gr) : dOk (n + 4) (.lst (F.map dGr)) = true := by rw [dOk]; exact dOks_map (dOk_gr n) F
theorem any_pat (x : List Str) : ∀ l : List (List Str), ((l.map dPat).any fun z => eqv z (dPat x)) = decide (x ∈ l)
  | [] => by simp
  | y :: l => by
    rw [List.map_cons, List.any_cons, any_pat x l, eqv_pat]
    by_cases h : y = x
    · simp [h]
    · have h' : ¬ x = y := fun z => h z.symm
      by_cases h2 : x ∈ l <;> simp [h, h2, h']
theorem in_pats (x : List Str) (l : List (List Str)) : inD (dPat x) (.lst (l.map dPat)) = some (decide (x ∈ l)) := by
  show (if dOk 59 (dPat x) && dOk 60 (.lst (l.map dPat)) then some ((l.map dPat).any fun z => eqv z (dPat x)) else none) = _
  rw [dOk_pat, dOk_lpats, any_pat]; rfl
theorem eq_pat (a b : List Str) : eqD (dPat a) (dPat b) = some (decide (a = b)) := by
  show (if dOk 60 (dPat a) && dOk 60 (dPat b) then some (eqv (dPat a) (dPat b)) else none) = _
  rw [dOk_pat, dOk_pat, eqv_pat]; rfl
end R

set_option Elab.async false
set_option linter.all false
set_option maxRecDepth 100000
set_option maxHeartbeats 4000000
namespace R
open PySem L2 DL M
variable [TbC]
/-! ### the law: _law_atoms -/
theorem atoms_words (ns : List Int) (d1 o2 o3 o4 o5 : Option D) : ∃ ws : List Str, lcG (lcF Φ_l_atoms (.nm 3) [3] el_l_atoms_4 .nop [some (.scr (ns.map D.int)), d1, o2, o3, o4, o5]) (rngD 0 3) = some (ws.map D.str) ∧ ws.length = 3 := by
  obtain ⟨ss, h1, _, h3⟩ := lc_ex (g := D.str) (Q := fun _ => True) (f := lcF Φ_l_atoms (.nm 3) [3] el_l_atoms_4 .nop [some (.scr (ns.map D.int)), d1, o2, o3, o4, o5]) (l := rngD 0 3) fun x hx => by
    obtain ⟨j, rfl, h0, hj⟩ := rng_mem hx
    obtain ⟨w, hw, _⟩ := run_word (cellF ns 0) j h0 (by omega)
    exact ⟨w, by simp [lcF, wipeD, el_l_atoms_4, Φ_l_atoms, run_cell, hw], trivial⟩
  exact ⟨ss, h1, by rw [h3]; simp [rngD]⟩
theorem atoms_things (ns : List Int) (d1 o2 o3 o4 o5 : Option D) : ∃ ws : List Str, lcG (lcF Φ_l_atoms (.nm 3) [3] el_l_atoms_3 .nop [some (.scr (ns.map D.int)), d1, o2, o3, o4, o5]) (rngD 0 3) = some (ws.map D.str) ∧ ws.length = 3 := by
  obtain ⟨ss, h1, _, h3⟩ := lc_ex (g := D.str) (Q := fun _ => True) (f := lcF Φ_l_atoms (.nm 3) [3] el_l_atoms_3 .nop [some (.scr (ns.map D.int)), d1, o2, o3, o4, o5]) (l := rngD 0 3) fun x hx => by
    obtain ⟨j, rfl, h0, hj⟩ := rng_mem hx
    obtain ⟨w, hw, _⟩ := run_thing (cellF ns 1) j h0 (by omega)
    exact ⟨w, by simp [lcF, wipeD, el_l_atoms_3, Φ_l_atoms, run_cell, hw], trivial⟩
  exact ⟨ss, h1, by rw [h3]; simp [rngD]⟩
theorem atoms_first (ws : List Str) (hw : ws.length = 3) (d0 d1 o3 o4 o5 : Option D) (n : Nat) (hn : n ≤ 3) : ∃ A : List (List Str), lcG (lcF Φ_l_atoms (.nm 3) [3] el_l_atoms_2 .nop [d0, d1, some (.lst (ws.map D.str)), o3, o4, o5]) (rngD 0 n) = some (A.map dPat) ∧ A.length = n ∧ ∀ a ∈ A, a ≠ [] := by
  obtain ⟨ss, h1, h2, h3⟩ := lc_ex (g := dPat) (Q := fun a => a ≠ []) (f := lcF Φ_l_atoms (.nm 3) [3] el_l_atoms_2 .nop [d0, d1, some (.lst (ws.map D.str)), o3, o4, o5]) (l := rngD 0 n) fun x hx => by
    obtain ⟨j, rfl, h0, hj⟩ := rng_mem hx
    obtain ⟨w, _, e⟩ := atI_map D.str (l := ws) (i := j) h0 (by omega)
    have hl : 1 ≤ lim := by have : lim = 100000 := rfl; omega
    exact ⟨[w], by simp [lcF, wipeD, el_l_atoms_2, e, dPat, hl], by simp⟩
  exact ⟨ss, h1, by rw [h3]; simp [rngD], h2⟩
theorem atoms_loop (ws ts : List Str) (hw : ws.length = 3) (ht : ts.length = 3) (d0 d1 : Option D) : ∀ (n : Nat) (lo : Int) (A : List (List Str)) (o3 : Option D), 0 ≤ lo → A.length + n ≤ 1000 → (∀ a ∈ A, a ≠ []) →
    ∃ (A' : List (List Str)) (o3' : Option D), forG (loopF Φ_l_atoms (.nm 3) lp_l_atoms_1) (rngD lo n) [d0, d1, some (.lst (ws.map D.str)), o3, some (.lst (ts.map D.str)), some (.lst (A.map dPat))] =
      some (.nx [d0, d1, some (.lst (ws.map D.str)), o3', some (.lst (ts.map D.str)), some (.lst (A'.map dPat))]) ∧ A'.length = A.length + n ∧ ∀ a ∈ A', a ≠ []
  | 0, lo, A, o3, _, _, hA => ⟨A, o3, by simp [rngD, for_nil], by omega, hA⟩
  | n + 1, lo, A, o3, h0, hl, hA => by
    obtain ⟨w, _, e1⟩ := atI_map D.str (l := ws) (i := lo % 3) (by omega) (by omega)
    obtain ⟨t, _, e2⟩ := atI_map D.str (l := ts) (i := lo / 3 % 3) (by omega) (by omega)
    obtain ⟨A', o3', e, h, hA'⟩ := atoms_loop ws ts hw ht d0 d1 n (lo + 1) (A ++ [[w, t]]) (some (.int lo)) (by omega) (by simp; omega) (fun a ha => by
      rcases List.mem_append.mp ha with z | z
      · exact hA a z
      · rw [List.mem_singleton.mp z]; simp)
    refine ⟨A', o3', ?_, by rw [h]; simp; omega, hA'⟩
    have hz : A.length < lim := by have : lim = 100000 := rfl; omega
    have hl2 : 2 ≤ lim := by have : lim = 100000 := rfl; omega
    have es : loopF Φ_l_atoms (.nm 3) lp_l_atoms_1 (.int lo) [d0, d1, some (.lst (ws.map D.str)), o3, some (.lst (ts.map D.str)), some (.lst (A.map dPat))] = some (.nx [d0, d1, some (.lst (ws.map D.str)), some (.int lo), some (.lst (ts.map D.str)), some (.lst ((A ++ [[w, t]]).map dPat))]) := by
      simp [loopF, lp_l_atoms_1, e1, e2, hz, hl2, dPat]
    rw [rng_succ, for_cons es, e]
theorem run_atoms (ns : List Int) (m : Int) (h2 : 2 ≤ m) (h9 : m ≤ 9) : ∃ A : List (List Str), sem_l_atoms [.scr (ns.map D.int), .int m] = some (.lst (A.map dPat)) ∧ (A.length : Int) = m ∧ ∀ a ∈ A, a ≠ [] := by
  obtain ⟨ws, e1, hw⟩ := atoms_words ns (some (.int m)) none none none none
  obtain ⟨ts, e2, ht⟩ := atoms_things ns (some (.int m)) (some (.lst (ws.map D.str))) none none none
  have hmin : (if (3 : Int) < m then (3 : Int) else m).toNat ≤ 3 := by split <;> omega
  obtain ⟨A, e3, hA, hAn⟩ := atoms_first ws hw (some (.scr (ns.map D.int))) (some (.int m)) none (some (.lst (ts.map D.str))) none (if (3 : Int) < m then (3 : Int) else m).toNat hmin
  obtain ⟨A', o3, e4, hA', hAn'⟩ := atoms_loop ws ts hw ht (some (.scr (ns.map D.int))) (some (.int m)) (m - 3).toNat 3 A none (by omega) (by omega) hAn
  refine ⟨A', ?_, by rw [hA', hA]; split <;> omega, hAn'⟩
  have hlim : (lim : Int) = 100000 := rfl
  have hl3 : (3 : Int) ≤ lim ∧ -(lim : Int) ≤ 3 := by omega
  have hlm : (if (3 : Int) < m then (3 : Int) else m) ≤ lim ∧ -(lim : Int) ≤ (if (3 : Int) < m then (3 : Int) else m) := by split <;> omega
  have hr2 : (0 : Int) ≤ 3 ∧ (3 : Int) ≤ lim ∧ m ≤ lim ∧ -(lim : Int) ≤ m := by omega
  have t3 : (3 : Int).toNat = 3 := rfl
  unfold sem_l_atoms
  rw [run_def]
  have hin : inD0 6 [.scr (ns.map D.int), .int m] = [some (.scr (ns.map D.int)), some (.int m), none, none, none, none] := rfl
  rw [hin, ir_l_atoms, x_seq]
  have s1 : exS Φ_l_atoms 1000 (.asg (.nm 2) (.lc (.nm 3) [3] el_l_atoms_4 (.iR1 (.con (.int 3))) .nop)) [some (.scr (ns.map D.int)), some (.int m), none, none, none, none] = some (.nx [some (.scr (ns.map D.int)), some (.int m), some (.lst (ws.map D.str)), none, none, none]) := by
    simp [hl3, t3, e1]
  rw [s1, then_nx, sq_l_atoms_1, x_seq]
  have s2 : exS Φ_l_atoms 1000 (.asg (.nm 4) (.lc (.nm 3) [3] el_l_atoms_3 (.iR1 (.con (.int 3))) .nop)) [some (.scr (ns.map D.int)), some (.int m), some (.lst (ws.map D.str)), none, none, none] = some (.nx [some (.scr (ns.map D.int)), some (.int m), some (.lst (ws.map D.str)), none, some (.lst (ts.map D.str)), none]) := by
    simp [hl3, t3, e2]
  rw [s2, then_nx, sq_l_atoms_2, x_seq]
  have s3 : exS Φ_l_atoms 1000 (.asgO 5 (.lc (.nm 3) [3] el_l_atoms_2 (.iR1 (.op2 .min2 (.var 1) (.con (.int 3)))) .nop)) [some (.scr (ns.map D.int)), some (.int m), some (.lst (ws.map D.str)), none, some (.lst (ts.map D.str)), none] = some (.nx [some (.scr (ns.map D.int)), some (.int m), some (.lst (ws.map D.str)), none, some (.lst (ts.map D.str)), some (.lst (A.map dPat))]) := by
    simp [hlm, e3]
  rw [s3, then_nx, sq_l_atoms_3, x_seq, x_for]
  have hi : evI Φ_l_atoms (.iR2 (.con (.int 3)) (.var 1)) [some (.scr (ns.map D.int)), some (.int m), some (.lst (ws.map D.str)), none, some (.lst (ts.map D.str)), some (.lst (A.map dPat))] = some (rngD 3 (m - 3).toNat) := by
    simp [hr2]
  rw [hi, Option.bind_some, e4, then_nx]
  simp [sq_l_atoms_4]
/-! ### the law: _law_ground -/
theorem ground_ns (A : List (List Str)) (h0 : 0 < A.length) (d0 o2 o3 o5 o6 : Option D) (three : Int) : ∀ (n : Nat) (lo : Int) (L : List (List Str)) (o7 : Option D), 0 ≤ lo → lo + n ≤ 100 → L.length + n ≤ 100 → (∀ x ∈ L, x ∈ A) →
    ∃ (L' : List (List Str)) (o7' : Option D), forG (loopF Φ_l_ground (.nm 7) lp_l_ground_1) (rngD lo n) [d0, some (.lst (A.map dPat)), o2, o3, some (.int three), o5, o6, o7, some (.lst (L.map dPat))] = some (.nx [d0, some (.lst (A.map dPat)), o2, o3, some (.int three), o5, o6, o7', some (.lst (L'.map dPat))]) ∧ L'.length = L.length + n ∧ ∀ x ∈ L', x ∈ A
  | 0, lo, L, o7, _, _, _, hL => ⟨L, o7, by simp [rngD, for_nil], by omega, hL⟩
  | n + 1, lo, L, o7, hlo, hb, hl, hL => by
    obtain ⟨x, hx, e1⟩ := atI_map dPat (l := A) (i := three / (1 + 40 * lo) % A.length) (Int.emod_nonneg _ (by omega)) (Int.emod_lt_of_pos _ (by omega))
    obtain ⟨L', o7', e, h, hL'⟩ := ground_ns A h0 d0 o2 o3 o5 o6 three n (lo + 1) (L ++ [x]) (some (.int lo)) (by omega) (by omega) (by simp; omega) (fun y hy => by
      rcases List.mem_append.mp hy with z | z
      · exact hL y z
      · rw [List.mem_singleton.mp z]; exact hx)
    refine ⟨L', o7', ?_, by rw [h]; simp; omega, hL'⟩
    have hz : L.length < lim := by have : lim = 100000 := rfl; omega
    have hm : mulOk 40 lo = true := by simp [mulOk]
    have hd : 0 < 1 + 40 * lo ∧ 1 + 40 * lo < 1073741824 := by omega
    have es : loopF Φ_l_ground (.nm 7) lp_l_ground_1 (.int lo) [d0, some (.lst (A.map dPat)), o2, o3, some (.int three), o5, o6, o7, some (.lst (L.map dPat))] = some (.nx [d0, some (.lst (A.map dPat)), o2, o3, some (.int three), o5, o6, some (.int lo), some (.lst ((L ++ [x]).map dPat))]) := by
      simp [loopF, lp_l_ground_1, hm, hd, e1, hz, h0]
    rw [rng_succ, for_cons es, e]
theorem ground_ys (A : List (List Str)) (h0 : 0 < A.length) (d0 o2 o4 o5 o8 : Option D) (two : Int) : ∀ (n : Nat) (lo : Int) (L : List (List Str)) (o7 : Option D), 0 ≤ lo → lo + n ≤ 100 → L.length + n ≤ 100 → (∀ x ∈ L, x ∈ A) →
    ∃ (L' : List (List Str)) (o7' : Option D), forG (loopF Φ_l_ground (.nm 7) lp_l_ground_2) (rngD lo n) [d0, some (.lst (A.map dPat)), o2, some (.int two), o4, o5, some (.lst (L.map dPat)), o7, o8] = some (.nx [d0, some (.lst (A.map dPat)), o2, some (.int two), o4, o5, some (.lst (L'.map dPat)), o7', o8]) ∧ L'.length = L.length + n ∧ ∀ x ∈ L', x ∈ A
  | 0, lo, L, o7, _, _, _, hL => ⟨L, o7, by simp [rngD, for_nil], by omega, hL⟩
  | n + 1, lo, L, o7, hlo, hb, hl, hL => by
    obtain ⟨x, hx, e1⟩ := atI_map dPat (l := A) (i := two / 12 / (1 + 40 * lo) % A.length) (Int.emod_nonneg _ (by omega)) (Int.emod_lt_of_pos _ (by omega))
    obtain ⟨L', o7', e, h, hL'⟩ := ground_ys A h0 d0 o2 o4 o5 o8 two n (lo + 1) (L ++ [x]) (some (.int lo)) (by omega) (by omega) (by simp; omega) (fun y hy => by
      rcases List.mem_append.mp hy with z | z
      · exact hL y z
      · rw [List.mem_singleton.mp z]; exact hx)
    refine ⟨L', o7', ?_, by rw [h]; simp; omega, hL'⟩
    have hz : L.length < lim := by have : lim = 100000 := rfl; omega
    have hm : mulOk 40 lo = true := by simp [mulOk]
    have hd : 0 < 1 + 40 * lo ∧ 1 + 40 * lo < 1073741824 := by omega
    have es : loopF Φ_l_ground (.nm 7) lp_l_ground_2 (.int lo) [d0, some (.lst (A.map dPat)), o2, some (.int two), o4, o5, some (.lst (L.map dPat)), o7, o8] = some (.nx [d0, some (.lst (A.map dPat)), o2, some (.int two), o4, o5, some (.lst ((L ++ [x]).map dPat)), some (.int lo), o8]) := by
      simp [loopF, lp_l_ground_2, hm, hd, e1, hz, h0]
    rw [rng_succ, for_cons es, e]
end R

set_option Elab.async false
set_option linter.all false
set_option maxRecDepth 100000
set_option maxHeartbeats 4000000
namespace R
open PySem L2 DL M
variable [TbC]
def manyE : E := (.lst (.cons (.tup (.cons (.con (.int 0)) (.cons (.con (.int 0)) .nil))) (.cons (.tup (.cons (.con (.int 0)) (.cons (.con (.int 1)) .nil))) (.cons (.tup (.cons (.con (.int 1)) (.cons (.con (.int 0)) .nil))) (.cons (.tup (.cons (.con (.int 1)) (.cons (.con (.int 1)) .nil))) (.cons (.tup (.cons (.con (.int 1)) (.cons (.con (.int 2)) .nil))) (.cons (.tup (.cons (.con (.int 2)) (.cons (.con (.int 1)) .nil))) (.cons (.tup (.cons (.con (.int 2)) (.cons (.con (.int 0)) .nil))) (.cons (.tup (.cons (.con (.int 0)) (.cons (.con (.int 2)) .nil))) (.cons (.tup (.cons (.con (.int 4)) (.cons (.con (.int 2)) .nil))) (.cons (.tup (.cons (.con (.int 3)) (.cons (.con (.int 3)) .nil))) (.cons (.tup (.cons (.con (.int 2)) (.cons (.con (.int 4)) .nil))) (.cons (.tup (.cons (.con (.int 6)) (.cons (.con (.int 0)) .nil))) .nil)))))))))))))
def manyL : List (Nat × Nat) := [(0, 0), (0, 1), (1, 0), (1, 1), (1, 2), (2, 1), (2, 0), (0, 2), (4, 2), (3, 3), (2, 4), (6, 0)]
def dMM (p : Nat × Nat) : D := .tup [.int (p.1 : Int), .int (p.2 : Int)]
theorem run_manyE (ρ : DEnv) : evE Φ_l_ground manyE ρ = some (.lst (manyL.map dMM)) := rfl
theorem many_ok : ∀ p ∈ manyL, p.1 ≤ 6 ∧ p.2 ≤ 6 := by decide
theorem run_ground (c : Int) (A : List (List Str)) (h0 : 0 < A.length) (h9 : A.length ≤ 1000) : ∃ r : Gr, sem_l_ground [.int c, .lst (A.map dPat)] = some (dGr r) ∧ (r.ys.length ≤ 6 ∧ r.ns.length ≤ 6) ∧ r.hd ∈ A ∧ (∀ y ∈ r.ys, y ∈ A) ∧ ∀ y ∈ r.ns, y ∈ A := by
  have m1 : mulOk c 48271 = true := by simp [mulOk]
  have m2 : mulOk c 69621 = true := by simp [mulOk]
  have m3 : mulOk c 16807 = true := by simp [mulOk]
  obtain ⟨ab, hab, e5⟩ := atI_map dMM (l := manyL) (i := c * 69621 % 998244353 % 12) (by omega) (by show _ < (12 : Int); omega)
  obtain ⟨ha, hb⟩ := many_ok ab hab
  generalize hone : c * 48271 % 2147483647 = one at *
  generalize htwo : c * 69621 % 998244353 = two at *
  generalize hthr : c * 16807 % 1000000007 = three at *
  have hlim : (lim : Int) = 100000 := rfl
  obtain ⟨ys, o7, e6, hys, mys⟩ := ground_ys A h0 (some (.int c)) (some (.int one)) (some (.int three)) (some (dMM ab)) none two ab.1 0 [] none (by omega) (by omega) (by simp; omega) (by simp)
  obtain ⟨nts, o7', e7, hns, mns⟩ := ground_ns A h0 (some (.int c)) (some (.int one)) (some (.int two)) (some (dMM ab)) (some (.lst (ys.map dPat))) three ab.2 0 [] o7 (by omega) (by omega) (by simp; omega) (by simp)
  obtain ⟨hd, mhd, e8⟩ := atI_map dPat (l := A) (i := one % A.length) (Int.emod_nonneg _ (by omega)) (Int.emod_lt_of_pos _ (by omega))
  refine ⟨⟨one / 16 % 20, hd, ys, nts⟩, ?_, ⟨by rw [hys]; simp; omega, by rw [hns]; simp; omega⟩, mhd, mys, mns⟩
  have la : (ab.1 : Int) ≤ lim ∧ -(lim : Int) ≤ (ab.1 : Int) := by omega
  have lb : (ab.2 : Int) ≤ lim ∧ -(lim : Int) ≤ (ab.2 : Int) := by omega
  unfold sem_l_ground
  rw [run_def]
  have s0 : exS Φ_l_ground 1000 ir_l_ground (inD0 9 [.int c, .lst (A.map dPat)]) = exS Φ_l_ground 1000 sq_l_ground_3 [some (.int c), some (.lst (A.map dPat)), some (.int one), some (.int two), some (.int three), none, none, none, none] := by
    simp [ir_l_ground, sq_l_ground_1, sq_l_ground_2, inD0, m1, m2, m3, hone, htwo, hthr]
  have s1 : exS Φ_l_ground 1000 sq_l_ground_3 [some (.int c), some (.lst (A.map dPat)), some (.int one), some (.int two), some (.int three), none, none, none, none] = exS Φ_l_ground 1000 sq_l_ground_4 [some (.int c), some (.lst (A.map dPat)), some (.int one), some (.int two), some (.int three), some (dMM ab), none, none, none] := by
    show exS Φ_l_ground 1000 (.seq (.asg (.nm 5) (.op2 .ix manyE (.op2 .mod (.var 3) (.con (.int 12))))) sq_l_ground_4) _ = _
    rw [x_seq, x_asg, e_op2, run_manyE]
    simp [e5]
  have s2 : exS Φ_l_ground 1000 sq_l_ground_4 [some (.int c), some (.lst (A.map dPat)), some (.int one), some (.int two), some (.int three), some (dMM ab), none, none, none] = exS Φ_l_ground 1000 sq_l_ground_6 [some (.int c), some (.lst (A.map dPat)), some (.int one), some (.int two), some (.int three), some (dMM ab), some (.lst (ys.map dPat)), o7, none] := by
    have e6' := e6
    simp only [List.map_nil] at e6'
    have hi : ∀ o6 o7 o8, evI Φ_l_ground (.iR1 (.op2 .ix (.var 5) (.con (.int 0)))) [some (.int c), some (.lst (A.map dPat)), some (.int one), some (.int two), some (.int three), some (dMM ab), o6, o7, o8] = some (rngD 0 ab.1) := fun _ _ _ => by
      have : atI [D.int (ab.1 : Int), D.int (ab.2 : Int)] 0 = some (D.int (ab.1 : Int)) := rfl
      simp [dMM, this, la]
    rw [sq_l_ground_4, x_seq, x_asgO, sq_l_ground_5]
    simp only [e_lst, a_nil, Option.bind_some, List.length_nil, Nat.zero_le, if_true, isL_l, List.set_cons_succ, List.set_cons_zero, then_nx, x_seq, x_for, hi, e6']
  have s3 : exS Φ_l_ground 1000 sq_l_ground_6 [some (.int c), some (.lst (A.map dPat)), some (.int one), some (.int two), some (.int three), some (dMM ab), some (.lst (ys.map dPat)), o7, none] = exS Φ_l_ground 1000 sq_l_ground_8 [some (.int c), some (.lst (A.map dPat)), some (.int one), some (.int two), some (.int three), some (dMM ab), some (.lst (ys.map dPat)), o7', some (.lst (nts.map dPat))] := by
    have e7' := e7
    simp only [List.map_nil] at e7'
    have hi : ∀ o6 o7 o8, evI Φ_l_ground (.iR1 (.op2 .ix (.var 5) (.con (.int 1)))) [some (.int c), some (.lst (A.map dPat)), some (.int one), some (.int two), some (.int three), some (dMM ab), o6, o7, o8] = some (rngD 0 ab.2) := fun _ _ _ => by
      have : atI [D.int (ab.1 : Int), D.int (ab.2 : Int)] 1 = some (D.int (ab.2 : Int)) := rfl
      simp [dMM, this, lb]
    rw [sq_l_ground_6, x_seq, x_asgO, sq_l_ground_7]
    simp only [e_lst, a_nil, Option.bind_some, List.length_nil, Nat.zero_le, if_true, isL_l, List.set_cons_succ, List.set_cons_zero, then_nx, x_seq, x_for, hi, e7']
  rw [s0, s1, s2, s3]
  have l4 : 4 ≤ lim := by have : lim = 100000 := rfl; omega
  simp [sq_l_ground_8, e8, dGr, dPats, l4, h0]
end R

set_option Elab.async false
set_option linter.all false
set_option maxRecDepth 100000
set_option maxHeartbeats 4000000
namespace R
open PySem L2 DL M
variable [TbC]
/-! ### the law: _law_blocked -/
def blk (T Rf L : List (List Str)) (r : Gr) : Bool := (r.ys.any fun y => decide (y ∈ Rf) || decide (y ∈ L)) || r.ns.any fun y => decide (y ∈ T)
theorem blocked_1 (d0 d2 d3 : Option D) (T : List (List Str)) : ∀ (fs : List (List Str)) (o4 : Option D), ∃ o4', forG (loopF Φ_l_blocked (.nm 4) lp_l_blocked_1) (fs.map dPat) [d0, some (.lst (T.map dPat)), d2, d3, o4] =
    some (if (fs.any fun y => decide (y ∈ T)) = true then .ret (.bl true) else .nx [d0, some (.lst (T.map dPat)), d2, d3, o4'])
  | [], o4 => ⟨o4, by simp [for_nil]⟩
  | f :: fs, o4 => by
    obtain ⟨o4', e⟩ := blocked_1 d0 d2 d3 T fs (some (dPat f))
    refine ⟨o4', ?_⟩
    rw [List.map_cons]
    by_cases h : f ∈ T
    · have e1 : loopF Φ_l_blocked (.nm 4) lp_l_blocked_1 (dPat f) [d0, some (.lst (T.map dPat)), d2, d3, o4] = some (.ret (.bl true)) := by
        simp [loopF, lp_l_blocked_1, in_pats, h]
      rw [for_ret e1]
      simp [h]
    · have e1 : loopF Φ_l_blocked (.nm 4) lp_l_blocked_1 (dPat f) [d0, some (.lst (T.map dPat)), d2, d3, o4] = some (.nx [d0, some (.lst (T.map dPat)), d2, d3, some (dPat f)]) := by
        simp [loopF, lp_l_blocked_1, in_pats, h]
      rw [for_cons e1, e]
      simp [h]
theorem blocked_2 (d0 d1 : Option D) (Rf L : List (List Str)) : ∀ (fs : List (List Str)) (o4 : Option D), ∃ o4', forG (loopF Φ_l_blocked (.nm 4) lp_l_blocked_2) (fs.map dPat) [d0, d1, some (.lst (Rf.map dPat)), some (.lst (L.map dPat)), o4] =
    some (if (fs.any fun y => decide (y ∈ Rf) || decide (y ∈ L)) = true then .ret (.bl true) else .nx [d0, d1, some (.lst (Rf.map dPat)), some (.lst (L.map dPat)), o4'])
  | [], o4 => ⟨o4, by simp [for_nil]⟩
  | f :: fs, o4 => by
    obtain ⟨o4', e⟩ := blocked_2 d0 d1 Rf L fs (some (dPat f))
    refine ⟨o4', ?_⟩
    rw [List.map_cons]
    by_cases h : f ∈ Rf
    · have e1 : loopF Φ_l_blocked (.nm 4) lp_l_blocked_2 (dPat f) [d0, d1, some (.lst (Rf.map dPat)), some (.lst (L.map dPat)), o4] = some (.ret (.bl true)) := by
        simp [loopF, lp_l_blocked_2, in_pats, h]
      rw [for_ret e1]
      simp [h]
    · by_cases h2 : f ∈ L
      · have e1 : loopF Φ_l_blocked (.nm 4) lp_l_blocked_2 (dPat f) [d0, d1, some (.lst (Rf.map dPat)), some (.lst (L.map dPat)), o4] = some (.ret (.bl true)) := by
          simp [loopF, lp_l_blocked_2, in_pats, h, h2]
        rw [for_ret e1]
        simp [h2]
      · have e1 : loopF Φ_l_blocked (.nm 4) lp_l_blocked_2 (dPat f) [d0, d1, some (.lst (Rf.map dPat)), some (.lst (L.map dPat)), o4] = some (.nx [d0, d1, some (.lst (Rf.map dPat)), some (.lst (L.map dPat)), some (dPat f)]) := by
          simp [loopF, lp_l_blocked_2, in_pats, h, h2]
        rw [for_cons e1, e]
        simp [h, h2]
theorem run_blocked (r : Gr) (T Rf L : List (List Str)) (h1 : r.ys.length ≤ 1000) (h2 : r.ns.length ≤ 1000) : sem_l_blocked [dGr r, .lst (T.map dPat), .lst (Rf.map dPat), .lst (L.map dPat)] = some (.bl (blk T Rf L r)) := by
  have hlim : lim = 100000 := rfl
  have s1 : seqL (dPats r.ys) = some (r.ys.map dPat) := by simp [dPats, seqL, seqD]; omega
  have s2 : seqL (dPats r.ns) = some (r.ns.map dPat) := by simp [dPats, seqL, seqD]; omega
  obtain ⟨o, e⟩ := blocked_2 (some (dGr r)) (some (.lst (T.map dPat))) Rf L r.ys none
  obtain ⟨o2, e2⟩ := blocked_1 (some (dGr r)) (some (.lst (Rf.map dPat))) (some (.lst (L.map dPat))) T r.ns o
  unfold sem_l_blocked
  rw [run_def]
  have hi : ∀ o4, evI Φ_l_blocked (.iV (.op2 .ix (.var 0) (.con (.int 2)))) [some (dGr r), some (.lst (T.map dPat)), some (.lst (Rf.map dPat)), some (.lst (L.map dPat)), o4] = some (r.ys.map dPat) := fun _ => s1
  have hi2 : ∀ o4, evI Φ_l_blocked (.iV (.op2 .ix (.var 0) (.con (.int 3)))) [some (dGr r), some (.lst (T.map dPat)), some (.lst (Rf.map dPat)), some (.lst (L.map dPat)), o4] = some (r.ns.map dPat) := fun _ => s2
  rw [show inD0 5 [dGr r, .lst (T.map dPat), .lst (Rf.map dPat), .lst (L.map dPat)] = [some (dGr r), some (.lst (T.map dPat)), some (.lst (Rf.map dPat)), some (.lst (L.map dPat)), none] from rfl, ir_l_blocked, x_seq, x_for, hi, Option.bind_some, e]
  unfold blk
  cases hy : (r.ys.any fun y => decide (y ∈ Rf) || decide (y ∈ L)) with
  | true => rw [if_pos rfl, then_ret, fin_ret]; rfl
  | false =>
    rw [if_neg (by simp), then_nx, sq_l_blocked_1, x_seq, x_for, hi2, Option.bind_some, e2]
    cases hn : (r.ns.any fun y => decide (y ∈ T)) with
    | true => rw [if_pos rfl, then_ret, fin_ret]; rfl
    | false => rw [if_neg (by simp), then_nx]; simp [sq_l_blocked_2]
/-! ### the law: _law_left -/
def gat1 (T Rf L : List (List Str)) (f : List Str) : List (List Str) := if f ∉ T ∧ f ∉ Rf ∧ f ∉ L then L ++ [f] else L
def gat (T Rf : List (List Str)) (fs L : List (List Str)) : List (List Str) := fs.foldl (gat1 T Rf) L
def envLf (F : List Gr) (T Rf L : List (List Str)) (o4 o5 o6 : Option D) : DEnv := [some (.lst (F.map dGr)), some (.lst (T.map dPat)), some (.lst (Rf.map dPat)), some (.lst (L.map dPat)), o4, o5, o6]
theorem gat1_len (T Rf L : List (List Str)) (f : List Str) : (gat1 T Rf L f).length ≤ L.length + 1 := by
  unfold gat1
  split <;> simp
theorem left_in {F : List Gr} {T Rf : List (List Str)} {o4 o6 : Option D} : ∀ (fs L : List (List Str)) (o5 : Option D), L.length + fs.length ≤ 90000 →
    ∃ o5', forG (loopF Φ_l_left (.nm 5) lp_l_left_5) (fs.map dPat) (envLf F T Rf L o4 o5 o6) = some (.nx (envLf F T Rf (gat T Rf fs L) o4 o5' o6))
  | [], L, o5, _ => ⟨o5, by simp [for_nil, gat]⟩
  | f :: fs, L, o5, h => by
    rw [List.length_cons] at h
    have g1 := gat1_len T Rf L f
    obtain ⟨o5', e⟩ := left_in (F := F) (T := T) (Rf := Rf) (o4 := o4) (o6 := o6) fs (gat1 T Rf L f) (some (dPat f)) (by omega)
    refine ⟨o5', ?_⟩
    have hz : L.length < lim := by have : lim = 100000 := rfl; omega
    have e1 : loopF Φ_l_left (.nm 5) lp_l_left_5 (dPat f) (envLf F T Rf L o4 o5 o6) = some (.nx (envLf F T Rf (gat1 T Rf L f) o4 (some (dPat f)) o6)) := by
      by_cases h1 : f ∈ T
      · simp [loopF, lp_l_left_5, envLf, in_pats, h1, gat1]
      · by_cases h2 : f ∈ Rf
        · simp [loopF, lp_l_left_5, envLf, in_pats, h1, h2, gat1]
        · by_cases h3 : f ∈ L
          · simp [loopF, lp_l_left_5, envLf, in_pats, h1, h2, h3, gat1]
          · simp [loopF, lp_l_left_5, envLf, in_pats, h1, h2, h3, gat1, hz]
    rw [List.map_cons, for_cons e1, e]
    rfl
theorem gat_len (T Rf : List (List Str)) : ∀ (fs L : List (List Str)), (gat T Rf fs L).length ≤ L.length + fs.length
  | [], L => by simp [gat]
  | f :: fs, L => by
    have g1 := gat1_len T Rf L f
    have ih := gat_len T Rf fs (gat1 T Rf L f)
    show (gat T Rf fs (gat1 T Rf L f)).length ≤ _
    rw [List.length_cons]
    omega
theorem left_all {F : List Gr} {T Rf : List (List Str)} {o6 : Option D} : ∀ (G : List Gr) (L : List (List Str)) (o4 o5 : Option D), (∀ r ∈ G, r.ys.length ≤ 6 ∧ r.ns.length ≤ 6) → L.length + 13 * G.length ≤ 90000 →
    ∃ o4' o5', forG (loopF Φ_l_left (.nm 4) lp_l_left_6) (G.map dGr) (envLf F T Rf L o4 o5 o6) = some (.nx (envLf F T Rf (gat T Rf (G.flatMap factsR) L) o4' o5' o6))
  | [], L, o4, o5, _, _ => ⟨o4, o5, by simp [for_nil, gat]⟩
  | r :: G, L, o4, o5, hr, h => by
    rw [List.length_cons] at h
    have hb := hr r (by simp)
    have hlim : lim = 100000 := rfl
    have lr : (factsR r).length = 1 + (r.ys.length + r.ns.length) := by simp [factsR]; omega
    have g1 := gat_len T Rf (factsR r) L
    obtain ⟨o5', e5⟩ := left_in (F := F) (T := T) (Rf := Rf) (o4 := some (dGr r)) (o6 := o6) (factsR r) L o5 (by omega)
    obtain ⟨o4', o5'', e⟩ := left_all (F := F) (T := T) (Rf := Rf) (o6 := o6) G (gat T Rf (factsR r) L) (some (dGr r)) o5' (fun q hq => hr q (by simp [hq])) (by omega)
    refine ⟨o4', o5'', ?_⟩
    have hz : 1 + r.ys.length ≤ lim := by omega
    have hz2 : 1 + r.ys.length + r.ns.length ≤ lim := by omega
    have hi : evI Φ_l_left (.iV (.op2 .add (.op2 .add (.lst (.cons (.op2 .ix (.var 4) (.con (.int 1))) .nil)) (.op1 .list (.op2 .ix (.var 4) (.con (.int 2))))) (.op1 .list (.op2 .ix (.var 4) (.con (.int 3)))))) (envLf F T Rf L (some (dGr r)) o5 o6) = some ((factsR r).map dPat) := by
      have a1 : op2D .ix (dGr r) (.int 1) = some (dPat r.hd) := rfl
      have a2 : op2D .ix (dGr r) (.int 2) = some (dPats r.ys) := rfl
      have a3 : op2D .ix (dGr r) (.int 3) = some (dPats r.ns) := rfl
      have b2 : op1D .list (dPats r.ys) = some (.lst (r.ys.map dPat)) := rfl
      have b3 : op1D .list (dPats r.ns) = some (.lst (r.ns.map dPat)) := rfl
      have l1 : 1 ≤ lim := by omega
      have c1 : op2D .add (.lst [dPat r.hd]) (.lst (r.ys.map dPat)) = some (.lst ([dPat r.hd] ++ r.ys.map dPat)) := by
        show (if [dPat r.hd].length + (r.ys.map dPat).length ≤ lim then some (D.lst ([dPat r.hd] ++ r.ys.map dPat)) else none) = _
        rw [if_pos (by simpa using hz)]
      have c2 : op2D .add (.lst ([dPat r.hd] ++ r.ys.map dPat)) (.lst (r.ns.map dPat)) = some (.lst ([dPat r.hd] ++ r.ys.map dPat ++ r.ns.map dPat)) := by
        show (if ([dPat r.hd] ++ r.ys.map dPat).length + (r.ns.map dPat).length ≤ lim then some (D.lst ([dPat r.hd] ++ r.ys.map dPat ++ r.ns.map dPat)) else none) = _
        rw [if_pos (by simp; omega)]
      have c3 : seqL (.lst ([dPat r.hd] ++ r.ys.map dPat ++ r.ns.map dPat)) = some ([dPat r.hd] ++ r.ys.map dPat ++ r.ns.map dPat) := by
        show (if ([dPat r.hd] ++ r.ys.map dPat ++ r.ns.map dPat).length ≤ lim then _ else none) = _
        rw [if_pos (by simp; omega)]
      have hv : (envLf F T Rf L (some (dGr r)) o5 o6)[4]? = some (some (dGr r)) := rfl
      simp only [i_V, e_op2, e_op1, e_lst, a_cons, a_nil, e_var, e_con, hv, Option.bind_some, id, a1, a2, a3, b2, b3, Option.map_some, List.length_cons, List.length_nil, Nat.zero_add, l1, if_true, c1, c2, c3]
      simp [factsR]
    have e1 : loopF Φ_l_left (.nm 4) lp_l_left_6 (dGr r) (envLf F T Rf L o4 o5 o6) = some (.nx (envLf F T Rf (gat T Rf (factsR r) L) (some (dGr r)) o5' o6)) := by
      show exS Φ_l_left 1000 lp_l_left_6 (envLf F T Rf L (some (dGr r)) o5 o6) = _
      rw [lp_l_left_6, x_seq, x_for, hi, Option.bind_some, e5, then_nx]
      rfl
    rw [List.map_cons, for_cons e1, e, List.flatMap_cons]
    unfold gat
    rw [List.foldl_append]
/-- a rule's turn -/
def tk1 (T Rf L : List (List Str)) (r : Gr) : List (List Str) := if r.hd ∈ L ∧ blk T Rf L r = false then L.filter fun f => decide (f ≠ r.hd) else L
def tk (T Rf : List (List Str)) (G : List Gr) (L : List (List Str)) : List (List Str) := G.foldl (tk1 T Rf) L
theorem filter_lc (Φ : Nat → List D → Option D) (d0 d1 d2 d3 d5 d6 : Option D) (r : Gr) : ∀ l : List (List Str), lcG (lcF Φ (.nm 5) [5] el_l_left_1 el_l_left_2 [d0, d1, d2, d3, some (dGr r), d5, d6]) (l.map dPat) = some ((l.filter fun f => decide (f ≠ r.hd)).map dPat)
  | [] => rfl
  | f :: l => by
    have hx : op2D .ix (dGr r) (.int 1) = some (dPat r.hd) := rfl
    rw [List.map_cons, lcG, filter_lc Φ d0 d1 d2 d3 d5 d6 r l]
    by_cases h : f = r.hd
    · have e : lcF Φ (.nm 5) [5] el_l_left_1 el_l_left_2 [d0, d1, d2, d3, some (dGr r), d5, d6] (dPat f) = some none := by
        simp [lcF, wipeD, el_l_left_2, hx, eq_pat, h]
      rw [e]
      simp [h]
    · have e : lcF Φ (.nm 5) [5] el_l_left_1 el_l_left_2 [d0, d1, d2, d3, some (dGr r), d5, d6] (dPat f) = some (some (dPat f)) := by
        simp [lcF, wipeD, el_l_left_1, el_l_left_2, hx, eq_pat, h]
      rw [e]
      simp [h]
end R

set_option Elab.async false
set_option linter.all false
set_option maxRecDepth 100000
set_option maxHeartbeats 4000000
namespace R
open PySem L2 DL M
variable [TbC]
/-! ### what is left, plainly -/
theorem gat_mem {T Rf : List (List Str)} {g : List Str} : ∀ {fs L : List (List Str)}, g ∈ gat T Rf fs L ↔ g ∈ L ∨ (g ∈ fs ∧ g ∉ T ∧ g ∉ Rf)
  | [], L => by simp [gat]
  | f :: fs, L => by
    show g ∈ gat T Rf fs (gat1 T Rf L f) ↔ _
    rw [gat_mem]
    unfold gat1
    by_cases h : f ∉ T ∧ f ∉ Rf ∧ f ∉ L
    · rw [if_pos h, List.mem_append, List.mem_singleton, List.mem_cons]
      constructor
      · rintro ((z | rfl) | z)
        · exact .inl z
        · exact .inr ⟨.inl rfl, h.1, h.2.1⟩
        · exact .inr ⟨.inr z.1, z.2⟩
      · rintro (z | ⟨rfl | z, y⟩)
        · exact .inl (.inl z)
        · exact .inl (.inr rfl)
        · exact .inr ⟨z, y⟩
    · rw [if_neg h, List.mem_cons]
      constructor
      · rintro (z | z)
        · exact .inl z
        · exact .inr ⟨.inr z.1, z.2⟩
      · rintro (z | ⟨rfl | z, y⟩)
        · exact .inl z
        · exact .inl (Classical.byContradiction fun n => h ⟨y.1, y.2, n⟩)
        · exact .inr ⟨z, y⟩
theorem gat_nodup {T Rf : List (List Str)} : ∀ {fs L : List (List Str)}, L.Nodup → (gat T Rf fs L).Nodup
  | [], L, h => h
  | f :: fs, L, h => by
    show (gat T Rf fs (gat1 T Rf L f)).Nodup
    refine gat_nodup ?_
    unfold gat1
    split
    · rename_i z
      refine List.nodup_append.mpr ⟨h, by simp, fun a ha b hb => ?_⟩
      rw [List.mem_singleton.mp hb]
      intro e
      subst e
      exact z.2.2 ha
    · exact h
theorem tk1_sub {T Rf L : List (List Str)} {r : Gr} : ∀ f ∈ tk1 T Rf L r, f ∈ L := by
  intro f hf
  unfold tk1 at hf
  split at hf
  · exact (List.mem_filter.mp hf).1
  · exact hf
theorem tk_sub {T Rf : List (List Str)} : ∀ {G : List Gr} {L : List (List Str)}, ∀ f ∈ tk T Rf G L, f ∈ L
  | [], _, _, h => h
  | r :: G, L, f, h => tk1_sub f (tk_sub (G := G) (L := tk1 T Rf L r) f h)
theorem tk1_nodup {T Rf L : List (List Str)} {r : Gr} (h : L.Nodup) : (tk1 T Rf L r).Nodup := by
  unfold tk1
  split
  · exact h.sublist List.filter_sublist
  · exact h
theorem tk_nodup {T Rf : List (List Str)} : ∀ {G : List Gr} {L : List (List Str)}, L.Nodup → (tk T Rf G L).Nodup
  | [], _, h => h
  | r :: G, L, h => tk_nodup (G := G) (tk1_nodup h)
/-- nothing but what is entered goes -/
theorem tk_keep {F : List Gr} {T Rf L0 H : List (List Str)} (hL0 : ∀ f, f ∈ L0 ↔ f ∈ F.flatMap factsR ∧ f ∉ T ∧ f ∉ Rf) (inv : ∀ r ∈ F, okQ T Rf r = true → r.hd ∈ T ++ H ∨ ∃ y ∈ r.ys, y ∉ T ++ H) : ∀ {G : List Gr} {L : List (List Str)}, (∀ r ∈ G, r ∈ F) → (∀ f ∈ L, f ∈ L0) → (∀ f ∈ L0, f ∉ H → f ∈ L) → ∀ f ∈ L0, f ∉ H → f ∈ tk T Rf G L
  | [], _, _, _, h, f, a, b => h f a b
  | r :: G, L, hG, sub, h, f, a, b => by
    refine tk_keep hL0 inv (G := G) (L := tk1 T Rf L r) (fun q hq => hG q (by simp [hq])) (fun g hg => sub g (tk1_sub g hg)) (fun g g0 gH => ?_) f a b
    unfold tk1
    split
    · rename_i c
      refine List.mem_filter.mpr ⟨h g g0 gH, ?_⟩
      rw [decide_eq_true_eq]
      intro e
      subst e
      have rF := hG r (by simp)
      have hb := c.2
      unfold blk at hb
      simp only [Bool.or_eq_false_iff, List.any_eq_false, decide_eq_true_eq, not_or] at hb
      obtain ⟨b1, b2⟩ := hb
      rcases inv r rF (okQ_iff.mpr ⟨fun y hy => (by have := b1 y hy; simp at this; exact this.1), b2⟩) with z | ⟨y, hy, z⟩
      · rcases List.mem_append.mp z with z | z
        · exact ((hL0 r.hd).mp g0).2.1 z
        · exact gH z
      · rw [List.mem_append, not_or] at z
        have hy2 := b1 y hy
        simp at hy2
        have yF : y ∈ F.flatMap factsR := List.mem_flatMap.mpr ⟨r, rF, by simp [factsR, hy]⟩
        exact hy2.2 (h y ((hL0 y).mpr ⟨yF, z.1, hy2.1⟩) z.2)
    · exact h g g0 gH
/-- what is not blocked at a turn's start goes in it -/
theorem tk_goes {T Rf : List (List Str)} {r : Gr} : ∀ {G : List Gr} {L : List (List Str)}, r ∈ G → blk T Rf L r = false → r.hd ∉ tk T Rf G L
  | q :: G, L, hr, hb => by
    have mono : ∀ {L' : List (List Str)}, (∀ f ∈ L', f ∈ L) → blk T Rf L' r = false := fun {L'} sub => by
      unfold blk at hb ⊢
      simp only [Bool.or_eq_false_iff, List.any_eq_false, decide_eq_true_eq, Bool.not_eq_true, decide_eq_false_iff_not] at hb ⊢
      exact ⟨fun y hy => ⟨(hb.1 y hy).1, fun z => (hb.1 y hy).2 (sub y z)⟩, hb.2⟩
    show r.hd ∉ tk T Rf G (tk1 T Rf L q)
    rcases List.mem_cons.mp hr with rfl | hr
    · intro z
      have z1 := tk_sub r.hd z
      unfold tk1 at z1
      split at z1
      · have := (List.mem_filter.mp z1).2
        simp at this
      · rename_i c
        exact c ⟨z1, hb⟩
    · exact tk_goes hr (mono fun f hf => tk1_sub f hf)
theorem tk1_len {T Rf L : List (List Str)} {r : Gr} : (tk1 T Rf L r).length ≤ L.length := by
  unfold tk1
  split
  · exact List.length_filter_le _ _
  · exact Nat.le_refl _
/-- the first that is entered and still there -/
theorem first_in {F : List Gr} {P : List Nat} {L : List (List Str)} : ∀ {ps : List Pr} {Y : List (List Str)}, Chain F P Y ps → (∀ y ∈ Y, y ∉ L) → (∃ p ∈ ps, p.1 ∈ L) → ∃ p r, F[p]? = some r ∧ p ∈ P ∧ r.hd ∈ L ∧ ∀ y ∈ r.ys, y ∉ L
  | [], _, _, _, ⟨_, h, _⟩ => by cases h
  | p :: ps, Y, ⟨⟨r, h1, h2, h3, h4, h5⟩, hc⟩, hY, ⟨q, hq, hqL⟩ => by
    by_cases c : p.1 ∈ L
    · exact ⟨p.2, r, h1, h2, by rw [h3]; exact c, fun y hy => hY y (h5 y hy)⟩
    · refine first_in hc (fun y hy => ?_) ⟨q, ?_, hqL⟩
      · rcases List.mem_append.mp hy with z | z
        · exact hY y z
        · rw [List.mem_singleton.mp z]; exact c
      · rcases List.mem_cons.mp hq with rfl | hq
        · exact absurd hqL c
        · exact hq
def turns (T Rf : List (List Str)) (F : List Gr) : Nat → List (List Str) → List (List Str)
  | 0, L => L
  | n + 1, L => turns T Rf F n (tk T Rf F L)
theorem turns_sub {T Rf : List (List Str)} {F : List Gr} : ∀ (n : Nat) {L : List (List Str)}, ∀ f ∈ turns T Rf F n L, f ∈ L
  | 0, _, _, h => h
  | n + 1, _, f, h => tk_sub f (turns_sub n f h)
theorem turns_nodup {T Rf : List (List Str)} {F : List Gr} : ∀ (n : Nat) {L : List (List Str)}, L.Nodup → (turns T Rf F n L).Nodup
  | 0, _, h => h
  | n + 1, _, h => turns_nodup n (tk_nodup h)
theorem tk_len {T Rf : List (List Str)} : ∀ {G : List Gr} {L : List (List Str)}, (tk T Rf G L).length ≤ L.length
  | [], _ => Nat.le_refl _
  | r :: G, L => Nat.le_trans (tk_len (G := G) (L := tk1 T Rf L r)) tk1_len
theorem turns_right {F : List Gr} {T Rf L0 : List (List Str)} {prs : List Pr} (hL0 : ∀ f, f ∈ L0 ↔ f ∈ F.flatMap factsR ∧ f ∉ T ∧ f ∉ Rf) (hC : Chain F (opL T Rf F.zipIdx) T prs) (hI : Inv2 F (opL T Rf F.zipIdx) [] (T ++ prs.map (·.1))) :
    ∀ (n : Nat) (L : List (List Str)), L.Nodup → L.length ≤ n → (∀ f ∈ L, f ∈ L0) → (∀ f ∈ L0, f ∉ prs.map (·.1) → f ∈ L) → ∀ f, f ∈ turns T Rf F n L ↔ f ∈ L0 ∧ f ∉ prs.map (·.1) := by
  have inv : ∀ r ∈ F, okQ T Rf r = true → r.hd ∈ T ++ prs.map (·.1) ∨ ∃ y ∈ r.ys, y ∉ T ++ prs.map (·.1) := fun r hr ok => by
    obtain ⟨i, hi, e⟩ := List.getElem_of_mem hr
    have hF : F[i]? = some r := by rw [List.getElem?_eq_getElem hi, e]
    rcases hI i (opL_mem.mpr ⟨r, hF, ok⟩) r hF with z | z | z
    · cases z
    · exact .inl z
    · exact .inr z
  intro n
  induction n with
  | zero =>
    intro L _ len sub keep f
    have : L = [] := List.eq_nil_of_length_eq_zero (by omega)
    subst this
    constructor
    · intro z; cases z
    · rintro ⟨a, b⟩; exact keep f a b
  | succ n ih =>
    intro L nd len sub keep f
    show f ∈ turns T Rf F n (tk T Rf F L) ↔ _
    have keep' := tk_keep hL0 inv (G := F) (L := L) (fun _ h => h) sub keep
    by_cases c : ∃ p ∈ prs, p.1 ∈ L
    · obtain ⟨p, r, h1, h2, h3, h4⟩ := first_in hC (fun y hy z => ((hL0 y).mp (sub y z)).2.1 hy) c
      obtain ⟨r2, e2, ok⟩ := opL_mem.mp h2
      rw [h1] at e2
      cases e2
      obtain ⟨k1, k2⟩ := okQ_iff.mp ok
      have nb : blk T Rf L r = false := by
        unfold blk
        simp only [Bool.or_eq_false_iff, List.any_eq_false, decide_eq_true_eq, Bool.not_eq_true, decide_eq_false_iff_not]
        exact ⟨fun y hy => ⟨k1 y hy, h4 y hy⟩, k2⟩
      have gone := tk_goes (List.mem_of_getElem? h1) nb
      have shorter : (tk T Rf F L).length < L.length := by
        have := nodup_le (l := r.hd :: tk T Rf F L) (m := L) (List.nodup_cons.mpr ⟨gone, tk_nodup nd⟩) fun x hx => by
          rcases List.mem_cons.mp hx with rfl | hx
          · exact h3
          · exact tk_sub x hx
        rw [List.length_cons] at this
        omega
      exact ih (tk T Rf F L) (tk_nodup nd) (by omega) (fun g hg => sub g (tk_sub g hg)) keep' f
    · constructor
      · intro z
        have zL := tk_sub f (turns_sub n f z)
        refine ⟨sub f zL, fun y => ?_⟩
        obtain ⟨p, hp, e⟩ := List.mem_map.mp y
        exact c ⟨p, hp, by rw [e]; exact zL⟩
      · rintro ⟨a, b⟩
        have go : ∀ (n : Nat) (L : List (List Str)), (∀ f ∈ L, f ∈ L0) → (∀ f ∈ L0, f ∉ prs.map (·.1) → f ∈ L) → f ∈ turns T Rf F n L := by
          intro n
          induction n with
          | zero => intro L _ k; exact k f a b
          | succ n ih2 => intro L s k; exact ih2 _ (fun g hg => s g (tk_sub g hg)) (tk_keep hL0 inv (G := F) (L := L) (fun _ h => h) s k)
        exact go n _ (fun g hg => sub g (tk_sub g hg)) keep'
/-! ### the law: _law_left, run -/
theorem left_pass {F : List Gr} {T Rf : List (List Str)} {o6 : Option D} : ∀ (G : List Gr) (L : List (List Str)) (o4 o5 : Option D), (∀ r ∈ G, r.ys.length ≤ 6 ∧ r.ns.length ≤ 6) → L.length ≤ 90000 →
    ∃ o4' o5', forG (loopF Φ_l_left (.nm 4) lp_l_left_3) (G.map dGr) (envLf F T Rf L o4 o5 o6) = some (.nx (envLf F T Rf (tk T Rf G L) o4' o5' o6))
  | [], L, o4, o5, _, _ => ⟨o4, o5, by simp [for_nil, tk]⟩
  | r :: G, L, o4, o5, hr, h => by
    have hb := hr r (by simp)
    have l1 := tk1_len (T := T) (Rf := Rf) (L := L) (r := r)
    obtain ⟨o4', o5', e⟩ := left_pass (F := F) (T := T) (Rf := Rf) (o6 := o6) G (tk1 T Rf L r) (some (dGr r)) o5 (fun q hq => hr q (by simp [hq])) (by omega)
    refine ⟨o4', o5', ?_⟩
    have hblk := run_blocked r T Rf L (by omega) (by omega)
    have hx : op2D .ix (dGr r) (.int 1) = some (dPat r.hd) := rfl
    have hs : seqL (.lst (L.map dPat)) = some (L.map dPat) := seqL_pats L h
    have hlc := filter_lc Φ_l_left (some (.lst (F.map dGr))) (some (.lst (T.map dPat))) (some (.lst (Rf.map dPat))) (some (.lst (L.map dPat))) o5 o6 r L
    have e1 : loopF Φ_l_left (.nm 4) lp_l_left_3 (dGr r) (envLf F T Rf L o4 o5 o6) = some (.nx (envLf F T Rf (tk1 T Rf L r) (some (dGr r)) o5 o6)) := by
      show exS Φ_l_left 1000 lp_l_left_3 (envLf F T Rf L (some (dGr r)) o5 o6) = _
      by_cases h1 : r.hd ∈ L
      · cases h2 : blk T Rf L r with
        | true =>
          rw [h2] at hblk
          simp [lp_l_left_3, envLf, hx, in_pats, h1, Φ_l_left, hblk, tk1, h2]
        | false =>
          rw [h2] at hblk
          have e3 : tk1 T Rf L r = L.filter fun f => decide (f ≠ r.hd) := by unfold tk1; rw [if_pos ⟨h1, h2⟩]
          rw [e3]
          have hv : evE Φ_l_left (.lc (.nm 5) [5] el_l_left_1 (.iV (.var 3)) el_l_left_2) (envLf F T Rf L (some (dGr r)) o5 o6) = some (.lst ((L.filter fun f => decide (f ≠ r.hd)).map dPat)) := by
            have hi : evI Φ_l_left (.iV (.var 3)) (envLf F T Rf L (some (dGr r)) o5 o6) = some (L.map dPat) := hs
            rw [e_lc, hi, Option.bind_some]
            show (lcG (lcF Φ_l_left (.nm 5) [5] el_l_left_1 el_l_left_2 [some (.lst (F.map dGr)), some (.lst (T.map dPat)), some (.lst (Rf.map dPat)), some (.lst (L.map dPat)), some (dGr r), o5, o6]) (L.map dPat)).map D.lst = _
            rw [hlc]
            rfl
          have hc : evT Φ_l_left (.and (.op2 .isin (.op2 .ix (.var 4) (.con (.int 1))) (.var 3)) (.not (.call 0 (.cons (.var 4) (.cons (.var 1) (.cons (.var 2) (.cons (.var 3) .nil))))))) (envLf F T Rf L (some (dGr r)) o5 o6) = some true := by
            simp [envLf, hx, in_pats, h1, Φ_l_left, hblk]
          rw [lp_l_left_3, x_seq, x_ite, hc, Option.bind_some, if_pos rfl, x_seq, x_asgO, hv, Option.bind_some, isL_l, if_pos rfl]
          rfl
      · simp [lp_l_left_3, envLf, hx, in_pats, h1, tk1]
    rw [List.map_cons, for_cons e1, e]
    rfl
theorem left_turns {F : List Gr} {T Rf : List (List Str)} (hr : ∀ r ∈ F, r.ys.length ≤ 6 ∧ r.ns.length ≤ 6) (hl : F.length ≤ 90000) : ∀ (n : Nat) (lo : Int) (L : List (List Str)) (o4 o5 o6 : Option D), L.length ≤ 90000 →
    ∃ o4' o5' o6', forG (loopF Φ_l_left (.nm 6) lp_l_left_4) (rngD lo n) (envLf F T Rf L o4 o5 o6) = some (.nx (envLf F T Rf (turns T Rf F n L) o4' o5' o6'))
  | 0, lo, L, o4, o5, o6, _ => ⟨o4, o5, o6, by simp [rngD, for_nil, turns]⟩
  | n + 1, lo, L, o4, o5, o6, h => by
    obtain ⟨a4, a5, e1⟩ := left_pass (F := F) (T := T) (Rf := Rf) (o6 := some (.int lo)) F L o4 o5 hr h
    obtain ⟨o4', o5', o6', e⟩ := left_turns hr hl n (lo + 1) (tk T Rf F L) a4 a5 (some (.int lo)) (Nat.le_trans tk_len h)
    refine ⟨o4', o5', o6', ?_⟩
    have hi : evI Φ_l_left (.iV (.var 0)) (envLf F T Rf L o4 o5 (some (.int lo))) = some (F.map dGr) := by
      have : F.length ≤ lim := by have : lim = 100000 := rfl; omega
      simp [envLf, seqL, seqD, this]
    have e2 : loopF Φ_l_left (.nm 6) lp_l_left_4 (.int lo) (envLf F T Rf L o4 o5 o6) = some (.nx (envLf F T Rf (tk T Rf F L) a4 a5 (some (.int lo)))) := by
      show exS Φ_l_left 1000 lp_l_left_4 (envLf F T Rf L o4 o5 (some (.int lo))) = _
      rw [lp_l_left_4, x_seq, x_for, hi, Option.bind_some, e1, then_nx]
      rfl
    rw [rng_succ, for_cons e2, e]
    rfl
theorem rowsD_pats : ∀ {l : List (List Str)}, (∀ f ∈ l, f ≠ []) → rowsD (l.map dPat) = some l
  | [], _ => rfl
  | f :: l, h => by
    rw [List.map_cons, rowsD, strT_pat (h f (by simp)), rowsD_pats fun g hg => h g (by simp [hg])]
    rfl
theorem sorted_pats {l : List (List Str)} (h : ∀ f ∈ l, f ≠ []) : op1D .sorted (.lst (l.map dPat)) = some (.lst ((sortK l).map dPat)) := by
  cases l with
  | nil => rfl
  | cons f l =>
    rw [o1_sorted]
    have e : strsD ((f :: l).map dPat) = none := rfl
    rw [e]
    show (rowsD ((f :: l).map dPat)).map _ = _
    rw [rowsD_pats h]
    rfl
theorem run_left (F : List Gr) (T Rf : List (List Str)) (hr : ∀ r ∈ F, r.ys.length ≤ 6 ∧ r.ns.length ≤ 6) (hl : F.length ≤ 5000) (hne : ∀ f ∈ F.flatMap factsR, f ≠ []) (hsm : (gat T Rf (F.flatMap factsR) []).length ≤ 1000) :
    sem_l_left [.lst (F.map dGr), .lst (T.map dPat), .lst (Rf.map dPat)] = some (.lst ((sortK (turns T Rf F (gat T Rf (F.flatMap factsR) []).length (gat T Rf (F.flatMap factsR) []))).map dPat)) := by
  have hlim : lim = 100000 := rfl
  obtain ⟨o4, o5, e1⟩ := left_all (F := F) (T := T) (Rf := Rf) (o6 := none) F [] none none hr (by simp; omega)
  have hne0 : ∀ f ∈ gat T Rf (F.flatMap factsR) [], f ≠ [] := fun f hf => by
    rcases gat_mem.mp hf with z | z
    · cases z
    · exact hne f z.1
  generalize gat T Rf (F.flatMap factsR) [] = L0 at e1 hsm hne0 ⊢
  obtain ⟨b4, b5, b6, e2⟩ := left_turns (F := F) (T := T) (Rf := Rf) hr (by omega) L0.length 0 L0 o4 o5 none (by omega)
  have hn1 : ∀ f ∈ turns T Rf F L0.length L0, f ≠ [] := fun f hf => hne0 f (turns_sub _ f hf)
  generalize turns T Rf F L0.length L0 = Lf at e2 hn1 ⊢
  have hF : F.length ≤ lim := by omega
  have hi1 : evI Φ_l_left (.iV (.var 0)) (envLf F T Rf [] none none none) = some (F.map dGr) := by simp [envLf, seqL, seqD, hF]
  have hi2 : evI Φ_l_left (.iR1 (.op1 .len (.var 3))) (envLf F T Rf L0 o4 o5 none) = some (rngD 0 L0.length) := by
    have : (L0.length : Int) ≤ lim ∧ -(lim : Int) ≤ L0.length := by have : (lim : Int) = 100000 := rfl; omega
    simp [envLf, this]
  unfold sem_l_left
  rw [run_def]
  have s0 : exS Φ_l_left 1000 ir_l_left (inD0 7 [.lst (F.map dGr), .lst (T.map dPat), .lst (Rf.map dPat)]) = exS Φ_l_left 1000 sq_l_left_1 (envLf F T Rf [] none none none) := by
    simp [ir_l_left, inD0, envLf]
  have hv : evE Φ_l_left (.op1 .sorted (.var 3)) (envLf F T Rf Lf b4 b5 b6) = some (.lst ((sortK Lf).map dPat)) := sorted_pats hn1
  rw [s0, sq_l_left_1, x_seq, x_for, hi1, Option.bind_some, e1, then_nx, sq_l_left_2, x_seq, x_for, hi2, Option.bind_some, e2, then_nx, sq_l_left_3, x_seq, x_ret, hv]
  rfl
end R

set_option Elab.async false
set_option linter.all false
set_option maxRecDepth 100000
set_option maxHeartbeats 4000000
namespace R
open PySem L2 DL M
variable [TbC]
theorem eq_int (a b : Int) : eqD (.int a) (.int b) = some (decide (a = b)) := by
  show (if dOk 60 (.int a) && dOk 60 (.int b) then some (eqv (.int a) (.int b)) else none) = _
  rw [eqv]
  by_cases h : a = b <;> simp [dOk, h]
theorem lcG_fil {α : Type} {g : α → D} {f : D → Option (Option D)} : ∀ {l : List D}, (∀ x ∈ l, ∃ o : Option α, f x = some (o.map g)) → ∃ ss : List α, lcG f l = some (ss.map g) ∧ ss.length ≤ l.length
  | [], _ => ⟨[], rfl, by simp⟩
  | x :: l, h => by
    obtain ⟨o, e⟩ := h x (by simp)
    obtain ⟨ss, e2, hl⟩ := lcG_fil (g := g) (f := f) (l := l) fun y hy => h y (by simp [hy])
    cases o with
    | none => exact ⟨ss, by rw [lcG, e, e2]; rfl, by simp; omega⟩
    | some s => exact ⟨s :: ss, by rw [lcG, e, e2]; rfl, by simp; omega⟩
theorem law_states (ns : List Int) (A : List (List Str)) (o2 o3 o4 o5 o6 o7 o8 o9 o10 : Option D) : ∃ Z : List Int, lcG (lcF Φ_law (.nm 3) [3] el_law_8 .nop [some (.scr (ns.map D.int)), some (.lst (A.map dPat)), o2, o3, o4, o5, o6, o7, o8, o9, o10]) (rngD 0 A.length) = some (Z.map D.int) ∧ Z.length = A.length := by
  obtain ⟨ss, h1, _, h3⟩ := lc_ex (g := D.int) (Q := fun _ => True) (f := lcF Φ_law (.nm 3) [3] el_law_8 .nop [some (.scr (ns.map D.int)), some (.lst (A.map dPat)), o2, o3, o4, o5, o6, o7, o8, o9, o10]) (l := rngD 0 A.length) fun x hx => by
    obtain ⟨j, rfl, h0, hj⟩ := rng_mem hx
    obtain ⟨w, hw, e⟩ := atI_map D.int (l := [1, 4, 16]) (i := j / 3 % 3) (by omega) (by show _ < (3 : Int); omega)
    have hwp : 0 < w ∧ w < 1073741824 := by
      simp at hw; omega
    have hc := run_cell ns (3 + j % 3) (by omega)
    have hl3 : 3 ≤ lim := by have : lim = 100000 := rfl; omega
    refine ⟨cellF ns (3 + j % 3) / w % 4, ?_, trivial⟩
    simp only [List.map_cons, List.map_nil] at e
    simp [lcF, wipeD, el_law_8, Φ_law, hc, e, hwp, hl3]
  exact ⟨ss, h1, by rw [h3]; simp [rngD]⟩
theorem law_told (Z : List Int) (A : List (List Str)) (hZ : Z.length = A.length) (d0 o3 o4 o5 o6 o7 o8 o9 o10 : Option D) : ∃ T : List (List Str), lcG (lcF Φ_law (.nm 3) [3] el_law_6 el_law_7 [d0, some (.lst (A.map dPat)), some (.lst (Z.map D.int)), o3, o4, o5, o6, o7, o8, o9, o10]) (rngD 0 A.length) = some (T.map dPat) ∧ T.length ≤ A.length := by
  obtain ⟨T, h1, h2⟩ := lcG_fil (g := dPat) (f := lcF Φ_law (.nm 3) [3] el_law_6 el_law_7 [d0, some (.lst (A.map dPat)), some (.lst (Z.map D.int)), o3, o4, o5, o6, o7, o8, o9, o10]) (l := rngD 0 A.length) fun x hx => by
    obtain ⟨j, rfl, h0, hj⟩ := rng_mem hx
    obtain ⟨z, _, e1⟩ := atI_map D.int (l := Z) (i := j) h0 (by omega)
    obtain ⟨a, _, e2⟩ := atI_map dPat (l := A) (i := j) h0 hj
    refine ⟨if z = 1 then some a else none, ?_⟩
    by_cases hz : z = 1
    · subst hz
      simp [lcF, wipeD, el_law_6, el_law_7, e1, e2, eq_int]
    · simp [lcF, wipeD, el_law_6, el_law_7, e1, e2, eq_int, hz]
  exact ⟨T, h1, by simpa [rngD] using h2⟩
theorem law_ref (Z : List Int) (A : List (List Str)) (hZ : Z.length = A.length) (d0 o3 o4 o5 o6 o7 o8 o9 o10 : Option D) : ∃ T : List (List Str), lcG (lcF Φ_law (.nm 3) [3] el_law_4 el_law_5 [d0, some (.lst (A.map dPat)), some (.lst (Z.map D.int)), o3, o4, o5, o6, o7, o8, o9, o10]) (rngD 0 A.length) = some (T.map dPat) ∧ T.length ≤ A.length := by
  obtain ⟨T, h1, h2⟩ := lcG_fil (g := dPat) (f := lcF Φ_law (.nm 3) [3] el_law_4 el_law_5 [d0, some (.lst (A.map dPat)), some (.lst (Z.map D.int)), o3, o4, o5, o6, o7, o8, o9, o10]) (l := rngD 0 A.length) fun x hx => by
    obtain ⟨j, rfl, h0, hj⟩ := rng_mem hx
    obtain ⟨z, _, e1⟩ := atI_map D.int (l := Z) (i := j) h0 (by omega)
    obtain ⟨a, _, e2⟩ := atI_map dPat (l := A) (i := j) h0 hj
    refine ⟨if z = 2 then some a else none, ?_⟩
    by_cases hz : z = 2
    · subst hz
      simp [lcF, wipeD, el_law_4, el_law_5, e1, e2, eq_int]
    · simp [lcF, wipeD, el_law_4, el_law_5, e1, e2, eq_int, hz]
  exact ⟨T, h1, by simpa [rngD] using h2⟩
def Fine (A : List (List Str)) (r : Gr) : Prop := (r.ys.length ≤ 6 ∧ r.ns.length ≤ 6) ∧ r.hd ∈ A ∧ (∀ y ∈ r.ys, y ∈ A) ∧ ∀ y ∈ r.ns, y ∈ A
theorem law_filled (cs : List Int) (A : List (List Str)) (h0 : 0 < A.length) (h9 : A.length ≤ 1000) (d0 o2 o3 o4 o5 o6 o7 o8 o9 o10 : Option D) : ∃ F : List Gr, lcG (lcF Φ_law (.nm 7) [7] el_law_3 .nop [d0, some (.lst (A.map dPat)), o2, o3, o4, o5, o6, o7, o8, o9, o10]) (cs.map D.int) = some (F.map dGr) ∧ (∀ r ∈ F, Fine A r) ∧ F.length = cs.length := by
  obtain ⟨ss, h1, h2, h3⟩ := lc_ex (g := dGr) (Q := Fine A) (f := lcF Φ_law (.nm 7) [7] el_law_3 .nop [d0, some (.lst (A.map dPat)), o2, o3, o4, o5, o6, o7, o8, o9, o10]) (l := cs.map D.int) fun x hx => by
    obtain ⟨c, _, rfl⟩ := List.mem_map.mp hx
    obtain ⟨r, e, hr⟩ := run_ground c A h0 h9
    exact ⟨r, by simp [lcF, wipeD, el_law_3, Φ_law, e], hr⟩
  exact ⟨ss, h1, h2, by rw [h3]; simp⟩
theorem cut_cells (ns : List Int) : ∃ cs : List Int, cutD (ns.map D.int) (some 6) (some 18) = cs.map D.int ∧ cs.length ≤ 12 := by
  refine ⟨(ns.drop 6).take 12, ?_, by simp; omega⟩
  have := cutD_nat (l := ns.map D.int) (a := 6) (b := 18) (by omega)
  rw [show (some ((6 : Nat) : Int)) = some (6 : Int) from rfl, show (some ((18 : Nat) : Int)) = some (18 : Int) from rfl] at this
  rw [this]; simp
theorem no_others (Φ : Nat → List D → Option D) (d0 d1 d2 d3 d4 d5 d6 d7 d8 d9 d10 : Option D) : ∀ l : List (List Str), lcG (lcF Φ (.nm 10) [10] el_law_1 el_law_2 [d0, d1, d2, d3, d4, d5, d6, d7, d8, d9, d10]) (l.map dPat) = some []
  | [] => rfl
  | f :: l => by
    have hisi : op1D (.isi "tuple") (dPat f) = some (.bl true) := rfl
    rw [List.map_cons, lcG, no_others Φ d0 d1 d2 d3 d4 d5 d6 d7 d8 d9 d10 l]
    have e : lcF Φ (.nm 10) [10] el_law_1 el_law_2 [d0, d1, d2, d3, d4, d5, d6, d7, d8, d9, d10] (dPat f) = some none := by
      simp [lcF, wipeD, el_law_2, hisi]
    rw [e]
    rfl
theorem law_true (ns : List Int) (hns : ns.length ≤ 63) : sem_law [.scr (ns.map D.int)] = some (.bl true) := by
  have hlim : lim = 100000 := rfl
  have hlimI : (lim : Int) = 100000 := rfl
  obtain ⟨A, eA, hA, hAn⟩ := run_atoms ns (2 + cellF ns 2 % 8) (by omega) (by omega)
  have hA0 : 0 < A.length := by omega
  have hA9 : A.length ≤ 9 := by omega
  obtain ⟨Z, eZ, hZ⟩ := law_states ns A none none none none none none none none none
  obtain ⟨T, eT, hT⟩ := law_told Z A hZ (some (.scr (ns.map D.int))) none none none none none none none none
  obtain ⟨Rf, eR, hR⟩ := law_ref Z A hZ (some (.scr (ns.map D.int))) none (some (.lst (T.map dPat))) none none none none none none
  obtain ⟨cs, ecs, hcs⟩ := cut_cells ns
  obtain ⟨F, eF, hF, hFl⟩ := law_filled cs A hA0 (by omega) (some (.scr (ns.map D.int))) (some (.lst (Z.map D.int))) none (some (.lst (T.map dPat))) (some (.lst (Rf.map dPat))) none none none none none
  have hF6 : ∀ r ∈ F, r.ys.length ≤ 6 ∧ r.ns.length ≤ 6 := fun r h => (hF r h).1
  have hFA : ∀ f ∈ F.flatMap factsR, f ∈ A := fun f hf => by
    obtain ⟨r, hr, hf⟩ := List.mem_flatMap.mp hf
    obtain ⟨_, b1, b2, b3⟩ := hF r hr
    simp only [factsR, List.mem_cons, List.mem_append] at hf
    rcases hf with rfl | hf | hf
    · exact b1
    · exact b2 f hf
    · exact b3 f hf
  obtain ⟨prs, K, eK, nK, hC, hI, mK⟩ := run_kept F T Rf A hF6 (by omega) (by omega) (by omega) (by omega) hAn hFA
  have hL0m : ∀ f, f ∈ gat T Rf (F.flatMap factsR) [] ↔ f ∈ F.flatMap factsR ∧ f ∉ T ∧ f ∉ Rf := fun f => by rw [gat_mem]; simp
  have hL0n : (gat T Rf (F.flatMap factsR) []).Nodup := gat_nodup .nil
  have hL0l : (gat T Rf (F.flatMap factsR) []).length ≤ 1000 := by
    have := nodup_le hL0n fun x hx => hFA x ((hL0m x).mp hx).1
    omega
  have eL := run_left F T Rf hF6 (by omega) (fun f hf => hAn f (hFA f hf)) hL0l
  have same : sortK (turns T Rf F (gat T Rf (F.flatMap factsR) []).length (gat T Rf (F.flatMap factsR) [])) = sortK K := by
    refine sortK_congr ((List.perm_ext_iff_of_nodup (turns_nodup _ hL0n) nK).mpr fun f => ?_)
    rw [turns_right hL0m hC hI _ _ hL0n (Nat.le_refl _) (fun _ h => h) (fun _ h _ => h), mK f, hL0m f]
    simp only [and_assoc]
  rw [same] at eL
  have hK9 : K.length ≤ 60 := by
    have := nodup_le nK fun x hx => hFA x ((mK x).mp hx).1
    omega
  generalize hres : sortK K = Kf at eK eL
  have hKf : Kf.length ≤ 60 := by rw [← hres, (sortK_perm K).length_eq]; exact hK9
  have hla : (A.length : Int) ≤ lim ∧ -(lim : Int) ≤ A.length := by omega
  have hl3 : 3 ≤ lim := by omega
  unfold sem_law
  rw [run_def]
  have s0 : exS Φ_law 1000 ir_law (inD0 11 [.scr (ns.map D.int)]) = exS Φ_law 1000 sq_law_1 [some (.scr (ns.map D.int)), some (.lst (A.map dPat)), none, none, none, none, none, none, none, none, none] := by
    simp [ir_law, inD0, Φ_law, run_cell, eA]
  have s1 : exS Φ_law 1000 sq_law_1 [some (.scr (ns.map D.int)), some (.lst (A.map dPat)), none, none, none, none, none, none, none, none, none] = exS Φ_law 1000 sq_law_2 [some (.scr (ns.map D.int)), some (.lst (A.map dPat)), some (.lst (Z.map D.int)), none, none, none, none, none, none, none, none] := by
    simp [sq_law_1, hla, eZ]
  have s2 : exS Φ_law 1000 sq_law_2 [some (.scr (ns.map D.int)), some (.lst (A.map dPat)), some (.lst (Z.map D.int)), none, none, none, none, none, none, none, none] = exS Φ_law 1000 sq_law_3 [some (.scr (ns.map D.int)), some (.lst (A.map dPat)), some (.lst (Z.map D.int)), none, some (.lst (T.map dPat)), none, none, none, none, none, none] := by
    simp [sq_law_2, hla, eT]
  have s3 : exS Φ_law 1000 sq_law_3 [some (.scr (ns.map D.int)), some (.lst (A.map dPat)), some (.lst (Z.map D.int)), none, some (.lst (T.map dPat)), none, none, none, none, none, none] = exS Φ_law 1000 sq_law_4 [some (.scr (ns.map D.int)), some (.lst (A.map dPat)), some (.lst (Z.map D.int)), none, some (.lst (T.map dPat)), some (.lst (Rf.map dPat)), none, none, none, none, none] := by
    simp [sq_law_3, hla, eR]
  have s4 : exS Φ_law 1000 sq_law_4 [some (.scr (ns.map D.int)), some (.lst (A.map dPat)), some (.lst (Z.map D.int)), none, some (.lst (T.map dPat)), some (.lst (Rf.map dPat)), none, none, none, none, none] = exS Φ_law 1000 sq_law_5 [some (.scr (ns.map D.int)), some (.lst (A.map dPat)), some (.lst (Z.map D.int)), none, some (.lst (T.map dPat)), some (.lst (Rf.map dPat)), some (.lst (F.map dGr)), none, none, none, none] := by
    have hcl2 : cs.length ≤ lim := by omega
    simp [sq_law_4, ecs, seqL, seqD, hcl2, eF]
  have s5 : exS Φ_law 1000 sq_law_5 [some (.scr (ns.map D.int)), some (.lst (A.map dPat)), some (.lst (Z.map D.int)), none, some (.lst (T.map dPat)), some (.lst (Rf.map dPat)), some (.lst (F.map dGr)), none, none, none, none] = exS Φ_law 1000 sq_law_6 [some (.scr (ns.map D.int)), some (.lst (A.map dPat)), some (.lst (Z.map D.int)), none, some (.lst (T.map dPat)), some (.lst (Rf.map dPat)), some (.lst (F.map dGr)), none, some (.lst [.lst (F.map dGr), .lst (T.map dPat), .lst (Rf.map dPat)]), none, none] := by
    simp [sq_law_5, hl3]
  have s6 : exS Φ_law 1000 sq_law_6 [some (.scr (ns.map D.int)), some (.lst (A.map dPat)), some (.lst (Z.map D.int)), none, some (.lst (T.map dPat)), some (.lst (Rf.map dPat)), some (.lst (F.map dGr)), none, some (.lst [.lst (F.map dGr), .lst (T.map dPat), .lst (Rf.map dPat)]), none, none] = exS Φ_law 1000 sq_law_7 [some (.scr (ns.map D.int)), some (.lst (A.map dPat)), some (.lst (Z.map D.int)), none, some (.lst (T.map dPat)), some (.lst (Rf.map dPat)), some (.lst (F.map dGr)), none, some (.lst [.lst (F.map dGr), .lst (T.map dPat), .lst (Rf.map dPat)]), some (.lst (Kf.map dPat)), none] := by
    have b0 : atI [D.lst (F.map dGr), D.lst (T.map dPat), D.lst (Rf.map dPat)] 0 = some (D.lst (F.map dGr)) := rfl
    have b1 : atI [D.lst (F.map dGr), D.lst (T.map dPat), D.lst (Rf.map dPat)] 1 = some (D.lst (T.map dPat)) := rfl
    have b2 : atI [D.lst (F.map dGr), D.lst (T.map dPat), D.lst (Rf.map dPat)] 2 = some (D.lst (Rf.map dPat)) := rfl
    simp [sq_law_6, Φ_law, b0, b1, b2, eK]
  have s7 : exS Φ_law 1000 sq_law_7 [some (.scr (ns.map D.int)), some (.lst (A.map dPat)), some (.lst (Z.map D.int)), none, some (.lst (T.map dPat)), some (.lst (Rf.map dPat)), some (.lst (F.map dGr)), none, some (.lst [.lst (F.map dGr), .lst (T.map dPat), .lst (Rf.map dPat)]), some (.lst (Kf.map dPat)), none] = exS Φ_law 1000 sq_law_8 [some (.scr (ns.map D.int)), some (.lst (A.map dPat)), some (.lst (Z.map D.int)), none, some (.lst (T.map dPat)), some (.lst (Rf.map dPat)), some (.lst (F.map dGr)), none, some (.lst [.lst (F.map dGr), .lst (T.map dPat), .lst (Rf.map dPat)]), some (.lst (Kf.map dPat)), none] := by
    have hno := no_others Φ_law (some (.scr (ns.map D.int))) (some (.lst (A.map dPat))) (some (.lst (Z.map D.int))) none (some (.lst (T.map dPat))) (some (.lst (Rf.map dPat))) (some (.lst (F.map dGr))) none (some (.lst [.lst (F.map dGr), .lst (T.map dPat), .lst (Rf.map dPat)])) (some (.lst (Kf.map dPat))) none Kf
    have hs := seqL_pats Kf (by omega)
    have h00 : eqD (.lst []) (.lst []) = some true := rfl
    simp [sq_law_7, hs, hno, h00]
  have heq : eqD (.lst [.lst (F.map dGr), .lst (T.map dPat), .lst (Rf.map dPat)]) (.lst [.lst (F.map dGr), .lst (T.map dPat), .lst (Rf.map dPat)]) = some true := eqD_refl (by
    rw [dOk, dOks, dOks, dOks, dOks, dOk_lgr, dOk_lpats, dOk_lpats]; rfl)
  have heq2 : eqD (.lst (Kf.map dPat)) (.lst (Kf.map dPat)) = some true := eqD_refl (dOk_lpats 58 Kf)
  rw [s0, s1, s2, s3, s4, s5, s6, s7]
  simp [sq_law_8, Φ_law, eL, heq2, heq, hl3]
end R

set_option Elab.async false
set_option linter.all false
set_option maxRecDepth 100000
set_option maxHeartbeats 4000000
/-! The end of a law whose text has generator expressions. -/
namespace DL
open PySem PySem.Spec PyProof.Rows L2 LamX
def ovr (cs : List (Addr × Addr)) (H : Hp) : Hp := fun b => if b ∈ cs.map (·.2) then some (TblO b) else H b
theorem ovr_in {cs : List (Addr × Addr)} {H : Hp} {b : Addr} (h : b ∈ cs.map (·.2)) : ovr cs H b = some (TblO b) := if_pos h
theorem ovr_out {cs : List (Addr × Addr)} {H : Hp} {b : Addr} (h : b ∉ cs.map (·.2)) : ovr cs H b = H b := if_neg h
def spT (cs : List (Addr × Addr)) (K : PySem.W.Frag) (m : Md) (sem : List D → Option D) : Sp := fun vs H Q _ =>
  (∀ p ∈ cs, H p.2 = some (.tbl #[])) ∧ (∀ v H', v = V.bl true → Q v H') ∧ @spD ⟨cs⟩ K [m] sem vs (ovr cs H) (fun v H' => v = V.bl true ∧ ∀ p ∈ cs, H' p.2 = some (TblO p.2)) (fun _ _ _ => False)
theorem fnOk_T {P : Program} {w : World} {K : PySem.W.Frag} {mg : Str → Option Value} {base : Heap} {k : Nat} {fa : Addr} {fd : FuncData} {x : Str} {m : Md} {sem : List D → Option D} {cs : List (Addr × Addr)}
    (F : FnOk P w K mg base CX0 k fa fd [x] (@spD ⟨cs⟩ K [m] sem)) : FnOk P w K mg base CX0 k fa fd [x] (spT cs K m sem) := by
  refine ⟨fun vs H Q E h => F.len vs _ _ _ h.2.2, fun A outer s H args us vs Q E hr e0 hb hv hsp => ?_⟩
  letI : TbC := ⟨cs⟩
  obtain ⟨h1, h2, h3⟩ := hsp
  have tb : ∀ b, b ∈ cs.map (·.2) → H b = some (.tbl #[]) := fun b hb => by
    obtain ⟨p, hp, rfl⟩ := List.mem_map.mp hb
    exact h1 p hp
  have none_out : ∀ b, H b = none → ovr cs H b = none := fun b e => by
    rw [ovr_out fun z => by rw [tb b z] at e; cases e]; exact e
  have out_none : ∀ b, ovr cs H b = none → H b = none := fun b e => by
    by_cases z : b ∈ cs.map (·.2)
    · rw [ovr_in z] at e; cases e
    · rwa [ovr_out z] at e
  have hok : HOk P w (ovr cs H) s.heap := fun b u e => by
    by_cases z : b ∈ cs.map (·.2)
    · rw [ovr_in z] at e; cases e
      exact tblO_ok (e0.hok b _ (tb b z)) trivial
    · rw [ovr_out z] at e
      refine (e0.hok b u e).stay (fun _ _ _ q => q) (fun d q => ?_) fun d xs q => ?_
      · rw [ovr_out fun z2 => by rw [tb d z2] at q; cases q]; exact q
      · rw [ovr_out fun z2 => by rw [tb d z2] at q; cases q]; exact q
  have e1 : Env0 P w K mg base A outer s (ovr cs H) := ⟨e0.frames, e0.mod, fun b o e => ⟨(e0.bs b o e).1, none_out b (e0.bs b o e).2⟩, e0.bsz, e0.funs, fun b hb => none_out b (e0.frf b hb), hok, e0.bare⟩
  refine codeAny_mono (F.run A outer s (ovr cs H) args us vs _ _ hr e1 hb hv h3) fun r s' h => ?_
  cases r with
  | error e => exact (show False from h).elim
  | ok fl =>
    cases fl with
    | next => exact False.elim h
    | brk => exact False.elim h
    | cont => exact False.elim h
    | ret u =>
      obtain ⟨v, Hx, os, bare, un, hk, rv, hv1, hv2⟩ := h
      have tx : ∀ b, b ∈ cs.map (·.2) → Hx b = some (TblO b) := fun b hb => by
        obtain ⟨p, hp, rfl⟩ := List.mem_map.mp hb
        exact hv2 p hp
      have fx : ∀ b, b ∈ cs.map (·.2) → ∃ ps : Array Value, s'.heap.get? b = some { cls := .none, data := .fields ps } := fun b hb =>
        let ⟨ps, e, _⟩ := tblO_at (hk b _ (tx b hb)); ⟨ps, e⟩
      let H' : Hp := fun b => if h : b ∈ cs.map (·.2) then some (.tbl (fx b h).choose) else Hx b
      have Hin : ∀ b (h : b ∈ cs.map (·.2)), H' b = some (.tbl (fx b h).choose) := fun b h => dif_pos h
      have Hout : ∀ b, b ∉ cs.map (·.2) → H' b = Hx b := fun b h => dif_neg h
      refine ⟨v, H', os, bare, ⟨fun b o e n => un.keep b o e (none_out b n), fun b o e n => un.slot b o e (none_out b n), fun b o e n hx => ?_, un.there, fun b xs e => ?_, fun b o u e => ?_, fun b ps e => ?_⟩, fun b u e => ?_, rv, h2 v H' hv1⟩
      · rw [Hout b fun z => by rw [tb b z] at n; cases n]
        exact un.free b o e (none_out b n) hx
      · have nb : b ∉ cs.map (·.2) := fun z => by rw [tb b z] at e; cases e
        rw [Hout b nb]
        exact un.tups b xs (by rw [ovr_out nb]; exact e)
      · have nb : b ∉ cs.map (·.2) := fun z => by rw [tb b z] at e; cases e
        rw [Hout b nb]
        exact un.frzs b o u (by rw [ovr_out nb]; exact e)
      · by_cases z : b ∈ cs.map (·.2)
        · rw [tb b z] at e
          cases e
          exact ⟨(fx b z).choose, by rw [Hin b z]; simp⟩
        · rw [Hout b z]
          exact un.tbls b ps (by rw [ovr_out z]; exact e)
      · by_cases z : b ∈ cs.map (·.2)
        · rw [Hin b z] at e
          cases e
          exact (fx b z).choose_spec
        · rw [Hout b z] at e
          refine (hk b u e).stay (fun _ _ _ q => q) (fun d q => ?_) fun d xs q => ?_
          · rw [Hout d fun z2 => by rw [tx d z2] at q; cases q]; exact q
          · rw [Hout d fun z2 => by rw [tx d z2] at q; cases q]; exact q
end DL
namespace DL
open PySem PySem.Spec PyProof.Rows L2 LamX
variable {K : PySem.W.Frag} {h : Heap}
/-- the code object's table is no part of the written part -/
def tabOut (K : PySem.W.Frag) (cd : Value) : Bool := match cd with
  | .ref c => (match K.lookup c with
      | some ⟨_, _, .fields vs, _⟩ => (match (vs[11]? : Option Value) with | some (Value.ref P) => (K.lookup P).isNone | _ => false)
      | _ => false)
  | _ => false
/-- the function at f has its code object at c, the table at P, empty -/
structure TabAt (h : Heap) (f c P : Addr) : Prop where
  fn : ∀ o fd, h.get? f = some o → o.data = .func fd → fd.code = .ref c
  hd : PySem.W.CodeHd h c P
  at_ : ∃ o vs, h.get? c = some o ∧ o.data = .fields vs ∧ vs[11]? = some (.ref P)
  nil : h.get? P = some { cls := .none, data := .fields #[] }
theorem TabAt.out {f c P : Addr} (T : TabAt h f c P) (X : K.In h) {oc : Value} {od : Option Addr} {fd : FuncData} {sl : Array (Option Value)} (l : K.lookup f = some ⟨oc, od, .func fd, sl⟩) (t : tabOut K fd.code = true) : fd.code = .ref c ∧ K.lookup P = none := by
  have e := T.fn _ fd (X f _ l) rfl
  refine ⟨e, ?_⟩
  rw [e] at t
  unfold tabOut at t
  simp only at t
  split at t
  · rename_i o1 d1 vs s1 hk
    have g := X c _ hk
    obtain ⟨o, vs2, g1, g2, g3⟩ := T.at_
    rw [g] at g1
    cases g1
    cases g2
    rw [g3] at t
    simpa using t
  · cases t
/-- the end of a law: ts, the defs with generator expressions -/
theorem law_walkG {l : PySem.W.OpenLaw} {q : Program} {loose : List Str} {XP : (Str → Option Value) → Heap → Prop} {YP : World → Heap → Prop} {d : DefRec} {K : Params → PySem.W.Frag} {k : Nat} {m : Md} {sem : List D → Option D} {x : Str} (hn : l.most = some 63) (hdf : d.params.defaults = []) (hk : Room k callerA) (hm : m ≠ .ow)
    (hsem : ∀ ns : List Int, ns.length ≤ 63 → sem [.scr (ns.map D.int)] = some (.bl true))
    (hY : ∀ (w : World) (h : Heap), YP w h → (K w.params).In h)
    (F : ∀ (w : World) (mg : Str → Option Value) (fa : Addr) (h : Heap), (K w.params).In h → h.Ns mainGlobals mg → mg d.name = some (.ref fa) → (∀ nm f, ((recsOf q).any fun e => e.name == nm) = true → mg nm = some (.ref f) → ∃ c P, TabAt h f c P) →
      ∃ (fd : FuncData) (cs : List (Addr × Addr)), (∀ p ∈ cs, ∃ f, TabAt h f p.1 p.2) ∧ (∀ p ∈ cs, (K w.params).lookup p.2 = none) ∧ (∀ (s : Shared) (u : Value), BindsTo s fd ⟨[u], []⟩ [(x, u)]) ∧
        ∀ base : Heap, (K w.params).In base → base.Ns mainGlobals mg → (∀ p ∈ cs, GxR.TabB base mg p.1 p.2) → FnOk l.prog w (K w.params) mg base CX0 k fa fd [x] (@spD ⟨cs⟩ (K w.params) [m] sem)) :
    PySem.W.WalkO q loose XP YP l.row.toRowW d [] (fun f vs => PySem.call f vs) := by
  refine Att.attach_callB hn hdf fun w s₀ s₁ mg mb fa o pm cd doc a vs ns G Y ho hd hcd hmg hobj hints hlen hbits hg => ?_
  have KX := hY w _ Y
  obtain ⟨fd, cs, hT, nT, hb, hF⟩ := F w mg fa _ KX G.T.g hmg fun nm f hr hf => by
    obtain ⟨dL, hm, hn1⟩ := List.any_eq_true.mp hr
    have hn2 : dL.name = nm := beq_iff_eq.mp hn1
    obtain ⟨a', o', fd', c', P', h1, h2, h3, h4, h5, h6⟩ := G.T.tab dL hm
    rw [hn2, hf] at h1
    cases h1
    refine ⟨c', P', fun o fd e1 e2 => ?_, .of h5 h6, ?_, h6.2⟩
    · rw [h2] at e1; cases e1
      rw [h3] at e2; cases e2
      exact h4
    · obtain ⟨⟨o, vs, e1, _, e3, e4⟩, _⟩ := h6
      exact ⟨o, vs, e1, e3, e4⟩
  refine law_callTs (sp := spT cs (K w.params) m sem) KX G.T.g G.T.b G.T.builtins G.T.nolimit hg (fun p hp => let ⟨f, t⟩ := hT p hp; t.nil) nT (fun p hp => let ⟨f, t⟩ := hT p hp; t.hd) G.T.bmain hobj hints (Nat.le_trans hlen (by decide)) hk (fun base h1 h2 h3 => fnOk_T (hF base h1 h2 fun p hp => ⟨(h3 p hp).code, (h3 p hp).bm, (h3 p hp).gP⟩)) hb (fun H hH hS => ?_) fun H e s' z => z
  have tb : ∀ b, b ∈ cs.map (·.2) → H b = some (.tbl #[]) := fun b hb => by
    obtain ⟨p, hp, rfl⟩ := List.mem_map.mp hb
    exact hH p hp
  have hS2 : SqL (K w.params) (ovr cs H) a (ns.map V.int) := by
    rcases hS with (z | ⟨o, z⟩) | z
    · exact .inl (.inl (by rw [ovr_out fun z2 => by rw [tb a z2] at z; cases z]; exact z))
    · exact .inl (.inr ⟨o, by rw [ovr_out fun z2 => by rw [tb a z2] at z; cases z]; exact z⟩)
    · exact .inr z
  have r : Rep (K w.params) (ovr cs H) (.ref a) (.scr (ns.map D.int)) := by
    refine .scr hS2 ?_
    clear hlen hS hS2 hobj hints hbits
    induction ns with
    | nil => exact .nil
    | cons n ns ih => exact .cons (.int n) ih
  refine ⟨hH, fun v H' e => e, ovr cs H, [.scr (ns.map D.int)], .bl true, .refl _, fun p hp => ovr_in (List.mem_map.mpr ⟨p, hp, rfl⟩), .cons ?_ .nil, hsem ns hlen, fun v B' H' x r => ⟨?_, fun p hp => x.hh _ _ (ovr_in (List.mem_map.mpr ⟨p, hp, rfl⟩))⟩⟩
  · cases m with
    | sh => exact r
    | bo => exact .inl r
    | ow => exact absurd rfl hm
    | od => exact .inl r
  · cases r; rfl
end DL

set_option Elab.async false
set_option linter.all false
set_option maxRecDepth 100000
set_option maxHeartbeats 4000000
namespace R
open PySem L2 DL M
def ret_of : List Stmt → Expr × Pos
  | [.Return (some e) p] => (e, p)
  | _ => (.Constant .none 0 ⟨0, 0, 0, 0⟩, ⟨0, 0, 0, 0⟩)
def er_marked : E := .dcT (.nm 1) [1] (.var 1) (.con (.bl true)) (.iV (.var 0)) .nop
theorem bd_marked : defBody s_marked = [.Return (some (ret_of (defBody s_marked)).1) (ret_of (defBody s_marked)).2] := by kernel_rfl
theorem ce_marked : cE N_marked F_marked 199 (defScope s_marked) (ret_of (defBody s_marked)).1 = some er_marked := by kernel_rfl
theorem ok_marked : okE F_marked G_marked er_marked = true := by decide +kernel
theorem se_marked : ∀ ds d, ds.length = 1 → sem_marked ds = some d → evE Φ_marked er_marked (inD0 2 ds) = some d ∧ isL d = true := fun ds d _ h => by
  have h1 : fin (M.andThen ((evE Φ_marked er_marked (inD0 2 ds)).map .ret) (exS Φ_marked 1000 .nx)) = some d := h
  cases e : evE Φ_marked er_marked (inD0 2 ds) with
  | none => rw [e] at h1; cases h1
  | some x =>
    rw [e] at h1
    cases h1
    refine ⟨rfl, ?_⟩
    rw [er_marked, e_dcT] at e
    obtain ⟨l, _, e⟩ := Option.bind_eq_some_iff.mp e
    obtain ⟨p, _, rfl⟩ := Option.map_eq_some_iff.mp e
    rfl
end R

set_option Elab.async false
set_option maxRecDepth 100000
set_option maxHeartbeats 4000000
namespace R
open PySem L2 DL
theorem all_mk {l : PySem.W.OpenLaw} {w : World} {K : PySem.W.Frag} {h : Heap} {mg : Str → Option Value} {fa : Addr} (X : K.In h) (G : h.Ns mainGlobals mg) (hfa : mg "law" = some (.ref fa))
    {f1 f2 f3 f4 f5 f6 f7 f8 f9 f10 f11 f12 f13 f14 : Addr} {od1 an1 od2 an2 od3 an3 od4 an4 od5 an5 od6 an6 od7 an7 od8 an8 od9 an9 od10 an10 od11 an11 od12 an12 od13 an13 od14 an14 : Option Addr} {sl1 sl2 sl3 sl4 sl5 sl6 sl7 sl8 sl9 sl10 sl11 sl12 sl13 sl14 : Array (Option Value)} {oc1 kV1 dc1 pm1 cd1 ct1 oc2 kV2 dc2 pm2 cd2 ct2 oc3 kV3 dc3 pm3 cd3 ct3 oc4 kV4 dc4 pm4 cd4 ct4 oc5 kV5 dc5 pm5 cd5 ct5 oc6 kV6 dc6 pm6 cd6 ct6 oc7 kV7 dc7 pm7 cd7 ct7 oc8 kV8 dc8 pm8 cd8 ct8 oc9 kV9 dc9 pm9 cd9 ct9 oc10 kV10 dc10 pm10 cd10 ct10 oc11 kV11 dc11 pm11 cd11 ct11 oc12 kV12 dc12 pm12 cd12 ct12 oc13 kV13 dc13 pm13 cd13 ct13 oc14 kV14 dc14 pm14 cd14 ct14 : Value}
    (a1 : PySem.W.nsIn K mainGlobals "facts_of" = some (some (.ref f1))) (l1 : K.lookup f1 = some ⟨oc1, od1, .func (PySem.W.fnOf "facts_of" "facts_of" (defArgs s_facts_of) (defBody s_facts_of) (defScope s_facts_of) .none kV1 dc1 pm1 an1 cd1 ct1), sl1⟩) (c1 : PySem.W.codeIn K cd1 "facts_of" = true) (k1 : PySem.W.keepIn K (.ref f1) = true)
    (a2 : PySem.W.nsIn K mainGlobals "marked" = some (some (.ref f2))) (l2 : K.lookup f2 = some ⟨oc2, od2, .func (PySem.W.fnOf "marked" "marked" (defArgs s_marked) (defBody s_marked) (defScope s_marked) .none kV2 dc2 pm2 an2 cd2 ct2), sl2⟩) (c2 : PySem.W.codeIn K cd2 "marked" = true) (k2 : PySem.W.keepIn K (.ref f2) = true)
    (a3 : PySem.W.nsIn K mainGlobals "places_by_yes" = some (some (.ref f3))) (l3 : K.lookup f3 = some ⟨oc3, od3, .func (PySem.W.fnOf "places_by_yes" "places_by_yes" (defArgs s_places_by_yes) (defBody s_places_by_yes) (defScope s_places_by_yes) .none kV3 dc3 pm3 an3 cd3 ct3), sl3⟩) (c3 : PySem.W.codeIn K cd3 "places_by_yes" = true) (k3 : PySem.W.keepIn K (.ref f3) = true)
    (a4 : PySem.W.nsIn K mainGlobals "chained" = some (some (.ref f4))) (l4 : K.lookup f4 = some ⟨oc4, od4, .func (PySem.W.fnOf "chained" "chained" (defArgs s_chained) (defBody s_chained) (defScope s_chained) .none kV4 dc4 pm4 an4 cd4 ct4), sl4⟩) (c4 : PySem.W.codeIn K cd4 "chained" = true) (k4 : PySem.W.keepIn K (.ref f4) = true)
    (a5 : PySem.W.nsIn K mainGlobals "enterable" = some (some (.ref f5))) (l5 : K.lookup f5 = some ⟨oc5, od5, .func (PySem.W.fnOf "enterable" "enterable" (defArgs s_enterable) (defBody s_enterable) (defScope s_enterable) .none kV5 dc5 pm5 an5 cd5 ct5), sl5⟩) (c5 : PySem.W.codeIn K cd5 "enterable" = true) (k5 : PySem.W.keepIn K (.ref f5) = true)
    (a6 : PySem.W.nsIn K mainGlobals "kept_out" = some (some (.ref f6))) (l6 : K.lookup f6 = some ⟨oc6, od6, .func (PySem.W.fnOf "kept_out" "kept_out" (defArgs s_kept_out) (defBody s_kept_out) (defScope s_kept_out) .none kV6 dc6 pm6 an6 cd6 ct6), sl6⟩) (c6 : PySem.W.codeIn K cd6 "kept_out" = true) (k6 : PySem.W.keepIn K (.ref f6) = true)
    (a7 : PySem.W.nsIn K mainGlobals "_law_cell_at" = some (some (.ref f7))) (l7 : K.lookup f7 = some ⟨oc7, od7, .func (PySem.W.fnOf "_law_cell_at" "_law_cell_at" (defArgs s_l_cell_at) (defBody s_l_cell_at) (defScope s_l_cell_at) .none kV7 dc7 pm7 an7 cd7 ct7), sl7⟩) (c7 : PySem.W.codeIn K cd7 "_law_cell_at" = true) (k7 : PySem.W.keepIn K (.ref f7) = true)
    (a8 : PySem.W.nsIn K mainGlobals "_law_word_by" = some (some (.ref f8))) (l8 : K.lookup f8 = some ⟨oc8, od8, .func (PySem.W.fnOf "_law_word_by" "_law_word_by" (defArgs s_l_word_by) (defBody s_l_word_by) (defScope s_l_word_by) .none kV8 dc8 pm8 an8 cd8 ct8), sl8⟩) (c8 : PySem.W.codeIn K cd8 "_law_word_by" = true) (k8 : PySem.W.keepIn K (.ref f8) = true)
    (a9 : PySem.W.nsIn K mainGlobals "_law_thing_by" = some (some (.ref f9))) (l9 : K.lookup f9 = some ⟨oc9, od9, .func (PySem.W.fnOf "_law_thing_by" "_law_thing_by" (defArgs s_l_thing_by) (defBody s_l_thing_by) (defScope s_l_thing_by) .none kV9 dc9 pm9 an9 cd9 ct9), sl9⟩) (c9 : PySem.W.codeIn K cd9 "_law_thing_by" = true) (k9 : PySem.W.keepIn K (.ref f9) = true)
    (a10 : PySem.W.nsIn K mainGlobals "_law_atoms" = some (some (.ref f10))) (l10 : K.lookup f10 = some ⟨oc10, od10, .func (PySem.W.fnOf "_law_atoms" "_law_atoms" (defArgs s_l_atoms) (defBody s_l_atoms) (defScope s_l_atoms) .none kV10 dc10 pm10 an10 cd10 ct10), sl10⟩) (c10 : PySem.W.codeIn K cd10 "_law_atoms" = true) (k10 : PySem.W.keepIn K (.ref f10) = true)
    (a11 : PySem.W.nsIn K mainGlobals "_law_ground" = some (some (.ref f11))) (l11 : K.lookup f11 = some ⟨oc11, od11, .func (PySem.W.fnOf "_law_ground" "_law_ground" (defArgs s_l_ground) (defBody s_l_ground) (defScope s_l_ground) .none kV11 dc11 pm11 an11 cd11 ct11), sl11⟩) (c11 : PySem.W.codeIn K cd11 "_law_ground" = true) (k11 : PySem.W.keepIn K (.ref f11) = true)
    (a12 : PySem.W.nsIn K mainGlobals "_law_blocked" = some (some (.ref f12))) (l12 : K.lookup f12 = some ⟨oc12, od12, .func (PySem.W.fnOf "_law_blocked" "_law_blocked" (defArgs s_l_blocked) (defBody s_l_blocked) (defScope s_l_blocked) .none kV12 dc12 pm12 an12 cd12 ct12), sl12⟩) (c12 : PySem.W.codeIn K cd12 "_law_blocked" = true) (k12 : PySem.W.keepIn K (.ref f12) = true)
    (a13 : PySem.W.nsIn K mainGlobals "_law_left" = some (some (.ref f13))) (l13 : K.lookup f13 = some ⟨oc13, od13, .func (PySem.W.fnOf "_law_left" "_law_left" (defArgs s_l_left) (defBody s_l_left) (defScope s_l_left) .none kV13 dc13 pm13 an13 cd13 ct13), sl13⟩) (c13 : PySem.W.codeIn K cd13 "_law_left" = true) (k13 : PySem.W.keepIn K (.ref f13) = true)
    (a14 : PySem.W.nsIn K mainGlobals "law" = some (some (.ref f14))) (l14 : K.lookup f14 = some ⟨oc14, od14, .func (PySem.W.fnOf "law" "law" (defArgs s_law) (defBody s_law) (defScope s_law) .none kV14 dc14 pm14 an14 cd14 ct14), sl14⟩) (c14 : PySem.W.codeIn K cd14 "law" = true) (k14 : PySem.W.keepIn K (.ref f14) = true)
    (t4 : tabOut K cd4 = true) (t5 : tabOut K cd5 = true) (zq : PySem.W.nsIn K mainGlobals "deque" = some (some (.type "collections.deque"))) (HT : ∀ nm f, nm ∈ [("chained" : Str), ("enterable" : Str)] → mg nm = some (.ref f) → ∃ c P, TabAt h f c P)
    (z0 : PySem.W.nsIn K mainGlobals "len" = some none) (z1 : PySem.W.nsIn K mainGlobals "list" = some none) (z2 : PySem.W.nsIn K mainGlobals "tuple" = some none) (z3 : PySem.W.nsIn K mainGlobals "int" = some none) (z4 : PySem.W.nsIn K mainGlobals "isinstance" = some none) (z5 : PySem.W.nsIn K mainGlobals "range" = some none) (z6 : PySem.W.nsIn K mainGlobals "dict" = some none) (z7 : PySem.W.nsIn K mainGlobals "str" = some none) (z8 : PySem.W.nsIn K mainGlobals "bool" = some none) (z9 : PySem.W.nsIn K mainGlobals "zip" = some none) (z10 : PySem.W.nsIn K mainGlobals "sorted" = some none) (z11 : PySem.W.nsIn K mainGlobals "max" = some none) (z12 : PySem.W.nsIn K mainGlobals "min" = some none) (z13 : PySem.W.nsIn K mainGlobals "enumerate" = some none) (z14 : PySem.W.nsIn K mainGlobals "set" = some none) (z15 : PySem.W.nsIn K mainGlobals "all" = some none) (z16 : PySem.W.nsIn K mainGlobals "any" = some none) :
    ∃ (fd : FuncData) (cs : List (Addr × Addr)), (∀ p ∈ cs, ∃ f, TabAt h f p.1 p.2) ∧ (∀ p ∈ cs, K.lookup p.2 = none) ∧ (∀ (s : Shared) (v : Value), BindsTo s fd ⟨[v], []⟩ [("_law_script", v)]) ∧ ∀ base : Heap, K.In base → base.Ns mainGlobals mg → (∀ p ∈ cs, GxR.TabB base mg p.1 p.2) → FnOk l.prog w K mg base CX0 5 fa fd ["_law_script"] (@spD ⟨cs⟩ K [.bo] sem_law) := by
  have e := hfa.symm.trans (PySem.W.mg_of X G a14)
  cases e
  have blt : ∀ x ∈ bltNames, mg x = none := by
    intro x hx
    simp only [bltNames, List.mem_cons, List.not_mem_nil, or_false] at hx
    rcases hx with rfl | rfl | rfl | rfl | rfl | rfl | rfl | rfl | rfl | rfl | rfl | rfl | rfl | rfl | rfl | rfl | rfl
    · exact PySem.W.mg_none_of X G z0
    · exact PySem.W.mg_none_of X G z1
    · exact PySem.W.mg_none_of X G z2
    · exact PySem.W.mg_none_of X G z3
    · exact PySem.W.mg_none_of X G z4
    · exact PySem.W.mg_none_of X G z5
    · exact PySem.W.mg_none_of X G z6
    · exact PySem.W.mg_none_of X G z7
    · exact PySem.W.mg_none_of X G z8
    · exact PySem.W.mg_none_of X G z9
    · exact PySem.W.mg_none_of X G z10
    · exact PySem.W.mg_none_of X G z11
    · exact PySem.W.mg_none_of X G z12
    · exact PySem.W.mg_none_of X G z13
    · exact PySem.W.mg_none_of X G z14
    · exact PySem.W.mg_none_of X G z15
    · exact PySem.W.mg_none_of X G z16
  have F1 := fun_mk (st := s_facts_of) l1 c1 k1
  have W1 : Fw K mg "facts_of" s_facts_of ["filled"] := ⟨f1, _, PySem.W.mg_of X G a1, F1, F1.binds fun _ _ _ _ _ _ us hl => match us, hl with | [_], _ => rfl⟩
  have F2 := fun_mk (st := s_marked) l2 c2 k2
  have W2 : Fw K mg "marked" s_marked ["facts"] := ⟨f2, _, PySem.W.mg_of X G a2, F2, F2.binds fun _ _ _ _ _ _ us hl => match us, hl with | [_], _ => rfl⟩
  have F3 := fun_mk (st := s_places_by_yes) l3 c3 k3
  have W3 : Fw K mg "places_by_yes" s_places_by_yes ["filled", "places"] := ⟨f3, _, PySem.W.mg_of X G a3, F3, F3.binds fun _ _ _ _ _ _ us hl => match us, hl with | [_, _], _ => rfl⟩
  have F4 := fun_mk (st := s_chained) l4 c4 k4
  obtain ⟨cg4, P4, T4⟩ := HT "chained" f4 (by simp) (PySem.W.mg_of X G a4)
  obtain ⟨ec4, no4⟩ := T4.out X l4 t4
  have W4 : FwC K mg "chained" s_chained ["filled", "places", "held"] cg4 := ⟨f4, _, PySem.W.mg_of X G a4, F4, F4.binds fun _ _ _ _ _ _ us hl => match us, hl with | [_, _, _], _ => rfl, ec4⟩
  have F5 := fun_mk (st := s_enterable) l5 c5 k5
  obtain ⟨cg5, P5, T5⟩ := HT "enterable" f5 (by simp) (PySem.W.mg_of X G a5)
  obtain ⟨ec5, no5⟩ := T5.out X l5 t5
  have W5 : FwC K mg "enterable" s_enterable ["filled", "told", "refuted"] cg5 := ⟨f5, _, PySem.W.mg_of X G a5, F5, F5.binds fun _ _ _ _ _ _ us hl => match us, hl with | [_, _, _], _ => rfl, ec5⟩
  have F6 := fun_mk (st := s_kept_out) l6 c6 k6
  have W6 : Fw K mg "kept_out" s_kept_out ["filled", "told", "refuted"] := ⟨f6, _, PySem.W.mg_of X G a6, F6, F6.binds fun _ _ _ _ _ _ us hl => match us, hl with | [_, _, _], _ => rfl⟩
  have F7 := fun_mk (st := s_l_cell_at) l7 c7 k7
  have W7 : Fw K mg "_law_cell_at" s_l_cell_at ["_law_script", "_law_k"] := ⟨f7, _, PySem.W.mg_of X G a7, F7, F7.binds fun _ _ _ _ _ _ us hl => match us, hl with | [_, _], _ => rfl⟩
  have F8 := fun_mk (st := s_l_word_by) l8 c8 k8
  have W8 : Fw K mg "_law_word_by" s_l_word_by ["_law_cell", "_law_k"] := ⟨f8, _, PySem.W.mg_of X G a8, F8, F8.binds fun _ _ _ _ _ _ us hl => match us, hl with | [_, _], _ => rfl⟩
  have F9 := fun_mk (st := s_l_thing_by) l9 c9 k9
  have W9 : Fw K mg "_law_thing_by" s_l_thing_by ["_law_cell", "_law_k"] := ⟨f9, _, PySem.W.mg_of X G a9, F9, F9.binds fun _ _ _ _ _ _ us hl => match us, hl with | [_, _], _ => rfl⟩
  have F10 := fun_mk (st := s_l_atoms) l10 c10 k10
  have W10 : Fw K mg "_law_atoms" s_l_atoms ["_law_script", "_law_many"] := ⟨f10, _, PySem.W.mg_of X G a10, F10, F10.binds fun _ _ _ _ _ _ us hl => match us, hl with | [_, _], _ => rfl⟩
  have F11 := fun_mk (st := s_l_ground) l11 c11 k11
  have W11 : Fw K mg "_law_ground" s_l_ground ["_law_cell", "_law_atoms_here"] := ⟨f11, _, PySem.W.mg_of X G a11, F11, F11.binds fun _ _ _ _ _ _ us hl => match us, hl with | [_, _], _ => rfl⟩
  have F12 := fun_mk (st := s_l_blocked) l12 c12 k12
  have W12 : Fw K mg "_law_blocked" s_l_blocked ["_law_rule", "_law_told", "_law_refuted", "_law_left_here"] := ⟨f12, _, PySem.W.mg_of X G a12, F12, F12.binds fun _ _ _ _ _ _ us hl => match us, hl with | [_, _, _, _], _ => rfl⟩
  have F13 := fun_mk (st := s_l_left) l13 c13 k13
  have W13 : Fw K mg "_law_left" s_l_left ["_law_filled", "_law_told", "_law_refuted"] := ⟨f13, _, PySem.W.mg_of X G a13, F13, F13.binds fun _ _ _ _ _ _ us hl => match us, hl with | [_, _, _], _ => rfl⟩
  have F14 := fun_mk (st := s_law) l14 c14 k14
  have hdq : mg "deque" = some (.type "collections.deque") := PySem.W.mg_of X G zq
  refine ⟨PySem.W.fnOf "law" "law" (defArgs s_law) (defBody s_law) (defScope s_law) .none kV14 dc14 pm14 an14 cd14 ct14, [(cg4, P4), (cg5, P5)], ?A, ?B, fun s v => .of_eq rfl, fun base _ _ TB => ?_⟩
  case A =>
    intro p hp
    simp only [List.mem_cons, List.not_mem_nil, or_false] at hp
    rcases hp with rfl | rfl
    · exact ⟨f4, T4⟩
    · exact ⟨f5, T5⟩
  case B =>
    intro p hp
    simp only [List.mem_cons, List.not_mem_nil, or_false] at hp
    rcases hp with rfl | rfl
    · exact no4
    · exact no5
  letI : TbC := ⟨[(cg4, P4), (cg5, P5)]⟩
  have Q1 : Fg l.prog w K mg base 1 "facts_of" [.bo] sem_facts_of := fg_ok N_facts_of F_facts_of Φ_facts_of 0 W1 sc_facts_of rd_facts_of md_facts_of blt fns_nil (no_dq (by decide)) (hfo := (owns_no (by decide)))
  have O2 : FgO l.prog w K mg base 1 "marked" [.bo] sem_marked := fg_okO N_marked F_marked Φ_marked 0 W2 sc_marked bd_marked ce_marked ok_marked (by rfl) se_marked blt (fns_mark (by decide) fns_nil) (no_dq (by decide))
  have Q2 : Fg l.prog w K mg base 1 "marked" [.bo] sem_marked := O2.fg
  have Q3 : Fg l.prog w K mg base 1 "places_by_yes" [.bo, .bo] sem_places_by_yes := fg_ok N_places_by_yes F_places_by_yes Φ_places_by_yes 0 W3 sc_places_by_yes rd_places_by_yes md_places_by_yes blt (fns_mark (by decide) fns_nil) (no_dq (by decide)) (hfo := (owns_no (by decide)))
  have Q4 : Fg l.prog w K mg base 2 "chained" [.bo, .bo, .bo] sem_chained := fg_okG N_chained F_chained Φ_chained 1 W4 (P' := P4) (show (cg4, P4) ∈ [(cg4, P4), (cg5, P5)] by simp) (TB (cg4, P4) (by simp)) sc_chained rd_chained md_chained blt (fns_cons (Q2.mono (by decide)) (fns_cons (Q3.mono (by decide)) (fns_mark (by decide) (fns_mark (by decide) fns_nil)))) (fun i ms h => hdq) (hfo := (owns_cons (O2.mono (by decide)) (owns_skip (by decide) (owns_no (by decide)))))
  have Q5 : Fg l.prog w K mg base 3 "enterable" [.bo, .bo, .bo] sem_enterable := fg_okG N_enterable F_enterable Φ_enterable 2 W5 (P' := P5) (show (cg5, P5) ∈ [(cg4, P4), (cg5, P5)] by simp) (TB (cg5, P5) (by simp)) sc_enterable rd_enterable md_enterable blt (fns_cons (Q2.mono (by decide)) (fns_cons (Q4.mono (by decide)) (fns_mark (by decide) fns_nil))) (no_dq (by decide)) (hfo := (owns_cons (O2.mono (by decide)) (owns_skip (by decide) (owns_no (by decide)))))
  have Q6 : Fg l.prog w K mg base 4 "kept_out" [.bo, .sh, .sh] sem_kept_out := fg_ok N_kept_out F_kept_out Φ_kept_out 3 W6 sc_kept_out rd_kept_out md_kept_out blt (fns_cons (Q2.mono (by decide)) (fns_cons (Q5.mono (by decide)) (fns_cons (Q1.mono (by decide)) fns_nil))) (no_dq (by decide)) (hfo := (owns_cons (O2.mono (by decide)) (owns_skip (by decide) (owns_skip (by decide) (owns_no (by decide))))))
  have Q7 : Fg l.prog w K mg base 1 "_law_cell_at" [.bo, .bo] sem_l_cell_at := fg_ok N_l_cell_at F_l_cell_at Φ_l_cell_at 0 W7 sc_l_cell_at rd_l_cell_at md_l_cell_at blt fns_nil (no_dq (by decide)) (hfo := (owns_no (by decide)))
  have Q8 : Fg l.prog w K mg base 1 "_law_word_by" [.bo, .bo] sem_l_word_by := fg_ok N_l_word_by F_l_word_by Φ_l_word_by 0 W8 sc_l_word_by rd_l_word_by md_l_word_by blt fns_nil (no_dq (by decide)) (hfo := (owns_no (by decide)))
  have Q9 : Fg l.prog w K mg base 1 "_law_thing_by" [.bo, .bo] sem_l_thing_by := fg_ok N_l_thing_by F_l_thing_by Φ_l_thing_by 0 W9 sc_l_thing_by rd_l_thing_by md_l_thing_by blt fns_nil (no_dq (by decide)) (hfo := (owns_no (by decide)))
  have Q10 : Fg l.prog w K mg base 2 "_law_atoms" [.bo, .bo] sem_l_atoms := fg_ok N_l_atoms F_l_atoms Φ_l_atoms 1 W10 sc_l_atoms rd_l_atoms md_l_atoms blt (fns_cons (Q8.mono (by decide)) (fns_cons (Q9.mono (by decide)) (fns_cons (Q7.mono (by decide)) fns_nil))) (no_dq (by decide)) (hfo := (owns_no (by decide)))
  have Q11 : Fg l.prog w K mg base 1 "_law_ground" [.bo, .bo] sem_l_ground := fg_ok N_l_ground F_l_ground Φ_l_ground 0 W11 sc_l_ground rd_l_ground md_l_ground blt fns_nil (no_dq (by decide)) (hfo := (owns_no (by decide)))
  have Q12 : Fg l.prog w K mg base 1 "_law_blocked" [.bo, .bo, .bo, .bo] sem_l_blocked := fg_ok N_l_blocked F_l_blocked Φ_l_blocked 0 W12 sc_l_blocked rd_l_blocked md_l_blocked blt fns_nil (no_dq (by decide)) (hfo := (owns_no (by decide)))
  have Q13 : Fg l.prog w K mg base 2 "_law_left" [.bo, .bo, .bo] sem_l_left := fg_ok N_l_left F_l_left Φ_l_left 1 W13 sc_l_left rd_l_left md_l_left blt (fns_cons (Q12.mono (by decide)) fns_nil) (no_dq (by decide)) (hfo := (owns_no (by decide)))
  have HO : Owns l.prog w K mg base 4 F_law Φ_law := (owns_no (by decide))
  have H : ∀ i nm ms, F_law[i]? = some (nm, ms) → isMark nm = false → Fg l.prog w K mg base 4 nm ms (Φ_law i) := (fns_cons (Q10.mono (by decide)) (fns_cons (Q6.mono (by decide)) (fns_cons (Q11.mono (by decide)) (fns_cons (Q13.mono (by decide)) (fns_cons (Q7.mono (by decide)) fns_nil)))))
  exact def_ok N_law F_law Φ_law 4 (m := 1000) F14 sc_law rd_law md_law (by decide) (by decide) rfl rfl rfl (fun i nm ms h hm => (H i nm ms h hm).ex) (fun i nm ms h hm => (HO i nm ms h hm).ex) blt (no_dq (by decide)) (no_gen (by decide)) (cst_no (by decide)) (fun ds d _ h => h)
end R
open PySem PySem.W PyProof.Rows
set_option maxRecDepth 100000 in
set_option maxHeartbeats 0 in
theorem PySem.Challenge.cw_notfound_k06_kept_out_holds : PySem.Challenge.rw_notfound_k06_kept_out.Holds := by
  w_on; o_law; k_head; (case hw => w_witness2)
  k_fill
  refine DL.law_walkG (l := PySem.Challenge.rw_notfound_k06_kept_out) (k := 5) (m := .bo) (sem := R.sem_law) (x := "_law_script") rfl rfl ⟨rfl, by decide, by decide⟩ (by decide) (@R.law_true ⟨[]⟩) (fun w h Y => PySem.W.kIn_of Y) ?F
  case F =>
    intro w mg fa h KX G hmg HT
    refine' R.all_mk KX G hmg ?a1 ?l1 ?c1 ?k1 ?a2 ?l2 ?c2 ?k2 ?a3 ?l3 ?c3 ?k3 ?a4 ?l4 ?c4 ?k4 ?a5 ?l5 ?c5 ?k5 ?a6 ?l6 ?c6 ?k6 ?a7 ?l7 ?c7 ?k7 ?a8 ?l8 ?c8 ?k8 ?a9 ?l9 ?c9 ?k9 ?a10 ?l10 ?c10 ?k10 ?a11 ?l11 ?c11 ?k11 ?a12 ?l12 ?c12 ?k12 ?a13 ?l13 ?c13 ?k13 ?a14 ?l14 ?c14 ?k14 ?t4 ?t5 ?zq ?HT ?z0 ?z1 ?z2 ?z3 ?z4 ?z5 ?z6 ?z7 ?z8 ?z9 ?z10 ?z11 ?z12 ?z13 ?z14 ?z15 ?z16
    (case a1 => k_is); (case l1 => k_is); (case c1 => k_is); (case k1 => k_is)
    (case a2 => k_is); (case l2 => k_is); (case c2 => k_is); (case k2 => k_is)
    (case a3 => k_is); (case l3 => k_is); (case c3 => k_is); (case k3 => k_is)
    (case a4 => k_is); (case l4 => k_is); (case c4 => k_is); (case k4 => k_is)
    (case a5 => k_is); (case l5 => k_is); (case c5 => k_is); (case k5 => k_is)
    (case a6 => k_is); (case l6 => k_is); (case c6 => k_is); (case k6 => k_is)
    (case a7 => k_is); (case l7 => k_is); (case c7 => k_is); (case k7 => k_is)
    (case a8 => k_is); (case l8 => k_is); (case c8 => k_is); (case k8 => k_is)
    (case a9 => k_is); (case l9 => k_is); (case c9 => k_is); (case k9 => k_is)
    (case a10 => k_is); (case l10 => k_is); (case c10 => k_is); (case k10 => k_is)
    (case a11 => k_is); (case l11 => k_is); (case c11 => k_is); (case k11 => k_is)
    (case a12 => k_is); (case l12 => k_is); (case c12 => k_is); (case k12 => k_is)
    (case a13 => k_is); (case l13 => k_is); (case c13 => k_is); (case k13 => k_is)
    (case a14 => k_is); (case l14 => k_is); (case c14 => k_is); (case k14 => k_is)
    (case zq => k_is)
    (case t4 => kernel_rfl)
    (case t5 => kernel_rfl)
    (case HT => intro nm f hn hf; refine HT nm f ?_ hf; simp only [List.mem_cons, List.not_mem_nil, or_false] at hn; first | (rcases hn with rfl | rfl <;> decide +kernel) | exact absurd hn (by simp))
    (case z0 => k_is); (case z1 => k_is); (case z2 => k_is); (case z3 => k_is); (case z4 => k_is); (case z5 => k_is); (case z6 => k_is); (case z7 => k_is); (case z8 => k_is); (case z9 => k_is); (case z10 => k_is); (case z11 => k_is); (case z12 => k_is); (case z13 => k_is); (case z14 => k_is); (case z15 => k_is); (case z16 => k_is)
