import PyProof.Rows.All
import Wide.All
import OpenK.AllK
import Wide.FinOn
import PyProof.Rows.SortShell
import HandS.ForMost
import HandS.IsInst
import HandS.SortKw
import HandS.RaiseMore
import HandS.Codes
import HandS.Deep
import KE.KIntText
import KE.KDictSum
import HandS.Conv
import HandS.Sort
import HandS.Dict
import HandS.SetKeys
import HandS.WordsDict
import HandS.GenList
import HandS.Nested
import HandS.AnyAll
import PyProof.TupleOfGen
import HandS.EndTab
import HandS.TupAny
import KE.KDictPairs
import HandS.SortInts
import KE.GoesEnum
import KE.DataCmp
import HandS.Walk
import HandS.Steps
import PySem.Challenge.RW_openrules_k47_lower_bounds
set_option Elab.async false
set_option linter.all false
set_option maxRecDepth 100000
set_option maxHeartbeats 4000000
set_option maxRecDepth 100000
set_option maxHeartbeats 4000000
/-! machine rules of our own: list.extend of a tuple, a tuple's slice [:0:-1], max(xs, default=d) -/
namespace Lw
open PySem PySem.Spec PyProof.Rows L2

/-! ### list.extend(tuple) -/
section
variable {X : Cx}
def rExtT (K : PySem.W.Frag) : V → List V → Hp → VK → Prop := fun x vs H Q => ∃ l b xs zs, x = .ref l ∧ vs = [.ref b] ∧ H l = some (.lst xs) ∧ SqT K H b zs ∧ xs.length + zs.length ≤ 1000000 ∧ Q .non (upd H l (.lst (xs ++ zs)))
theorem le_line {n : Nat} (h : n ≤ 1000000) : n ≤ sizeLine := by rw [sizeLine_eq]; omega
theorem mt_extT : MtM X "list.extend" (rExtT X.K) := by
  intro pins s σ H x vs v us Q I rx rv h
  obtain ⟨l, b, xs, zs, rfl, rfl, hH, hB, hz, q⟩ := h
  cases rx
  obtain ⟨u, rfl, ru⟩ := rv.one
  cases ru
  obtain ⟨z1, itA, nA, rA, lenA, eA⟩ := I.lstM hH
  obtain ⟨itB, rB, pB, _⟩ := I.tuple hB
  have lenB := rB.length
  have lA := rA.length
  have hzz : itA.toArray.size + itB.toArray.size ≤ sizeLine := by rw [List.size_toArray, List.size_toArray, ← lA, ← lenB]; exact le_line hz
  have hlong : ¬ (!itA.toArray.isEmpty && Builtin.List.listTooLong (itA.toArray.size + itB.toArray.size)) = true := by
    rw [notLongL hzz, Bool.and_false]
    exact Bool.false_ne_true
  obtain ⟨oB, gB, cB, nB, dB⟩ := id pB
  refine wpAny_call_entry F.slot_list_extend ⟨_, eA, rfl⟩ F.entry_list_extend ?_ (F.args_list_extend_2 _ _)
  show wpAny (model X.prog X.w) X.A.in1 (Builtin.List.listExtendWith (.ref l) (.ref b) .none) _ _ s
  unfold Builtin.List.listExtendWith
  refine wpAny_bind (wpAny_typeOf pB.typeIs ?_)
  have ht : (Builtin.List.listSameRef (.ref l) (.ref b) || (Value.type "tuple" == Value.type "list") || (Value.type "tuple" == Value.type "tuple")) = true := by
    rw [show (Value.type "tuple" == Value.type "tuple") = true by decide, Bool.or_true]
  rw [if_pos ht]
  refine wpAny_bind (listItems_at gB dB (wpAny_bind (listItems_at eA rfl ?_)))
  rw [if_neg hlong]
  refine wpAny_bind (listUpdate_at eA rfl ?_ (by omega) (by show (itA.toArray ++ itB.toArray).size ≤ _; rw [Array.size_append]; omega))
  refine wpAny_pure ⟨_, rfl, .non, _, I.lset (its' := itA ++ itB) hH eA (by simp) (rA.append rB) ?_, rfl, q⟩
  rw [List.length_append]
  exact le_line hz
end
end Lw

set_option maxRecDepth 100000
set_option maxHeartbeats 4000000
/-! a tuple's slice [:0:-1] -/
namespace Lw
open PySem PySem.Spec PyProof.Rows L2

theorem adj_down (n : Nat) (h : 0 < n) : Builtin.Slice.sliceAdjust none (some 0) (-1) (n : Int) = ((n : Int) - 1, 0) := by
  unfold Builtin.Slice.sliceAdjust
  have h1 : ((-1 : Int) < 0) := by decide
  simp only [h1, if_true]
  refine Prod.ext rfl ?_
  simp only [Int.lt_irrefl, if_false]
  omega
theorem plc_down (n : Nat) (h : 0 < n) : Builtin.Slice.slicePlaces ((n : Int) - 1) 0 (-1) = n - 1 := by
  unfold Builtin.Slice.slicePlaces
  have h1 : ¬ ((-1 : Int) > 0) := by decide
  simp only [h1, if_false]
  rw [show (- -1 : Int) = 1 by decide, Int.ediv_one]
  split <;> omega
theorem filterMap_some {α β : Type} (f : α → Option β) (g : α → β) : ∀ l : List α, (∀ a ∈ l, f a = some (g a)) → l.filterMap f = l.map g
  | [], _ => rfl
  | a :: l, h => by
    rw [List.filterMap_cons_some (h a List.mem_cons_self), filterMap_some f g l fun b hb => h b (List.mem_cons_of_mem _ hb)]
    rfl
theorem pick_down (y : Value) (xs : List Value) : (List.range ((y :: xs).toArray.size - 1)).filterMap (fun (k : Nat) => (y :: xs).toArray[((((y :: xs).toArray.size : Nat) : Int) - 1 + (k : Int) * (-1)).toNat]?) = xs.reverse := by
  have hs : (y :: xs).toArray.size = xs.length + 1 := by rw [List.size_toArray, List.length_cons]
  rw [hs, Nat.add_sub_cancel]
  have e : (fun (k : Nat) => (y :: xs).toArray[(((xs.length + 1 : Nat) : Int) - 1 + (k : Int) * (-1)).toNat]?) = fun (k : Nat) => (y :: xs)[((xs.length : Int) - (k : Int)).toNat]? := by
    funext k
    rw [List.getElem?_toArray]
    congr 1
    omega
  rw [e]
  rw [filterMap_some _ (fun k => (y :: xs).getD (xs.length - k) y) (List.range xs.length) (fun k hk => by
    have hk' := List.mem_range.mp hk
    have ek : ((xs.length : Int) - (k : Int)).toNat = xs.length - k := by omega
    rw [ek, List.getD_eq_getElem?_getD]
    rw [List.getElem?_eq_getElem (show xs.length - k < (y :: xs).length by rw [List.length_cons]; omega)]
    rfl)]
  apply List.ext_getElem
  · rw [List.length_map, List.length_range, List.length_reverse]
  · intro i h1 h2
    rw [List.length_map, List.length_range] at h1
    rw [List.getElem_map, List.getElem_range, List.getElem_reverse, List.getD_eq_getElem?_getD]
    rw [List.getElem?_eq_getElem (show xs.length - i < (y :: xs).length by rw [List.length_cons]; omega), Option.getD_some]
    have e2 : xs.length - i = (xs.length - 1 - i) + 1 := by omega
    simp only [e2, List.getElem_cons_succ]
theorem vals_rev : ∀ {xs : List V} {us : List Value}, Vals xs us → Vals xs.reverse us.reverse
  | _, _, .nil => .nil
  | _, _, .cons r t => by
    rw [List.reverse_cons, List.reverse_cons]
    exact (vals_rev t).append (.cons r .nil)
section
variable {prog : Program} {w : World} {A : Around} {E : Value → Shared → Prop} {s : Shared}
theorem applied_down {sl : Addr} {u0 : Tok} {u1 : Tok} {n : Nat} {Q : Int × Int × Nat → Shared → Prop} (hn : 0 < n) (hs : s.heap.IsSliceOf sl .none (.int 0 u0) (.int (-1) u1))
    (h : Q ((n : Int) - 1, -1, n - 1) s) : wpAny (model prog w) A (Builtin.Slice.sliceApplied (.ref sl) (pure (n : Int))) Q E s := by
  obtain ⟨ob, gb, _, db⟩ := hs
  unfold Builtin.Slice.sliceApplied Builtin.Slice.sliceFields
  refine wpAny_bind (wpAny_bind (wpAny_field gb db (x := .none) rfl (wpAny_bind (wpAny_field gb db (x := .int 0 u0) rfl (wpAny_bind (wpAny_field gb db (x := .int (-1) u1) rfl (wpAny_pure ?_)))))))
  refine wpAny_bind (slicePart_int ?_)
  show wpAny _ _ (if ((-1 : Int) == 0) = true then _ else _) _ _ s
  rw [if_neg (by decide)]
  refine wpAny_bind (slicePart_none (wpAny_bind (slicePart_int (wpAny_bind (wpAny_pure ?_)))))
  show wpAny _ _ (match Builtin.Slice.sliceAdjust none (some 0) (-1) (n : Int) with | (lo, hi) => pure (lo, (-1 : Int), Builtin.Slice.slicePlaces lo hi (-1))) _ _ s
  rw [adj_down n hn]
  show wpAny _ _ (pure ((n : Int) - 1, (-1 : Int), Builtin.Slice.slicePlaces ((n : Int) - 1) 0 (-1))) _ _ s
  rw [plc_down n hn]
  exact wpAny_pure h
theorem item_down {t sl : Addr} {y : Value} {xs : List Value} {u0 u1 : Tok} {Q : Value → Shared → Prop} (ht : IsTup s.heap t (y :: xs).toArray) (hs : s.heap.IsSliceOf sl .none (.int 0 u0) (.int (-1) u1))
    (h : Q (.ref s.heap.objs.size) { s with heap := s.heap.push { cls := .type "tuple", data := .seq xs.reverse.toArray } }) (hz : xs.length ≤ sizeLine) : wpAny (model prog w) A (getItem (.ref t) (.ref sl)) Q E s := by
  have htake : sizeOk (.seq xs.reverse.toArray) := by
    show xs.reverse.toArray.size ≤ sizeLine
    rw [List.size_toArray, List.length_reverse]
    exact hz
  obtain ⟨ob, gb, cb, db⟩ := id hs
  have hTs : s.TypeIs (.ref sl) "slice" := ⟨ob, gb, cb⟩
  unfold getItem
  with_reducible refine wpAny_holding ?_; refine wpAny_bind (wpAny_sequenceKey ht.typeIs (by decide) ?_)
  refine wpAny_bind (wpAny_callSpecial?_slot (name := Str.ofString "__getitem__") ht.typeIs PyProof.Rows.slot_tuple_getitem (wpAny_call_entry PyProof.Rows.slot_tuple_getitem ht.typeIs entry_tuple_getitem ?_ (args_tuple_getitem _ _)))
  show wpAny _ _ (Builtin.Tuple.tupleItemsOf (.ref t) >>= fun xs => _) _ _ s
  refine wpAny_bind (tupleItemsOf_ ht (wpAny_bind (wpAny_typeOf hTs ?_)))
  rw [if_pos (by decide)]
  refine wpAny_bind (applied_down (by rw [List.size_toArray, List.length_cons]; omega) hs ?_)
  have hno : ¬ (((((y :: xs).toArray.size : Nat) : Int) - 1 == 0 && (-1 : Int) == 1 && ((y :: xs).toArray.size - 1) == (y :: xs).toArray.size) = true) := by
    rw [show ((-1 : Int) == 1) = false by decide, Bool.and_false, Bool.false_and]
    exact Bool.false_ne_true
  show wpAny _ _ (if ((((y :: xs).toArray.size : Nat) : Int) - 1 == 0 && (-1 : Int) == 1 && ((y :: xs).toArray.size - 1) == (y :: xs).toArray.size) = true then _ else _) _ _ s
  rw [if_neg hno, pick_down]; exact wpAny_bind (m := Builtin.Tuple.tupleExact _) (wpAny_newObj_type (wpAny_pure ⟨_, rfl, wpAny_pure h⟩) htake)
end
def tDownT (K : PySem.W.Frag) (te : TE) : TE := fun σ H Q => te σ H fun x H1 => ∃ a y xs, x = .ref a ∧ SqT K H1 a (y :: xs) ∧ ∀ p, H1 p = none → Q (.ref p) (upd H1 p (.tup xs.reverse))
section
variable {X : Cx}
theorem pe_downT {e : Expr} {te : TE} {k k2 : Nat} {p0 p1 p2 p3 pos : Pos} (he : PE X e te) : PE X (.Subscript e (.Slice none (some (.Constant (.int 0) k2 p0)) (some (.UnaryOp .USub (.Constant (.int 1) k p1) p2)) p3) pos) (tDownT X.K te) := by
  refine ⟨fun pins s σ H Q I h => ?_⟩
  refine Subscript_ (thn (he.run pins s σ H _ I h) fun v s1 ⟨x, H1, I1, r1, q1⟩ => ?_)
  obtain ⟨a, y, xs, ex, hx, q⟩ := q1
  subst ex
  cases r1
  have hst : PO X (some (.UnaryOp .USub (.Constant (.int 1) k p1) p2)) (tPart (tUn (rU fun i => .int (-i)) (tC (.int 1)))) := po_some (pe_un un_neg pe_int)
  have hup : PO X (some (.Constant (.int 0) k2 p0)) (tPart (tC (.int 0))) := po_some pe_int
  refine wpAny_Slice (thn (po_none.run pins s1 σ H1 (fun o H2 => o = none ∧ H2 = H1) I1 ⟨rfl, rfl⟩) fun vl s2 ⟨l, H2, I2, pl, el, e2⟩ => ?_)
  subst el e2
  refine thn (hup.run pins s2 σ H2 (fun o H3 => o = some 0 ∧ H3 = H2) I2 ⟨0, rfl, rfl, rfl⟩) fun vu s3 ⟨u, H3, I3, pu, eu, e3⟩ => ?_
  subst eu e3
  refine thn (hst.run pins s3 σ H3 (fun o H4 => o = some (-1) ∧ H4 = H3) I3 ⟨1, rfl, -1, rfl, rfl, rfl⟩) fun vs s4 ⟨o, H4, I4, ps, eo, e4⟩ => ?_
  subst eo e4
  cases pl
  cases pu with | int _ t0 => ?_
  cases ps with | int _ t1 => ?_
  have I5 : Inv X pins σ H4 { s4 with heap := s4.heap.push { cls := .type "slice", data := .fields #[.none, .int 0 t0, .int (-1) t1] } } := I4.kept (t' := s4.toks) fun b ob q => Heap.get?_push_of_some _ q
  obtain ⟨its, r, ht, hz⟩ := I5.tuple hx
  cases r with | cons ry rxs => ?_
  rename_i uy us
  have hlen := rxs.length
  rw [List.length_cons] at hz
  refine tail_any (ops := [.ref a, .ref s4.heap.objs.size]) ht.typeIs (PyProof.Rows.slot_tuple_getitem.lookup) ?_ (by with_unfolding_all rfl)
  refine item_down ht (Heap.IsSliceOf.new _ _ _ _) ?_ (by omega)
  refine ⟨.ref _, _, I5.laid (t' := s4.toks) (o := .tup xs.reverse) (fun b ob q => Heap.get?_push_of_some _ q) (Nat.le_refl _) ?_, rfl, q _ (I5.hok.fresh (Nat.le_refl _))⟩
  exact ⟨by rw [List.length_reverse]; omega, _, vals_rev rxs, IsTup.new _ _⟩
end
end Lw

set_option maxRecDepth 100000
set_option maxHeartbeats 4000000
/-! max(xs, default=d) of a list of ints -/
namespace Lw
open PySem PySem.Spec PyProof.Rows L2

theorem fun_tree_kw {prog : Program} {w : World} {A : Around} {E : Value → Shared → Prop} {s : Shared} {id : String} {b : Builtin} {args : List Value} {kw : List (Str × Value)} {Q : Value → Shared → Prop}
    (hk : builtinKind id = none) (hp : plainId id = true) (hb : entryFor table id = some b) (ha : argsOk id ⟨args, kw⟩)
    (hc : wpAny (model prog w) A.in1 (b ⟨args, kw⟩) (fun fin s2 => match fin with
      | .done f => (match (Except.ok f : Result) with | .ok (.ret v) => Q v s2 | .ok _ => False | .error e => E e s2)
      | .again c2 => c2.quiet = true ∧ codeAny (model prog w) A c2 (fun r s3 => match r with | .ok (.ret v) => Q v s3 | .ok _ => False | .error e => E e s3) s2) E s) :
    wpAny (model prog w) A (call (.builtin id) args kw) Q E s := by
  refine wpAny_call (codeAny_call_builtin hp hb ?_)
  simp only [checkBuiltinCall, hk]
  cases hsig : Manifest.signature? id with
  | none => exact wpAny_pure hc
  | some sig =>
    have h2 : Bind.checkArgs id sig ⟨args, kw⟩ = pure () := by simpa only [argsOk, hsig] using ha
    show wpAny _ A.in1 (Bind.checkArgs id sig ⟨args, kw⟩) _ _ s
    rw [h2]
    exact wpAny_pure hc

section
variable {prog : Program} {w : World} {A : Around} {E : Value → Shared → Prop}
variable {I : Addr} {fp wr : List Addr} {G : Array GenState → Array GenState → Prop} {n : Nat} {P : Nat → Value → Prop} {St : Nat → Shared → Prop} {R : Result → Shared → Prop}

theorem nm_max : (toString "max" ++ toString ".loop" : String) = "max.loop" := by decide

/-- the loop behind its first item, whatever the keywords -/
theorem max_on (kw : List (Str × Value)) (W : WalksS prog w A.in1 I fp wr G n P St) (bt : Nat → Nat → Bool) (hcmp : CmpOf prog w A.in1 .Gt P bt) (S : Addr) (hSf : S ∉ fp) :
    ∀ (m j : Nat) (s : Shared) (vb : Value) (c : Nat), n - (j + 1) = m → j + 1 ≤ n → St (j + 1) s → P (argBest bt j) vb →
    s.heap.get? S = some { cls := .type "list", dict := none, data := .seq #[vb, vb] c, slots := #[] } → (∀ v s2, P (argBest bt (n - 1)) v → Moved (S :: wr) G s s2 → R (.ok (.ret v)) s2) →
    codeAny (model prog w) A (.builtin "max.loop" ⟨[.ref I, .none, .ref S], kw⟩) R s := by
  have hSw : S ∉ wr := fun h => hSf (W.sub _ h)
  have more : ∀ b ∈ wr, b ∈ S :: wr := fun b hb => List.mem_cons_of_mem _ hb
  have offS : ∀ {b : Addr}, b ∉ S :: wr → S ≠ b := fun hb h => hb (by rw [h]; exact List.mem_cons_self)
  intro m
  induction m with
  | zero =>
    intro j s vb c hk hj hst hPb hS hR
    have last : j + 1 = n := by omega
    refine codeAny_builtin F.entry_max_loop ?_
    rw [Around.under_plainId F.plain_max_loop _]
    refine wpAny_bind (wpAny_seqItems hS rfl ?_)
    refine wpAny_bind (wpAny_tryCatch (W.done s _ _ (last ▸ hst) fun s2 hm => ?_))
    have hS2 := hm.heap S _ hSw hS
    refine wpAny_bind (m := updateSeq S fun _ => #[]) ?_
    refine wpAny_updateSeq hS2 rfl (wpAny_bind (wpAny_letGo (wpAny_pure ?_)))
    exact hR vb _ (by rw [← last]; exact hPb) ((hm.mono more).then_heap (tk := s2.toks) (Nat.le_refl _) fun b o hb e => (Heap.get?_update_other _ _ (offS hb)).trans e)
  | succ m ih =>
    intro j s vb c hk hj hst hPb hS hR
    have more1 : j + 1 < n := by omega
    refine codeAny_builtin F.entry_max_loop ?_
    rw [Around.under_plainId F.plain_max_loop _]
    refine wpAny_bind (wpAny_seqItems hS rfl ?_)
    refine wpAny_bind (wpAny_tryCatch (W.item (j + 1) s _ _ more1 hst fun v s2 hP hst2 hm => ?_))
    have hS2 := hm.heap S _ hSw hS
    show wpAny _ A.in1 (tryCatch (holding [v, v] (richCompare .Gt v vb >>= fun answer => _)) _ >>= _) _ _ s2
    refine wpAny_bind (wpAny_tryCatch (wpAny_holding (wpAny_bind (hcmp (j + 1) (argBest bt j) v vb _ _ _ hP hPb (wpAny_bind (wpAny_holding (wpAny_truthy_bool (wpAny_bind (wpAny_letGo (wpAny_pure ?_))))))))))
    cases hb : bt (j + 1) (argBest bt j) with
    | true =>
      simp only [if_true]
      refine wpAny_bind (wpAny_updateSeq hS2 rfl (wpAny_bind (wpAny_letGo ?_)))
      rw [nm_max]
      refine wpAny_pure ⟨plainId_quiet F.plain_max_loop _, ih (j + 1) _ v _ (by omega) more1 (W.frame _ s2 _ s2.toks hst2 (Nat.le_refl _) fun b hbf o e => ?_) (by simp only [argBest, hb, if_true]; exact hP)
        (Heap.get?_update_self _ hS2 rfl) fun v3 s3 hP3 hm3 => ?_⟩
      · exact (Heap.get?_update_other _ _ (fun z : S = b => hSf (z ▸ hbf))).trans e
      · exact hR v3 s3 hP3 (Moved.trans W.gtrans ((hm.mono more).then_heap (Nat.le_refl _) fun b o hb e => (Heap.get?_update_other _ _ (offS hb)).trans e) hm3)
    | false =>
      simp only [Bool.false_eq_true, if_false]
      refine wpAny_bind (wpAny_letGo ?_)
      rw [nm_max]
      refine wpAny_pure ⟨plainId_quiet F.plain_max_loop _, ih (j + 1) _ vb c (by omega) more1 hst2 (by simp only [argBest, hb, Bool.false_eq_true, if_false]; exact hPb) hS2 fun v3 s3 hP3 hm3 => ?_⟩
      exact hR v3 s3 hP3 (Moved.trans W.gtrans (hm.mono more) hm3)

theorem max_first (kw : List (Str × Value)) (W : WalksS prog w A.in1 I fp wr G n P St) (bt : Nat → Nat → Bool) (hcmp : CmpOf prog w A.in1 .Gt P bt) (S : Addr) (hSf : S ∉ fp) (hn : 0 < n) {s : Shared} {c : Nat} (hst : St 0 s)
    (hS : s.heap.get? S = some { cls := .type "list", dict := none, data := .seq #[] c, slots := #[] }) (hR : ∀ v s2, P (argBest bt (n - 1)) v → Moved (S :: wr) G s s2 → R (.ok (.ret v)) s2) :
    codeAny (model prog w) A (.builtin "max.loop" ⟨[.ref I, .none, .ref S], kw⟩) R s := by
  have hSw : S ∉ wr := fun h => hSf (W.sub _ h)
  have more : ∀ b ∈ wr, b ∈ S :: wr := fun b hb => List.mem_cons_of_mem _ hb
  have offS : ∀ {b : Addr}, b ∉ S :: wr → S ≠ b := fun hb h => hb (by rw [h]; exact List.mem_cons_self)
  refine codeAny_builtin F.entry_max_loop ?_
  rw [Around.under_plainId F.plain_max_loop _]
  refine wpAny_bind (wpAny_seqItems hS rfl ?_)
  refine wpAny_bind (wpAny_tryCatch (W.item 0 s _ _ hn hst fun v s2 hP hst2 hm => ?_))
  have hS2 := hm.heap S _ hSw hS
  show wpAny _ A.in1 (updateSeq S (fun _ => #[v, v]) >>= fun _ => _) _ _ s2
  refine wpAny_bind (wpAny_updateSeq hS2 rfl ?_)
  rw [nm_max]
  refine wpAny_pure ⟨plainId_quiet F.plain_max_loop _, max_on kw W bt hcmp S hSf _ 0 _ v _ rfl hn (W.frame _ s2 _ s2.toks hst2 (Nat.le_refl _) fun b hbf o e => ?_) hP (Heap.get?_update_self _ hS2 rfl) fun v3 s3 hP3 hm3 => ?_⟩
  · exact (Heap.get?_update_other _ _ (fun z : S = b => hSf (z ▸ hbf))).trans e
  · exact hR v3 s3 hP3 (Moved.trans W.gtrans ((hm.mono more).then_heap (Nat.le_refl _) fun b o hb e => (Heap.get?_update_other _ _ (offS hb)).trans e) hm3)

/-- no item: the default -/
theorem max_none {d : Value} (W : WalksS prog w A.in1 I fp wr G 0 P St) (S : Addr) (hSf : S ∉ fp) {s : Shared} {c : Nat} (hst : St 0 s)
    (hS : s.heap.get? S = some { cls := .type "list", dict := none, data := .seq #[] c, slots := #[] }) (hR : ∀ s2, Moved wr G s s2 → R (.ok (.ret d)) s2) :
    codeAny (model prog w) A (.builtin "max.loop" ⟨[.ref I, .none, .ref S], [("default", d)]⟩) R s := by
  refine codeAny_builtin F.entry_max_loop ?_
  rw [Around.under_plainId F.plain_max_loop _]
  refine wpAny_bind (wpAny_seqItems hS rfl ?_)
  refine wpAny_bind (wpAny_tryCatch (W.done s _ _ hst fun s2 hm => ?_))
  exact wpAny_bind (wpAny_rule (wpAny_pure (hR s2 hm)))
end
theorem args_maxD (a d : Value) : argsOk "max" ⟨[a], [("default", d)]⟩ := by unfold argsOk; kernel_rfl
end Lw

set_option maxRecDepth 100000
set_option maxHeartbeats 4000000
namespace Lw
open PySem PySem.Spec PyProof.Rows L2
section
variable {prog : Program} {w : World} {A : Around} {E : Value → Shared → Prop} {s : Shared} {l : Addr} {its : List Value} {ns : List Int} {Q : Value → Shared → Prop}
theorem max_rawD {d : Int} {td : Tok} (hh : A.handled = none) (hl : s.heap.IsList l its.toArray) (hi : IntsAre its ns)
    (h : ∀ h2 tk m t2, (∀ b o, s.heap.get? b = some o → h2.get? b = some o) → ((ns = [] ∧ m = d) ∨ (m ∈ ns ∧ ∀ a, a ∈ ns → a ≤ m)) → Q (.int m t2) { s with heap := h2, toks := tk }) :
    wpAny (model prog w) A (call (.builtin "max") [.ref l] [("default", .int d td)]) Q E s := by
  obtain ⟨xs, e⟩ := hi.allInts.items
  have hn : numsOf (intItems xs).toList = ns := by rw [← e]; exact hi.numsOf
  rw [nums_intItems] at hn
  subst hn
  rw [e] at hl
  refine fun_tree_kw F.kind_max F.plain_max F.entry_max (args_maxD _ _) ?_
  show wpAny _ A.in1 (Builtin.Builtins.bindParams "max" ["key", "default"] 0 ⟨[], [("default", .int d td)]⟩ >>= fun r => _) _ _ s
  refine wpAny_bind (wpAny_of_eq (show Builtin.Builtins.bindParams "max" ["key", "default"] 0 ⟨[], [("default", .int d td)]⟩ = pure [none, some (.int d td)] from rfl) ?_)
  refine wpAny_bind (wpAny_pure ?_)
  refine wpAny_bind (iter_intList hl fun s2 e2 st hfp hlI => ?_)
  have W0 := Walks.list (prog := prog) (w := w) (A := A.in1) hh _ l hlI (intItems xs)
  have W := W0.toS
  refine wpAny_bind (wpAny_newObj_type ?_)
  have hSf : s2.heap.objs.size ∉ [s.heap.objs.size, l] := fun hm => Nat.lt_irrefl _ (hfp _ hm)
  rw [nm_max]
  refine wpAny_pure ⟨plainId_quiet F.plain_max_loop _, ?_⟩
  have stN : (s2.heap.push { cls := .type "list", data := .seq #[] }).IsListIter s.heap.objs.size l 0 ∧ (s2.heap.push { cls := .type "list", data := .seq #[] }).IsList l (intItems xs) :=
    ⟨st.1.at fun o e => Heap.get?_push_of_some _ e, st.2.push _⟩
  have fin : ∀ (s3 : Shared) (m : Int) (t2 : Tok), Moved [s.heap.objs.size] (fun a b => b = a) s2 s3 → ((xs.toList.map (·.1) = [] ∧ m = d) ∨ (m ∈ xs.toList.map (·.1) ∧ ∀ a, a ∈ xs.toList.map (·.1) → a ≤ m)) → Q (.int m t2) s3 := by
    intro s3 m t2 hm hx
    have e3 : s3 = { s with heap := s3.heap, toks := s3.toks } := by
      have k1 := hm.gens
      have k2 := hm.drawn
      have k3 := hm.os
      obtain ⟨hp3, g3, d3, tk3, os3⟩ := s3
      simp only at k1 k2 k3 ⊢
      subst k1 k2 k3 e2
      rfl
    rw [e3]
    refine h _ _ _ _ (fun b o q => ?_) hx
    subst e2
    refine hm.heap b o (fun z => ?_) (Heap.get?_push_of_some _ q)
    rcases List.mem_cons.mp z with z | z
    · exact absurd (z ▸ Heap.lt_size q) (Nat.lt_irrefl _)
    · cases z
  by_cases h0 : xs.size = 0
  · have z0 : (intItems xs).size = 0 := by simpa [intItems] using h0
    have W2 := W
    rw [z0] at W2
    have ex : xs.toList.map (·.1) = [] := by
      rw [List.map_eq_nil_iff, ← List.length_eq_zero_iff, Array.length_toList]
      exact h0
    exact max_none W2 s2.heap.objs.size hSf stN (Heap.get?_push_size _ rfl) fun s3 hm => fin s3 d td
      ⟨fun b o hb q => hm.heap b o hb (Heap.get?_push_of_some _ q), hm.gens, hm.drawn, hm.os, hm.toks⟩ (.inl ⟨ex, rfl⟩)
  · have hp : 0 < (intItems xs).size := by
      have e4 : (intItems xs).size = xs.size := by simp [intItems]
      omega
    refine max_first _ W _ (CmpOf.ints_gt (numAt xs) (fun _ _ => intItems_at)) s2.heap.objs.size hSf hp stN (Heap.get?_push_size _ rfl) fun v s3 hv hm => ?_
    obtain ⟨t, rfl⟩ := intItems_at hv
    obtain ⟨h1, h2⟩ := argBest_gt (numAt xs) ((intItems xs).size - 1)
    have e4 : (intItems xs).size = xs.size := by simp [intItems]
    refine fin s3 _ t (Moved.drop_new hm (Nat.le_refl _)) (.inr ⟨?_, fun a ha => ?_⟩)
    · rw [numAt_eq]
      exact PySem.getD_mem (by rw [List.length_map, Array.length_toList]; omega)
    · obtain ⟨j, hj, rfl⟩ := mem_getD ha
      rw [List.length_map, Array.length_toList] at hj
      rw [← numAt_eq]
      exact h2 j (by omega)
end
section
variable {X : Cx}
/-- max(xs, default=d), xs a list of ints -/
def rMaxD (K : PySem.W.Frag) : List V → List V → Hp → VK → Prop := fun vs zs H Q => ∃ (a : Addr) (ns : List Int) (d : Int), vs = [V.ref a] ∧ zs = [V.int d] ∧ SqL K H a (ns.map V.int) ∧
  ∀ m : Int, ((ns = [] ∧ m = d) ∨ (m ∈ ns ∧ ∀ a, a ∈ ns → a ≤ m)) → Q (.int m) H
theorem cr_maxD (hc : X.calm = true) : CallRK X (.builtin "max") ["default"] (rMaxD X.K) := by
  intro pins s σ H xs zs us ws Q I r1 r2 h
  obtain ⟨a, ns, d, rfl, rfl, hs, q⟩ := h
  obtain ⟨its, rv, hl, _⟩ := I.list hs
  rw [Vals.ref1 r1]
  cases r2 with | cons rd rn => ?_
  cases rn
  obtain ⟨td, rfl⟩ := rd
  exact max_rawD (I.ok.hd hc) hl.isList rv.ints fun h2 tk m t2 hk hm => ⟨.int m, H, I.kept hk, ⟨_, rfl⟩, q m hm⟩
end
end Lw

set_option maxRecDepth 100000
set_option maxHeartbeats 4000000
/-! terms as data, and how the heap bears them -/
namespace Lw
open PySem L2

inductive Tm where
  | var (i : Int)
  | app (n : Str) (ts : List Tm)

mutual
def Tm.size : Tm → Nat
  | .var _ => 1
  | .app _ ts => 1 + Tm.sizes ts
def Tm.sizes : List Tm → Nat
  | [] => 0
  | t :: r => t.size + Tm.sizes r
end
mutual
def Tm.depth : Tm → Nat
  | .var _ => 1
  | .app _ ts => 1 + Tm.depths ts
def Tm.depths : List Tm → Nat
  | [] => 0
  | t :: r => max t.depth (Tm.depths r)
end
mutual
/-- all occurrences of subterms, a term before its arguments -/
def Tm.occ : Tm → List Tm
  | .var i => [.var i]
  | .app n ts => .app n ts :: Tm.occs ts
def Tm.occs : List Tm → List Tm
  | [] => []
  | t :: r => t.occ ++ Tm.occs r
end
theorem Tm.size_pos : ∀ t : Tm, 0 < t.size
  | .var _ => by unfold Tm.size; exact Nat.one_pos
  | .app _ ts => by unfold Tm.size; omega
theorem Tm.depth_pos : ∀ t : Tm, 0 < t.depth
  | .var _ => by unfold Tm.depth; exact Nat.one_pos
  | .app _ ts => by unfold Tm.depth; omega
theorem Tm.size_app (n : Str) (ts : List Tm) : (Tm.app n ts).size = 1 + Tm.sizes ts := by rw [Tm.size]
theorem Tm.size_var (i : Int) : (Tm.var i).size = 1 := by rw [Tm.size]
theorem Tm.depth_app (n : Str) (ts : List Tm) : (Tm.app n ts).depth = 1 + Tm.depths ts := by rw [Tm.depth]
theorem Tm.depth_var (i : Int) : (Tm.var i).depth = 1 := by rw [Tm.depth]
theorem Tm.sizes_nil : Tm.sizes [] = 0 := by rw [Tm.sizes]
theorem Tm.sizes_cons (t : Tm) (r : List Tm) : Tm.sizes (t :: r) = t.size + Tm.sizes r := by rw [Tm.sizes]
theorem Tm.depths_nil : Tm.depths [] = 0 := by rw [Tm.depths]
theorem Tm.depths_cons (t : Tm) (r : List Tm) : Tm.depths (t :: r) = max t.depth (Tm.depths r) := by rw [Tm.depths]
theorem Tm.occ_app (n : Str) (ts : List Tm) : (Tm.app n ts).occ = .app n ts :: Tm.occs ts := by rw [Tm.occ]
theorem Tm.occ_var (i : Int) : (Tm.var i).occ = [.var i] := by rw [Tm.occ]
theorem Tm.occs_nil : Tm.occs [] = [] := by rw [Tm.occs]
theorem Tm.occs_cons (t : Tm) (r : List Tm) : Tm.occs (t :: r) = t.occ ++ Tm.occs r := by rw [Tm.occs]
theorem Tm.sizes_append : ∀ a b : List Tm, Tm.sizes (a ++ b) = Tm.sizes a + Tm.sizes b
  | [], b => by rw [List.nil_append, Tm.sizes_nil, Nat.zero_add]
  | t :: a, b => by rw [List.cons_append, Tm.sizes_cons, Tm.sizes_cons, Tm.sizes_append a b]; omega
theorem Tm.occs_append : ∀ a b : List Tm, Tm.occs (a ++ b) = Tm.occs a ++ Tm.occs b
  | [], b => by rw [List.nil_append, Tm.occs_nil, List.nil_append]
  | t :: a, b => by rw [List.cons_append, Tm.occs_cons, Tm.occs_cons, Tm.occs_append a b, List.append_assoc]
theorem Tm.sizes_reverse (a : List Tm) : Tm.sizes a.reverse = Tm.sizes a := by
  induction a with
  | nil => rfl
  | cons t a ih => rw [List.reverse_cons, Tm.sizes_append, Tm.sizes_cons, Tm.sizes_cons, Tm.sizes_nil, ih]; omega
theorem Tm.depth_mem : ∀ {ts : List Tm} {t : Tm}, t ∈ ts → t.depth ≤ Tm.depths ts
  | a :: r, t, h => by
    rw [Tm.depths_cons]
    rcases List.mem_cons.mp h with e | h
    · rw [e]; exact Nat.le_max_left _ _
    · exact Nat.le_trans (Tm.depth_mem h) (Nat.le_max_right _ _)
theorem Tm.size_mem : ∀ {ts : List Tm} {t : Tm}, t ∈ ts → t.size ≤ Tm.sizes ts
  | a :: r, t, h => by
    rw [Tm.sizes_cons]
    rcases List.mem_cons.mp h with e | h
    · rw [e]; omega
    · have := Tm.size_mem h; omega
theorem Tm.depths_le {ts : List Tm} {d : Nat} (h : ∀ t ∈ ts, t.depth ≤ d) : Tm.depths ts ≤ d := by
  induction ts with
  | nil => rw [Tm.depths_nil]; exact Nat.zero_le _
  | cons t r ih =>
    rw [Tm.depths_cons]
    exact Nat.max_le.mpr ⟨h t List.mem_cons_self, ih fun u hu => h u (List.mem_cons_of_mem _ hu)⟩
theorem Tm.length_le_sizes : ∀ ts : List Tm, ts.length ≤ Tm.sizes ts
  | [] => by rw [Tm.sizes_nil]; exact Nat.le_refl _
  | t :: r => by
    have h1 := Tm.length_le_sizes r
    have h2 := t.size_pos
    rw [Tm.sizes_cons, List.length_cons]
    omega
mutual
theorem Tm.occ_len : ∀ t : Tm, t.occ.length = t.size
  | .var i => by rw [Tm.occ_var, Tm.size_var]; rfl
  | .app n ts => by rw [Tm.occ_app, Tm.size_app, List.length_cons, Tm.occs_len ts, Nat.add_comm]
theorem Tm.occs_len : ∀ ts : List Tm, (Tm.occs ts).length = Tm.sizes ts
  | [] => by rw [Tm.occs_nil, Tm.sizes_nil]; rfl
  | t :: r => by rw [Tm.occs_cons, Tm.sizes_cons, List.length_append, Tm.occ_len t, Tm.occs_len r]
end

/-- v stands for the term -/
inductive At (H : Hp) : V → Tm → Prop where
  | var (i : Int) : At H (.int i) (.var i)
  | app {a : Addr} {n : Str} {vs : List V} {ts : List Tm} (e : H a = some (.tup (.str n :: vs))) (hl : vs.length = ts.length) (hs : ∀ (i : Nat) v t, vs[i]? = some v → ts[i]? = some t → At H v t) : At H (.ref a) (.app n ts)
/-- lists of values stand for lists of terms -/
structure Ats (H : Hp) (vs : List V) (ts : List Tm) : Prop where
  len : vs.length = ts.length
  at' : ∀ (i : Nat) v t, vs[i]? = some v → ts[i]? = some t → At H v t
theorem Ats.nil {H : Hp} : Ats H [] [] := ⟨rfl, fun i v t h => by simp at h⟩
theorem Ats.cons {H : Hp} {v : V} {t : Tm} {vs : List V} {ts : List Tm} (h : At H v t) (r : Ats H vs ts) : Ats H (v :: vs) (t :: ts) :=
  ⟨by rw [List.length_cons, List.length_cons, r.len], fun i => by
    cases i with
    | zero => intro u w e1 e2; simp at e1 e2; rw [← e1, ← e2]; exact h
    | succ i => intro u w e1 e2; exact r.at' i u w (by simpa using e1) (by simpa using e2)⟩
theorem Ats.head {H : Hp} {v : V} {t : Tm} {vs : List V} {ts : List Tm} (h : Ats H (v :: vs) (t :: ts)) : At H v t := h.at' 0 v t rfl rfl
theorem Ats.tail {H : Hp} {v : V} {t : Tm} {vs : List V} {ts : List Tm} (h : Ats H (v :: vs) (t :: ts)) : Ats H vs ts :=
  ⟨by have := h.len; simpa using this, fun i u w e1 e2 => h.at' (i + 1) u w (by simpa using e1) (by simpa using e2)⟩
theorem Ats.append {H : Hp} : ∀ {vs : List V} {ts : List Tm} {ws : List V} {us : List Tm}, Ats H vs ts → Ats H ws us → Ats H (vs ++ ws) (ts ++ us)
  | [], [], _, _, _, b => b
  | [], _ :: _, _, _, a, _ => by have := a.len; simp at this
  | _ :: _, [], _, _, a, _ => by have := a.len; simp at this
  | _ :: _, _ :: _, _, _, a, b => .cons a.head (Ats.append a.tail b)
theorem Ats.one {H : Hp} {v : V} {t : Tm} (h : At H v t) : Ats H [v] [t] := .cons h .nil
theorem Ats.rev {H : Hp} : ∀ {vs : List V} {ts : List Tm}, Ats H vs ts → Ats H vs.reverse ts.reverse
  | [], [], _ => .nil
  | [], _ :: _, a => by have := a.len; simp at this
  | _ :: _, [], a => by have := a.len; simp at this
  | v :: vs, t :: ts, a => by
    rw [List.reverse_cons, List.reverse_cons]
    exact (Ats.rev a.tail).append (.one a.head)
theorem Ats.get {H : Hp} {vs : List V} {ts : List Tm} {i : Nat} {v : V} (h : Ats H vs ts) (e : vs[i]? = some v) : ∃ t, ts[i]? = some t ∧ At H v t := by
  have hi : i < vs.length := (List.getElem?_eq_some_iff.mp e).1
  have hj : i < ts.length := by rw [← h.len]; exact hi
  exact ⟨ts[i], List.getElem?_eq_getElem hj, h.at' i v _ e (List.getElem?_eq_getElem hj)⟩
theorem Ats.get' {H : Hp} {vs : List V} {ts : List Tm} {i : Nat} {t : Tm} (h : Ats H vs ts) (e : ts[i]? = some t) : ∃ v, vs[i]? = some v ∧ At H v t := by
  have hi : i < ts.length := (List.getElem?_eq_some_iff.mp e).1
  have hj : i < vs.length := by rw [h.len]; exact hi
  exact ⟨vs[i], List.getElem?_eq_getElem hj, h.at' i _ t (List.getElem?_eq_getElem hj) e⟩
theorem Ats.take {H : Hp} {vs : List V} {ts : List Tm} (n : Nat) (h : Ats H vs ts) : Ats H (vs.take n) (ts.take n) :=
  ⟨by rw [List.length_take, List.length_take, h.len], fun i v t e1 e2 => by
    rw [List.getElem?_take] at e1 e2
    split at e1
    · rename_i hlt
      rw [if_pos hlt] at e2
      exact h.at' i v t e1 e2
    · cases e1⟩
theorem Ats.drop {H : Hp} {vs : List V} {ts : List Tm} (n : Nat) (h : Ats H vs ts) : Ats H (vs.drop n) (ts.drop n) :=
  ⟨by rw [List.length_drop, List.length_drop, h.len], fun i v t e1 e2 => by
    rw [List.getElem?_drop] at e1 e2
    exact h.at' _ v t e1 e2⟩
/-- what At leans on is tuples alone -/
def KeepT (H H' : Hp) : Prop := ∀ a xs, H a = some (.tup xs) → H' a = some (.tup xs)
theorem KeepT.refl (H : Hp) : KeepT H H := fun _ _ h => h
theorem KeepT.trans {H H1 H2 : Hp} (a : KeepT H H1) (b : KeepT H1 H2) : KeepT H H2 := fun x o h => b x o (a x o h)
theorem At.keep {H H' : Hp} (k : KeepT H H') {v : V} {t : Tm} (h : At H v t) : At H' v t := by
  induction h with
  | var i => exact .var i
  | app e hl _ ih => exact .app (k _ _ e) hl ih
theorem Ats.keep {H H' : Hp} (k : KeepT H H') {vs : List V} {ts : List Tm} (h : Ats H vs ts) : Ats H' vs ts := ⟨h.len, fun i v t e1 e2 => (h.at' i v t e1 e2).keep k⟩
theorem At.app_ats {H : Hp} {a : Addr} {t : Tm} (h : At H (.ref a) t) : ∃ n vs ts, t = .app n ts ∧ H a = some (.tup (.str n :: vs)) ∧ Ats H vs ts := by
  cases h with
  | app e hl hs => exact ⟨_, _, _, rfl, e, hl, hs⟩
theorem At.of {H : Hp} {a : Addr} {n : Str} {vs : List V} {ts : List Tm} (e : H a = some (.tup (.str n :: vs))) (h : Ats H vs ts) : At H (.ref a) (.app n ts) := .app e h.len h.at'

/-! ### what changes: all but given addresses stays -/
/-- all that was tracked stays, but what stands at one of the addresses -/
def Kp (l : List Addr) (H H' : Hp) : Prop := ∀ b o, b ∉ l → H b = some o → H' b = some o
theorem Kp.refl (l : List Addr) (H : Hp) : Kp l H H := fun _ _ _ h => h
theorem Kp.trans {l : List Addr} {H H1 H2 : Hp} (a : Kp l H H1) (b : Kp l H1 H2) : Kp l H H2 := fun x o hx h => b x o hx (a x o hx h)
theorem Kp.new {l : List Addr} {H : Hp} {p : Addr} {o : HO} (h : H p = none) : Kp l H (upd H p o) := fun b u _ e => by
  rw [upd_ne (ne_of_none e h)]
  exact e
theorem Kp.put {l : List Addr} {H : Hp} {p : Addr} {o : HO} (h : p ∈ l) : Kp l H (upd H p o) := fun b u hb e => by
  rw [upd_ne (fun z : b = p => hb (z ▸ h))]
  exact e
theorem Kp.mono {l l' : List Addr} {H H' : Hp} (a : Kp l H H') (h : ∀ b ∈ l, b ∈ l') : Kp l' H H' := fun b o hb e => a b o (fun z => hb (h b z)) e
/-- an address that H did not know may have been changed besides -/
theorem Kp.less {l : List Addr} {p : Addr} {H H' : Hp} (a : Kp (p :: l) H H') (h : H p = none) : Kp l H H' := fun b o hb e => a b o (fun z => by
  rcases List.mem_cons.mp z with z | z
  · rw [z, h] at e; cases e
  · exact hb z) e
theorem Kp.same {H H' : Hp} (a : Kp [] H H') : Same H H' := fun b o e => a b o (by simp) e
theorem Kp.of_same {l : List Addr} {H H' : Hp} (a : Same H H') : Kp l H H' := fun b o _ e => a b o e
end Lw

set_option maxRecDepth 100000
set_option maxHeartbeats 4000000
/-! the promises of the defs that draw -/
namespace Lw
open PySem L2

/-! ### built-ins by name -/
theorem b_int : bootBuiltins "int" = some (.type "int") := by decide +kernel
theorem b_list : bootBuiltins "list" = some (.type "list") := by decide +kernel
theorem b_tuple : bootBuiltins "tuple" = some (.type "tuple") := by decide +kernel
theorem b_dict : bootBuiltins "dict" = some (.type "dict") := by decide +kernel
theorem b_range : bootBuiltins "range" = some (.type "range") := by decide +kernel
theorem b_set : bootBuiltins "set" = some (.type "set") := by decide +kernel
theorem b_str : bootBuiltins "str" = some (.type "str") := by decide +kernel
theorem b_zip : bootBuiltins "zip" = some (.type "zip") := by decide +kernel
theorem b_enumerate : bootBuiltins "enumerate" = some (.type "enumerate") := by decide +kernel
theorem b_len : bootBuiltins "len" = some (.builtin "len") := by decide +kernel
theorem b_abs : bootBuiltins "abs" = some (.builtin "abs") := by decide +kernel
theorem b_max : bootBuiltins "max" = some (.builtin "max") := by decide +kernel
theorem b_min : bootBuiltins "min" = some (.builtin "min") := by decide +kernel
theorem b_sum : bootBuiltins "sum" = some (.builtin "sum") := by decide +kernel
theorem b_isinstance : bootBuiltins "isinstance" = some (.builtin "isinstance") := by decide +kernel
theorem b_repr : bootBuiltins "repr" = some (.builtin "repr") := by decide +kernel
theorem b_sorted : bootBuiltins "sorted" = some (.builtin "sorted") := by decide +kernel
theorem b_all : bootBuiltins "all" = some (.builtin "all") := by decide +kernel
theorem b_any : bootBuiltins "any" = some (.builtin "any") := by decide +kernel
/-- a tape at t: its script's copy at sc -/
structure TapeAt (H : Hp) (t sc : Addr) (ns : List Int) : Prop where
  is : ∃ pl pd sd : Int, 0 ≤ pl ∧ H t = some (.lst [.ref sc, .int pl, .int pd, .int sd])
  scr : H sc = some (.lst (ns.map V.int))
  ne : sc ≠ t
theorem TapeAt.keep {H H' : Hp} {t sc : Addr} {ns : List Int} (h : TapeAt H t sc ns) {l : List Addr} (k : Kp l H H') (ht : t ∉ l) (hs : sc ∉ l) : TapeAt H' t sc ns := by
  obtain ⟨⟨pl, pd, sd, h0, e⟩, e2, ne⟩ := h
  exact ⟨⟨pl, pd, sd, h0, k _ _ ht e⟩, k _ _ hs e2, ne⟩
theorem TapeAt.nil {H H' : Hp} {t sc : Addr} {ns : List Int} (h : TapeAt H t sc ns) (k : Kp [] H H') : TapeAt H' t sc ns := h.keep k (by simp) (by simp)
theorem TapeAt.t_some {H : Hp} {t sc : Addr} {ns : List Int} (h : TapeAt H t sc ns) {p : Addr} (hp : H p = none) : t ≠ p := by
  obtain ⟨⟨pl, pd, sd, h0, e⟩, _, _⟩ := h
  exact ne_of_none e hp
theorem TapeAt.s_some {H : Hp} {t sc : Addr} {ns : List Int} (h : TapeAt H t sc ns) {p : Addr} (hp : H p = none) : sc ≠ p := ne_of_none h.scr hp
theorem TapeAt.keepT {H H' : Hp} {t sc : Addr} {ns : List Int} (h : TapeAt H t sc ns) (k : Kp [t] H H') : KeepT H H' := fun a xs e => by
  obtain ⟨⟨pl, pd, sd, h0, e2⟩, _, _⟩ := h
  refine k a _ (fun z => ?_) e
  rcases List.mem_cons.mp z with z | z
  · rw [z, e2] at e; cases e
  · cases z
theorem Kp.keepT {l : List Addr} {H H' : Hp} (k : Kp l H H') (h : ∀ a ∈ l, ∀ xs, H a ≠ some (.tup xs)) : KeepT H H' := fun a xs e => k a _ (fun z => h a z xs e) e

def spTape (K : PySem.W.Frag) : Sp := fun vs H Q _ => ∃ (a : Addr) (ns : List Int), vs = [.ref a] ∧ SqL K H a (ns.map V.int) ∧
  ∀ (H' : Hp) (t sc : Addr), Kp [] H H' → H t = none → H sc = none → TapeAt H' t sc ns → Q (.ref t) H'
def spDraw : Sp := fun vs H Q _ => ∃ (t sc : Addr) (ns : List Int) (many : Int), vs = [.ref t, .int many] ∧ TapeAt H t sc ns ∧ 0 ≤ many ∧ many < 1000000000 ∧
  ∀ (H' : Hp) (n : Int), Kp [t] H H' → TapeAt H' t sc ns → 0 ≤ n → n < max many 1 → Q (.int n) H'

/-! ### names -/
def smallC (c : Nat) : Prop := 97 ≤ c ∧ c ≤ 122
def signC (c : Nat) : Prop := (97 ≤ c ∧ c ≤ 122) ∨ (65 ≤ c ∧ c ≤ 90) ∨ (48 ≤ c ∧ c ≤ 57)
instance : DecidablePred smallC := fun c => by unfold smallC; infer_instance
instance : DecidablePred signC := fun c => by unfold signC; infer_instance
structure NameOk (z : Str) : Prop where
  pos : 0 < z.cps.toList.length
  le : z.cps.toList.length ≤ 16
  first : ∀ c, z.cps.toList[0]? = some c → smallC c
  all : ∀ c ∈ z.cps.toList, signC c
  short : z.cps.toList.length ≤ 3 ∨ z.cps.toList.length = 16
/-- a stem: empty, or the beginning of a name -/
structure StemOk (z : Str) : Prop where
  le : z.cps.toList.length ≤ 13
  first : ∀ c, z.cps.toList[0]? = some c → smallC c
  all : ∀ c ∈ z.cps.toList, signC c
  len : z.cps.toList.length = 0 ∨ z.cps.toList.length = 13
def spWord : Sp := fun vs H Q _ => ∃ (t sc : Addr) (ns : List Int) (stem : Str), vs = [.ref t, .str stem] ∧ TapeAt H t sc ns ∧ StemOk stem ∧
  ∀ (H' : Hp) (z : Str), Kp [t] H H' → TapeAt H' t sc ns → NameOk z → Q (.str z) H'

/-! ### symbols -/
structure SymsAt (H : Hp) (a : Addr) (zs : List (Str × Int)) : Prop where
  is : ∃ rs : List Addr, H a = some (.lst (rs.map V.ref)) ∧ rs.length = zs.length ∧ ∀ (i : Nat) r z, rs[i]? = some r → zs[i]? = some z → H r = some (.tup [.str z.1, .int z.2])
  ok : ∀ z ∈ zs, NameOk z.1 ∧ 0 ≤ z.2 ∧ z.2 ≤ 3
def spSymbols : Sp := fun vs H Q _ => ∃ (t sc : Addr) (ns : List Int) (many : Int), vs = [.ref t, .int many] ∧ TapeAt H t sc ns ∧ 1 ≤ many ∧ many ≤ 1000 ∧
  ∀ (H' : Hp) (p : Addr) (zs : List (Str × Int)), Kp [t] H H' → TapeAt H' t sc ns → H p = none → SymsAt H' p zs → (zs.length : Int) = many + 1 → Q (.ref p) H'
end Lw

set_option maxRecDepth 100000
set_option maxHeartbeats 4000000
/-! the promise of a def where it is known that no container's repr is under way -/
namespace Lw
open PySem PySem.Spec PyProof.Rows L2
/-- room, and no repr of a container under way -/
structure RoomG (k : Nat) (A : Around) : Prop where
  room : Room k A
  g : A.guards = some []
theorem RoomG.mono {j k : Nat} {A : Around} (r : RoomG k A) (h : j ≤ k) : RoomG j A := ⟨r.room.mono h, r.g⟩
theorem RoomG.deeper {k : Nat} {A : Around} (r : RoomG (k + 1) A) (env : Env) : RoomG k (A.deeper env) := ⟨r.room.deeper env, r.g⟩
structure FnG (P : Program) (w : World) (K : PySem.W.Frag) (mg : Str → Option Value) (base : Heap) (k : Nat) (f : Addr) (fd : FuncData) (ps : List Str) (sp : Sp) : Prop where
  len : ∀ vs H Q E, sp vs H Q E → vs.length = ps.length
  run : ∀ (A : Around) (outer : List Env) (s : Shared) (H : Hp) (args : Args) (us : List Value) (vs : List V) (Q : VK) (E : XK), RoomG k A → Env0 P w K mg base A outer s H → BindsTo s fd args (ps.zip us) → Vals vs us → sp vs H Q E →
    codeAny (model P w) A (.call (.ref f) args) (CR CX0 outer P w H s Q E) s
section
variable {P : Program} {w : World} {K : PySem.W.Frag} {mg : Str → Option Value} {base : Heap}
theorem FnG.mono {j k : Nat} {f : Addr} {fd : FuncData} {ps : List Str} {sp : Sp} (F : FnG P w K mg base j f fd ps sp) (h : j ≤ k) : FnG P w K mg base k f fd ps sp :=
  ⟨F.len, fun A outer s H args us vs Q E hr => F.run A outer s H args us vs Q E (hr.mono h)⟩
theorem FnG.imp {k : Nat} {f : Addr} {fd : FuncData} {ps : List Str} {sp sp' : Sp} (F : FnG P w K mg base k f fd ps sp) (h : ∀ vs H Q E, sp' vs H Q E → sp vs H Q E) : FnG P w K mg base k f fd ps sp' :=
  ⟨fun vs H Q E q => F.len vs H Q E (h _ _ _ _ q), fun A outer s H args us vs Q E hr he hb hv hs => F.run A outer s H args us vs Q E hr he hb hv (h _ _ _ _ hs)⟩
/-- a def by its body -/
theorem Fun.okG {x qual : Str} {st : Stmt} {f : Addr} {fd : FuncData} {N ps : List Str} {k : Nat} {sp : Sp} (F : Fun K x qual st f fd) (S : FnScope N ps (defScope st)) (len : ∀ vs H Q E, sp vs H Q E → vs.length = ps.length)
    (body : ∀ (cdv : Value) (A : Around) (outer : List Env) (s : Shared) (H : Hp) (vs : List V) (Q : VK) (E : XK), RoomG k (A.deeper (envOfC qual (defScope st) s.heap.objs.size f cdv)) → sp vs H Q E →
      ∃ t, PSs (cxOf CX0 P w K mg base N qual (defScope st) f cdv A outer s H E).nox (defBody st) t ∧ t { nx := fun _ H' => Q .non H', rt := Q } (start N vs) H) : FnG P w K mg base (k + 1) f fd ps sp := by
  obtain ⟨oc, od, kV, doc, pm, an, cdv, ct, osl, rfl, lk, hcd⟩ := F.ex
  refine ⟨len, fun A outer s H args us vs Q E hr e0 hb rv hsp => ?_⟩
  have inK : K.In s.heap := e0.mod.kin.keeps fun b o e => (e0.bs b o e).1
  have noL : s.heap.NoLimit := e0.mod.nolimit.keeps fun b o e => (e0.bs b o e).1
  have kinds : ∀ y ∈ ps.zip us, (defScope st).names.lookup y.1 = some .local ∨ ((defScope st).names.lookup y.1 = some .cell ∧ ((cellsFrom (s.heap.objs.size + 1) (defScope st).names []).lookup y.1).isSome = true) := by
    rintro ⟨n, v⟩ hy
    rcases S.par n (List.of_mem_zip hy).1 with c | c
    · exact .inl c
    · exact .inr ⟨c, PySem.W.cellsFrom_some _ _ _ (.inl c)⟩
  refine codeAny_call_function hr.room.depth (inK _ _ lk) rfl S.co S.gen rfl (PySem.W.codeRec_of inK hcd) (hb _ _ _ _ (wpAny_newFunctionEnv_cells S.kind kinds fun env he s1 x => ?_))
  subst he
  refine ⟨noL.keeps x.toInCall.keep, codeAny_func ?_⟩
  obtain ⟨t, ht, hq⟩ := body cdv A outer s H vs Q E (hr.deeper _) hsp
  have I := inv_start (CX := CX0) (E := E) S hr.room.hd e0 (len _ _ _ _ hsp) rv x
  refine wpAny_mono (ht.nox.run [] s1 (start N vs) H _ I hq) (fun fl s2 done => ?_) fun e s2 out => out
  cases fl with
  | ret u =>
    obtain ⟨v, σ2, H2, J, rv2, q⟩ := done
    exact ⟨v, H2, J.os, J.bare, J.base, J.hok, rv2, q⟩
  | next =>
    obtain ⟨σ2, H2, J, q⟩ := done
    exact ⟨V.non, H2, J.os, J.bare, J.base, J.hok, rfl, q⟩
  | brk =>
    obtain ⟨_, _, _, z⟩ := done
    exact z.elim
  | cont =>
    obtain ⟨_, _, _, z⟩ := done
    exact z.elim
end
section
variable {X : Cx} {k j : Nat} {f : Addr} {fd : FuncData} {ps : List Str} {sp : Sp} {x : Str} {p pos : Pos} {e : Expr} {es : List Expr} {t : TA}
theorem pe_callG (F : FnG X.prog X.w X.K X.mg X.base k f fd ps sp) (hr : RoomG k X.A) (hg : Gl X x) (hm : X.mg x = some (.ref f)) (hk : PySem.W.keepIn X.K (.ref f) = true) (hb : Binds X.K fd ps [])
    (ha : PA X (e :: es) t) (hdb : (x == ("__debug__" : Str)) = false := by decide) (he : starEach (e :: es) X.env = (false, eval e X.env) :: starEach es X.env := by rfl) (hpl : (backTo pos (starEach es X.env)).any (·.1) = false := by rfl) :
    PE X (.Call (.Name x p) (e :: es) [] pos) (tCall sp [] E0 t) := by
  refine ⟨fun pins s σ H Q I h => wpAny_Call_Name_kw (ld_glob I hg hm (PySem.W.callWith_K (h₀ := X.base) I.ok.mod.kin hk (thn (ha.run pos pins s σ H _ I h) fun us s1 ⟨vs, H1, I1, r, q⟩ => ⟨I1.kIn, ?_⟩) he hpl) hdb)⟩
  have q : sp (vs ++ []) H1 Q E0 := q
  rw [List.append_nil] at q
  have hl : (us ++ []).length = ps.length := by rw [List.append_nil, ← r.length]; exact F.len _ _ _ _ q
  have b := hb s1 us I1.kIn hl
  rw [List.append_nil] at b
  refine wpAny_call (codeAny_mono (F.run X.A X.stack s1 H1 ⟨us, []⟩ us vs Q E0 hr I1.env0 b r q) fun r s2 hq => ?_)
  cases r with
  | error e => exact hq.elim
  | ok fl =>
    cases fl with
    | ret u => exact I1.after hq
    | next => exact False.elim hq
    | brk => exact False.elim hq
    | cont => exact False.elim hq
end
end Lw
namespace Lw
open PySem PySem.Spec PyProof.Rows L2
/-- the law's def at the heap behind the top -/
theorem law_callG {P : Program} {w : World} {K : PySem.W.Frag} {mg mb : Str → Option Value} {k : Nat} {fa a : Addr} {fd : FuncData} {x : Str} {sp : Sp} {s1 : Shared} {vs : List Value} {ns : List Int}
    (KX : K.In s1.heap) (hns : s1.heap.Ns PySem.mainGlobals mg) (hb : s1.heap.Ns builtinsNs mb) (hbb : ∀ x : Str, x ≠ "__name__" → mb x = bootBuiltins x) (hlim : s1.heap.NoLimit) (hg : s1.gens = #[])
    (ha : s1.heap.get? a = some { cls := .type "list", data := .seq vs.toArray }) (hi : IntsAre vs ns) (hl : ns.length ≤ sizeLine) (hr : RoomG k callerA)
    (F : ∀ base : Heap, K.In base → base.Ns PySem.mainGlobals mg → FnG P w K mg base k fa fd [x] sp) (hbind : ∀ (s : Shared) (u : Value), BindsTo s fd ⟨[u], []⟩ [(x, u)])
    (hsp : ∀ H : Hp, Only H → SqL K H a (ns.map V.int) → sp [.ref a] H (fun v _ => v = .bl true) fun _ _ _ => False) :
    codeAny (model P w) callerA (.call (.ref fa) ⟨[.ref a], []⟩) (fun r s2 => r = .ok (.ret (.bool true)) ∧ OldK s1.heap s2.heap ∧ s2.os = s1.os ∧ AllBare s2.gens) s1 := by
  have rv := vals_ints hi
  have lv := hi.length
  -- from any abstract heap that tracks the script at most
  have go : ∀ H : Hp, Only H → SqL K H a (ns.map V.int) → HOk P w H s1.heap → (∀ b u, H b = some u → b = a ∧ K.lookup a = none) →
      codeAny (model P w) callerA (.call (.ref fa) ⟨[.ref a], []⟩) (fun r s2 => r = .ok (.ret (.bool true)) ∧ OldK s1.heap s2.heap ∧ s2.os = s1.os ∧ AllBare s2.gens) s1 := by
    intro H hO hS hok hA
    have off : ∀ {b : Addr} {o : Obj}, s1.heap.get? b = some o → (b = a → K.lookup a = none → False) → H b = none := fun {b o} _ n => by
      cases z : H b with
      | none => rfl
      | some u => exact (n (hA b u z).1 (hA b u z).2).elim
    have dicts : ∀ {b : Addr} {o : Obj} {es : Array DictEntry} {ep : Nat}, s1.heap.get? b = some o → o.data = .dict es ep → H b = none := fun {b o es ep} e d => off e fun z _ => by
      rw [z, ha] at e
      cases e
      cases d
    have names : ∀ {b : Addr} {m : Str → Option Value}, s1.heap.Ns b m → (hidT s1.heap H).Ns b m := fun {b m} ⟨o, es, ep, e, d, r⟩ => ⟨o, es, ep, hidT_get e (dicts e d), d, r⟩
    have inB : K.In (hidT s1.heap H) := fun b o e => hidT_get (KX b o e) (off (KX b o e) fun z n => by rw [z, n] at e; cases e)
    have hM : Mod K mg (hidT s1.heap H) := ⟨inB, names hns, ⟨mb, names hb, hbb⟩, let ⟨mc, h1, h2⟩ := hlim; ⟨mc, names h1, h2⟩⟩
    have e0 : Env0 P w K mg (hidT s1.heap H) callerA [] s1 H := ⟨rfl, hM, fun b o e => of_hidT e, Nat.le_of_eq (hidT_size _ _), trivial, (fun b hb => nomatch (show b ∈ ([] : List Addr) from hb)), hok, .of_eq hg⟩
    refine codeAny_mono ((F _ inB (names hns)).run callerA [] s1 H ⟨[.ref a], []⟩ [.ref a] [.ref a] _ _ hr e0 (hbind s1 (.ref a)) (.cons rfl .nil) (hsp H hO hS)) fun r s2 h => ?_
    cases r with
    | error e => exact False.elim h
    | ok fl =>
      cases fl with
      | next => exact False.elim h
      | brk => exact False.elim h
      | cont => exact False.elim h
      | ret u =>
        obtain ⟨v, H2, os, bare, un, hok2, r2, q⟩ := h
        have q2 : v = .bl true := q
        subst q2
        obtain rfl : u = Value.bool true := r2
        refine ⟨rfl, OldK.of_keep fun b o e => ?_, os, bare⟩
        rcases hO b with z | ⟨ob, xs, z⟩
        · exact un.keep b o e z (fun m => nomatch (show b ∈ ([] : List Addr) from m)) (fun m => nomatch m)
        · have z2 := un.frzs b ob _ z
          obtain ⟨e1, _⟩ := hok b _ z
          obtain ⟨e2, _⟩ := hok2 b _ z2
          rw [e] at e1
          cases e1
          exact e2
  by_cases hk : K.lookup a = none
  · refine go (fun b => if b = a then some (.frz { cls := .type "list", data := .seq vs.toArray } (.lst (ns.map V.int))) else none) (fun b => ?_) (.inl (.inr ⟨_, if_pos rfl⟩)) (fun b u z => ?_) (fun b u z => ?_)
    · by_cases hb : b = a
      · exact .inr ⟨_, _, if_pos hb⟩
      · exact .inl (if_neg hb)
    · by_cases hb : b = a
      · subst hb
        have z2 := (if_pos rfl).symm.trans z
        cases z2
        exact ⟨ha, by rw [List.length_map]; exact hl, vs, _, rv, ha⟩
      · have z2 := (if_neg hb).symm.trans z
        cases z2
    · by_cases hb : b = a
      · exact ⟨hb, hk⟩
      · have z2 := (if_neg hb).symm.trans z
        cases z2
  · obtain ⟨o, ho⟩ : ∃ o, K.lookup a = some o := by
      cases z : K.lookup a with
      | none => exact absurd z hk
      | some o => exact ⟨o, rfl⟩
    have e := KX a o ho
    rw [ha] at e
    cases e
    exact go (fun _ => none) (fun _ => .inl rfl) (.inr ⟨_, vs.toArray, _, ho, rfl, rfl, rfl, by rw [List.size_toArray, lv]; exact hl, by simpa using rv⟩) (fun b u z => nomatch (show (none : Option HO) = some u from z)) (fun b u z => nomatch (show (none : Option HO) = some u from z))
/-- the goal that the head leaves -/
theorem walk_ofG {l : PySem.W.OpenLaw} {n k : Nat} {q : Program} {loose : List Str} {XP : (Str → Option Value) → Heap → Prop} {YP : World → Heap → Prop} {d : DefRec} {K : Params → PySem.W.Frag} {sp : World → Sp} {x : Str}
    (hn : l.most = some n) (hn2 : n ≤ sizeLine) (hdf : d.params.defaults = []) (hr : RoomG k callerA) (hY : ∀ (w : World) (h : Heap), YP w h → (K w.params).In h)
    (F : ∀ (w : World) (mg : Str → Option Value) (fa : Addr) (h : Heap), (K w.params).In h → h.Ns PySem.mainGlobals mg → mg d.name = some (.ref fa) →
      ∃ fd : FuncData, (∀ (s : Shared) (u : Value), BindsTo s fd ⟨[u], []⟩ [(x, u)]) ∧ ∀ base : Heap, (K w.params).In base → base.Ns PySem.mainGlobals mg → FnG l.prog w (K w.params) mg base k fa fd [x] (sp w))
    (hsp : ∀ (w : World) (H : Hp) (a : Addr) (ns : List Int), ns.length ≤ n → Only H → SqL (K w.params) H a (ns.map V.int) → sp w [.ref a] H (fun v _ => v = .bl true) fun _ _ _ => False) :
    PySem.W.WalkO q loose XP YP l.row.toRowW d [] (fun f vs => PySem.call f vs) := by
  refine Att.attach_call hn hdf fun w s0 s1 mg mb fa o pm cd doc a vs ns G Y ho hd hcd hmg hobj hints hlen hg => ?_
  obtain ⟨fd, hb, hF⟩ := F w mg fa _ (hY w _ Y) G.T.g hmg
  exact law_callG (hY w _ Y) G.T.g G.T.b G.T.builtins G.T.nolimit hg hobj hints (Nat.le_trans hlen hn2) hr hF hb fun H hO hS => hsp w H a ns hlen hO hS
end Lw

set_option maxRecDepth 100000
set_option maxHeartbeats 4000000
/-! readings, a step a lemma -/
namespace Lw
open PySem L2
section
variable {σ : St} {H : Hp} {Q : VK} {D : Ends} {K : PySem.W.Frag} {ta tb te tc : TE} {t u : TT} {v : V} {i j : Int} {r : R2} {a : Addr} {xs : List V}
theorem d_var {i : Nat} {v : V} (h : σ[i]? = some (some v)) (q : Q v H) : tVar i σ H Q := ⟨v, h, q⟩
theorem d_c (q : Q v H) : tC v σ H Q := q
theorem d_op (q : ta σ H fun x H1 => tb σ H1 fun y H2 => r x y H2 Q) : tOp r ta tb σ H Q := q
theorem d_un {r : V → Hp → VK → Prop} (q : ta σ H fun x H1 => r x H1 Q) : tUn r ta σ H Q := q
theorem d_I0 {g : Int → Int → V} (q : Q (g i j) H) : rI0 g (.int i) (.int j) H Q := ⟨i, j, rfl, rfl, q⟩
theorem d_I {C : Int → Int → Prop} {g : Int → Int → V} (c : C i j) (q : Q (g i j) H) : rI C g (.int i) (.int j) H Q := ⟨i, j, rfl, rfl, c, q⟩
theorem d_U {g : Int → V} (q : Q (g i) H) : rU g (.int i) H Q := ⟨i, rfl, q⟩
theorem d_eq {x y : V} (c : scal x y = true) (q : Q (.bl (decide (x = y))) H) : rEq x y H Q := ⟨c, q⟩
theorem d_ne {x y : V} (c : scal x y = true) (q : Q (.bl (!decide (x = y))) H) : rNe x y H Q := ⟨c, q⟩
theorem d_nil {Q : List V → Hp → Prop} (q : Q [] H) : tNil σ H Q := q
theorem d_cons {tr : TA} {Q : List V → Hp → Prop} (q : te σ H fun x H1 => tr σ H1 fun xs H2 => Q (x :: xs) H2) : tCons te tr σ H Q := q
theorem d_tup {t : TA} (q : t σ H fun xs H1 => xs.length ≤ sizeLine ∧ ∀ p, H1 p = none → Q (.ref p) (upd H1 p (.tup xs))) : tTup t σ H Q := q
theorem d_lst {t : TA} (q : t σ H fun xs H1 => xs.length ≤ sizeLine ∧ ∀ p, H1 p = none → Q (.ref p) (upd H1 p (.lst xs))) : tLst t σ H Q := q
theorem d_cb {t : TA} {r : List V → Hp → VK → Prop} (q : t σ H fun vs H1 => r vs H1 Q) : tCB r t σ H Q := q
theorem d_ckw {t tk : TA} {r : List V → List V → Hp → VK → Prop} (q : t σ H fun vs H1 => tk σ H1 fun zs H2 => r vs zs H2 Q) : tCKw r t tk σ H Q := q
theorem d_call {sp : Sp} {dvs : List V} {E : XK} {t : TA} (q : t σ H fun vs H1 => sp (vs ++ dvs) H1 Q E) : tCall sp dvs E t σ H Q := q
theorem d_slice {r : V → Option Int → Option Int → Hp → VK → Prop} {tl th : TO} (q : te σ H fun x H1 => tl σ H1 fun lo H2 => th σ H2 fun hi H3 => r x lo hi H3 Q) : tSl r te tl th σ H Q := q
theorem d_part {Q : Option Int → Hp → Prop} (q : te σ H fun x H1 => ∃ i, x = .int i ∧ Q (some i) H1) : tPart te σ H Q := q
theorem d_nopart {Q : Option Int → Hp → Prop} (q : Q none H) : tNoPart σ H Q := q
theorem d_bm0 {T : String} {r : V → List V → Hp → VK → Prop} (q : te σ H fun x H1 => tyV K T x H1 ∧ r x [] H1 Q) : tBM0 K T r te σ H Q := q
theorem d_bm {T : String} {r : V → List V → Hp → VK → Prop} {t : TA} (q : te σ H fun x H1 => tyV K T x H1 ∧ t σ H1 fun xs H2 => r x xs H2 Q) : tBM K T r te t σ H Q := q
theorem d_next (q : D.nx σ H) : tNext D σ H := q
theorem d_seq {t u : TS} (q : t { D with nx := u D } σ H) : tSeq t u D σ H := q
theorem d_drop (q : te σ H fun _ H1 => D.nx σ H1) : tDrop te D σ H := q
theorem d_ret (q : te σ H D.rt) : tRet te D σ H := q
theorem d_retN (q : D.rt .non H) : tRetN D σ H := q
theorem d_asg {g : TG} (q : te σ H fun x H1 => g x σ H1 D.nx) : tAsg te g D σ H := q
theorem d_name {n : Nat} {x : V} {Q : St → Hp → Prop} (q : Q (σ.set n (some x)) H) : gName n x σ H Q := q
theorem d_ifs {c : TT} {t u : TS} (q : c σ H fun b H1 => if b = true then t D σ H1 else u D σ H1) : tIfS c t u D σ H := q
theorem d_ifx {c : TT} (q : c σ H fun b H1 => if b = true then ta σ H1 Q else tb σ H1 Q) : tIf c ta tb σ H Q := q
theorem d_test {Q : Bool → Hp → Prop} (q : te σ H fun x H1 => ∃ k, x = .bl k ∧ Q k H1) : tTest te σ H Q := q
theorem d_tB {Q : Bool → Hp → Prop} (q : te σ H fun x H1 => ∃ k, x = .bl k ∧ Q k H1) : tB te σ H Q := q
theorem d_tnot {Q : Bool → Hp → Prop} (q : t σ H fun c H1 => Q (!c) H1) : tNot t σ H Q := q
theorem d_tand {Q : Bool → Hp → Prop} (q : t σ H fun c H1 => if c = true then u σ H1 Q else Q false H1) : tAnd t u σ H Q := q
theorem d_tor {Q : Bool → Hp → Prop} (q : t σ H fun c H1 => if c = true then Q true H1 else u σ H1 Q) : tOr t u σ H Q := q
theorem d_andV (q : ta σ H fun x H1 => ∃ c, x = .bl c ∧ if c = true then tb σ H1 Q else Q (.bl false) H1) : tAndV ta tb σ H Q := q
theorem d_orV (q : ta σ H fun x H1 => ∃ c, x = .bl c ∧ if c = true then Q (.bl true) H1 else tb σ H1 Q) : tOrV ta tb σ H Q := q
theorem d_notV (q : ta σ H fun x H1 => ∃ c, x = .bl c ∧ Q (.bl (!c)) H1) : tNotV ta σ H Q := q
theorem d_ixL {p : Addr} (h : SqL K H p xs) (e : atI xs i = some v) (q : Q v H) : rIxL K (.ref p) (.int i) H Q := ⟨p, xs, i, v, rfl, rfl, h, e, q⟩
theorem d_ixT {p : Addr} (h : SqT K H p xs) (e : atI xs i = some v) (q : Q v H) : rIxT K (.ref p) (.int i) H Q := ⟨p, xs, i, v, rfl, rfl, h, e, q⟩
end
theorem ite_bl {A B : Prop} {b : Bool} (h1 : b = true → A) (h2 : b = false → B) : if b = true then A else B := by
  cases b with
  | true => rw [if_pos rfl]; exact h1 rfl
  | false => rw [if_neg Bool.false_ne_true]; exact h2 rfl
theorem ite_dc {A B : Prop} {p : Prop} [Decidable p] (h1 : p → A) (h2 : ¬ p → B) : if decide p = true then A else B :=
  ite_bl (fun e => h1 (of_decide_eq_true e)) (fun e => h2 (of_decide_eq_false e))
theorem ite_ndc {A B : Prop} {p : Prop} [Decidable p] (h1 : ¬ p → A) (h2 : p → B) : if (!decide p) = true then A else B :=
  ite_bl (fun e => h1 (by simpa using e)) (fun e => h2 (by simpa using e))
theorem sqL {K : PySem.W.Frag} {H : Hp} {a : Addr} {xs : List V} (h : H a = some (.lst xs)) : SqL K H a xs := .inl (.inl h)
theorem sqT {K : PySem.W.Frag} {H : Hp} {a : Addr} {xs : List V} (h : H a = some (.tup xs)) : SqT K H a xs := .inl (.inl h)
theorem atI_of {α : Type} {xs : List α} {k : Int} {v : α} (h0 : 0 ≤ k) (h : xs[k.toNat]? = some v) : atI xs k = some v := by
  have e : k = ((k.toNat : Nat) : Int) := by omega
  rw [e]
  exact atI_nat h
theorem smallN {n : Nat} (h : n ≤ 1000000) : n ≤ sizeLine := le_line h
theorem smallL {n : Nat} (h : n < 1000000) : n < sizeLine := by rw [sizeLine_eq]; omega
end Lw
namespace Lw
open PySem L2
section
variable {H : Hp} {Q : VK} {K : PySem.W.Frag} {i : Int} {p : Addr} {xs : List V}
theorem d_ixLc {v : V} (h : H p = some (.lst xs)) (e : atI xs i = some v) (q : Q v H) : rIxL K (.ref p) (.int i) H Q := ⟨p, xs, i, v, rfl, rfl, sqL h, e, q⟩
theorem d_ixTc {v : V} (h : H p = some (.tup xs)) (e : atI xs i = some v) (q : Q v H) : rIxT K (.ref p) (.int i) H Q := ⟨p, xs, i, v, rfl, rfl, sqT h, e, q⟩
end
end Lw
namespace Lw
open PySem L2
section
variable {H : Hp} {Q : Hp → Prop} {i : Int} {p : Addr} {xs : List V} {j : Nat} {v : V}
theorem d_setL (h : H p = some (.lst xs)) (e : ixN xs.length i = some j) (q : Q (upd H p (.lst (xs.set j v)))) : rSetL (.ref p) (.int i) v H Q := ⟨p, xs, i, j, rfl, rfl, h, e, q⟩
end
end Lw
namespace Lw
open PySem L2
theorem d_sub {to ti : TE} {t : TSet} {v : V} {σ : St} {H : Hp} {Q : St → Hp → Prop} (q : to σ H fun o H1 => ti σ H1 fun i H2 => t o i v H2 fun H3 => Q σ H3) : gSub to ti t v σ H Q := q
end Lw
namespace Lw
open PySem PySem.Spec L2
section
variable {P : Program} {w : World} {K : PySem.W.Frag} {mg : Str → Option Value} {base : Heap}
/-- a def of the module as it stands behind the top, under its own name, no defaults -/
structure Df (K : PySem.W.Frag) (mg : Str → Option Value) (x : Str) (st : Stmt) (ps : List Str) : Prop where
  ex : ∃ (f : Addr) (fd : FuncData), Fun K x x st f fd ∧ mg x = some (.ref f) ∧ Binds K fd ps []
/-- a def that may be called under its name, and keeps the promise -/
structure Cl (P : Program) (w : World) (K : PySem.W.Frag) (mg : Str → Option Value) (base : Heap) (k : Nat) (x : Str) (ps : List Str) (sp : Sp) : Prop where
  ex : ∃ (f : Addr) (fd : FuncData), FnG P w K mg base k f fd ps sp ∧ mg x = some (.ref f) ∧ PySem.W.keepIn K (.ref f) = true ∧ Binds K fd ps []
theorem Cl.mono {j k : Nat} {x : Str} {ps : List Str} {sp : Sp} (c : Cl P w K mg base j x ps sp) (h : j ≤ k) : Cl P w K mg base k x ps sp := by
  obtain ⟨f, fd, F, m, kp, b⟩ := c.ex
  exact ⟨f, fd, F.mono h, m, kp, b⟩
theorem Cl.imp {k : Nat} {x : Str} {ps : List Str} {sp sp' : Sp} (c : Cl P w K mg base k x ps sp) (h : ∀ vs H Q E, sp' vs H Q E → sp vs H Q E) : Cl P w K mg base k x ps sp' := by
  obtain ⟨f, fd, F, m, kp, b⟩ := c.ex
  exact ⟨f, fd, F.imp h, m, kp, b⟩
theorem Df.ok {x : Str} {st : Stmt} {N ps : List Str} {k : Nat} {sp : Sp} (D : Df K mg x st ps) (S : FnScope N ps (defScope st)) (len : ∀ vs H Q E, sp vs H Q E → vs.length = ps.length)
    (body : ∀ (f : Addr) (cdv : Value) (A : Around) (outer : List Env) (s : Shared) (H : Hp) (vs : List V) (Q : VK) (E : XK), RoomG k (A.deeper (PyProof.Rows.envOfC x (defScope st) s.heap.objs.size f cdv)) → sp vs H Q E →
      ∃ t, PSs (cxOf CX0 P w K mg base N x (defScope st) f cdv A outer s H E).nox (defBody st) t ∧ t { nx := fun _ H' => Q .non H', rt := Q } (start N vs) H) : Cl P w K mg base (k + 1) x ps sp := by
  obtain ⟨f, fd, F, m, b⟩ := D.ex
  exact ⟨f, fd, Fun.okG F S len (fun cdv A outer s H vs Q E hr h => body f cdv A outer s H vs Q E hr h), m, F.kp, b⟩
/-- a promise that nothing can ask for -/
theorem Df.none {x : Str} {st : Stmt} {N ps : List Str} {k : Nat} {sp : Sp} (D : Df K mg x st ps) (no : ∀ vs H Q E, ¬ sp vs H Q E) : Cl P w K mg base k x ps sp := by
  obtain ⟨f, fd, F, m, b⟩ := D.ex
  exact ⟨f, fd, ⟨fun vs H Q E h => absurd h (no vs H Q E), fun A outer s H args us vs Q E _ _ _ _ h => absurd h (no vs H Q E)⟩, m, F.kp, b⟩
end
section
variable {X : Cx} {k j : Nat} {x : Str} {ps : List Str} {sp : Sp} {p pos : Pos} {e : Expr} {es : List Expr} {t : TA}
theorem pe_cl (c : Cl X.prog X.w X.K X.mg X.base k x ps sp) (hr : RoomG j X.A) (hk : k ≤ j) (hg : Gl X x) (ha : PA X (e :: es) t)
    (hdb : (x == ("__debug__" : Str)) = false := by decide) (he : starEach (e :: es) X.env = (false, eval e X.env) :: starEach es X.env := by rfl) (hpl : (backTo pos (starEach es X.env)).any (·.1) = false := by rfl) :
    PE X (.Call (.Name x p) (e :: es) [] pos) (tCall sp [] E0 t) := by
  obtain ⟨f, fd, F, hm, kp, b⟩ := c.ex
  exact pe_callG F (hr.mono hk) hg hm kp b ha hdb he hpl
end
/-! ### texts -/
theorem atI_all {α : Type} {P : α → Prop} {l : List α} (h : ∀ c ∈ l, P c) {k : Int} (h0 : 0 ≤ k) (h1 : k < l.length) : ∃ c, atI l k = some c ∧ P c := by
  have hk : k.toNat < l.length := by omega
  exact ⟨l[k.toNat], atI_of h0 (List.getElem?_eq_getElem hk), h _ (List.getElem_mem hk)⟩
theorem str_app (a b : Str) : (a ++ b).cps.toList = a.cps.toList ++ b.cps.toList := by
  show (a.cps ++ b.cps).toList = _
  rw [Array.toList_append]
theorem str_len (a : Str) : a.length = a.cps.toList.length := by
  show a.cps.size = _
  rw [Array.length_toList]
theorem cut_take (z : Str) (k : Int) (h : 0 ≤ k) : (cutS z none (some k)).cps.toList = z.cps.toList.take k.toNat := by
  obtain ⟨n, rfl⟩ := Int.eq_ofNat_of_zero_le h
  unfold cutS
  rw [HT.sIx_none, HT.sIx_nat, str_len]
  show ((z.cps.toList.drop 0).take (min n z.cps.toList.length - 0)).toArray.toList = _
  rw [List.drop_zero, Nat.sub_zero, List.toList_toArray, Int.toNat_natCast, ← List.take_eq_take_min]
theorem name_take {z : Str} {l : List Nat} {n : Nat} (e : z.cps.toList = l.take n) (hn : 0 < n) (hn2 : n ≤ 16) (hl : 0 < l.length) (ho : (l.take n).length ≤ 3 ∨ (l.take n).length = 16) (h1 : ∀ c, l[0]? = some c → smallC c) (h2 : ∀ c ∈ l, signC c) : NameOk z := by
  refine ⟨?_, ?_, fun c hc => ?_, fun c hc => ?_, by rw [e]; exact ho⟩
  · rw [e, List.length_take]; omega
  · rw [e, List.length_take]; omega
  · rw [e, List.getElem?_take, if_pos hn] at hc
    exact h1 c hc
  · rw [e] at hc
    exact h2 c (List.mem_of_mem_take hc)
end Lw
namespace Lw
open PySem PySem.Spec L2
section
variable {K : PySem.W.Frag} {H : Hp} {l : Addr} {xs : List V} {y : V} {Q : VK} {R : Prop}
theorem d_tyL (h : H l = some (.lst xs)) (q : R) : tyV K "list" (.ref l) H ∧ R := ⟨.inl ⟨rfl, _, sqL h⟩, q⟩
theorem d_app (h : H l = some (.lst xs)) (hl : xs.length < 1000000) (q : Q .non (upd H l (.lst (xs ++ [y])))) : rAppend (.ref l) [y] H Q := ⟨l, xs, y, rfl, rfl, h, smallL hl, q⟩
end
/-! ### symbols -/
theorem SymsAt.keep {H H' : Hp} {p : Addr} {zs : List (Str × Int)} (h : SymsAt H p zs) {l : List Addr} (k : Kp l H H') (hp : p ∉ l) (hl : ∀ a ∈ l, ∀ xs, H a ≠ some (.tup xs)) : SymsAt H' p zs := by
  obtain ⟨rs, e, el, hr⟩ := h.is
  exact ⟨⟨rs, k _ _ hp e, el, fun i r z a b => k.keepT hl _ _ (hr i r z a b)⟩, h.ok⟩
theorem SymsAt.tape {H H' : Hp} {t sc p : Addr} {ns : List Int} {zs : List (Str × Int)} (h : SymsAt H p zs) (T : TapeAt H t sc ns) (k : Kp [t] H H') (hp : p ≠ t) : SymsAt H' p zs :=
  h.keep k (fun z => by rcases List.mem_cons.mp z with z | z; exact hp z; cases z) (fun a ha xs e => by
    rcases List.mem_cons.mp ha with z | z
    · obtain ⟨⟨pl, pd, sd, h0, e2⟩, _, _⟩ := T
      rw [z, e2] at e; cases e
    · cases z)
theorem SymsAt.nil {H : Hp} {p : Addr} (h : H p = some (.lst [])) : SymsAt H p [] := ⟨⟨[], h, rfl, fun i r z a _ => by simp at a⟩, fun z hz => by cases hz⟩
theorem SymsAt.get {H : Hp} {p : Addr} {zs : List (Str × Int)} (h : SymsAt H p zs) {k : Int} (h0 : 0 ≤ k) (h1 : k < zs.length) :
    ∃ (xs : List V) (r : Addr) (z : Str) (n : Int), H p = some (.lst xs) ∧ xs.length = zs.length ∧ atI xs k = some (.ref r) ∧ H r = some (.tup [.str z, .int n]) ∧ NameOk z ∧ 0 ≤ n ∧ n ≤ 3 ∧ zs[k.toNat]? = some (z, n) := by
  obtain ⟨rs, e, el, hr⟩ := h.is
  have hk : k.toNat < rs.length := by omega
  have hz : k.toNat < zs.length := by omega
  have ok := h.ok _ (List.getElem_mem hz)
  exact ⟨_, rs[k.toNat], zs[k.toNat].1, zs[k.toNat].2, e, by rw [List.length_map, el], atI_of h0 (by rw [List.getElem?_map, List.getElem?_eq_getElem hk]; rfl),
    hr _ _ _ (List.getElem?_eq_getElem hk) (List.getElem?_eq_getElem hz), ok.1, ok.2.1, ok.2.2, List.getElem?_eq_getElem hz⟩
/-- a further symbol at the end -/
theorem SymsAt.push {H : Hp} {p r : Addr} {zs : List (Str × Int)} {xs : List V} {z : Str} {n : Int} (h : SymsAt H p zs) (e : H p = some (.lst xs)) (er : H r = some (.tup [.str z, .int n])) (hz : NameOk z) (h0 : 0 ≤ n) (h1 : n ≤ 3) :
    SymsAt (upd H p (.lst (xs ++ [.ref r]))) p (zs ++ [(z, n)]) := by
  obtain ⟨rs, e2, el, hr⟩ := h.is
  have ex : xs = rs.map V.ref := by rw [e] at e2; cases e2; rfl
  have nt : ∀ b ys, H b = some (.tup ys) → b ≠ p := fun b ys eb z => by rw [z, e] at eb; cases eb
  refine ⟨⟨rs ++ [r], by rw [upd_same, ex, List.map_append]; rfl, by rw [List.length_append, List.length_append, el]; rfl, fun i a y ea ey => ?_⟩, fun y hy => ?_⟩
  · by_cases hi : i < rs.length
    · rw [List.getElem?_append_left hi] at ea
      rw [List.getElem?_append_left (by omega)] at ey
      have q := hr i a y ea ey
      rw [upd_ne (nt _ _ q)]
      exact q
    · have hi2 : i = rs.length := by
        have := (List.getElem?_eq_some_iff.mp ea).1
        rw [List.length_append] at this
        simp at this
        omega
      subst hi2
      rw [List.getElem?_append_right (Nat.le_refl _), Nat.sub_self] at ea
      rw [el, List.getElem?_append_right (Nat.le_refl _), Nat.sub_self] at ey
      cases ea
      cases ey
      rw [upd_ne (nt _ _ er)]
      exact er
  · rcases List.mem_append.mp hy with hy | hy
    · exact h.ok y hy
    · rcases List.mem_cons.mp hy with rfl | hy
      · exact ⟨hz, h0, h1⟩
      · cases hy
end Lw
namespace Lw
open PySem PySem.Spec L2
/-! ### loops -/
def FrB (J : It) (g : TG) (tb : TS) (D : Ends) (σ : St) (H : Hp) : Prop := ∃ W : Nat → Nat → St → Hp → Prop, (∃ m, W 0 m σ H) ∧ ∀ i m σ H, W i m σ H →
  (J.stop i H ∧ D.nx σ H) ∨ (J.go i H ∧ ∃ N : St → Hp → Prop, (∀ σ' H', N σ' H' → ∃ m', m' < m ∧ W (i + 1) m' σ' H') ∧ ∀ x H', J.yld i H x H' → g x σ H' fun σ2 H2 => tb { D with nx := N, ct := N, bk := D.nx } σ2 H2)
theorem d_for {wi : TI} {g : TG} {tb : TS} {D : Ends} {σ : St} {H : Hp} (q : wi σ H fun J H1 => FrB J g tb D σ H1) : tFor wi g tb D σ H := q
theorem d_rng1 {ta : TA} {σ : St} {H : Hp} {R : It → Hp → Prop} (q : ta σ H fun vs H1 => ∃ j : Int, vs = [.int j] ∧ -(2 ^ 62) ≤ j ∧ j < 2 ^ 62 ∧ R (Itr 0 j.toNat) H1) : iRng1 ta σ H R := q
theorem d_rng2 {ta : TA} {σ : St} {H : Hp} {R : It → Hp → Prop} (q : ta σ H fun vs H1 => ∃ i j : Int, vs = [.int i, .int j] ∧ (-(2 ^ 62) ≤ i ∧ i < 2 ^ 62 ∧ -(2 ^ 62) ≤ j ∧ j < 2 ^ 62) ∧ R (Itr i (j - i).toNat) H1) : iRng2 ta σ H R := q
theorem d_ilist {K : PySem.W.Frag} {te : TE} {σ : St} {H : Hp} {R : It → Hp → Prop} (q : te σ H fun x H1 => ∃ a, x = .ref a ∧ (∃ xs, SqL K H1 a xs) ∧ R (Itl K a) H1) : iList K te σ H R := q
theorem d_itup {K : PySem.W.Frag} {te : TE} {σ : St} {H : Hp} {R : It → Hp → Prop} (q : te σ H fun x H1 => ∃ a, x = .ref a ∧ (∃ xs, SqT K H1 a xs) ∧ R (Itt K a) H1) : iTup K te σ H R := q
theorem fr_range {lo : Int} {n : Nat} {g : TG} {tb : TS} {D : Ends} {σ : St} {H : Hp} (Pv : Nat → St → Hp → Prop) (h0 : Pv 0 σ H)
    (hs : ∀ i σ H, i < n → Pv i σ H → g (.int (lo + i)) σ H fun σ2 H2 => tb { D with nx := Pv (i + 1), ct := Pv (i + 1), bk := D.nx } σ2 H2) (hd : ∀ σ H, Pv n σ H → D.nx σ H) : FrB (Itr lo n) g tb D σ H := for_range Pv h0 hs hd
theorem fr_list {K : PySem.W.Frag} {a : Addr} {xs : List V} {g : TG} {tb : TS} {D : Ends} {σ : St} {H : Hp} (Pv : Nat → St → Hp → Prop) (h0 : Pv 0 σ H) (hl : ∀ i σ H, i ≤ xs.length → Pv i σ H → SqL K H a xs)
    (hs : ∀ i x σ H, xs[i]? = some x → Pv i σ H → g x σ H fun σ2 H2 => tb { D with nx := Pv (i + 1), ct := Pv (i + 1), bk := D.nx } σ2 H2) (hd : ∀ σ H, Pv xs.length σ H → D.nx σ H) : FrB (Itl K a) g tb D σ H := for_list Pv h0 hl hs hd
theorem fr_tup {K : PySem.W.Frag} {a : Addr} {xs : List V} {g : TG} {tb : TS} {D : Ends} {σ : St} {H : Hp} (Pv : Nat → St → Hp → Prop) (h0 : Pv 0 σ H) (hl : ∀ i σ H, i ≤ xs.length → Pv i σ H → SqT K H a xs)
    (hs : ∀ i x σ H, xs[i]? = some x → Pv i σ H → g x σ H fun σ2 H2 => tb { D with nx := Pv (i + 1), ct := Pv (i + 1), bk := D.nx } σ2 H2) (hd : ∀ σ H, Pv xs.length σ H → D.nx σ H) : FrB (Itt K a) g tb D σ H := for_tup Pv h0 hl hs hd
/-! ### comprehensions -/
def LcB (J : It) (g : TG) (tt : TT) (te : TE) (vs : List Nat) (σ : St) (H1 : Hp) (D : Addr) (Qd : Hp → Prop) : Prop := ∃ W : Nat → Nat → Hp → Prop, (∃ m, W 0 m (upd H1 D (.lst []))) ∧ ∀ i m H, W i m H →
  (J.stop i H ∧ Qd H) ∨ (J.go i H ∧ ∃ Nx : Hp → Prop, (∀ H', Nx H' → ∃ m', m' < m ∧ W (i + 1) m' H') ∧ ∀ x H', J.yld i H x H' → g x (wipe σ vs) H' fun σ2 H2 => wipe σ2 vs = wipe σ vs ∧ tt σ2 H2 fun b H3 =>
    if b = true then te σ2 H3 fun y H4 => ∃ acc, H4 D = some (.lst acc) ∧ acc.length < sizeLine ∧ Nx (upd H4 D (.lst (acc ++ [y]))) else Nx H3)
theorem d_lc {wi : TI} {g : TG} {tt : TT} {te : TE} {vs : List Nat} {σ : St} {H : Hp} {Q : VK} (q : wi σ H fun J H1 => ∀ D, H1 D = none → LcB J g tt te vs σ H1 D fun H2 => Q (.ref D) H2) : tLc wi g tt te vs σ H Q := q
theorem lb_range {lo : Int} {n : Nat} {g : TG} {te : TE} {vs : List Nat} {σ : St} {H1 : Hp} {D : Addr} {Qd : Hp → Prop} (Pv : Nat → Hp → Prop) (h0 : Pv 0 (upd H1 D (.lst [])))
    (hs : ∀ i H, i < n → Pv i H → g (.int (lo + i)) (wipe σ vs) H fun σ2 H2 => wipe σ2 vs = wipe σ vs ∧ te σ2 H2 fun y H4 => ∃ acc, H4 D = some (.lst acc) ∧ acc.length < sizeLine ∧ Pv (i + 1) (upd H4 D (.lst (acc ++ [y])))) (hd : ∀ H, Pv n H → Qd H) :
    LcB (Itr lo n) g tYes te vs σ H1 D Qd := lc_range Pv h0 (fun i H hi p => hs i H hi p) hd
theorem lb_list {K : PySem.W.Frag} {a : Addr} {xs : List V} {g : TG} {te : TE} {vs : List Nat} {σ : St} {H1 : Hp} {D : Addr} {Qd : Hp → Prop} (Pv : Nat → Hp → Prop) (h0 : Pv 0 (upd H1 D (.lst []))) (hl : ∀ i H, i ≤ xs.length → Pv i H → SqL K H a xs)
    (hs : ∀ i x H, xs[i]? = some x → Pv i H → g x (wipe σ vs) H fun σ2 H2 => wipe σ2 vs = wipe σ vs ∧ te σ2 H2 fun y H4 => ∃ acc, H4 D = some (.lst acc) ∧ acc.length < sizeLine ∧ Pv (i + 1) (upd H4 D (.lst (acc ++ [y])))) (hd : ∀ H, Pv xs.length H → Qd H) :
    LcB (Itl K a) g tYes te vs σ H1 D Qd := lc_list Pv h0 hl (fun i x H hx p => hs i x H hx p) hd
theorem lb_tup {K : PySem.W.Frag} {a : Addr} {xs : List V} {g : TG} {te : TE} {vs : List Nat} {σ : St} {H1 : Hp} {D : Addr} {Qd : Hp → Prop} (Pv : Nat → Hp → Prop) (h0 : Pv 0 (upd H1 D (.lst []))) (hl : ∀ i H, i ≤ xs.length → Pv i H → SqT K H a xs)
    (hs : ∀ i x H, xs[i]? = some x → Pv i H → g x (wipe σ vs) H fun σ2 H2 => wipe σ2 vs = wipe σ vs ∧ te σ2 H2 fun y H4 => ∃ acc, H4 D = some (.lst acc) ∧ acc.length < sizeLine ∧ Pv (i + 1) (upd H4 D (.lst (acc ++ [y])))) (hd : ∀ H, Pv xs.length H → Qd H) :
    LcB (Itt K a) g tYes te vs σ H1 D Qd := lc_tup Pv h0 hl (fun i x H hx p => hs i x H hx p) hd
end Lw
namespace Lw
open PySem PySem.Spec L2
theorem fresh_of {H H1 : Hp} {t sc p : Addr} {ns : List Int} (k : Kp [t] H H1) (T : TapeAt H1 t sc ns) (hp : H1 p = none) : H p = none := by
  cases e : H p with
  | none => rfl
  | some o =>
    have e2 := k p o (fun z => by
      rcases List.mem_cons.mp z with z | z
      · exact T.t_some hp z.symm
      · cases z) e
    rw [hp] at e2
    cases e2
theorem kept_at {H H1 : Hp} {t p : Addr} {o : HO} (k : Kp [t] H H1) (h : p ≠ t) (e : H p = some o) : H1 p = some o := k p o (fun z => by
  rcases List.mem_cons.mp z with z | z
  · exact h z
  · cases z) e
end Lw

set_option maxRecDepth 100000
set_option maxHeartbeats 4000000
/-! drawn terms -/
namespace Lw
open PySem PySem.Spec L2
/-! ### calls with a named reading -/
section
variable {X : Cx} {K : PySem.W.Frag} {H : Hp} {Q : VK} {p : Addr} {ys : List V}
def rLenN (K : PySem.W.Frag) : List V → Hp → VK → Prop := fun xs H Q => ∃ p ys, xs = [.ref p] ∧ (SqL K H p ys ∨ SqT K H p ys) ∧ Q (.int ys.length) H
theorem c_len : CallR X (.builtin "len") (rLenN X.K) := call_len_seq
theorem d_lenL (h : H p = some (.lst ys)) (q : Q (.int ys.length) H) : rLenN K [.ref p] H Q := ⟨p, ys, rfl, .inl (sqL h), q⟩
theorem d_lenT (h : H p = some (.tup ys)) (q : Q (.int ys.length) H) : rLenN K [.ref p] H Q := ⟨p, ys, rfl, .inr (sqT h), q⟩
def rTupN (K : PySem.W.Frag) : List V → Hp → VK → Prop := fun xs H Q => ∃ p ys, xs = [.ref p] ∧ ((SqL K H p ys ∧ ∀ l, H l = none → Q (.ref l) (upd H l (.tup ys))) ∨ (SqT K H p ys ∧ Q (.ref p) H))
theorem c_tup : CallR X (.type "tuple") (rTupN X.K) := call_tuple_of
theorem d_tupL (h : H p = some (.lst ys)) (q : ∀ l, H l = none → Q (.ref l) (upd H l (.tup ys))) : rTupN K [.ref p] H Q := ⟨p, ys, rfl, .inl ⟨sqL h, q⟩⟩
theorem d_catT {a b : Addr} {xs ys : List V} (ha : H a = some (.tup xs)) (hb : H b = some (.tup ys)) (hx : xs ≠ []) (hz : xs.length + ys.length ≤ 1000000) (q1 : ys = [] → Q (.ref a) H) (q2 : ys ≠ [] → ∀ p, H p = none → Q (.ref p) (upd H p (.tup (xs ++ ys)))) :
    rCatT K (.ref a) (.ref b) H Q := ⟨a, b, xs, ys, rfl, rfl, sqT ha, sqT hb, hx, smallN hz, q1, q2⟩
end
/-- a term that may be drawn with the symbols and the variables; d: one less than the depth that is left -/
inductive Gen (zs : List (Str × Int)) (vars : List Tm) : Nat → Tm → Prop where
  | var {d : Nat} {t : Tm} (h : t ∈ vars) : Gen zs vars d t
  | leaf {z : Str} {n : Int} (h : (z, n) ∈ zs) : Gen zs vars 0 (.app z [])
  | app {d : Nat} {z : Str} {n : Int} {ts : List Tm} (h : (z, n) ∈ zs) (hl : ts.length = n.toNat) (hs : ∀ u ∈ ts, Gen zs vars d u) : Gen zs vars (d + 1) (.app z ts)
theorem Gen.depth {zs : List (Str × Int)} {vars : List Tm} {b : Nat} (hv : ∀ t ∈ vars, t.depth ≤ b) (hb : 1 ≤ b) {d : Nat} {t : Tm} (h : Gen zs vars d t) : t.depth ≤ d + b := by
  induction h with
  | var h => have := hv _ h; omega
  | leaf h => rw [Tm.depth_app, Tm.depths_nil]; omega
  | app h hl hs ih =>
    rw [Tm.depth_app]
    have := Tm.depths_le (d := _) ih
    omega
theorem Tm.sizes_le {ts : List Tm} {m : Nat} (h : ∀ t ∈ ts, t.size ≤ m) : Tm.sizes ts ≤ ts.length * m := by
  induction ts with
  | nil => rw [Tm.sizes_nil]; exact Nat.zero_le _
  | cons t r ih =>
    rw [Tm.sizes_cons, List.length_cons, Nat.succ_mul]
    have h1 := h t List.mem_cons_self
    have h2 := ih fun u hu => h u (List.mem_cons_of_mem _ hu)
    omega
/-- how great a drawn term may be: at most three arguments -/
def genMax (m : Nat) : Nat → Nat
  | 0 => m
  | d + 1 => 1 + 3 * genMax m d
theorem genMax_ge (m d : Nat) : m ≤ genMax m d := by
  induction d with
  | zero => exact Nat.le_refl _
  | succ d ih => show m ≤ 1 + 3 * genMax m d; omega
theorem Gen.size {zs : List (Str × Int)} {vars : List Tm} {m : Nat} (hz : ∀ z ∈ zs, z.2 ≤ 3) (hv : ∀ t ∈ vars, t.size ≤ m) (hm : 1 ≤ m) {d : Nat} {t : Tm} (h : Gen zs vars d t) : t.size ≤ genMax m d := by
  induction h with
  | var h => exact Nat.le_trans (hv _ h) (genMax_ge m _)
  | leaf h => rw [Tm.size_app, Tm.sizes_nil]; exact hm
  | @app d z n ts h hl hs ih =>
    rw [Tm.size_app]
    have h1 := Tm.sizes_le ih
    have h2 : ts.length ≤ 3 := by have := hz _ h; simp only at this; omega
    have h3 : ts.length * genMax m d ≤ 3 * genMax m d := Nat.mul_le_mul_right _ h2
    show 1 + Tm.sizes ts ≤ 1 + 3 * genMax m d
    omega
structure VarsAt (H : Hp) (a : Addr) (vars : List Tm) : Prop where
  is : ∃ ws : List V, H a = some (.lst ws) ∧ Ats H ws vars
theorem VarsAt.keep {H H' : Hp} {p : Addr} {vars : List Tm} (h : VarsAt H p vars) {l : List Addr} (k : Kp l H H') (hp : p ∉ l) (hl : ∀ a ∈ l, ∀ xs, H a ≠ some (.tup xs)) : VarsAt H' p vars := by
  obtain ⟨ws, e, a⟩ := h.is
  exact ⟨ws, k _ _ hp e, a.keep (k.keepT hl)⟩
theorem TapeAt.not_tup {H : Hp} {t sc : Addr} {ns : List Int} (T : TapeAt H t sc ns) (xs : List V) : H t ≠ some (.tup xs) := by
  obtain ⟨⟨pl, pd, sd, h0, e2⟩, _, _⟩ := T
  rw [e2]
  intro z
  cases z
theorem one_not {a t : Addr} (h : a ≠ t) : a ∉ [t] := fun z => by
  rcases List.mem_cons.mp z with z | z
  · exact h z
  · cases z
theorem VarsAt.tape {H H' : Hp} {t sc p : Addr} {ns : List Int} {vars : List Tm} (h : VarsAt H p vars) (T : TapeAt H t sc ns) (k : Kp [t] H H') (hp : p ≠ t) : VarsAt H' p vars :=
  h.keep k (one_not hp) (fun a ha xs e => by
    rcases List.mem_cons.mp ha with z | z
    · exact T.not_tup xs (z ▸ e)
    · cases z)
theorem VarsAt.ne {H : Hp} {t sc p : Addr} {ns : List Int} {vars : List Tm} (h : VarsAt H p vars) (T : TapeAt H t sc ns) : p ≠ t := by
  obtain ⟨ws, e, a⟩ := h.is
  obtain ⟨⟨pl, pd, sd, h0, e2⟩, e3, _⟩ := T
  intro z
  rw [z, e2] at e
  cases e
  cases vars with
  | nil => have := a.len; simp at this
  | cons x r =>
    have := a.head
    obtain ⟨n, vs, ts, _, q, _⟩ := this.app_ats
    rw [e3] at q
    cases q
theorem SymsAt.ne {H : Hp} {t sc p : Addr} {ns : List Int} {zs : List (Str × Int)} (h : SymsAt H p zs) (T : TapeAt H t sc ns) : p ≠ t := by
  obtain ⟨rs, e, _, _⟩ := h.is
  obtain ⟨⟨pl, pd, sd, h0, e2⟩, e3, _⟩ := T
  intro z
  rw [z, e2] at e
  have e4 : [V.ref sc, V.int pl, V.int pd, V.int sd] = rs.map V.ref := HO.lst.inj (Option.some.inj e)
  cases rs with
  | nil => cases e4
  | cons x r =>
    cases r with
    | nil => cases e4
    | cons y r => rw [List.map_cons, List.map_cons] at e4; injection e4 with _ e5; injection e5 with e6 _; cases e6
def spTerm (d : Nat) : Sp := fun vs H Q _ => ∃ (t sc sy va : Addr) (ns : List Int) (zs : List (Str × Int)) (vars : List Tm), vs = [.ref t, .ref sy, .ref va, .int ((d : Int) + 1)] ∧ TapeAt H t sc ns ∧ SymsAt H sy zs ∧ 1 ≤ zs.length ∧ zs.length ≤ 100000 ∧
  VarsAt H va vars ∧ vars.length ≤ 100000 ∧ ∀ (H' : Hp) (v : V) (tm : Tm), Kp [t] H H' → TapeAt H' t sc ns → At H' v tm → Gen zs vars d tm → Q v H'
def spNone : Sp := fun _ _ _ _ => False
end Lw

set_option maxRecDepth 100000
set_option maxHeartbeats 4000000
/-! isinstance, sizes, depths, occurrences -/
namespace Lw
open PySem PySem.Spec L2
section
variable {X : Cx} {K : PySem.W.Frag} {H : Hp} {Q : VK} {a : Addr} {xs : List V}
theorem k_ii : kitB "int" "int" = some true := by decide +kernel
theorem k_ti : kitB "tuple" "int" = some false := by decide +kernel
theorem k_tt : kitB "tuple" "tuple" = some true := by decide +kernel
theorem k_it : kitB "int" "tuple" = some false := by decide +kernel
theorem k_nt : kitB "NoneType" "tuple" = some false := by decide +kernel
theorem k_ni : kitB "NoneType" "int" = some false := by decide +kernel
theorem d_isII {i : Int} (q : Q (.bl true) H) : rIsi K [.int i, .ty "int"] H Q := ⟨_, _, _, _, true, rfl, .ty _, .base (.int i), kit_ty k_ii, q⟩
theorem d_isIT {i : Int} (q : Q (.bl false) H) : rIsi K [.int i, .ty "tuple"] H Q := ⟨_, _, _, _, false, rfl, .ty _, .base (.int i), kit_ty k_it, q⟩
theorem d_isTI (h : H a = some (.tup xs)) (q : Q (.bl false) H) : rIsi K [.ref a, .ty "int"] H Q := ⟨_, _, _, _, false, rfl, .ty _, .base (.tup h), kit_ty k_ti, q⟩
theorem d_isTT (h : H a = some (.tup xs)) (q : Q (.bl true) H) : rIsi K [.ref a, .ty "tuple"] H Q := ⟨_, _, _, _, true, rfl, .ty _, .base (.tup h), kit_ty k_tt, q⟩
theorem d_isNT (q : Q (.bl false) H) : rIsi K [.non, .ty "tuple"] H Q := ⟨_, _, _, _, false, rfl, .ty _, .base .non, kit_ty k_nt, q⟩
theorem d_isNI (q : Q (.bl false) H) : rIsi K [.non, .ty "int"] H Q := ⟨_, _, _, _, false, rfl, .ty _, .base .non, kit_ty k_ni, q⟩
/-- truth of a list, as a test -/
def rTru (K : PySem.W.Frag) (x : V) (H : Hp) (Q : Bool → Hp → Prop) : Prop := ∃ k, TruV K x H k ∧ Q k H
def tTru (K : PySem.W.Frag) (ta : TE) : TT := fun σ H Q => ta σ H fun x H1 => rTru K x H1 Q
theorem p_tru {a : Expr} {ta : TE} (ha : PE X a ta) (he : ∀ whole, isTrue a X.env whole = (do let v ← whole; standAt a.pos; holding [v] (truthy v)) := by intro _; rfl) : PT X a (tTru X.K ta) := pt_truth ha he
theorem d_tru {ta : TE} {σ : St} {Q : Bool → Hp → Prop} (q : ta σ H fun x H1 => rTru K x H1 Q) : tTru K ta σ H Q := q
theorem d_truL {Q : Bool → Hp → Prop} (h : H a = some (.lst xs)) (q : Q (!xs.isEmpty) H) : rTru K (.ref a) H Q := ⟨_, .inl ⟨xs, sqL h, rfl⟩, q⟩
theorem d_popL {ys : List V} {y : V} (h : H a = some (.lst (ys ++ [y]))) (q : Q y (upd H a (.lst ys))) : rPop (.ref a) [] H Q :=
  ⟨a, _, y, rfl, rfl, h, by rw [List.length_append]; show (ys ++ [y])[ys.length + 1 - 1]? = _; rw [Nat.add_sub_cancel, List.getElem?_append_right (Nat.le_refl _), Nat.sub_self]; rfl, by rw [List.dropLast_concat]; exact q⟩
theorem d_extT {zs : List V} {b : Addr} (h : H a = some (.lst xs)) (hb : H b = some (.tup zs)) (hz : xs.length + zs.length ≤ 1000000) (q : Q .non (upd H a (.lst (xs ++ zs)))) : rExtT K (.ref a) [.ref b] H Q := ⟨a, b, xs, zs, rfl, rfl, h, sqT hb, hz, q⟩
theorem d_down {te : TE} {σ : St} (q : te σ H fun x H1 => ∃ a y xs, x = .ref a ∧ SqT K H1 a (y :: xs) ∧ ∀ p, H1 p = none → Q (.ref p) (upd H1 p (.tup xs.reverse))) : tDownT K te σ H Q := q
theorem d_while {c : TT} {tb : TS} {D : Ends} {σ : St} {m0 : Nat} (W : Nat → St → Hp → Prop) (h0 : W m0 σ H)
    (hs : ∀ m σ H, W m σ H → c σ H fun b H1 => if b = true then ∃ N : St → Hp → Prop, (∀ σ' H', N σ' H' → ∃ m', m' < m ∧ W m' σ' H') ∧ tb { D with nx := N, ct := N, bk := D.nx } σ H1 else D.nx σ H1) : tWhile c tb D σ H := ⟨W, ⟨m0, h0⟩, hs⟩
end
/-- a slice t[1:] of a tuple, a new one -/
theorem d_slT1 {K : PySem.W.Frag} {H : Hp} {Q : VK} {a : Addr} {y : V} {xs : List V} (h : H a = some (.tup (y :: xs))) (q : ∀ p, H p = none → Q (.ref p) (upd H p (.tup xs))) : rSlT K (.ref a) (some 1) none H Q := by
  have e1 : HT.sIx (y :: xs).length 0 (some 1) = 1 := by
    rw [show (1 : Int) = ((1 : Nat) : Int) from rfl, HT.sIx_nat, List.length_cons]; omega
  have e : cutV (y :: xs) (some 1) none = xs := by
    unfold cutV
    rw [e1, HT.sIx_none, List.length_cons, Nat.add_sub_cancel]
    show xs.take xs.length = xs
    exact List.take_length
  refine ⟨a, _, rfl, sqT h, fun z => ?_, fun p hp => ?_⟩
  · rw [e1] at z
    exact absurd z.1 (by decide)
  · rw [e]
    exact q p hp
def spOcc : Sp := fun vs H Q _ => ∃ (v : V) (tm : Tm), vs = [v] ∧ At H v tm ∧ tm.size ≤ 100000 ∧ ∀ (H' : Hp) (p : Addr) (fs : List V), Kp [] H H' → H p = none → H' p = some (.lst fs) → Ats H' fs tm.occ → Q (.ref p) H'
def spSize : Sp := fun vs H Q _ => ∃ (v : V) (tm : Tm), vs = [v] ∧ At H v tm ∧ tm.size ≤ 100000 ∧ ∀ (H' : Hp), Kp [] H H' → Q (.int tm.size) H'
/-- .. for terms of at most this depth -/
def spSizeD (d : Nat) : Sp := fun vs H Q _ => ∃ (v : V) (tm : Tm), vs = [v] ∧ At H v tm ∧ tm.size ≤ 100000 ∧ tm.depth ≤ d ∧ ∀ (H' : Hp), Kp [] H H' → Q (.int tm.size) H'
def spDepthD (d : Nat) : Sp := fun vs H Q _ => ∃ (v : V) (tm : Tm), vs = [v] ∧ At H v tm ∧ tm.size ≤ 100000 ∧ tm.depth ≤ d ∧ ∀ (H' : Hp), Kp [] H H' → Q (.int tm.depth) H'
theorem At.int {H : Hp} {v : V} {tm : Tm} (h : At H v tm) : (∃ i, v = .int i ∧ tm = .var i) ∨ ∃ a n vs ts, v = .ref a ∧ tm = .app n ts ∧ H a = some (.tup (.str n :: vs)) ∧ Ats H vs ts := by
  cases h with
  | var i => exact .inl ⟨i, rfl, rfl⟩
  | app e hl hs => exact .inr ⟨_, _, _, _, rfl, rfl, e, hl, hs⟩
end Lw
namespace Lw
open PySem PySem.Spec L2
/-- the last one apart -/
theorem Ats.snoc {H : Hp} {ws : List V} {wt : List Tm} (h : Ats H ws wt) (hn : ws ≠ []) : ∃ ys y us u, ws = ys ++ [y] ∧ wt = us ++ [u] ∧ Ats H ys us ∧ At H y u := by
  have hw : wt ≠ [] := fun z => hn (by have := h.len; rw [z] at this; exact List.length_eq_zero_iff.mp this)
  refine ⟨ws.dropLast, ws.getLast hn, wt.dropLast, wt.getLast hw, (List.dropLast_concat_getLast hn).symm, (List.dropLast_concat_getLast hw).symm, ?_, ?_⟩
  · rw [List.dropLast_eq_take, List.dropLast_eq_take, h.len]
    exact h.take _
  · refine h.at' (ws.length - 1) _ _ ?_ ?_
    · rw [List.getLast_eq_getElem hn, List.getElem?_eq_getElem]
    · rw [List.getLast_eq_getElem hw, h.len, List.getElem?_eq_getElem]
theorem Kp.ats {l : List Addr} {H H' : Hp} {vs : List V} {ts : List Tm} (k : Kp l H H') (hl : ∀ a ∈ l, ∀ xs, H a ≠ some (.tup xs)) (h : Ats H vs ts) : Ats H' vs ts := h.keep (k.keepT hl)
theorem no_tup {H : Hp} {a : Addr} {xs : List V} (h : H a = some (.lst xs)) : ∀ ys, H a ≠ some (.tup ys) := fun ys e => by rw [h] at e; cases e
theorem no_tup1 {H : Hp} {a : Addr} {xs : List V} (h : H a = some (.lst xs)) : ∀ b ∈ [a], ∀ ys, H b ≠ some (.tup ys) := fun b hb ys => by
  rcases List.mem_cons.mp hb with z | z
  · rw [z]; exact no_tup h ys
  · cases z
end Lw
namespace Lw
open PySem PySem.Spec L2
theorem depths_max : ∀ (ts : List Tm) (m : Int), ((ts.map fun t => (t.depth : Int)) = [] ∧ m = 0) ∨ (m ∈ (ts.map fun t => (t.depth : Int)) ∧ ∀ a, a ∈ (ts.map fun t => (t.depth : Int)) → a ≤ m) → m = (Tm.depths ts : Int)
  | ts, m, .inl ⟨h, e⟩ => by
    have z : ts = [] := List.map_eq_nil_iff.mp h
    rw [z, Tm.depths_nil, e]; rfl
  | ts, m, .inr ⟨h, hm⟩ => by
    obtain ⟨t, ht, e⟩ := List.mem_map.mp h
    have h1 := Tm.depth_mem ht
    have h2 : Tm.depths ts ≤ m.toNat := Tm.depths_le fun u hu => by
      have := hm _ (List.mem_map.mpr ⟨u, hu, rfl⟩)
      omega
    omega
theorem sizes_sum : ∀ ts : List Tm, (ts.map fun t => (t.size : Int)).sum = (Tm.sizes ts : Int)
  | [] => by rw [Tm.sizes_nil]; rfl
  | t :: r => by
    rw [List.map_cons, List.sum_cons, sizes_sum r, Tm.sizes_cons]
    omega
theorem d_maxD {K : PySem.W.Frag} {H : Hp} {Q : VK} {a : Addr} {ns : List Int} {d : Int} (h : H a = some (.lst (ns.map V.int))) (q : ∀ m : Int, ((ns = [] ∧ m = d) ∨ (m ∈ ns ∧ ∀ a, a ∈ ns → a ≤ m)) → Q (.int m) H) : rMaxD K [.ref a] [.int d] H Q := ⟨a, ns, d, rfl, rfl, sqL h, q⟩
theorem d_sum {K : PySem.W.Frag} {H : Hp} {Q : VK} {a : Addr} {ns : List Int} (h : H a = some (.lst (ns.map V.int))) (q : Q (.int ns.sum) H) : rSum K [.ref a] H Q := ⟨a, ns, rfl, sqL h, q⟩
theorem take_map_int {α : Type} (f : α → Int) (ts : List α) (i : Nat) (t : α) (h : ts[i]? = some t) : ((ts.take i).map f).map V.int ++ [V.int (f t)] = ((ts.take (i + 1)).map f).map V.int := by
  rw [List.take_add_one, h, List.map_append, List.map_append]
  rfl
end Lw
namespace Lw
open PySem PySem.Spec L2
/-- [f(x) for x in t], f handing back an int -/
theorem lb_call {α : Type} {AtR : Hp → V → α → Prop} {K : PySem.W.Frag} {r : Addr} {vs : List V} {ts : List α} {σ : St} {i : Nat} {B : Hp} {D : Addr} {Qd : Hp → Prop} {sp : Sp} (f : α → Int) (hi : i < σ.length) (hD : B D = none) (er : B r = some (.tup vs)) (hn : vs.length ≤ 100000) (hl : vs.length = ts.length)
    (at' : ∀ (j : Nat) v t H', vs[j]? = some v → ts[j]? = some t → Kp [D] B H' → H' D ≠ none → (∀ xs, H' D ≠ some (.tup xs)) → AtR H' v t)
    (call : ∀ v t H' (Q : VK) E, t ∈ ts → AtR H' v t → (∀ H'', Kp [] H' H'' → Q (.int (f t)) H'') → sp [v] H' Q E) (hd : ∀ H', Kp [D] B H' → H' D = some (.lst ((ts.map f).map V.int)) → Qd H') :
    LcB (Itt K r) (gName i) tYes (tCall sp [] E0 (tCons (tVar i) tNil)) [i] σ B D Qd := by
  have nr : r ≠ D := ne_of_none er hD
  have nr1 : r ∉ [D] := fun z => by rcases List.mem_cons.mp z with z | z; exact nr z; cases z
  refine lb_tup (xs := vs) (fun j H' => Kp [D] B H' ∧ H' D = some (.lst (((ts.take j).map f).map V.int))) ⟨Kp.new hD, upd_same⟩ (fun j H' _ h => sqT (h.1 r _ nr1 er)) (fun j v H' hv h => ?_) (fun H' h => ?_)
  · obtain ⟨kB, eD⟩ := h
    have hj : j < vs.length := (List.getElem?_eq_some_iff.mp hv).1
    have ht : ts[j]? = some ts[j] := List.getElem?_eq_getElem (by omega)
    have a1 := at' j v _ H' hv ht kB (by rw [eD]; intro z; cases z) (fun xs z => by rw [eD] at z; cases z)
    show wipe (List.set (wipe σ [i]) i (some v)) [i] = wipe σ [i] ∧ _
    refine ⟨?_, ?_⟩
    · show ((σ.set i none).set i (some v)).set i none = σ.set i none
      rw [List.set_set, List.set_set]
    refine d_call (d_cons ?_)
    refine d_var (v := v) ?_ ?_
    · show ((σ.set i none).set i (some v))[i]? = _
      rw [List.getElem?_set_self (by rw [List.length_set]; exact hi)]
    refine d_nil ?_
    refine call v ts[j] H' _ _ (List.getElem_mem _) a1 (fun H2 k2 => ?_)
    have eD2 := k2 _ _ (by simp) eD
    refine ⟨_, eD2, smallL (by rw [List.length_map, List.length_map, List.length_take]; omega), (kB.trans (k2.mono (by simp))).trans (Kp.put (by simp)), ?_⟩
    rw [upd_same, take_map_int f ts j _ ht]
  · obtain ⟨kB, eD⟩ := h
    rw [List.take_of_length_le (by omega)] at eD
    exact hd H' kB eD
end Lw
namespace Lw
open PySem L2
theorem no_tup0 {H : Hp} {a : Addr} (h : H a = none) : ∀ b ∈ [a], ∀ ys, H b ≠ some (.tup ys) := fun b hb ys e => by
  rcases List.mem_cons.mp hb with z | z
  · rw [z, h] at e; cases e
  · cases z
end Lw
namespace Lw
theorem Tm.depths_append : ∀ a b : List Tm, Tm.depths (a ++ b) = max (Tm.depths a) (Tm.depths b)
  | [], b => by rw [List.nil_append, Tm.depths_nil]; omega
  | t :: a, b => by rw [List.cons_append, Tm.depths_cons, Tm.depths_cons, Tm.depths_append a b]; omega
end Lw
namespace Lw
open PySem PySem.Spec L2
theorem d_cut {t u : TS} {D : Ends} {σ : St} {H : Hp} (Mid : St → Hp → Prop) (h : t { D with nx := Mid } σ H) (q : ∀ σ' H', Mid σ' H' → u D σ' H') : C8.tCut t u D σ H := ⟨Mid, h, q⟩
/-- told and due are one int -/
def spAlikeI : Sp := fun vs H Q _ => ∃ i : Int, vs = [.int i, .int i] ∧ i.natAbs < 2 ^ 64 ∧ ∀ H', Kp [] H H' → Q (.bl true) H'
def spTermLe (m : Nat) : Sp := fun vs H Q E => ∃ d, d ≤ m ∧ spTerm d vs H Q E
theorem log_small {i : Int} (h : i.natAbs < 2 ^ 64) : i.natAbs.log2 < 1920 := by
  by_cases z : i.natAbs = 0
  · rw [z]; decide
  · have := (Nat.log2_lt z).mpr h
    omega
end Lw
namespace Lw
open PySem PySem.Spec L2
def rReprI : List V → Hp → VK → Prop := fun xs H Q => ∃ i, xs = [.int i] ∧ i.natAbs.log2 < 1920 ∧ Q (.str (toString i)) H
theorem c_reprI {X : Cx} : CallR X (.builtin "repr") rReprI := SkE.call_repr_int
theorem d_reprI {i : Int} {H : Hp} {Q : VK} (h : i.natAbs.log2 < 1920) (q : Q (.str (toString i)) H) : rReprI [.int i] H Q := ⟨i, rfl, h, q⟩
end Lw
namespace Lw
open PySem PySem.Spec L2
/-- what the law's own draws lean on -/
structure Dw (H : Hp) (t sc sy va : Addr) (ns : List Int) (zs : List (Str × Int)) (vars : List Tm) : Prop where
  tp : TapeAt H t sc ns
  sy : SymsAt H sy zs
  va : VarsAt H va vars
theorem Dw.tape {H H' : Hp} {t sc sy va : Addr} {ns : List Int} {zs : List (Str × Int)} {vars : List Tm} (h : Dw H t sc sy va ns zs vars) (k : Kp [t] H H') (T : TapeAt H' t sc ns) : Dw H' t sc sy va ns zs vars :=
  ⟨T, h.sy.tape h.tp k (h.sy.ne h.tp), h.va.tape h.tp k (h.va.ne h.tp)⟩
theorem Dw.nil {H H' : Hp} {t sc sy va : Addr} {ns : List Int} {zs : List (Str × Int)} {vars : List Tm} (h : Dw H t sc sy va ns zs vars) (k : Kp [] H H') : Dw H' t sc sy va ns zs vars :=
  h.tape (k.mono (by simp)) (h.tp.nil k)
theorem At.nil {H H' : Hp} {v : V} {tm : Tm} (h : At H v tm) (k : Kp [] H H') : At H' v tm := h.keep (k.keepT (by simp))
theorem At.tape {H H' : Hp} {v : V} {tm : Tm} {t sc : Addr} {ns : List Int} (h : At H v tm) (k : Kp [t] H H') (T : TapeAt H t sc ns) : At H' v tm := h.keep (T.keepT k)
theorem cutV_take (xs : List V) (n : Int) (h : 0 ≤ n) : cutV xs none (some n) = xs.take n.toNat := by
  obtain ⟨m, rfl⟩ := Int.eq_ofNat_of_zero_le h
  unfold cutV
  rw [HT.sIx_none, HT.sIx_nat]
  show ((xs.drop 0).take (min m xs.length - 0)) = _
  rw [List.drop_zero, Nat.sub_zero, Int.toNat_natCast, ← List.take_eq_take_min]
theorem ats_ints {H : Hp} : ∀ is : List Int, Ats H (is.map V.int) (is.map Tm.var)
  | [] => .nil
  | i :: r => .cons (.var i) (ats_ints r)
theorem d_slL {K : PySem.W.Frag} {H : Hp} {Q : VK} {a : Addr} {xs : List V} {lo hi : Option Int} (h : H a = some (.lst xs)) (q : ∀ p, H p = none → Q (.ref p) (upd H p (.lst (cutV xs lo hi)))) : rSlL K (.ref a) lo hi H Q := ⟨a, xs, rfl, sqL h, q⟩
theorem Dw.sym0 {H : Hp} {t sc sy va : Addr} {ns : List Int} {zs : List (Str × Int)} {vars : List Tm} (h : Dw H t sc sy va ns zs vars) {k : Int} (h0 : 0 ≤ k) (h1 : k < zs.length) :
    ∃ (xs : List V) (r : Addr) (z : Str) (n : Int), H sy = some (.lst xs) ∧ xs.length = zs.length ∧ atI xs k = some (.ref r) ∧ H r = some (.tup [.str z, .int n]) ∧ NameOk z := by
  obtain ⟨xs, r, z, n, a, b, c, d, e, _⟩ := h.sy.get h0 h1
  exact ⟨xs, r, z, n, a, b, c, d, e⟩
/-- [draw(..) for k in range(n)]: drawn terms -/
theorem lb_terms {t sc sy va : Addr} {ns : List Int} {zs : List (Str × Int)} {vars : List Tm} {σ : St} {i m d : Nat} {n : Nat} {B : Hp} {D : Addr} {Qd : Hp → Prop} {te : TE} (hD : B D = none) (W : Dw B t sc sy va ns zs vars) (z1 : 1 ≤ zs.length) (z2 : zs.length ≤ 100000) (v2 : vars.length ≤ 100000) (hn : n ≤ 100000)
    (hte : ∀ j H' (Q : VK), spTermLe m [.ref t, .ref sy, .ref va, .int ((d : Int) + 1)] H' Q E0 → te (((wipe σ [i]).set i (some (.int (0 + (j : Nat)))))) H' Q) (hd0 : d ≤ m)
    (hd : ∀ H' vs ts, Kp [D, t] B H' → H' D = some (.lst vs) → Ats H' vs ts → ts.length = n → (∀ u ∈ ts, Gen zs vars d u) → Dw H' t sc sy va ns zs vars → Qd H') :
    LcB (Itr 0 n) (gName i) tYes te [i] σ B D Qd := by
  have nD1 : D ≠ t := fun z => W.tp.t_some hD z.symm
  have nD2 : D ≠ sc := fun z => W.tp.s_some hD z.symm
  have nD3 : D ≠ sy := fun z => by obtain ⟨_, q1, _⟩ := W.sy.is; exact ne_of_none q1 hD z.symm
  have nD4 : D ≠ va := fun z => by obtain ⟨_, q1, _⟩ := W.va.is; exact ne_of_none q1 hD z.symm
  have i1 : ∀ {a : Addr}, D ≠ a → a ∉ [D] := fun h z => by rcases List.mem_cons.mp z with z | z; exact h z.symm; cases z
  refine lb_range (fun j H2 => ∃ vs ts, H2 D = some (.lst vs) ∧ Ats H2 vs ts ∧ ts.length = j ∧ (∀ u ∈ ts, Gen zs vars d u) ∧ Kp [D, t] B H2 ∧ Dw H2 t sc sy va ns zs vars)
    ⟨[], [], upd_same, .nil, rfl, (fun u hu => by cases hu), Kp.new hD, W.nil (Kp.new hD)⟩ (fun j H2 hj h2 => ?_) (fun H2 h2 => ?_)
  · obtain ⟨vs, ts, eD, aD, lD, gD, kD, W2⟩ := h2
    show wipe (List.set (wipe σ [i]) i (some (.int (0 + (j : Nat))))) [i] = wipe σ [i] ∧ _
    refine ⟨by show ((σ.set i none).set i _).set i none = σ.set i none; rw [List.set_set, List.set_set], ?_⟩
    refine hte j H2 _ ⟨d, hd0, t, sc, sy, va, ns, zs, vars, rfl, W2.tp, W2.sy, z1, z2, W2.va, v2, fun H4 v tm k4 T4 a4 g4 => ?_⟩
    have W4 := W2.tape k4 T4
    have eD4 := kept_at k4 nD1 eD
    have kd : Kp [D] H4 (upd H4 D (.lst (vs ++ [v]))) := Kp.put (by simp)
    refine ⟨vs, eD4, smallL (by rw [aD.len, lD]; omega), vs ++ [v], ts ++ [tm], upd_same, ?_, by rw [List.length_append, lD]; rfl, fun u hu => ?_, ?_, ?_⟩
    · exact kd.ats (no_tup1 eD4) ((aD.keep (W2.tp.keepT k4)).append (.one a4))
    · rcases List.mem_append.mp hu with hu | hu
      · exact gD u hu
      · rcases List.mem_cons.mp hu with rfl | hu
        · exact g4
        · cases hu
    · exact (kD.trans (k4.mono fun b hb => List.mem_cons_of_mem _ hb)).trans (Kp.put (by simp))
    · exact ⟨T4.keep kd (i1 nD1) (i1 nD2), W4.sy.keep kd (i1 nD3) (no_tup1 eD4), W4.va.keep kd (i1 nD4) (no_tup1 eD4)⟩
  · obtain ⟨vs, ts, eD, aD, lD, gD, kD, W2⟩ := h2
    exact hd H2 vs ts kD eD aD lD gD W2
end Lw
namespace Lw
open PySem PySem.Spec L2
theorem df_mk {K : PySem.W.Frag} {h : Heap} {mg : Str → Option Value} {x : Str} {st : Stmt} {ps : List Str} (X : K.In h) (G : h.Ns PySem.mainGlobals mg) {f : Addr} {oc : Value} {od an : Option Addr} {osl : Array (Option Value)} {kV doc pm cdv ct : Value}
    (a : PySem.W.nsIn K PySem.mainGlobals x = some (some (.ref f))) (l : K.lookup f = some ⟨oc, od, .func (PySem.W.fnOf x x (defArgs st) (defBody st) (defScope st) .none kV doc pm an cdv ct), osl⟩) (c : PySem.W.codeIn K cdv x = true) (kp : PySem.W.keepIn K (.ref f) = true)
    (b : ∀ (kV doc pm : Value) (an : Option Addr) (cdv ct : Value) (us : List Value), us.length = ps.length → bindArgs (PySem.W.fnOf x x (defArgs st) (defBody st) (defScope st) .none kV doc pm an cdv ct) ⟨us, []⟩ = pure (ps.zip us)) : Df K mg x st ps := by
  have F := fun_mk (st := st) l c kp
  exact ⟨f, _, F, PySem.W.mg_of X G a, F.binds b⟩
end Lw
namespace Lw
open PySem PySem.Spec L2
/-- [draw(..) for k in range(n)]: whatever each turn does, it draws and hands back a term that G holds of -/
theorem lb_gen {t sc sy : Addr} {ns : List Int} {zs : List (Str × Int)} {σ : St} {i : Nat} {n : Nat} {B : Hp} {D : Addr} {Qd : Hp → Prop} {te : TE} {α : Type} {AtR : Hp → List V → List α → Prop} (hD : B D = none) (T : TapeAt B t sc ns) (S : SymsAt B sy zs) (hn : n ≤ 100000)
    (G : α → Prop) (r0 : ∀ H, AtR H [] []) (rl : ∀ H vs ts, AtR H vs ts → vs.length = ts.length) (rk : ∀ H H' vs ts, KeepT H H' → AtR H vs ts → AtR H' vs ts)
    (hte : ∀ j H' (Q : VK), TapeAt H' t sc ns → SymsAt H' sy zs → (∀ H2 v a, Kp [t] H' H2 → TapeAt H2 t sc ns → (∀ vs ts, AtR H2 vs ts → AtR H2 (vs ++ [v]) (ts ++ [a])) → G a → Q v H2) → te (((wipe σ [i]).set i (some (.int (0 + (j : Nat)))))) H' Q)
    (hd : ∀ H' vs ts, Kp [D, t] B H' → H' D = some (.lst vs) → AtR H' vs ts → ts.length = n → (∀ u ∈ ts, G u) → TapeAt H' t sc ns → SymsAt H' sy zs → Qd H') :
    LcB (Itr 0 n) (gName i) tYes te [i] σ B D Qd := by
  have nD1 : D ≠ t := fun z => T.t_some hD z.symm
  have nD2 : D ≠ sc := fun z => T.s_some hD z.symm
  have nD3 : D ≠ sy := fun z => by obtain ⟨_, q1, _⟩ := S.is; exact ne_of_none q1 hD z.symm
  have i1 : ∀ {a : Addr}, D ≠ a → a ∉ [D] := fun h z => by rcases List.mem_cons.mp z with z | z; exact h z.symm; cases z
  refine lb_range (fun j H2 => ∃ vs ts, H2 D = some (.lst vs) ∧ AtR H2 vs ts ∧ ts.length = j ∧ (∀ u ∈ ts, G u) ∧ Kp [D, t] B H2 ∧ TapeAt H2 t sc ns ∧ SymsAt H2 sy zs)
    ⟨[], [], upd_same, r0 _, rfl, (fun u hu => by cases hu), Kp.new hD, T.nil (Kp.new hD), S.keep (l := []) (Kp.new hD) (by simp) (by simp)⟩ (fun j H2 hj h2 => ?_) (fun H2 h2 => ?_)
  · obtain ⟨vs, ts, eD, aD, lD, gD, kD, T2, S2⟩ := h2
    show wipe (List.set (wipe σ [i]) i (some (.int (0 + (j : Nat))))) [i] = wipe σ [i] ∧ _
    refine ⟨by show ((σ.set i none).set i _).set i none = σ.set i none; rw [List.set_set, List.set_set], ?_⟩
    refine hte j H2 _ T2 S2 (fun H4 v tm k4 T4 a4 g4 => ?_)
    have S4 := S2.tape T2 k4 (S2.ne T2)
    have eD4 := kept_at k4 nD1 eD
    have kd : Kp [D] H4 (upd H4 D (.lst (vs ++ [v]))) := Kp.put (by simp)
    refine ⟨vs, eD4, smallL (by rw [rl _ _ _ aD, lD]; omega), vs ++ [v], ts ++ [tm], upd_same, ?_, by rw [List.length_append, lD]; rfl, fun u hu => ?_, ?_, ?_, ?_⟩
    · exact rk _ _ _ _ (kd.keepT (no_tup1 eD4)) (a4 _ _ (rk _ _ _ _ (T2.keepT k4) aD))
    · rcases List.mem_append.mp hu with hu | hu
      · exact gD u hu
      · rcases List.mem_cons.mp hu with rfl | hu
        · exact g4
        · cases hu
    · exact (kD.trans (k4.mono fun b hb => List.mem_cons_of_mem _ hb)).trans (Kp.put (by simp))
    · exact T4.keep kd (i1 nD1) (i1 nD2)
    · exact S4.keep kd (i1 nD3) (no_tup1 eD4)
  · obtain ⟨vs, ts, eD, aD, lD, gD, kD, T2, S2⟩ := h2
    exact hd H2 vs ts kD eD aD lD gD T2 S2
end Lw

set_option maxRecDepth 100000
set_option maxHeartbeats 4000000
/-! repr and == of nested data -/
namespace Lw
open PySem PySem.Spec PyProof.Rows L2
/-- data whose repr fits -/
structure Good (d : PyData) : Prop where
  can : d.canLay0 = true
  dep : d.depth ≤ 62
  sh : d.showable = true
  ls : d.leavesShort 13 = true
  wt : d.weight ≤ 1000000
theorem Good.shaped {d : PyData} (h : Good d) : SeqAt.shaped d = true := by
  unfold SeqAt.shaped
  rw [h.can, decide_eq_true (Nat.le_trans h.dep (by decide))]
  rfl
theorem Good.fits {d : PyData} (h : Good d) : d.shown.length ≤ sizeLine := PyData.shown_fits (by decide) (by decide) h.ls (Nat.le_trans h.wt (by decide))
def rReprD (K : PySem.W.Frag) : List V → Hp → VK → Prop := fun xs H Q => ∃ x d, xs = [x] ∧ Dp K H x d ∧ Good d ∧ ((∃ a, x = .ref a) ∨ ∃ i, x = .int i) ∧ Q (.str d.shown) H
theorem c_reprD {X : Cx} (hg : X.A.guards = some []) (hu : X.A.units + 100 < cLine) : CallR X (.builtin "repr") (rReprD X.K) := by
  intro pins s σ H xs us Q I r h
  obtain ⟨x, d, rfl, hd, g, hx, q⟩ := h
  obtain ⟨u, rfl, rx⟩ := vals1 r
  rcases hx with ⟨a, rfl⟩ | ⟨i, rfl⟩
  · cases rx
    obtain ⟨as, rd⟩ := Dp.reads I d (.ref a) (.ref a) hd rfl
    refine repr_of_reads' rd g.sh (PyData.noDict_hsm (PyData.hasDict_of_canLay d g.can)) hg (by have := g.dep; omega) (fun _ _ e => e) (fun h2 t tk hk => ?_) g.fits
    exact ⟨.str d.shown, H, I.kept hk, ⟨t, rfl⟩, q⟩
  · obtain ⟨t, rfl⟩ := rx
    cases hd
    have e : (PyData.int i).showable = true := g.sh
    have z : i.natAbs.log2 < 1920 := of_decide_eq_true e
    exact PySem.P.repr_of_int z ⟨.str _, H, I.tok _, ⟨_, rfl⟩, q⟩
theorem d_reprD {K : PySem.W.Frag} {H : Hp} {Q : VK} {x : V} {d : PyData} (h : Dp K H x d) (g : Good d) (hx : (∃ a, x = .ref a) ∨ ∃ i, x = .int i) (q : Q (.str d.shown) H) : rReprD K [x] H Q := ⟨x, d, rfl, h, g, hx, q⟩
theorem d_eqD {K : PySem.W.Frag} {H : Hp} {Q : VK} {x y : V} {d e : PyData} (h1 : Dp K H x d) (h2 : Dp K H y e) (g1 : Good d) (g2 : Good e) (q : Q (.bl (PyData.eqv d e)) H) : rEqD K x y H Q := ⟨d, e, h1, h2, g1.shaped, g2.shaped, q⟩
theorem RoomG.u100 {k : Nat} {A : Around} (r : RoomG k A) : A.units + 100 < cLine := by have := r.room.un; omega
theorem RoomG.u64 {k : Nat} {A : Around} (r : RoomG k A) : A.units + 64 < cLine := by have := r.room.un; omega
/-- told and due are borne as one and the same data: an int, or tuples -/
def Tupl (H : Hp) (x : V) : Prop := ∃ a xs, x = .ref a ∧ H a = some (.tup xs)
def spAlikeD (K : PySem.W.Frag) : Sp := fun vs H Q _ => ∃ (x y : V) (d : PyData), vs = [x, y] ∧ Dp K H x d ∧ Dp K H y d ∧ Good d ∧ ((∃ i, x = .int i ∧ y = .int i) ∨ (Tupl H x ∧ Tupl H y)) ∧ ∀ H', Kp [] H H' → Q (.bl true) H'
theorem Dp.keep {K : PySem.W.Frag} {H H' : Hp} (kt : ∀ a xs, SqT K H a xs → SqT K H' a xs) (kl : ∀ a xs, SqL K H a xs → SqL K H' a xs) : ∀ (d : PyData) (v : V), Dp K H v d → Dp K H' v d := by
  intro d v h
  exact Dp.rec (motive_1 := fun v d _ => Dp K H' v d) (motive_2 := fun vs ds _ => DpAll K H' vs ds) .non (fun b => .bl b) (fun i => .int i) (fun x => .str x) (fun a _ ih => .lst (kl _ _ a) ih) (fun a _ ih => .tup (kt _ _ a) ih) .nil (fun _ _ a b => .cons a b) h

/-! ### terms as data -/
mutual
def Tm.dat : Tm → PyData
  | .var i => .int i
  | .app n ts => .tuple (.str n :: Tm.dats ts)
def Tm.dats : List Tm → List PyData
  | [] => []
  | t :: r => t.dat :: Tm.dats r
end
theorem Tm.dat_var (i : Int) : (Tm.var i).dat = .int i := by rw [Tm.dat]
theorem Tm.dat_app (n : Str) (ts : List Tm) : (Tm.app n ts).dat = .tuple (.str n :: Tm.dats ts) := by rw [Tm.dat]
theorem Tm.dats_nil : Tm.dats [] = [] := by rw [Tm.dats]
theorem Tm.dats_cons (t : Tm) (r : List Tm) : Tm.dats (t :: r) = t.dat :: Tm.dats r := by rw [Tm.dats]
theorem Tm.dats_map : ∀ ts : List Tm, Tm.dats ts = ts.map Tm.dat
  | [] => by rw [Tm.dats_nil]; rfl
  | t :: r => by rw [Tm.dats_cons, Tm.dats_map r]; rfl
/-- small ints, short texts -/
def TxtOk (z : Str) : Prop := z.cps.toList.length ≤ 20 ∧ ∀ c ∈ z.cps.toList, 32 ≤ c ∧ c < 127 ∧ c ≠ 39 ∧ c ≠ 92
mutual
def Tm.Nice : Tm → Prop
  | .var i => 0 ≤ i ∧ i < 1000000000000
  | .app n ts => TxtOk n ∧ Tm.Nices ts
def Tm.Nices : List Tm → Prop
  | [] => True
  | t :: r => t.Nice ∧ Tm.Nices r
end
theorem Tm.nice_var (i : Int) : (Tm.var i).Nice ↔ 0 ≤ i ∧ i < 1000000000000 := by rw [Tm.Nice]
theorem Tm.nice_app (n : Str) (ts : List Tm) : (Tm.app n ts).Nice ↔ TxtOk n ∧ Tm.Nices ts := by rw [Tm.Nice]
theorem Tm.nices_nil : Tm.Nices [] := by rw [Tm.Nices]; trivial
theorem Tm.nices_cons (t : Tm) (r : List Tm) : Tm.Nices (t :: r) ↔ t.Nice ∧ Tm.Nices r := by rw [Tm.Nices]
theorem Tm.nices_iff : ∀ ts : List Tm, Tm.Nices ts ↔ ∀ t ∈ ts, t.Nice
  | [] => ⟨fun _ t h => (List.not_mem_nil h).elim, fun _ => Tm.nices_nil⟩
  | t :: r => by
    rw [Tm.nices_cons, Tm.nices_iff r]
    exact ⟨fun h u hu => (List.mem_cons.mp hu).elim (fun e => e ▸ h.1) (fun hu => h.2 u hu), fun h => ⟨h t List.mem_cons_self, fun u hu => h u (List.mem_cons_of_mem _ hu)⟩⟩
theorem txt_of_name {z : Str} (h : NameOk z) : TxtOk z := ⟨by have := h.le; omega, fun c hc => by
  have := h.all c hc
  unfold signC at this
  omega⟩
theorem txt_can {z : Str} (h : TxtOk z) : (PyData.str z).canLay0 = true := by
  show PyData.strOk z = true
  unfold PyData.strOk
  rw [Array.all_eq_true']
  intro c hc
  have := h.2 c (Array.mem_toList_iff.mpr hc)
  exact decide_eq_true (by omega)
theorem txt_short {z : Str} (h : TxtOk z) : (PyData.str z).leavesShort 13 = true := by
  show (z.cps.toList.all fun c => decide (c < 16 ^ 8)) = true
  rw [List.all_eq_true]
  intro c hc
  have := h.2 c hc
  exact decide_eq_true (by omega)
theorem txt_weight {z : Str} (h : TxtOk z) : (PyData.str z).weight ≤ 20 := by
  show z.cps.size ≤ 20
  rw [← Array.length_toList]
  exact h.1
theorem int_short {i : Int} (h0 : 0 ≤ i) (h : i < 1000000000000) : (PyData.int i).leavesShort 13 = true := by
  show decide ((PyData.int i).shown.length ≤ 13) = true
  refine decide_eq_true ?_
  show (Str.ofString (toString i)).length ≤ 13
  exact Nat.le_trans (toString_length_le h0 (k := 12) (by decide) (by omega)) (by decide)
theorem int_weight {i : Int} (h0 : 0 ≤ i) (h : i < 1000000000000) : (PyData.int i).weight ≤ 40 := by
  show (if (i == 0) = true then 0 else i.natAbs.log2 + 1) ≤ 40
  split
  · omega
  · rename_i z
    have hz : i.natAbs ≠ 0 := fun e => z (by rw [show i = 0 by omega]; rfl)
    have := (Nat.log2_lt hz).mpr (show i.natAbs < 2 ^ 40 by omega)
    omega
theorem int_showable {i : Int} (h0 : 0 ≤ i) (h : i < 1000000000000) : (PyData.int i).showable = true := decide_eq_true (log_small (by omega))
mutual
theorem Tm.dat_can : ∀ t : Tm, t.Nice → t.dat.canLay0 = true
  | .var i, _ => by rw [Tm.dat_var]; rfl
  | .app n ts, h => by
    rw [Tm.nice_app] at h
    rw [Tm.dat_app]
    show PyData.canLayAll0 (.str n :: Tm.dats ts) = true
    show ((PyData.str n).canLay0 && PyData.canLayAll0 (Tm.dats ts)) = true
    rw [txt_can h.1, Tm.dats_can ts h.2]
    rfl
theorem Tm.dats_can : ∀ ts : List Tm, Tm.Nices ts → PyData.canLayAll0 (Tm.dats ts) = true
  | [], _ => by rw [Tm.dats_nil]; rfl
  | t :: r, h => by
    rw [Tm.nices_cons] at h
    rw [Tm.dats_cons]
    show (t.dat.canLay0 && PyData.canLayAll0 (Tm.dats r)) = true
    rw [Tm.dat_can t h.1, Tm.dats_can r h.2]
    rfl
end
mutual
theorem Tm.dat_sh : ∀ t : Tm, t.Nice → t.dat.showable = true
  | .var i, h => by rw [Tm.nice_var] at h; rw [Tm.dat_var]; exact int_showable h.1 h.2
  | .app n ts, h => by
    rw [Tm.nice_app] at h
    rw [Tm.dat_app]
    show ((PyData.str n).showable && PyData.showableAll (Tm.dats ts)) = true
    rw [Tm.dats_sh ts h.2]
    rfl
theorem Tm.dats_sh : ∀ ts : List Tm, Tm.Nices ts → PyData.showableAll (Tm.dats ts) = true
  | [], _ => by rw [Tm.dats_nil]; rfl
  | t :: r, h => by
    rw [Tm.nices_cons] at h
    rw [Tm.dats_cons]
    show (t.dat.showable && PyData.showableAll (Tm.dats r)) = true
    rw [Tm.dat_sh t h.1, Tm.dats_sh r h.2]
    rfl
end
mutual
theorem Tm.dat_ls : ∀ t : Tm, t.Nice → t.dat.leavesShort 13 = true
  | .var i, h => by rw [Tm.nice_var] at h; rw [Tm.dat_var]; exact int_short h.1 h.2
  | .app n ts, h => by
    rw [Tm.nice_app] at h
    rw [Tm.dat_app]
    show ((PyData.str n).leavesShort 13 && PyData.leavesShortAll 13 (Tm.dats ts)) = true
    rw [txt_short h.1, Tm.dats_ls ts h.2]
    rfl
theorem Tm.dats_ls : ∀ ts : List Tm, Tm.Nices ts → PyData.leavesShortAll 13 (Tm.dats ts) = true
  | [], _ => by rw [Tm.dats_nil]; rfl
  | t :: r, h => by
    rw [Tm.nices_cons] at h
    rw [Tm.dats_cons]
    show (t.dat.leavesShort 13 && PyData.leavesShortAll 13 (Tm.dats r)) = true
    rw [Tm.dat_ls t h.1, Tm.dats_ls r h.2]
    rfl
end
mutual
theorem Tm.dat_wt : ∀ t : Tm, t.Nice → t.dat.weight + 1 ≤ 42 * t.size
  | .var i, h => by rw [Tm.nice_var] at h; rw [Tm.dat_var, Tm.size_var]; have := int_weight h.1 h.2; omega
  | .app n ts, h => by
    rw [Tm.nice_app] at h
    rw [Tm.dat_app, Tm.size_app]
    show (PyData.str n).weight + 1 + PyData.weightAll (Tm.dats ts) + 1 ≤ _
    have h1 := txt_weight h.1
    have h2 := Tm.dats_wt ts h.2
    omega
theorem Tm.dats_wt : ∀ ts : List Tm, Tm.Nices ts → PyData.weightAll (Tm.dats ts) ≤ 42 * Tm.sizes ts
  | [], _ => by rw [Tm.dats_nil, Tm.sizes_nil]; exact Nat.le_refl 0
  | t :: r, h => by
    rw [Tm.nices_cons] at h
    rw [Tm.dats_cons, Tm.sizes_cons]
    show t.dat.weight + 1 + PyData.weightAll (Tm.dats r) ≤ _
    have h1 := Tm.dat_wt t h.1
    have h2 := Tm.dats_wt r h.2
    omega
end
mutual
theorem Tm.dat_dep : ∀ t : Tm, t.dat.depth ≤ t.depth
  | .var i => by rw [Tm.dat_var, Tm.depth_var]; simp only [PyData.depth]; omega
  | .app n ts => by
    rw [Tm.dat_app, Tm.depth_app]
    have := Tm.dats_dep ts
    simp only [PyData.depth, PyData.depthAll]
    omega
theorem Tm.dats_dep : ∀ ts : List Tm, PyData.depthAll (Tm.dats ts) ≤ Tm.depths ts
  | [] => by rw [Tm.dats_nil, Tm.depths_nil]; exact Nat.le_refl 0
  | t :: r => by
    rw [Tm.dats_cons, Tm.depths_cons]
    have h1 := Tm.dat_dep t
    have h2 := Tm.dats_dep r
    simp only [PyData.depthAll]
    omega
end

/-! ### data that fits, by bounds -/
structure Gd (b w : Nat) (d : PyData) : Prop where
  can : d.canLay0 = true
  dep : d.depth ≤ b
  sh : d.showable = true
  ls : d.leavesShort 13 = true
  wt : d.weight + 1 ≤ w
theorem Gd.good {b w : Nat} {d : PyData} (g : Gd b w d) (hb : b ≤ 62) (hw : w ≤ 1000000) : Good d := ⟨g.can, Nat.le_trans g.dep hb, g.sh, g.ls, by have := g.wt; omega⟩
theorem Gd.mono {b w b' w' : Nat} {d : PyData} (g : Gd b w d) (hb : b ≤ b') (hw : w ≤ w') : Gd b' w' d := ⟨g.can, Nat.le_trans g.dep hb, g.sh, g.ls, Nat.le_trans g.wt hw⟩
theorem Gd.tm {t : Tm} {b s : Nat} (h : t.Nice) (hb : t.depth ≤ b) (hs : t.size ≤ s) : Gd b (42 * s) t.dat :=
  ⟨Tm.dat_can t h, Nat.le_trans (Tm.dat_dep t) hb, Tm.dat_sh t h, Tm.dat_ls t h, by have := Tm.dat_wt t h; omega⟩
theorem Gd.int {i : Int} (h0 : 0 ≤ i) (h : i < 1000000000000) : Gd 0 42 (.int i) := ⟨rfl, Nat.le_refl _, int_showable h0 h, int_short h0 h, by have := int_weight h0 h; omega⟩
theorem Gd.str {z : Str} (h : TxtOk z) : Gd 0 42 (.str z) := ⟨txt_can h, Nat.le_refl _, rfl, txt_short h, by have := txt_weight h; omega⟩
theorem Gd.bool (b : Bool) : Gd 0 42 (.bool b) := by cases b <;> exact ⟨by decide, by decide, by decide, by decide, by decide⟩
theorem Gd.none : Gd 0 42 .none := ⟨by decide, by decide, by decide, by decide, by decide⟩
theorem gd_all {b w : Nat} : ∀ {ds : List PyData}, (∀ d ∈ ds, Gd b w d) → PyData.canLayAll0 ds = true ∧ PyData.depthAll ds ≤ b ∧ PyData.showableAll ds = true ∧ PyData.leavesShortAll 13 ds = true ∧ PyData.weightAll ds ≤ ds.length * w
  | [], _ => ⟨rfl, Nat.zero_le _, rfl, rfl, Nat.zero_le _⟩
  | d :: r, h => by
    obtain ⟨a1, a2, a3, a4, a5⟩ := gd_all (ds := r) fun x hx => h x (List.mem_cons_of_mem _ hx)
    have g := h d List.mem_cons_self
    refine ⟨?_, ?_, ?_, ?_, ?_⟩
    · show (d.canLay0 && PyData.canLayAll0 r) = true
      rw [g.can, a1]; rfl
    · simp only [PyData.depthAll]
      exact Nat.max_le.mpr ⟨g.dep, a2⟩
    · show (d.showable && PyData.showableAll r) = true
      rw [g.sh, a3]; rfl
    · show (d.leavesShort 13 && PyData.leavesShortAll 13 r) = true
      rw [g.ls, a4]; rfl
    · show d.weight + 1 + PyData.weightAll r ≤ _
      have := g.wt
      rw [List.length_cons, Nat.succ_mul]
      omega
theorem Gd.tup {b w b' w' : Nat} {ds : List PyData} (h : ∀ d ∈ ds, Gd b w d) (hb : b + 1 ≤ b') (hw : ds.length * w + 1 ≤ w') : Gd b' w' (.tuple ds) := by
  obtain ⟨a1, a2, a3, a4, a5⟩ := gd_all h
  refine ⟨a1, ?_, a3, a4, ?_⟩
  · simp only [PyData.depth]
    omega
  · show PyData.weightAll ds + 1 ≤ w'
    omega
/-! ### terms borne -/
theorem dp_tup {K : PySem.W.Frag} {H : Hp} {a : Addr} {xs : List V} {ds : List PyData} (h : H a = some (.tup xs)) (r : DpAll K H xs ds) : Dp K H (.ref a) (.tuple ds) := .tup (sqT h) r
theorem dpAll_of {α : Type} {K : PySem.W.Frag} {H : Hp} (f : α → PyData) : ∀ {vs : List V} {ts : List α}, vs.length = ts.length → (∀ (i : Nat) v t, vs[i]? = some v → ts[i]? = some t → Dp K H v (f t)) → DpAll K H vs (ts.map f)
  | [], [], _, _ => .nil
  | [], _ :: _, h, _ => by cases h
  | _ :: _, [], h, _ => by cases h
  | v :: vs, t :: ts, h, hi => .cons (hi 0 v t rfl rfl) (dpAll_of f (by simpa using h) fun i u w a b => hi (i + 1) u w (by simpa using a) (by simpa using b))
theorem At.dp {K : PySem.W.Frag} {H : Hp} {v : V} {t : Tm} (h : At H v t) : Dp K H v t.dat := by
  induction h with
  | var i => rw [Tm.dat_var]; exact .int i
  | app e hl _ ih =>
    rw [Tm.dat_app, Tm.dats_map]
    exact dp_tup e (.cons (.str _) (dpAll_of Tm.dat hl ih))
theorem Ats.dp {K : PySem.W.Frag} {H : Hp} {vs : List V} {ts : List Tm} (h : Ats H vs ts) : DpAll K H vs (ts.map Tm.dat) := dpAll_of Tm.dat h.len fun i v t a b => (h.at' i v t a b).dp
theorem At.int_or {H : Hp} {x y : V} {t : Tm} (h1 : At H x t) (h2 : At H y t) : (∃ i, x = .int i ∧ y = .int i) ∨ (Tupl H x ∧ Tupl H y) := by
  cases h1 with
  | var i => cases h2 with | var i => exact .inl ⟨i, rfl, rfl⟩
  | app e1 _ _ => cases h2 with | app e2 _ _ => exact .inr ⟨⟨_, _, rfl, e1⟩, ⟨_, _, rfl, e2⟩⟩
/-- two terms that are alike, for _law_alike -/
theorem d_alikeT {K : PySem.W.Frag} {H : Hp} {Q : VK} {E : XK} {x y : V} {t : Tm} (h1 : At H x t) (h2 : At H y t) (hn : t.Nice) (hd : t.depth ≤ 62) (hs : t.size ≤ 20000) (q : ∀ H', Kp [] H H' → Q (.bl true) H') : spAlikeD K [x, y] H Q E :=
  ⟨x, y, t.dat, rfl, h1.dp, h2.dp, (Gd.tm hn hd hs).good (Nat.le_refl _) (by decide), h1.int_or h2, q⟩
theorem d_alikeTs {K : PySem.W.Frag} {H : Hp} {Q : VK} {E : XK} {a b : Addr} {xs ys : List V} {ts : List Tm} {s : Nat} (e1 : H a = some (.tup xs)) (e2 : H b = some (.tup ys)) (h1 : Ats H xs ts) (h2 : Ats H ys ts) (hn : ∀ t ∈ ts, t.Nice) (hd : ∀ t ∈ ts, t.depth ≤ 61) (hs : ∀ t ∈ ts, t.size ≤ s) (hw : ts.length * (42 * s) + 1 ≤ 1000000)
    (q : ∀ H', Kp [] H H' → Q (.bl true) H') : spAlikeD K [.ref a, .ref b] H Q E :=
  ⟨_, _, .tuple (ts.map Tm.dat), rfl, dp_tup e1 h1.dp, dp_tup e2 h2.dp, (Gd.tup (b := 61) (w := 42 * s) (b' := 62) (w' := 1000000) (fun d hd2 => by
    obtain ⟨t, ht, rfl⟩ := List.mem_map.mp hd2
    exact Gd.tm (hn t ht) (hd t ht) (hs t ht)) (Nat.le_refl _) (by rw [List.length_map]; exact hw)).good (Nat.le_refl _) (Nat.le_refl _), .inr ⟨⟨_, _, rfl, e1⟩, ⟨_, _, rfl, e2⟩⟩, q⟩
/-- drawn terms are nice -/
theorem Gen.nice {zs : List (Str × Int)} {vars : List Tm} (hz : ∀ z ∈ zs, TxtOk z.1) (hv : ∀ t ∈ vars, t.Nice) {d : Nat} {t : Tm} (h : Gen zs vars d t) : t.Nice := by
  induction h with
  | var h => exact hv _ h
  | leaf h => exact (Tm.nice_app _ _).mpr ⟨hz _ h, Tm.nices_nil⟩
  | app h hl hs ih => exact (Tm.nice_app _ _).mpr ⟨hz _ h, (Tm.nices_iff _).mpr ih⟩
end Lw

set_option maxRecDepth 100000
set_option maxHeartbeats 4000000
/-! repr of terms tells them apart; == of terms; first occurrences -/
namespace Lw
open PySem PySem.Spec PyProof.Rows L2
/-! ### the signs of a repr -/
theorem char_plain : ∀ c : Nat, c < 127 → 32 ≤ c → c ≠ 39 → c ≠ 92 → Builtin.Str.reprChar 39 c = [c] := by decide +kernel
theorem fold_plain : ∀ (l : List Nat) (acc : Array Nat), (∀ c ∈ l, 32 ≤ c ∧ c < 127 ∧ c ≠ 39 ∧ c ≠ 92) → (l.foldl (fun out c => out ++ (Builtin.Str.reprChar 39 c).toArray) acc).toList = acc.toList ++ l
  | [], acc, _ => by rw [List.foldl_nil, List.append_nil]
  | c :: r, acc, h => by
    obtain ⟨h1, h2, h3, h4⟩ := h c List.mem_cons_self
    rw [List.foldl_cons, fold_plain r _ fun d hd => h d (List.mem_cons_of_mem _ hd), char_plain c h2 h1 h3 h4, Array.toList_append, List.append_assoc]
    rfl
theorem quote_plain {z : Str} (h : TxtOk z) : reprQuote z = 39 := by
  unfold reprQuote
  rw [if_neg]
  intro e
  have e1 : z.cps.contains 39 = true := by
    cases q : z.cps.contains 39 with
    | true => rfl
    | false => rw [q] at e; cases e
  have := h.2 39 (Array.mem_toList_iff.mpr (Array.contains_iff_mem.mp e1))
  omega
theorem repr_plain {z : Str} (h : TxtOk z) : (reprText z).cps.toList = 39 :: (z.cps.toList ++ [39]) := by
  unfold reprText
  rw [quote_plain h]
  show ((z.cps.foldl (fun out c => out ++ (Builtin.Str.reprChar 39 c).toArray) #[39]).push 39).toList = _
  rw [Array.toList_push, ← Array.foldl_toList, fold_plain _ _ h.2]
  rfl
mutual
def Tm.sh : Tm → List Nat
  | .var i => (Str.ofString (toString i)).cps.toList
  | .app n ts => 40 :: 39 :: (n.cps.toList ++ 39 :: (Tm.shs ts ++ if ts.isEmpty then [44, 41] else [41]))
def Tm.shs : List Tm → List Nat
  | [] => []
  | t :: r => 44 :: 32 :: (t.sh ++ Tm.shs r)
end
theorem Tm.sh_var (i : Int) : (Tm.var i).sh = (Str.ofString (toString i)).cps.toList := by rw [Tm.sh]
theorem Tm.sh_app (n : Str) (ts : List Tm) : (Tm.app n ts).sh = 40 :: 39 :: (n.cps.toList ++ 39 :: (Tm.shs ts ++ if ts.isEmpty then [44, 41] else [41])) := by rw [Tm.sh]
theorem Tm.shs_nil : Tm.shs [] = [] := by rw [Tm.shs]
theorem Tm.shs_cons (t : Tm) (r : List Tm) : Tm.shs (t :: r) = 44 :: 32 :: (t.sh ++ Tm.shs r) := by rw [Tm.shs]
def tails (l : List Str) : List Nat := l.flatMap fun y => 44 :: 32 :: y.cps.toList
theorem join_codes : ∀ (l : List Str) (x : Str), (Str.join ", " (x :: l)).cps.toList = x.cps.toList ++ tails l
  | [], x => by show x.cps.toList = x.cps.toList ++ []; rw [List.append_nil]
  | y :: r, x => by
    show (x ++ (", " : Str) ++ Str.join ", " (y :: r)).cps.toList = _
    rw [str_app, str_app, join_codes r y, List.append_assoc]
    rfl
mutual
theorem Tm.shown_codes : ∀ t : Tm, t.Nice → t.dat.shown.cps.toList = t.sh
  | .var i, h => by rw [Tm.dat_var, Tm.sh_var]; rfl
  | .app n ts, h => by
    rw [Tm.nice_app] at h
    rw [Tm.dat_app, Tm.sh_app]
    show (("(" : Str) ++ Str.join ", " (reprText n :: PyData.shownAll (Tm.dats ts)) ++ (if (reprText n :: PyData.shownAll (Tm.dats ts)).length == 1 then ",)" else ")" : String)).cps.toList = _
    rw [str_app, str_app, join_codes, repr_plain h.1, Tm.showns_codes ts h.2]
    cases ts with
    | nil =>
      rw [Tm.shs_nil, Tm.dats_nil]
      show 40 :: 39 :: (n.cps.toList ++ [39] ++ [] ++ [44, 41]) = 40 :: 39 :: (n.cps.toList ++ 39 :: ([] ++ [44, 41]))
      simp
    | cons t r =>
      rw [Tm.dats_cons]
      have e : ((reprText n :: PyData.shownAll (t.dat :: Tm.dats r)).length == 1) = false := by
        show ((PyData.shownAll (Tm.dats r)).length + 1 + 1 == 1) = false
        exact beq_false_of_ne (by omega)
      rw [e]
      show 40 :: 39 :: (n.cps.toList ++ [39] ++ Tm.shs (t :: r) ++ [41]) = 40 :: 39 :: (n.cps.toList ++ 39 :: (Tm.shs (t :: r) ++ [41]))
      simp
theorem Tm.showns_codes : ∀ ts : List Tm, Tm.Nices ts → tails (PyData.shownAll (Tm.dats ts)) = Tm.shs ts
  | [], _ => by rw [Tm.dats_nil, Tm.shs_nil]; rfl
  | t :: r, h => by
    rw [Tm.nices_cons] at h
    rw [Tm.dats_cons, Tm.shs_cons]
    show 44 :: 32 :: (t.dat.shown.cps.toList) ++ tails (PyData.shownAll (Tm.dats r)) = _
    rw [Tm.shown_codes t h.1, Tm.showns_codes r h.2]
    rfl
end
def Digs (l : List Nat) : Prop := ∀ c ∈ l, 48 ≤ c ∧ c ≤ 57
def Stops (r : List Nat) : Prop := ∀ c s, r = c :: s → c < 48 ∨ 57 < c
theorem num_codes {i : Int} (h : 0 ≤ i) : Digs (Str.ofString (toString i)).cps.toList ∧ (Str.ofString (toString i)).cps.toList ≠ [] := by
  obtain ⟨m, rfl⟩ := Int.eq_ofNat_of_zero_le h
  rw [PySem.W.KIN.signs_num]
  refine ⟨fun c hc => ?_, fun e => ?_⟩
  · obtain ⟨ch, hch, e⟩ := List.mem_map.mp hc
    have r := digit_range (Nat.isDigit_of_mem_toDigits (by decide) (by decide) hch)
    rw [← e]
    exact r
  · have h := toDigits_len_ge 10 m
    rw [List.map_eq_nil_iff.mp e] at h
    exact absurd h (by decide)
theorem num_inj {i j : Int} (hi : 0 ≤ i) (hj : 0 ≤ j) (e : (Str.ofString (toString i)).cps.toList = (Str.ofString (toString j)).cps.toList) : i = j := by
  obtain ⟨m, rfl⟩ := Int.eq_ofNat_of_zero_le hi
  obtain ⟨n, rfl⟩ := Int.eq_ofNat_of_zero_le hj
  rw [PySem.W.KIN.signs_num, PySem.W.KIN.signs_num] at e
  have h1 := PySem.W.KIN.val_back m
  have h2 := PySem.W.KIN.val_back n
  rw [e, h2] at h1
  rw [h1]
theorem digs_split : ∀ {a b r s : List Nat}, Digs a → Digs b → Stops r → Stops s → a ++ r = b ++ s → a = b ∧ r = s
  | [], [], r, s, _, _, _, _, e => ⟨rfl, e⟩
  | [], y :: b, r, s, _, hb, hr, _, e => by
    have h1 := hb y List.mem_cons_self
    have h2 := hr y (b ++ s) e
    omega
  | x :: a, [], r, s, ha, _, _, hs, e => by
    have h1 := ha x List.mem_cons_self
    have h2 := hs x (a ++ r) e.symm
    omega
  | x :: a, y :: b, r, s, ha, hb, hr, hs, e => by
    injection e with e1 e2
    obtain ⟨h1, h2⟩ := digs_split (fun c hc => ha c (List.mem_cons_of_mem _ hc)) (fun c hc => hb c (List.mem_cons_of_mem _ hc)) hr hs e2
    exact ⟨by rw [e1, h1], h2⟩
theorem quote_split : ∀ {a b r s : List Nat}, (∀ c ∈ a, c ≠ 39) → (∀ c ∈ b, c ≠ 39) → a ++ 39 :: r = b ++ 39 :: s → a = b ∧ r = s
  | [], [], r, s, _, _, e => by injection e with _ e; exact ⟨rfl, e⟩
  | [], y :: b, r, s, _, hb, e => by injection e with e _; exact absurd e.symm (hb y List.mem_cons_self)
  | x :: a, [], r, s, ha, _, e => by injection e with e _; exact absurd e (ha x List.mem_cons_self)
  | x :: a, y :: b, r, s, ha, hb, e => by
    injection e with e1 e2
    obtain ⟨h1, h2⟩ := quote_split (fun c hc => ha c (List.mem_cons_of_mem _ hc)) (fun c hc => hb c (List.mem_cons_of_mem _ hc)) e2
    exact ⟨by rw [e1, h1], h2⟩
theorem str_ext {a b : Str} (h : a.cps.toList = b.cps.toList) : a = b := by
  cases a; cases b
  congr 1
  exact Array.toList_inj.mp h
def NoArg (r : List Nat) : Prop := ∀ s, r ≠ 44 :: 32 :: s
theorem end_ok (e : Bool) (r : List Nat) : NoArg ((if e = true then [44, 41] else [41]) ++ r) ∧ Stops ((if e = true then [44, 41] else [41]) ++ r) := by
  cases e with
  | true => exact ⟨fun s h => by simp at h, fun c s h => by simp at h; omega⟩
  | false => exact ⟨fun s h => by simp at h, fun c s h => by simp at h; omega⟩
theorem shs_stops : ∀ (ts : List Tm) (r : List Nat), Stops r → Stops (Tm.shs ts ++ r)
  | [], r, h => by rw [Tm.shs_nil]; exact h
  | t :: ts, r, _ => by
    rw [Tm.shs_cons]
    intro c s e
    injection e with e _
    omega
mutual
theorem Tm.sh_inj : ∀ t u : Tm, t.Nice → u.Nice → ∀ r s : List Nat, Stops r → Stops s → t.sh ++ r = u.sh ++ s → t = u ∧ r = s
  | .var i, .var j, ht, hu, r, s, hr, hs, e => by
    rw [Tm.nice_var] at ht hu
    rw [Tm.sh_var, Tm.sh_var] at e
    obtain ⟨h1, h2⟩ := digs_split (num_codes ht.1).1 (num_codes hu.1).1 hr hs e
    exact ⟨by rw [num_inj ht.1 hu.1 h1], h2⟩
  | .var i, .app n us, ht, hu, r, s, hr, hs, e => by
    rw [Tm.nice_var] at ht
    rw [Tm.sh_var, Tm.sh_app] at e
    obtain ⟨d, ne⟩ := num_codes ht.1
    cases q : (Str.ofString (toString i)).cps.toList with
    | nil => exact absurd q ne
    | cons c l =>
      rw [q] at e d
      injection e with e _
      have := d c List.mem_cons_self
      omega
  | .app n ts, .var j, ht, hu, r, s, hr, hs, e => by
    rw [Tm.nice_var] at hu
    rw [Tm.sh_var, Tm.sh_app] at e
    obtain ⟨d, ne⟩ := num_codes hu.1
    cases q : (Str.ofString (toString j)).cps.toList with
    | nil => exact absurd q ne
    | cons c l =>
      rw [q] at e d
      injection e with e _
      have := d c List.mem_cons_self
      omega
  | .app n ts, .app m us, ht, hu, r, s, hr, hs, e => by
    rw [Tm.nice_app] at ht hu
    rw [Tm.sh_app, Tm.sh_app] at e
    have e : 40 :: 39 :: ((n.cps.toList ++ 39 :: (Tm.shs ts ++ if ts.isEmpty = true then [44, 41] else [41])) ++ r) = 40 :: 39 :: ((m.cps.toList ++ 39 :: (Tm.shs us ++ if us.isEmpty = true then [44, 41] else [41])) ++ s) := e
    injection e with _ e
    injection e with _ e
    rw [List.append_assoc, List.append_assoc] at e
    obtain ⟨h1, h2⟩ := quote_split (fun c hc => (ht.1.2 c hc).2.2.1) (fun c hc => (hu.1.2 c hc).2.2.1) e
    have h2 : (Tm.shs ts ++ if ts.isEmpty = true then [44, 41] else [41]) ++ r = (Tm.shs us ++ if us.isEmpty = true then [44, 41] else [41]) ++ s := h2
    rw [List.append_assoc, List.append_assoc] at h2
    obtain ⟨h3, h4⟩ := Tm.shs_inj ts us ht.2 hu.2 _ _ (end_ok _ _).1 (end_ok _ _).1 (end_ok _ _).2 (end_ok _ _).2 h2
    rw [h3] at h4
    exact ⟨by rw [str_ext h1, h3], List.append_cancel_left h4⟩
theorem Tm.shs_inj : ∀ ts us : List Tm, Tm.Nices ts → Tm.Nices us → ∀ r s : List Nat, NoArg r → NoArg s → Stops r → Stops s → Tm.shs ts ++ r = Tm.shs us ++ s → ts = us ∧ r = s
  | [], [], _, _, r, s, _, _, _, _, e => by rw [Tm.shs_nil] at e; exact ⟨rfl, e⟩
  | [], u :: us, _, _, r, s, hr, _, _, _, e => by
    rw [Tm.shs_nil, Tm.shs_cons] at e
    exact absurd e (hr _)
  | t :: ts, [], _, _, r, s, _, hs, _, _, e => by
    rw [Tm.shs_nil, Tm.shs_cons] at e
    exact absurd e.symm (hs _)
  | t :: ts, u :: us, ht, hu, r, s, hr, hs, sr, ss, e => by
    rw [Tm.nices_cons] at ht hu
    rw [Tm.shs_cons, Tm.shs_cons] at e
    have e : 44 :: 32 :: ((t.sh ++ Tm.shs ts) ++ r) = 44 :: 32 :: ((u.sh ++ Tm.shs us) ++ s) := e
    injection e with _ e
    injection e with _ e
    rw [List.append_assoc, List.append_assoc] at e
    obtain ⟨h1, h2⟩ := Tm.sh_inj t u ht.1 hu.1 _ _ (shs_stops _ _ sr) (shs_stops _ _ ss) e
    obtain ⟨h3, h4⟩ := Tm.shs_inj ts us ht.2 hu.2 r s hr hs sr ss h2
    exact ⟨by rw [h1, h3], h4⟩
end
theorem shown_inj {t u : Tm} (ht : t.Nice) (hu : u.Nice) (e : t.dat.shown = u.dat.shown) : t = u := by
  have h1 := Tm.shown_codes t ht
  have h2 := Tm.shown_codes u hu
  rw [e, h2] at h1
  have := Tm.sh_inj t u ht hu [] [] (fun c s e => by cases e) (fun c s e => by cases e) (by rw [h1])
  exact this.1
/-! ### == of terms -/
mutual
theorem Tm.eqv_eq : ∀ t u : Tm, PyData.eqv t.dat u.dat = true → t = u
  | .var i, .var j, e => by
    rw [Tm.dat_var, Tm.dat_var] at e
    have e : (i == j) = true := e
    rw [eq_of_beq e]
  | .var i, .app n us, e => by
    rw [Tm.dat_var, Tm.dat_app] at e
    cases e
  | .app n ts, .var j, e => by
    rw [Tm.dat_var, Tm.dat_app] at e
    cases e
  | .app n ts, .app m us, e => by
    rw [Tm.dat_app, Tm.dat_app] at e
    have e : ((n == m) && PyData.eqvAll (Tm.dats ts) (Tm.dats us)) = true := e
    rw [Bool.and_eq_true] at e
    rw [eq_of_beq e.1, Tm.eqvs_eq ts us e.2]
theorem Tm.eqvs_eq : ∀ ts us : List Tm, PyData.eqvAll (Tm.dats ts) (Tm.dats us) = true → ts = us
  | [], [], _ => rfl
  | [], u :: us, e => by rw [Tm.dats_nil, Tm.dats_cons] at e; cases e
  | t :: ts, [], e => by rw [Tm.dats_nil, Tm.dats_cons] at e; cases e
  | t :: ts, u :: us, e => by
    rw [Tm.dats_cons, Tm.dats_cons] at e
    have e : (PyData.eqv t.dat u.dat && PyData.eqvAll (Tm.dats ts) (Tm.dats us)) = true := e
    rw [Bool.and_eq_true] at e
    rw [Tm.eqv_eq t u e.1, Tm.eqvs_eq ts us e.2]
end
noncomputable instance : DecidableEq Tm := fun a b => Classical.propDecidable (a = b)
theorem any_eqv {ts : List Tm} {t : Tm} (ht : t.Nice) : ((ts.map Tm.dat).any fun z => PyData.eqv z t.dat) = decide (t ∈ ts) := by
  rw [Bool.eq_iff_iff, List.any_eq_true, decide_eq_true_eq]
  refine ⟨fun ⟨z, hz, e⟩ => ?_, fun h => ⟨t.dat, List.mem_map.mpr ⟨t, h, rfl⟩, PySem.SeqAt.eqv_refl _ (Tm.dat_can t ht)⟩⟩
  obtain ⟨u, hu, rfl⟩ := List.mem_map.mp hz
  rw [← Tm.eqv_eq u t e]
  exact hu
end Lw

set_option maxRecDepth 100000
set_option maxHeartbeats 4000000
/-! tuple(x) by what x collects; tuple(d), tuple(d.values()) -/
namespace Lw
open PySem PySem.Spec
open PyProof.Rows L2
section
variable {prog : Program} {w : World} {A : Around} {E : Value → Shared → Prop}
variable {s : Shared} {T : String} {r : Addr}
/-- what a collecting hands over: short enough, and good when laid as a tuple -/
def TupGood (Q : Value → Shared → Prop) (xs : List Value) (s' : Shared) : Prop :=
  xs.length ≤ sizeLine ∧ Q (.ref s'.heap.objs.size) { s' with heap := s'.heap.push { cls := .type "tuple", data := .seq xs.toArray } }
theorem new_by {Q₁ : Value → Shared → Prop} (hT : s.TypeIs (.ref r) T) (hn : (Value.type T == Value.type "tuple") = false) (hc : ∀ E', wpAny (model prog w) A.in1 (collect (.ref r)) (TupGood Q₁) E' s) :
    codeAny (model prog w) A (.call (.builtin "tuple.__new__") ⟨[.type "tuple", .ref r], []⟩) (wants Q₁ E) s := by
  have col : ∀ (Q' : List Value → Shared → Prop) (E' : Value → Shared → Prop), (∀ xs s', TupGood Q₁ xs s' → Q' xs s') → wpAny (model prog w) A.in1 (collect (.ref r)) Q' E' s := fun Q' E' h => wpAny_mono (hc E') h fun _ _ e => e
  have step2 : codeAny (model prog w) A (.builtin "tuple.__new__" ⟨[.type "tuple", .ref r], []⟩) (wants Q₁ E) s := by
    refine codeAny_builtin F.entry_tuple_new (?_ : wpAny _ (A.under _) _ _ _ s); rw [Around.under_plainId F.plain_tuple_new _]
    have f1 := sub_tuple_self; have f2 := init_tuple_lookup; have f3 := madeHere_tuple; have f4 := hn
    wp_walk using wpAny_typeOf hT, col _ _
    intro xs s' ⟨hl, hq⟩
    refine wpAny_bind (m := Builtin.Tuple.tupleExact xs.toArray) ?_
    unfold Builtin.Tuple.tupleExact; refine wpAny_newObj_type ?_ (by show xs.toArray.size ≤ sizeLine; rw [List.size_toArray]; exact hl)
    exact wpAny_pure hq
  exact codeAny_of_tree (wpAny_bind (m := checkBuiltinCall "tuple.__new__" ⟨[.type "tuple", .ref r], []⟩) (wpAny_of_eq (F.newCall_tuple_1 _) (wpAny_pure ⟨plainId_quiet F.plain_tuple_new _, step2⟩)))
theorem tuple_by {Q : Value → Shared → Prop} (hT : s.TypeIs (.ref r) T) (hn : (Value.type T == Value.type "tuple") = false) (hc : ∀ E', wpAny (model prog w) A.in1.in1 (collect (.ref r)) (TupGood Q) E' s) : wpAny (model prog w) A (call (.type "tuple") [.ref r]) Q E s := by
  let Q2 : Value → Shared → Prop := fun o t => t.TypeIs o "tuple" ∧ Q o t
  refine callType_codes (Q₁ := Q2) F.called_tuple (F.typeCall_tuple_1 _) F.entry_object_init (new_by hT hn fun E' => wpAny_mono (hc E') (fun xs t h => ⟨h.1, ⟨_, Heap.get?_push_size _ rfl, rfl⟩, h.2⟩) fun _ _ e => e) fun o t h => ⟨h.1, F.args_object_init_2 o _, ?_⟩
  exact object_init_meets F.called_tuple.init.lookup F.called_tuple.made (by decide) prog w A.in1 _ t ⟨h.1, rfl, h.2⟩
end
section
variable {X : Cx} {pins : List (Addr × Obj)} {σ : L2.St} {H : Hp} {s : Shared} {Q : VK}
/-- the tuple stands at the end of the heap -/
theorem tup_end {xs : List V} {us : List Value} (I : Inv X pins σ H s) (rv : Vals xs us) (hl : xs.length ≤ sizeLine) (q : ∀ p, H p = none → Q (.ref p) (upd H p (.tup xs))) : TupGood (EP X pins σ Q) us s := by
  refine ⟨by rw [← rv.length]; exact hl, ?_⟩
  have new : ∀ H', ObjOk X.prog X.w H' (s.heap.push { cls := .type "tuple", data := .seq us.toArray }) s.heap.objs.size (.tup xs) := fun H' => ⟨hl, us, rv, IsTup.new _ _⟩
  exact ⟨.ref s.heap.objs.size, _, I.laid (t' := s.toks) (fun b o e => Heap.get?_push_of_some _ e) (Nat.le_refl _) (new _), rfl, q _ (I.hok.fresh (Nat.le_refl _))⟩
theorem vals_items {P : Nat → Value → Prop} {acc : Array Value} {xs : List V} (hi : ItemsOf P acc xs.length) (h : ∀ j x u, xs[j]? = some x → P j u → RelV x u) : Vals xs acc.toList :=
  vals_of_at (by rw [Array.length_toList]; exact hi.1.symm) fun j x u e1 e2 => h j x u e1 (hi.2 j u (by rw [Array.getElem?_toList] at e2; exact e2))
def rTupDict : List V → Hp → VK → Prop := fun xs H Q => ∃ p kvs, xs = [.ref p] ∧ H p = some (.dK kvs) ∧ ∀ q, H q = none → Q (.ref q) (upd H q (.tup (kvs.map fun kv => kV kv.1)))
/-- tuple(d): the keys -/
theorem c_tupDict (hc : X.calm = true) : CallR X (.type "tuple") rTupDict := by
  rintro pins s σ H _ us Q I r ⟨p, kvs, rfl, hk, q⟩
  obtain ⟨_, rfl, rfl⟩ := vals1 r
  obtain ⟨hz, low, vs, kv, dof⟩ := dk_of I.hok hk
  obtain ⟨ep, dat⟩ := dof.dictAt
  have n : (kvs.map fun kv => kV kv.1).length = vs.length := by rw [List.length_map]; exact Paired.length kv
  have n2 := Nat.le_trans (Nat.le_of_eq n) (by rw [← n, List.length_map]; exact hz)
  refine tuple_by (T := "dict") dof.typeIs (by decide) fun E' => PySem.W.kdu_collect (PySem.W.kdl_dict (knd := mixKind X.prog X.w) (kvs := vs) (ep := ep) low) (I.ok.hd hc) dat (n ▸ n2) fun h' tk acc kp hi => ?_
  refine tup_end (I.kept (t' := tk) kp) (vals_items (n.symm ▸ hi) fun j x u e ⟨k, y, hky, hu⟩ => ?_) n2 q
  obtain ⟨v, e1, _⟩ := L2.KV.at' kv hky
  rw [List.getElem?_map, e1] at e
  cases e
  exact keyIs_rel hu
variable {o : Expr} {p pos apos mpos : Pos}
variable {td : TE}
/-- tuple(o.values()) -/
def tTupVals (td : TE) : TE := fun σ H Q => td σ H fun x H1 => ∃ a kvs, x = V.ref a ∧ H1 a = some (.dK kvs) ∧ ∀ q, H1 q = none → Q (.ref q) (upd H1 q (.tup (kvs.map fun kv => kv.2)))
theorem pe_tupVals (hc : X.calm = true) (hg : Gl X "tuple") (hm : X.mg "tuple" = none) (hd : PE X o td) (hbase : attributeBase o "values" X.env (eval o X.env) = eval o X.env := by rfl) (hline : (apos.endLine == mpos.line) = true := by rfl)
    (na : starEach [Expr.Call (.Attribute o "values" apos) [] [] mpos] X.env = (false, eval (Expr.Call (.Attribute o "values" apos) [] [] mpos) X.env) :: starEach [] X.env := by rfl) :
    PE X (.Call (.Name "tuple" p) [.Call (.Attribute o "values" apos) [] [] mpos] [] pos) (tTupVals td) := ⟨fun pins s σ H Q I h => by
  refine Call_ (ld_blt I hg hm boot_tuple (PyProof.Rows.callWith_type1 (args_cons (wpAny_Call_method0_late hbase hline (thn (hd.run pins s σ H _ I h) fun v s1 ⟨x, H1, I1, r1, a, kvs, ex, ha, q⟩ => ?_)) na) na))
  cases ex
  cases r1
  obtain ⟨hz, low, vs, kv, dof⟩ := dk_of I1.hok ha
  obtain ⟨ep, dat⟩ := dof.dictAt
  have hT : s1.TypeIs (.ref a) "dict" := dof.typeIs
  have hdn : ∃ ob, s1.heap.get? a = some ob ∧ ob.dict = none := by obtain ⟨ob, _, e, x, _⟩ := dat; exact ⟨ob, e, x.2.1⟩
  refine ⟨_, _, F.plainAttrs_dict, F.slot_dict_values, F.type_dict_values, hT, (fun b e => by cases e; exact hdn), Calls.callWith_builtin rfl (PySem.evalArgs_none (call_meetsIn F.slot_dict_values hT F.entry_dict_values (F.args_dict_values_1 _) (meets_dict_values (mixKind X.prog X.w) a low) ⟨⟨vs, dof⟩, args_nil ?_⟩))⟩
  have I2 := I1.kept (t' := s1.toks) (h' := s1.heap.push { cls := .type "dict_values", data := .fields #[.ref a] }) fun b u e => Heap.get?_push_of_some _ e
  have view : (s1.heap.push { cls := .type "dict_values", data := .fields #[.ref a] }).IsValuesView s1.heap.objs.size a := ⟨_, Heap.get?_push_size _ rfl, rfl, rfl⟩
  have n : (kvs.map fun kv => kv.2).length = vs.length := by rw [List.length_map]; exact Paired.length kv
  have n2 := Nat.le_trans (Nat.le_of_eq n) (by rw [← n, List.length_map]; exact hz)
  refine tuple_by (T := "dict_values") ⟨_, Heap.get?_push_size _ rfl, rfl⟩ (by decide) fun E' => PySem.W.kdu_collect (PySem.W.kdl_values (knd := mixKind X.prog X.w) (r := s1.heap.objs.size) (d := a) (kvs := vs) (ep := ep)) (I.ok.hd hc) ⟨view, dat.push _⟩ (n ▸ n2) fun h' tk acc kp hi => ?_
  refine tup_end (I2.kept (t' := tk) kp) (vals_items (n.symm ▸ hi) fun j x u e ⟨k, hky⟩ => ?_) n2 q
  obtain ⟨v, e1, rv⟩ := L2.KV.at' kv hky
  rw [List.getElem?_map, e1] at e
  cases e
  exact rv⟩
end
end Lw

set_option maxRecDepth 100000
set_option maxHeartbeats 4000000
/-! first occurrences -/
namespace Lw
open PySem PySem.Spec PyProof.Rows L2
section
variable {α : Type} [DecidableEq α]
def addN (acc : List α) (x : α) : List α := if x ∈ acc then acc else acc ++ [x]
def adds (acc xs : List α) : List α := xs.foldl addN acc
theorem adds_nil (acc : List α) : adds acc [] = acc := rfl
theorem adds_cons (acc : List α) (x : α) (xs : List α) : adds acc (x :: xs) = adds (addN acc x) xs := rfl
theorem adds_append (acc xs ys : List α) : adds acc (xs ++ ys) = adds (adds acc xs) ys := List.foldl_append
theorem addN_in {acc : List α} {x : α} (h : x ∈ acc) : addN acc x = acc := if_pos h
theorem addN_not {acc : List α} {x : α} (h : x ∉ acc) : addN acc x = acc ++ [x] := if_neg h
theorem mem_addN {acc : List α} {x y : α} : y ∈ addN acc x ↔ y ∈ acc ∨ y = x := by
  unfold addN
  split
  · rename_i h
    exact ⟨.inl, fun e => e.elim id fun e => e ▸ h⟩
  · rw [List.mem_append, List.mem_singleton]
theorem mem_adds : ∀ {xs acc : List α} {y : α}, y ∈ adds acc xs ↔ y ∈ acc ∨ y ∈ xs
  | [], acc, y => ⟨.inl, fun e => e.elim id fun e => nomatch e⟩
  | x :: xs, acc, y => by
    rw [adds_cons, mem_adds, mem_addN, List.mem_cons, or_assoc]
theorem adds_sub : ∀ {xs acc : List α}, (∀ x ∈ xs, x ∈ acc) → adds acc xs = acc
  | [], acc, _ => rfl
  | x :: xs, acc, h => by
    rw [adds_cons, addN_in (h x List.mem_cons_self)]
    exact adds_sub fun y hy => h y (List.mem_cons_of_mem _ hy)
theorem len_addN (acc : List α) (x : α) : (addN acc x).length ≤ acc.length + 1 := by
  unfold addN
  split
  · exact Nat.le_succ _
  · rw [List.length_append]; exact Nat.le_refl _
theorem len_adds : ∀ (xs acc : List α), (adds acc xs).length ≤ acc.length + xs.length
  | [], acc => Nat.le_refl _
  | x :: xs, acc => by
    rw [adds_cons, List.length_cons]
    have h1 := len_adds xs (addN acc x)
    have h2 := len_addN acc x
    omega
theorem adds_snoc (acc xs : List α) (x : α) : adds acc (xs ++ [x]) = addN (adds acc xs) x := by rw [adds_append]; rfl
end
/-! ### the variables of a term, an occurrence each -/
def Tm.isV : Tm → Option Int
  | .var i => some i
  | .app _ _ => none
def Tm.ints (t : Tm) : List Int := t.occ.filterMap Tm.isV
def Tm.intss (ts : List Tm) : List Int := (Tm.occs ts).filterMap Tm.isV
theorem Tm.ints_var (i : Int) : (Tm.var i).ints = [i] := by unfold Tm.ints; rw [Tm.occ_var]; rfl
theorem Tm.ints_app (n : Str) (ts : List Tm) : (Tm.app n ts).ints = Tm.intss ts := by unfold Tm.ints Tm.intss; rw [Tm.occ_app]; rfl
theorem Tm.intss_nil : Tm.intss [] = [] := by unfold Tm.intss; rw [Tm.occs_nil]; rfl
theorem Tm.intss_cons (t : Tm) (r : List Tm) : Tm.intss (t :: r) = t.ints ++ Tm.intss r := by unfold Tm.intss Tm.ints; rw [Tm.occs_cons, List.filterMap_append]
theorem Tm.intss_append (a b : List Tm) : Tm.intss (a ++ b) = Tm.intss a ++ Tm.intss b := by unfold Tm.intss; rw [Tm.occs_append, List.filterMap_append]
theorem Tm.len_ints (t : Tm) : t.ints.length ≤ t.size := by rw [← Tm.occ_len]; exact List.length_filterMap_le _ _
theorem Tm.len_intss (ts : List Tm) : (Tm.intss ts).length ≤ Tm.sizes ts := by rw [← Tm.occs_len]; exact List.length_filterMap_le _ _
/-! ### occurrences of nice terms -/
mutual
theorem Tm.occ_nice : ∀ t : Tm, t.Nice → ∀ u ∈ t.occ, u.Nice ∧ u.depth ≤ t.depth ∧ u.size ≤ t.size
  | .var i, h, u, hu => by
    rw [Tm.occ_var] at hu
    rcases List.mem_cons.mp hu with rfl | hu
    · exact ⟨h, Nat.le_refl _, Nat.le_refl _⟩
    · cases hu
  | .app n ts, h, u, hu => by
    rw [Tm.occ_app] at hu
    rcases List.mem_cons.mp hu with rfl | hu
    · exact ⟨h, Nat.le_refl _, Nat.le_refl _⟩
    · have := Tm.occs_nice ts ((Tm.nice_app _ _).mp h).2 u hu
      rw [Tm.depth_app, Tm.size_app]
      exact ⟨this.1, by omega, by omega⟩
theorem Tm.occs_nice : ∀ ts : List Tm, Tm.Nices ts → ∀ u ∈ Tm.occs ts, u.Nice ∧ u.depth ≤ Tm.depths ts ∧ u.size ≤ Tm.sizes ts
  | [], _, u, hu => by rw [Tm.occs_nil] at hu; cases hu
  | t :: r, h, u, hu => by
    rw [Tm.nices_cons] at h
    rw [Tm.occs_cons] at hu
    rw [Tm.depths_cons, Tm.sizes_cons]
    rcases List.mem_append.mp hu with hu | hu
    · have := Tm.occ_nice t h.1 u hu
      exact ⟨this.1, Nat.le_trans this.2.1 (Nat.le_max_left _ _), by omega⟩
    · have := Tm.occs_nice r h.2 u hu
      exact ⟨this.1, Nat.le_trans this.2.1 (Nat.le_max_right _ _), by omega⟩
end
theorem Tm.self_occ : ∀ t : Tm, t ∈ t.occ
  | .var i => by rw [Tm.occ_var]; exact List.mem_cons_self
  | .app n ts => by rw [Tm.occ_app]; exact List.mem_cons_self
theorem Tm.mem_occs : ∀ {ts : List Tm} {u : Tm}, u ∈ Tm.occs ts ↔ ∃ t ∈ ts, u ∈ t.occ
  | [], u => by rw [Tm.occs_nil]; exact ⟨fun h => (List.not_mem_nil h).elim, fun ⟨t, h, _⟩ => (List.not_mem_nil h).elim⟩
  | t :: r, u => by
    rw [Tm.occs_cons, List.mem_append, Tm.mem_occs]
    constructor
    · rintro (h | ⟨v, h1, h2⟩)
      · exact ⟨t, List.mem_cons_self, h⟩
      · exact ⟨v, List.mem_cons_of_mem _ h1, h2⟩
    · rintro ⟨v, h1, h2⟩
      rcases List.mem_cons.mp h1 with rfl | h1
      · exact .inl h2
      · exact .inr ⟨v, h1, h2⟩
mutual
/-- occurrences of occurrences are occurrences -/
theorem Tm.occ_trans : ∀ t u : Tm, u ∈ t.occ → ∀ v ∈ u.occ, v ∈ t.occ
  | .var i, u, hu, v, hv => by
    rw [Tm.occ_var] at hu
    rcases List.mem_cons.mp hu with rfl | hu
    · exact hv
    · cases hu
  | .app n ts, u, hu, v, hv => by
    rw [Tm.occ_app] at hu
    rcases List.mem_cons.mp hu with rfl | hu
    · exact hv
    · rw [Tm.occ_app]
      exact List.mem_cons_of_mem _ (Tm.occs_trans ts u hu v hv)
theorem Tm.occs_trans : ∀ (ts : List Tm) (u : Tm), u ∈ Tm.occs ts → ∀ v ∈ u.occ, v ∈ Tm.occs ts
  | [], u, hu, v, hv => by rw [Tm.occs_nil] at hu; cases hu
  | t :: r, u, hu, v, hv => by
    rw [Tm.occs_cons] at hu ⊢
    rcases List.mem_append.mp hu with hu | hu
    · exact List.mem_append_left _ (Tm.occ_trans t u hu v hv)
    · exact List.mem_append_right _ (Tm.occs_trans r u hu v hv)
end
mutual
theorem Tm.occ_size : ∀ t u : Tm, u ∈ t.occ → u = t ∨ u.size < t.size
  | .var i, u, hu => by
    rw [Tm.occ_var] at hu
    rcases List.mem_cons.mp hu with rfl | hu
    · exact .inl rfl
    · cases hu
  | .app n ts, u, hu => by
    rw [Tm.occ_app] at hu
    rcases List.mem_cons.mp hu with rfl | hu
    · exact .inl rfl
    · have := Tm.occs_size ts u hu
      rw [Tm.size_app]
      exact .inr (by omega)
theorem Tm.occs_size : ∀ (ts : List Tm) (u : Tm), u ∈ Tm.occs ts → u.size ≤ Tm.sizes ts
  | [], u, hu => by rw [Tm.occs_nil] at hu; cases hu
  | t :: r, u, hu => by
    rw [Tm.occs_cons] at hu
    rw [Tm.sizes_cons]
    rcases List.mem_append.mp hu with hu | hu
    · rcases Tm.occ_size t u hu with rfl | h
      · omega
      · omega
    · have := Tm.occs_size r u hu
      omega
end
/-- all that is found, up to a size, is found with all its occurrences -/
def Closed (m : Nat) (acc : List Tm) : Prop := ∀ u ∈ acc, u.size ≤ m → ∀ v ∈ u.occ, v ∈ acc
theorem Closed.nil (m : Nat) : Closed m [] := fun u h => nomatch h
theorem Closed.mono {m m' : Nat} {acc : List Tm} (h : Closed m acc) (hm : m' ≤ m) : Closed m' acc := fun u hu hz => h u hu (Nat.le_trans hz hm)
theorem Closed.addsO {m : Nat} {acc : List Tm} {t : Tm} (h : Closed m acc) : Closed m (adds acc t.occ) := fun u hu hz v hv => by
  rcases mem_adds.mp hu with hu | hu
  · exact mem_adds.mpr (.inl (h u hu hz v hv))
  · exact mem_adds.mpr (.inr (Tm.occ_trans t u hu v hv))
/-- the term is found: nothing is added -/
theorem Closed.found {acc : List Tm} {t : Tm} (h : Closed t.size acc) (ht : t ∈ acc) : adds acc t.occ = acc := adds_sub fun v hv => h t ht (Nat.le_refl _) v hv
/-- a greater one at the end -/
theorem Closed.snoc {m : Nat} {acc : List Tm} {t : Tm} (h : Closed m acc) (hm : m < t.size) : Closed m (acc ++ [t]) := fun u hu hz v hv => by
  rcases List.mem_append.mp hu with hu | hu
  · exact List.mem_append_left _ (h u hu hz v hv)
  · rcases List.mem_cons.mp hu with rfl | hu
    · omega
    · cases hu
/-! ### dicts by ints, dicts by repr -/
def dkI (ks : List Int) : List (Key × V) := ks.map fun i => (Sum.inl i, V.bl true)
theorem valV_dkI (ks : List Int) (i : Int) : valV (dkI ks) (Sum.inl i) = if i ∈ ks then some (.bl true) else none := by
  induction ks with
  | nil => rfl
  | cons j r ih =>
    by_cases e : j = i
    · rw [show dkI (j :: r) = (Sum.inl j, V.bl true) :: dkI r from rfl, valV_pos (by rw [e]), if_pos (by rw [e]; exact List.mem_cons_self)]
    · rw [show dkI (j :: r) = (Sum.inl j, V.bl true) :: dkI r from rfl, valV_neg (fun z => e (Sum.inl.inj z)), ih]
      by_cases h : i ∈ r
      · rw [if_pos h, if_pos (List.mem_cons_of_mem _ h)]
      · rw [if_neg h, if_neg fun z => (List.mem_cons.mp z).elim (fun z => e z.symm) h]
theorem putK_dkI (ks : List Int) (i : Int) : putK (dkI ks) (Sum.inl i) (.bl true) = dkI (addN ks i) := by
  have hv := valV_dkI ks i
  by_cases h : i ∈ ks
  · rw [if_pos h] at hv
    rw [addN_in h]
    unfold putK
    rw [valV_any, hv]
    rw [if_pos (show (some (V.bl true)).isSome = true from rfl)]
    unfold dkI
    rw [List.map_map]
    refine List.map_congr_left fun j _ => ?_
    show (if _ then _ else _) = _
    split <;> rfl
  · rw [if_neg h] at hv
    rw [addN_not h, putK_new _ hv]
    unfold dkI
    rw [List.map_append]
    rfl
def dkR : List Tm → List V → List (Key × V)
  | t :: ts, v :: vs => (Sum.inr t.dat.shown, v) :: dkR ts vs
  | _, _ => []
theorem dkR_vals : ∀ {ts : List Tm} {vs : List V}, vs.length = ts.length → (dkR ts vs).map (fun kv => kv.2) = vs
  | [], [], _ => rfl
  | [], _ :: _, h => by cases h
  | _ :: _, [], h => by cases h
  | t :: ts, v :: vs, h => by
    show v :: (dkR ts vs).map (fun kv => kv.2) = _
    rw [dkR_vals (by simpa using h)]
theorem dkR_len : ∀ {ts : List Tm} {vs : List V}, vs.length = ts.length → (dkR ts vs).length = ts.length
  | [], [], _ => rfl
  | [], _ :: _, h => by cases h
  | _ :: _, [], h => by cases h
  | t :: ts, v :: vs, h => by
    show (dkR ts vs).length + 1 = _
    rw [dkR_len (by simpa using h)]
    rfl
theorem dkR_snoc : ∀ {ts : List Tm} {vs : List V} (t : Tm) (v : V), vs.length = ts.length → dkR (ts ++ [t]) (vs ++ [v]) = dkR ts vs ++ [(Sum.inr t.dat.shown, v)]
  | [], [], _, _, _ => rfl
  | [], _ :: _, _, _, h => by cases h
  | _ :: _, [], _, _, h => by cases h
  | a :: ts, b :: vs, t, v, h => by
    show (Sum.inr a.dat.shown, b) :: dkR (ts ++ [t]) (vs ++ [v]) = _
    rw [dkR_snoc t v (by simpa using h)]
    rfl
theorem valV_dkR : ∀ {ts : List Tm} {vs : List V} {t : Tm}, vs.length = ts.length → (∀ u ∈ ts, u.Nice) → t.Nice → ((valV (dkR ts vs) (Sum.inr t.dat.shown)).isSome = true ↔ t ∈ ts)
  | [], [], t, _, _, _ => ⟨fun h => (by cases h), fun h => nomatch h⟩
  | [], _ :: _, _, h, _, _ => by cases h
  | _ :: _, [], _, h, _, _ => by cases h
  | a :: ts, b :: vs, t, h, hn, ht => by
    rw [show dkR (a :: ts) (b :: vs) = (Sum.inr a.dat.shown, b) :: dkR ts vs from rfl]
    by_cases e : a = t
    · rw [valV_pos (by rw [e])]
      exact ⟨fun _ => by rw [e]; exact List.mem_cons_self, fun _ => rfl⟩
    · rw [valV_neg (fun z => e (shown_inj (hn a List.mem_cons_self) ht (Sum.inr.inj z))), valV_dkR (by simpa using h) (fun u hu => hn u (List.mem_cons_of_mem _ hu)) ht]
      exact ⟨List.mem_cons_of_mem _, fun z => (List.mem_cons.mp z).elim (fun z => absurd z.symm e) id⟩
end Lw

set_option maxRecDepth 100000
set_option maxHeartbeats 4000000
/-! steps with dicts, `not in`, promises on variables and subterms -/
namespace Lw
open PySem PySem.Spec PyProof.Rows L2
section
variable {σ : L2.St} {H : Hp} {Q : VK} {D : Ends} {K : PySem.W.Frag} {td ty tv tx : TE}
theorem d_dnew (q : ∀ p, H p = none → Q (.ref p) (upd H p (.dK []))) : tDNewK σ H Q := q
theorem d_dput (q : tv σ H fun v H1 => td σ H1 fun x H2 => ty σ H2 fun y H3 => ∃ a H4, x = .ref a ∧ DPut H3 a y v H4 ∧ D.nx σ H4) : sDPut td ty tv D σ H := q
theorem d_dsetd (q : td σ H fun x H1 => ∃ a, x = .ref a ∧ IsD H1 a ∧ ty σ H1 fun y H2 => tx σ H2 fun z H3 => ∃ (kvs : List (Key × V)) (k : Key), H3 a = some (.dK kvs) ∧ y = kV k ∧ kvs.length < sizeLine ∧
  (∀ v, valV kvs k = some v → Q v H3) ∧ (valV kvs k = none → Q z (upd H3 a (.dK (putK kvs k z))))) : tDSetd td ty tx σ H Q := q
theorem d_tupVals (q : td σ H fun x H1 => ∃ a kvs, x = V.ref a ∧ H1 a = some (.dK kvs) ∧ ∀ q, H1 q = none → Q (.ref q) (upd H1 q (.tup (kvs.map fun kv => kv.2)))) : tTupVals td σ H Q := q
theorem d_tupDict {a : Addr} {kvs : List (Key × V)} (h : H a = some (.dK kvs)) (q : ∀ p, H p = none → Q (.ref p) (upd H p (.tup (kvs.map fun kv => kV kv.1)))) : rTupDict [.ref a] H Q := ⟨a, kvs, rfl, h, q⟩
end
theorem RoomG.u65 {k : Nat} {A : Around} (r : RoomG k A) : A.units + 65 < cLine := by have := r.room.un; omega
theorem RoomG.u1 {k : Nat} {A : Around} (r : RoomG k A) : A.units + 1 < cLine := by have := r.room.un; omega
theorem shaped_of {d : PyData} (h : d.canLay0 = true) (hd : d.depth ≤ 62) : SeqAt.shaped d = true := by
  unfold SeqAt.shaped
  rw [h, decide_eq_true (Nat.le_trans hd (by decide))]
  rfl
theorem ints_lay : ∀ is : List Int, PyData.canLayAll0 (is.map PyData.int) = true ∧ PyData.depthAll (is.map PyData.int) = 0
  | [] => ⟨rfl, rfl⟩
  | i :: r => by
    obtain ⟨h1, h2⟩ := ints_lay r
    refine ⟨?_, ?_⟩
    · show ((PyData.int i).canLay0 && PyData.canLayAll0 (r.map PyData.int)) = true
      rw [h1]; rfl
    · rw [List.map_cons]
      simp only [PyData.depthAll, PyData.depth, h2]
      rfl
theorem dpAll_ints {K : PySem.W.Frag} {H : Hp} : ∀ is : List Int, DpAll K H (is.map V.int) (is.map PyData.int)
  | [] => .nil
  | i :: r => .cons (.int i) (dpAll_ints r)
theorem any_ints (is : List Int) (i : Int) : ((is.map PyData.int).any fun z => PyData.eqv z (.int i)) = decide (i ∈ is) := by
  rw [Bool.eq_iff_iff, List.any_eq_true, decide_eq_true_eq]
  refine ⟨fun ⟨z, hz, e⟩ => ?_, fun h => ⟨.int i, List.mem_map.mpr ⟨i, h, rfl⟩, beq_self_eq_true i⟩⟩
  obtain ⟨j, hj, rfl⟩ := List.mem_map.mp hz
  have e : (j == i) = true := e
  rw [← eq_of_beq e]
  exact hj
theorem d_notInI {K : PySem.W.Frag} {H : Hp} {Q : VK} {l : Addr} {is : List Int} {i : Int} (h : H l = some (.lst (is.map V.int))) (q : Q (.bl (!decide (i ∈ is))) H) : rNotInD K (.int i) (.ref l) H Q := by
  obtain ⟨h1, h2⟩ := ints_lay is
  refine ⟨.int i, is.map PyData.int, .int i, .lst (sqL h) (dpAll_ints is), rfl, shaped_of h1 (by simp only [PyData.depth, h2]; decide), ?_⟩
  rw [any_ints]
  exact q
theorem tms_lay {ts : List Tm} {d : Nat} (hn : ∀ t ∈ ts, t.Nice) (hd : ∀ t ∈ ts, t.depth ≤ d) : PyData.canLayAll0 (ts.map Tm.dat) = true ∧ PyData.depthAll (ts.map Tm.dat) ≤ d := by
  rw [← Tm.dats_map]
  exact ⟨Tm.dats_can ts ((Tm.nices_iff ts).mpr hn), Nat.le_trans (Tm.dats_dep ts) (Tm.depths_le hd)⟩
theorem d_notInT {K : PySem.W.Frag} {H : Hp} {Q : VK} {l : Addr} {x : V} {vs : List V} {ts : List Tm} {t : Tm} (hx : At H x t) (h : H l = some (.lst vs)) (a : Ats H vs ts) (nt : t.Nice) (dt : t.depth ≤ 61) (hn : ∀ t ∈ ts, t.Nice) (hd : ∀ t ∈ ts, t.depth ≤ 61) (q : Q (.bl (!decide (t ∈ ts))) H) : rNotInD K x (.ref l) H Q := by
  obtain ⟨h1, h2⟩ := tms_lay hn hd
  refine ⟨t.dat, ts.map Tm.dat, hx.dp, .lst (sqL h) a.dp, shaped_of (Tm.dat_can t nt) (by have := Tm.dat_dep t; omega), shaped_of h1 (by simp only [PyData.depth]; omega), ?_⟩
  rw [any_eqv nt]
  exact q
/-! ### promises -/
def spKey : Sp := fun vs H Q _ => ∃ (v : V) (tm : Tm), vs = [v] ∧ At H v tm ∧ tm.Nice ∧ tm.depth ≤ 62 ∧ tm.size ≤ 20000 ∧ ∀ H', Kp [] H H' → Q (.str tm.dat.shown) H'
def spVars : Sp := fun vs H Q _ => ∃ (a : Addr) (xs : List V) (ts : List Tm), vs = [.ref a] ∧ H a = some (.tup xs) ∧ Ats H xs ts ∧ Tm.sizes ts ≤ 100000 ∧
  ∀ (H' : Hp) (p : Addr), Kp [] H H' → H p = none → H' p = some (.tup ((adds [] (Tm.intss ts)).map V.int)) → Q (.ref p) H'
def spSubs : Sp := fun vs H Q _ => ∃ (v : V) (tm : Tm), vs = [v] ∧ At H v tm ∧ tm.Nice ∧ tm.depth ≤ 61 ∧ tm.size ≤ 20000 ∧
  ∀ (H' : Hp) (p : Addr) (ws : List V), Kp [] H H' → H p = none → H' p = some (.tup ws) → Ats H' ws (adds [] tm.occ) → Q (.ref p) H'
def spRel : Sp := fun vs H Q _ => ∃ (a : Addr) (n : Str) (xs : List V), vs = [.ref a] ∧ H a = some (.tup (.str n :: xs)) ∧ ∀ (H' : Hp) (p : Addr), Kp [] H H' → H p = none → H' p = some (.tup [.str n, .int xs.length]) → Q (.ref p) H'
def spCollect (d : Nat) : Sp := fun vs H Q _ => ∃ (v : V) (l : Addr) (tm : Tm) (is : List Int), vs = [v, .ref l] ∧ At H v tm ∧ tm.depth ≤ d ∧ H l = some (.lst (is.map V.int)) ∧ is.length + tm.size ≤ 500000 ∧
  ∀ H', Kp [l] H H' → H' l = some (.lst ((adds is tm.ints).map V.int)) → Q .non H'
/-- .. of a list -/
def spLVars (d : Nat) : Sp := fun vs H Q _ => ∃ (a : Addr) (xs : List V) (ts : List Tm), vs = [.ref a] ∧ H a = some (.lst xs) ∧ Ats H xs ts ∧ (∀ t ∈ ts, t.depth ≤ d) ∧ Tm.sizes ts ≤ 100000 ∧
  ∀ (H' : Hp) (p : Addr), Kp [] H H' → H p = none → H' p = some (.lst ((adds [] (Tm.intss ts)).map V.int)) → Q (.ref p) H'
def spParts (d : Nat) : Sp := fun vs H Q _ => ∃ (v : V) (l : Addr) (tm : Tm) (fs : List V) (acc : List Tm), vs = [v, .ref l] ∧ At H v tm ∧ tm.Nice ∧ tm.depth ≤ d ∧ tm.depth ≤ 61 ∧ H l = some (.lst fs) ∧ Ats H fs acc ∧ (∀ u ∈ acc, u.Nice ∧ u.depth ≤ 61) ∧
  Closed tm.size acc ∧ acc.length + tm.size ≤ 500000 ∧ ∀ (H' : Hp) (fs' : List V), Kp [l] H H' → H' l = some (.lst fs') → Ats H' fs' (adds acc tm.occ) → Q .non H'
theorem one_not' {a b : Addr} (h : a ≠ b) : a ∉ [b] := fun z => by rcases List.mem_cons.mp z with z | z; exact h z; cases z
/-- what is not the one address stays -/
theorem Kp.one {H H' : Hp} {l a : Addr} {o : HO} (k : Kp [l] H H') (h : a ≠ l) (e : H a = some o) : H' a = some o := k a o (one_not' h) e
theorem no_tupD {H : Hp} {a : Addr} {kvs : List (Key × V)} (h : H a = some (.dK kvs)) : ∀ b ∈ [a], ∀ ys, H b ≠ some (.tup ys) := fun b hb ys e => by
  rcases List.mem_cons.mp hb with z | z
  · rw [z, h] at e; cases e
  · cases z
end Lw
namespace Lw
open PySem PySem.Spec PyProof.Rows L2
theorem d_ixT0 {K : PySem.W.Frag} {H : Hp} {Q : VK} {p : Addr} {v : V} {xs : List V} (h : H p = some (.tup (v :: xs))) (q : Q v H) : rIxT K (.ref p) (.int 0) H Q := d_ixTc h (atI_of (Int.le_refl _) rfl) q
end Lw
namespace Lw
open PySem PySem.Spec PyProof.Rows L2
/-- one more taken -/
theorem take_succ_of {α : Type} {ts : List α} {i : Nat} {t : α} (h : ts[i]? = some t) : ts.take (i + 1) = ts.take i ++ [t] := by rw [List.take_add_one, h]; rfl
theorem sizes_take {ts : List Tm} {i : Nat} {t : Tm} (h : ts[i]? = some t) : Tm.sizes (ts.take i) + t.size ≤ Tm.sizes ts := by
  have e1 : Tm.sizes (ts.take (i + 1)) ≤ Tm.sizes ts := by
    conv => rhs; rw [← List.take_append_drop (i + 1) ts, Tm.sizes_append]
    omega
  rw [take_succ_of h, Tm.sizes_append, Tm.sizes_cons, Tm.sizes_nil] at e1
  omega
theorem intss_take {ts : List Tm} {i : Nat} {t : Tm} (h : ts[i]? = some t) : Tm.intss (ts.take (i + 1)) = Tm.intss (ts.take i) ++ t.ints := by
  rw [take_succ_of h, Tm.intss_append, Tm.intss_cons, Tm.intss_nil, List.append_nil]
theorem occs_take {ts : List Tm} {i : Nat} {t : Tm} (h : ts[i]? = some t) : Tm.occs (ts.take (i + 1)) = Tm.occs (ts.take i) ++ t.occ := by
  rw [take_succ_of h, Tm.occs_append, Tm.occs_cons, Tm.occs_nil, List.append_nil]
theorem Ats.take_all {H : Hp} {vs : List V} {ts : List Tm} (h : Ats H vs ts) : ts.take vs.length = ts := List.take_of_length_le (by rw [← h.len]; exact Nat.le_refl _)
end Lw
namespace Lw
open PySem PySem.Spec PyProof.Rows L2
theorem fresh0 {H H1 : Hp} {p : Addr} (k : Kp [] H H1) (hp : H1 p = none) : H p = none := by
  cases e : H p with
  | none => rfl
  | some o =>
    have e2 := k p o (by simp) e
    rw [hp] at e2
    cases e2
end Lw

set_option maxRecDepth 100000
set_option maxHeartbeats 4000000
/-! drawn lists of terms of several depths; told and due that are tuples of ints -/
namespace Lw
open PySem PySem.Spec PyProof.Rows L2
/-- [draw(.., depth of j) for j in range(n)] -/
theorem lb_termsD {t sc sy va : Addr} {ns : List Int} {zs : List (Str × Int)} {vars : List Tm} {σ : L2.St} {i m : Nat} {n : Nat} {B : Hp} {D : Addr} {Qd : Hp → Prop} {te : TE} (dd : Nat → Nat) (hD : B D = none) (W : Dw B t sc sy va ns zs vars) (z1 : 1 ≤ zs.length) (z2 : zs.length ≤ 100000) (v2 : vars.length ≤ 100000) (hn : n ≤ 100000)
    (hte : ∀ j H' (Q : VK), spTermLe m [.ref t, .ref sy, .ref va, .int ((dd j : Int) + 1)] H' Q E0 → te (((wipe σ [i]).set i (some (.int (0 + (j : Nat)))))) H' Q) (hd0 : ∀ j, dd j ≤ m)
    (hd : ∀ H' vs ts, Kp [D, t] B H' → H' D = some (.lst vs) → Ats H' vs ts → ts.length = n → (∀ u ∈ ts, ∃ e, e ≤ m ∧ Gen zs vars e u) → Dw H' t sc sy va ns zs vars → Qd H') :
    LcB (Itr 0 n) (gName i) tYes te [i] σ B D Qd := by
  have nD1 : D ≠ t := fun z => W.tp.t_some hD z.symm
  have nD2 : D ≠ sc := fun z => W.tp.s_some hD z.symm
  have nD3 : D ≠ sy := fun z => by obtain ⟨_, q1, _⟩ := W.sy.is; exact ne_of_none q1 hD z.symm
  have nD4 : D ≠ va := fun z => by obtain ⟨_, q1, _⟩ := W.va.is; exact ne_of_none q1 hD z.symm
  have i1 : ∀ {a : Addr}, D ≠ a → a ∉ [D] := fun h z => by rcases List.mem_cons.mp z with z | z; exact h z.symm; cases z
  refine lb_range (fun j H2 => ∃ vs ts, H2 D = some (.lst vs) ∧ Ats H2 vs ts ∧ ts.length = j ∧ (∀ u ∈ ts, ∃ e, e ≤ m ∧ Gen zs vars e u) ∧ Kp [D, t] B H2 ∧ Dw H2 t sc sy va ns zs vars)
    ⟨[], [], upd_same, .nil, rfl, (fun u hu => by cases hu), Kp.new hD, W.nil (Kp.new hD)⟩ (fun j H2 hj h2 => ?_) (fun H2 h2 => ?_)
  · obtain ⟨vs, ts, eD, aD, lD, gD, kD, W2⟩ := h2
    show wipe (List.set (wipe σ [i]) i (some (.int (0 + (j : Nat))))) [i] = wipe σ [i] ∧ _
    refine ⟨by show ((σ.set i none).set i _).set i none = σ.set i none; rw [List.set_set, List.set_set], ?_⟩
    refine hte j H2 _ ⟨dd j, hd0 j, t, sc, sy, va, ns, zs, vars, rfl, W2.tp, W2.sy, z1, z2, W2.va, v2, fun H4 v tm k4 T4 a4 g4 => ?_⟩
    have W4 := W2.tape k4 T4
    have eD4 := kept_at k4 nD1 eD
    have kd : Kp [D] H4 (upd H4 D (.lst (vs ++ [v]))) := Kp.put (by simp)
    refine ⟨vs, eD4, smallL (by rw [aD.len, lD]; omega), vs ++ [v], ts ++ [tm], upd_same, ?_, by rw [List.length_append, lD]; rfl, fun u hu => ?_, ?_, ?_⟩
    · exact kd.ats (no_tup1 eD4) ((aD.keep (W2.tp.keepT k4)).append (.one a4))
    · rcases List.mem_append.mp hu with hu | hu
      · exact gD u hu
      · rcases List.mem_cons.mp hu with rfl | hu
        · exact ⟨dd j, hd0 j, g4⟩
        · cases hu
    · exact (kD.trans (k4.mono fun b hb => List.mem_cons_of_mem _ hb)).trans (Kp.put (by simp))
    · exact ⟨T4.keep kd (i1 nD1) (i1 nD2), W4.sy.keep kd (i1 nD3) (no_tup1 eD4), W4.va.keep kd (i1 nD4) (no_tup1 eD4)⟩
  · obtain ⟨vs, ts, eD, aD, lD, gD, kD, W2⟩ := h2
    exact hd H2 vs ts kD eD aD lD gD W2
theorem Tm.ints_nice {t : Tm} (h : t.Nice) : ∀ i ∈ t.ints, 0 ≤ i ∧ i < 1000000000000 := fun i hi => by
  obtain ⟨u, hu, e⟩ := List.mem_filterMap.mp hi
  have n := (Tm.occ_nice t h u hu).1
  cases u with
  | var j =>
    cases e
    exact (Tm.nice_var _).mp n
  | app _ _ => cases e
theorem Tm.intss_nice {ts : List Tm} (h : ∀ t ∈ ts, t.Nice) : ∀ i ∈ Tm.intss ts, 0 ≤ i ∧ i < 1000000000000 := fun i hi => by
  obtain ⟨u, hu, e⟩ := List.mem_filterMap.mp hi
  obtain ⟨t, ht, hu⟩ := Tm.mem_occs.mp hu
  have n := (Tm.occ_nice t (h t ht) u hu).1
  cases u with
  | var j =>
    cases e
    exact (Tm.nice_var _).mp n
  | app _ _ => cases e
theorem d_alikeIs {K : PySem.W.Frag} {H : Hp} {Q : VK} {E : XK} {a b : Addr} {is : List Int} (e1 : H a = some (.tup (is.map V.int))) (e2 : H b = some (.tup (is.map V.int))) (hn : ∀ i ∈ is, 0 ≤ i ∧ i < 1000000000000) (hw : is.length ≤ 20000)
    (q : ∀ H', Kp [] H H' → Q (.bl true) H') : spAlikeD K [.ref a, .ref b] H Q E :=
  ⟨_, _, .tuple (is.map PyData.int), rfl, dp_tup e1 (dpAll_ints is), dp_tup e2 (dpAll_ints is), (Gd.tup (b := 0) (w := 42) (b' := 1) (w' := 1000000) (fun d hd => by
    obtain ⟨i, hi, rfl⟩ := List.mem_map.mp hd
    exact Gd.int (hn i hi).1 (hn i hi).2) (Nat.le_refl _) (by rw [List.length_map]; omega)).good (by decide) (Nat.le_refl _), .inr ⟨⟨_, _, rfl, e1⟩, ⟨_, _, rfl, e2⟩⟩, q⟩
/-- .. of a text and an int -/
theorem d_alikeSI {K : PySem.W.Frag} {H : Hp} {Q : VK} {E : XK} {a b : Addr} {z : Str} {i : Int} (e1 : H a = some (.tup [.str z, .int i])) (e2 : H b = some (.tup [.str z, .int i])) (hz : TxtOk z) (h0 : 0 ≤ i) (h1 : i < 1000000000000)
    (q : ∀ H', Kp [] H H' → Q (.bl true) H') : spAlikeD K [.ref a, .ref b] H Q E :=
  ⟨_, _, .tuple [.str z, .int i], rfl, dp_tup e1 (.cons (.str z) (.cons (.int i) .nil)), dp_tup e2 (.cons (.str z) (.cons (.int i) .nil)), (Gd.tup (b := 0) (w := 42) (b' := 1) (w' := 1000000) (fun d hd => by
    rcases List.mem_cons.mp hd with rfl | hd
    · exact Gd.str hz
    · rcases List.mem_cons.mp hd with rfl | hd
      · exact Gd.int h0 h1
      · cases hd) (Nat.le_refl _) (by rw [List.length_cons, List.length_cons, List.length_nil]; omega)).good (by decide) (Nat.le_refl _), .inr ⟨⟨_, _, rfl, e1⟩, ⟨_, _, rfl, e2⟩⟩, q⟩
theorem txt_eq : TxtOk "=" := ⟨by decide +kernel, by decide +kernel⟩
theorem vars_nice {is : List Int} (h : ∀ i ∈ is, 0 ≤ i ∧ i < 1000000000000) : ∀ t ∈ is.map Tm.var, t.Nice ∧ t.depth ≤ 1 ∧ t.size ≤ 1 := fun t ht => by
  obtain ⟨i, hi, rfl⟩ := List.mem_map.mp ht
  rw [Tm.depth_var, Tm.size_var]
  exact ⟨(Tm.nice_var _).mpr (h i hi), Nat.le_refl _, Nat.le_refl _⟩
end Lw
namespace Lw
open PySem PySem.Spec PyProof.Rows L2
mutual
theorem Tm.sizes_occ : ∀ t : Tm, Tm.sizes t.occ ≤ t.size * t.depth
  | .var i => by rw [Tm.occ_var, Tm.sizes_cons, Tm.sizes_nil, Tm.size_var, Tm.depth_var]; exact Nat.le_refl _
  | .app n ts => by
    have h := Tm.sizes_occs ts
    rw [Tm.occ_app, Tm.sizes_cons, Tm.size_app, Tm.depth_app, Nat.mul_add, Nat.add_mul, Nat.add_mul]
    omega
theorem Tm.sizes_occs : ∀ ts : List Tm, Tm.sizes (Tm.occs ts) ≤ Tm.sizes ts * Tm.depths ts
  | [] => by rw [Tm.occs_nil, Tm.sizes_nil, Nat.zero_mul]; exact Nat.le_refl _
  | t :: r => by
    have h1 := Tm.sizes_occ t
    have h2 := Tm.sizes_occs r
    rw [Tm.occs_cons, Tm.sizes_append, Tm.sizes_cons, Tm.depths_cons, Nat.add_mul]
    have h3 : t.size * t.depth ≤ t.size * max t.depth (Tm.depths r) := Nat.mul_le_mul_left _ (Nat.le_max_left _ _)
    have h4 : Tm.sizes r * Tm.depths r ≤ Tm.sizes r * max t.depth (Tm.depths r) := Nat.mul_le_mul_left _ (Nat.le_max_right _ _)
    omega
end
theorem sizes_addN (acc : List Tm) (t : Tm) : Tm.sizes (addN acc t) ≤ Tm.sizes acc + t.size := by
  unfold addN
  split
  · omega
  · rw [Tm.sizes_append, Tm.sizes_cons, Tm.sizes_nil]; omega
theorem sizes_adds : ∀ (xs acc : List Tm), Tm.sizes (adds acc xs) ≤ Tm.sizes acc + Tm.sizes xs
  | [], acc => by rw [adds_nil]; omega
  | x :: xs, acc => by
    have h1 := sizes_adds xs (addN acc x)
    have h2 := sizes_addN acc x
    rw [adds_cons, Tm.sizes_cons]
    omega
theorem Gd.tms {ts : List Tm} {b s : Nat} (hn : ∀ t ∈ ts, t.Nice) (hd : ∀ t ∈ ts, t.depth ≤ b) (hs : Tm.sizes ts ≤ s) : Gd (b + 1) (42 * s + 1) (.tuple (ts.map Tm.dat)) := by
  have N := (Tm.nices_iff ts).mpr hn
  rw [← Tm.dats_map]
  refine ⟨Tm.dats_can ts N, ?_, Tm.dats_sh ts N, Tm.dats_ls ts N, ?_⟩
  · simp only [PyData.depth]
    have := Tm.dats_dep ts
    have := Tm.depths_le hd
    omega
  · show PyData.weightAll (Tm.dats ts) + 1 ≤ _
    have := Tm.dats_wt ts N
    omega
theorem d_alikeTS {K : PySem.W.Frag} {H : Hp} {Q : VK} {E : XK} {a b : Addr} {xs ys : List V} {ts : List Tm} (e1 : H a = some (.tup xs)) (e2 : H b = some (.tup ys)) (h1 : Ats H xs ts) (h2 : Ats H ys ts) (hn : ∀ t ∈ ts, t.Nice) (hd : ∀ t ∈ ts, t.depth ≤ 61) (hs : Tm.sizes ts ≤ 20000)
    (q : ∀ H', Kp [] H H' → Q (.bl true) H') : spAlikeD K [.ref a, .ref b] H Q E :=
  ⟨_, _, .tuple (ts.map Tm.dat), rfl, dp_tup e1 h1.dp, dp_tup e2 h2.dp, (Gd.tms (b := 61) (s := 20000) hn hd hs).good (by decide) (by decide), .inr ⟨⟨_, _, rfl, e1⟩, ⟨_, _, rfl, e2⟩⟩, q⟩
end Lw

set_option maxRecDepth 100000
set_option maxHeartbeats 4000000
/-! generator expressions whose element may do anything, handed to tuple -/
namespace Lw
open PySem PySem.Spec PyProof.Rows L2 GenW
section
variable {A : Around} {elt iter tg : Expr} {scope : Scope} {pos : Pos} {it : Value} {ce : Env}
abbrev gxE (elt tg iter : Expr) (scope : Scope) (pos : Pos) : Expr := .GeneratorExp elt [⟨tg, iter, [], 0⟩] scope pos
theorem over_gxs : A.over (.compStart (gxE elt tg iter scope pos) 0 it .none ce) [] = A.deeper ce := by
  rfl
theorem over_gxl : A.over (.compLoop (gxE elt tg iter scope pos) 0 it .none ce) [] = A.deeper ce := by
  rfl
end
/-- the context of the element -/
def gxc (X : Cx) (N : List Str) (ce : Env) (A : Around) (sc : Shared) (H : Hp) (fp : List Addr) (pn : List (Addr × Obj)) : Cx where
  prog := X.prog
  w := X.w
  K := X.K
  mg := X.mg
  base := X.base
  A := A.deeper ce
  N := N
  s_0 := sc
  H_0 := H
  env := ce
  outer := X.stack
  stack := ce :: X.stack
  ex := fp
  calm := true
  fn := fun _ => false
  pn := pn
  xe := fun _ _ => False
/-- the turns: m goes down; ys: what is out -/
def GxW (J : It) (te : TE) (ws : List (Option V)) (Qd : List V → Hp → Prop) (W : Nat → Nat → List V → Hp → Prop) : Prop := ∀ m i ys H, W m i ys H →
  (J.stop i H ∧ Qd ys H) ∨ (J.go i H ∧ ys.length < sizeLine ∧ ∃ Nx : List V → Hp → Prop, (∀ ys' H', Nx ys' H' → ∃ m', m' < m ∧ W m' (i + 1) ys' H') ∧ ∀ y H', J.yld i H y H' → te (some y :: ws) H' fun z H2 => Nx (ys ++ [z]) H2)
section
variable {X : Cx} {N fr : List Str} {ce : Env} {A : Around} {sc : Shared} {H0 : Hp} {fp : List Addr} {pn : List (Addr × Obj)} {elt iter : Expr} {x : Str} {px pos : Pos} {scope : Scope} {it : Addr} {tn : Nat → Heap → Prop} {J : It} {te : TE} {S : Addr}
def GxEnd (X' : Cx) (S : Addr) (Qd : List V → Hp → Prop) : GenEnd := fun n s₀ r s => r = .ok .next ∧ ∃ ys σ H, n + ys.length = sizeLine ∧ GI X' S [] ys σ H s ∧ Qd ys H
theorem seg_gxLoop (hN : (x :: fr).Nodup) (hxl : ce.scope.names.lookup x = some .local) (hco : ce.scope.isCoroutine = false) (T : Turn X.prog X.w X.K (.Name x px) J fp it tn) (he : PE (gxc X (x :: fr) ce A sc H0 fp pn) elt te)
    (hpS : ∀ p ∈ pn, p.1 ≠ S) (hfS : ∀ b ∈ fp, b ≠ S) (hpf : ∀ p ∈ pn, p.1 ∉ fp) (hA : Apart (gxc X (x :: fr) ce A sc H0 fp pn) S) {ws : List (Option V)} {Qd : List V → Hp → Prop} {W : Nat → Nat → List V → Hp → Prop} (hW : GxW J te ws Qd W) :
    ∀ (m i n : Nat) (ys : List V) (s₀ s : Shared) (σ1 : Option V) (H : Hp), W m i ys H → n + ys.length = sizeLine → GI (gxc X (x :: fr) ce A sc H0 fp pn) S [] ys (σ1 :: ws) H s → tn i s.heap → (∀ b ∈ fp, H b = none) →
      Seg (model X.prog X.w) A (GxEnd (gxc X (x :: fr) ce A sc H0 fp pn) S Qd) (GY (gxc X (x :: fr) ce A sc H0 fp pn) S) n s₀ (.compLoop (gxE elt (.Name x px) iter scope pos) 0 (.ref it) .none ce) ((model X.prog X.w).den (.compLoop (gxE elt (.Name x px) iter scope pos) 0 (.ref it) .none ce)) [] s := by
  intro m
  induction m using Nat.strongRecOn with
  | ind m ih =>
  intro i n ys s₀ s σ1 H w hn hI hst hfn
  have stat : ∀ {acc : Array Value} {c : Nat} {σ' : L2.St} {H' : Hp} {s' : Shared}, Inv (gxc X (x :: fr) ce A sc H0 fp pn) [(S, lstObj acc c)] σ' H' s' → (∀ b ∈ fp, H' b = none) → ∀ b ∈ fp, FpOk (gxc X (x :: fr) ce A sc H0 fp pn) [(S, lstObj acc c)] H' b := fun {acc c σ' H' s'} I' hn b hb =>
    ⟨hn b hb, (I'.ok.exf b hb).1, I'.ok.exfs b hb, .inl hb, fun x c e => (I'.ok.exf b hb).2 x c e, fun p hp z => by
      rcases List.mem_append.mp hp with hp | hp
      · exact hpf p hp (z ▸ hb)
      · rcases List.mem_cons.mp hp with hp | hp
        · rw [hp] at z; exact hfS b hb z.symm
        · cases hp⟩
  show Seg _ A _ _ _ s₀ _ ((compTurn (gxE elt (.Name x px) iter scope pos) 0 (.ref it) .none ce).onRaise (leaving ce)) [] s
  rw [compTurn_gen, Sem.onRaise_eq_wrap]
  refine seg_bind_wrap (wpAny_standAt ?_)
  obtain ⟨acc, c, r, I⟩ := hI
  rcases hW m i ys H w with ⟨stop, q⟩ | ⟨go, hlt, Nx, hNx, step⟩
  · refine seg_bind_wrap ?_
    rw [over_gxl]
    have td := T.done (gxc X (x :: fr) ce A sc H0 fp pn) rfl rfl rfl rfl i [(S, lstObj acc c)] s _ H (fun _ _ => False) I (stat I hfn) hst stop
    refine wpAny_mono td (fun rr s6 ⟨hr, I6⟩ => ?_) (fun _ _ z => z.elim)
    subst hr
    exact seg_end (.ok .next) ⟨rfl, ys, _, H, hn, ⟨acc, c, r, I6⟩, q⟩
  · obtain ⟨n, rfl⟩ : ∃ k, n = k + 1 := ⟨n - 1, by omega⟩
    refine seg_bind_wrap ?_
    rw [over_gxl]
    have ti := T.item (gxc X (x :: fr) ce A sc H0 fp pn) rfl rfl rfl rfl i [(S, lstObj acc c)] s _ H (fun _ _ => False) I (stat I hfn) hst go
    refine wpAny_mono ti (fun rr s6 ⟨u, hr, h6⟩ => ?_) (fun _ _ z => z.elim)
    subst hr
    refine seg_bind_wrap ?_
    rw [over_gxl]
    refine wpAny_mono h6 (fun _ s7 ⟨y, H7, I7, r7, y7, st7, n7⟩ => ?_) (fun _ _ z => z.elim)
    have I7' := I7.pinned (stat I7 n7) (T.obj _ _ st7)
    refine seg_bind_wrap ?_
    rw [over_gxl]
    have pg : PG (gxc X (x :: fr) ce A sc H0 fp pn) (.Name x px) (gName 0) := pg_name (i := 0) hN rfl (.inl hxl) (.inr hxl)
    refine wpAny_mono (pg.run _ s7 _ H7 y u (fun σ' H' => σ' = some y :: ws ∧ H' = H7) I7' r7 ⟨rfl, rfl⟩) (fun _ s8 ⟨σ8, H8, I8, e1, e2⟩ => ?_) (fun _ _ z => False.elim z)
    subst e1 e2
    refine seg_bind_wrap ?_
    refine wpAny_of_eq (a := true) (by first | rfl | simp only [List.forIn_nil]) ?_
    simp only [if_true]
    have hy : ∀ v, yieldOut ce v = yieldValue v := fun v => by simp only [yieldOut, hco, Bool.false_eq_true, if_false]
    simp only [hy]
    rw [Sem.bind_eq_wrap', Sem.bind_eq_wrap', Sem.wrap_wrap, Sem.wrap_wrap]
    refine seg_wrap ?_
    rw [over_gxl]
    refine wpAny_mono (he.run _ s8 _ H8 _ I8 (step y H8 y7)) (fun z s9 ⟨zv, H9, I9, r9, q9⟩ => ?_) (fun _ _ z => False.elim z)
    have G9 : GI (gxc X (x :: fr) ce A sc H0 fp pn) S (pinsAt fp s7.heap) ys (some y :: ws) H9 s9 := ⟨acc, c, r, I9⟩
    have hip : ∀ p ∈ pinsAt fp s7.heap, p.1 ≠ S := fun p hp => hfS p.1 (of_pinsAt hp).1
    refine seg_at (seg_yield rfl rfl rfl ⟨ys, zv, pinsAt fp s7.heap, _, H9, hn, r9, G9, fun s'' sl => ?_⟩)
    have G2 := G9.woken hpS hip hA r9 sl
    obtain ⟨m', hm, w'⟩ := hNx _ _ q9
    have fp2 : ∀ b ∈ fp, (∀ o, s7.heap.get? b = some o → s''.heap.get? b = some o) ∧ H9 b = none := fun b hb => by
      obtain ⟨o, eo, _⟩ := T.obj _ _ st7 b hb
      obtain ⟨acc2, c2, _, I2⟩ := G2
      have pin := I2.pin (b, o) (List.mem_append_right _ (List.mem_cons_of_mem _ (mem_pinsAt hb eo)))
      refine ⟨fun o' e => ?_, pin.2.1⟩
      rw [eo] at e
      cases e
      exact pin.1
    have G3 : GI (gxc X (x :: fr) ce A sc H0 fp pn) S [] (ys ++ [zv]) (some y :: ws) H9 s'' := by
      obtain ⟨acc2, c2, r2, I2⟩ := G2
      exact ⟨acc2, c2, r2, I2.pins_of fun p hp => I2.pin p (List.mem_append_right _ (by
        rcases List.mem_cons.mp hp with hp | hp
        · rw [hp]; exact List.mem_cons_self
        · cases hp))⟩
    refine seg_again rfl (ih m' hm (i + 1) n _ s'' s'' _ H9 w' ?_ G3 (T.keep _ _ _ st7 fun b hb o e => (fp2 b hb).1 o e) fun b hb => (fp2 b hb).2)
    rw [List.length_append, List.length_singleton]
    omega
theorem seg_gxStart (hN : (x :: fr).Nodup) (hxl : ce.scope.names.lookup x = some .local) (hco : ce.scope.isCoroutine = false) (T : Turn X.prog X.w X.K (.Name x px) J fp it tn) (he : PE (gxc X (x :: fr) ce A sc H0 fp pn) elt te)
    (hpS : ∀ p ∈ pn, p.1 ≠ S) (hfS : ∀ b ∈ fp, b ≠ S) (hpf : ∀ p ∈ pn, p.1 ∉ fp) (hA : Apart (gxc X (x :: fr) ce A sc H0 fp pn) S) {ws : List (Option V)} {Qd : List V → Hp → Prop} {W : Nat → Nat → List V → Hp → Prop} (hW : GxW J te ws Qd W)
    {m n : Nat} {s₀ s : Shared} {σ1 : Option V} {H : Hp} (w : W m 0 [] H) (hn : n = sizeLine) (hI : GI (gxc X (x :: fr) ce A sc H0 fp pn) S [] [] (σ1 :: ws) H s) (hst : tn 0 s.heap) (hfn : ∀ b ∈ fp, H b = none) :
      Seg (model X.prog X.w) A (GxEnd (gxc X (x :: fr) ce A sc H0 fp pn) S Qd) (GY (gxc X (x :: fr) ce A sc H0 fp pn) S) n s₀ (.compStart (gxE elt (.Name x px) iter scope pos) 0 (.ref it) .none ce) ((model X.prog X.w).den (.compStart (gxE elt (.Name x px) iter scope pos) 0 (.ref it) .none ce)) [] s := by
  have loop := seg_gxLoop (iter := iter) (px := px) (scope := scope) (pos := pos) hN hxl hco T he hpS hfS hpf hA hW m 0 n [] s₀ s σ1 H w (by rw [hn]; rfl) hI hst hfn
  show Seg _ A _ _ _ s₀ _ ((compStart (gxE elt (.Name x px) iter scope pos) 0 (.ref it) .none ce).onRaise (leaving ce)) [] s
  unfold compStart
  rw [Sem.onRaise_eq_wrap]
  show Seg _ A _ _ _ s₀ _ ((ask >>= _).wrap _ _ _ _) [] s
  refine seg_bind_wrap (wpAny_askSetting ?_)
  split
  · exact seg_again rfl loop
  · first
      | exact seg_bind_wrap (wpAny_rule (seg_bind_wrap (wpAny_standAt (seg_bind_wrap (T.self _ 0 s _ _ hst (seg_again rfl loop))))))
      | (refine seg_bind_wrap (wpAny_rule ?_); show Seg _ A _ _ _ s₀ _ ((standAt iter.pos >>= _).wrap _ _ _ _) [] s; exact seg_bind_wrap (wpAny_standAt (seg_bind_wrap (T.self _ 0 s _ _ hst (seg_again rfl loop)))))
end

/-! ### the generator is made -/
/-- what the evaluation of a generator expression gives: a generator that has not begun -/
def GMadeG (P : Program) (w : World) (k : Nat) (outer : List Env) (H : Hp) (s : Shared) (ex : List Addr) (Q : List V → Hp → Prop) (u : Value) (s' : Shared) : Prop :=
  ∃ (a : Addr) (g : Nat) (c : Code), u = .ref a ∧ s.heap.objs.size ≤ a ∧ a < s'.heap.objs.size ∧ s'.heap.IsGen a g ∧ s'.gens[g]? = some (.fresh c) ∧ s'.os = s.os ∧ AllBare s'.gens ∧ s'.heap.NoLimit ∧ (∀ b o, s.heap.get? b = some o → s'.heap.get? b = some o) ∧
    ∀ (A : Around) (S : Addr) (s2 : Shared), RoomG k A → A.frames = some outer → s'.heap.objs.size ≤ S → (∀ b o, s'.heap.get? b = some o → s2.heap.get? b = some o) → (∃ c, s2.heap.get? S = some (lstObj #[] c)) → s2.os = s.os → AllBare s2.gens →
      Seg (model P w) A (REnd P w outer H s ex S a g Q fun _ _ _ => False) (YItem s S a g) sizeLine s2 c ((model P w).den c) [] s2
/-- the scope of a generator expression over one name -/
structure GxScope (x : Str) (fr : List Str) (osc sc : Scope) : Prop where
  kind : sc.kind = .function
  co : sc.isCoroutine = false
  nd : (x :: fr).Nodup
  cell : ∀ y ∈ sc.names, y.2 ≠ .cell
  dot : sc.names.lookup (".0" : Str) = some NameKind.local
  loc : sc.names.lookup x = some .local
  free : ∀ y ∈ sc.names, y.2 = .free → y.1 ∈ fr
  frk : ∀ y ∈ fr, sc.names.lookup y = some .free
  made : ∀ y ∈ sc.names, y.2 = .free → osc.names.lookup y.1 = some .cell ∨ osc.names.lookup y.1 = some .free
  frm : ∀ y ∈ fr, (y, NameKind.free) ∈ sc.names
def gxsB (x : Str) (fr : List Str) (osc sc : Scope) : Bool :=
  decide (sc.kind = .function) && !sc.isCoroutine && decide (x :: fr).Nodup && sc.names.all (fun y => !decide (y.2 = .cell)) && decide (sc.names.lookup (".0" : Str) = some NameKind.local) && decide (sc.names.lookup x = some .local) && sc.names.all (fun y => !decide (y.2 = .free) || decide (y.1 ∈ fr)) &&
    fr.all (fun y => decide (sc.names.lookup y = some .free)) && sc.names.all (fun y => !decide (y.2 = .free) || (decide (osc.names.lookup y.1 = some .cell) || decide (osc.names.lookup y.1 = some .free))) && fr.all (fun y => decide ((y, NameKind.free) ∈ sc.names))
theorem gxscope_by {x : Str} {fr : List Str} {osc sc : Scope} (h : gxsB x fr osc sc = true) : GxScope x fr osc sc := by
  unfold gxsB at h
  simp only [Bool.and_eq_true, Bool.not_eq_true', decide_eq_true_eq, List.all_eq_true, Bool.or_eq_true, decide_eq_false_iff_not] at h
  obtain ⟨⟨⟨⟨⟨⟨⟨⟨⟨h1, h2⟩, h3⟩, h4⟩, h5⟩, h6⟩, h7⟩, h8⟩, h9⟩, h10⟩ := h
  exact ⟨h1, h2, h3, h4, h5, h6, fun y hy e => (h7 y hy).elim (fun z => absurd e z) id, h8, fun y hy e => (h9 y hy).elim (fun z => absurd e z) id, h10⟩
section
variable {X : Cx} {fr : List Str} {elt iter : Expr} {x : Str} {px pos : Pos} {scope : Scope} {te : TE} {wi : TI} {k : Nat} {js : List Nat} {c P : Addr}
abbrev gxEnv (X : Cx) (scope : Scope) (C : Addr) (code : Value) : Env := genEnv scope (cloFrom X.env.cells scope.names []) C code builtinsNs X.env
def GxB (J : It) (te : TE) (ws : List (Option V)) (H : Hp) (cont : List V → Hp → Prop) : Prop := ∃ W : Nat → Nat → List V → Hp → Prop, (∃ m, W m 0 [] H) ∧ GxW J te ws cont W
def tGx (P : Addr) (js : List Nat) (wi : TI) (te : TE) : TGen := fun σ H cont => wi σ H fun J H1 => GxR.TabG H1 P ∧ ∀ H2, GxR.Tabbed P H1 H2 → GxB J te (js.map (NdefX.slotAt σ)) H2 cont
/-- the context's start -/
theorem inv_startGx {pins : List (Addr × Obj)} {σ : L2.St} {H : Hp} {s s2 : Shared} {ce : Env} {A : Around} {fp : List Addr} {pn : List (Addr × Obj)} {m : Str → Option Value} (I : Inv X pins σ H s) (G : GxScope x fr X.env.scope scope) (hjs : js.map (fun j => X.N[j]?) = fr.map some)
    (hA : A.handled = none) (hfr : A.frames = some X.stack) (hf : ∀ b ∈ fp, FpOk X pins H b ∧ b < s.heap.objs.size) (code : Value) (hce : ce = gxEnv X scope s.heap.objs.size code) (hk : ∀ b o, s.heap.get? b = some o → s2.heap.get? b = some o) (hns : s2.heap.Ns s.heap.objs.size m)
    (os : s2.os = s.os) (hb : AllBare s2.gens) (hpn : ∀ p ∈ pn, s2.heap.get? p.1 = some p.2 ∧ s.heap.objs.size < p.1 ∧ ∀ v, p.2.data ≠ .cell v) :
    Inv (gxc X (x :: fr) ce A s H fp pn) [] (none :: js.map (NdefX.slotAt σ)) H s2 := by
  subst hce
  have cp : NdefX.Caps X (cloFrom X.env.cells scope.names []) fr js := NdefX.Caps.made I.ok G.made G.frm hjs
  have C := NdefX.cells_of I cp
  have e0 := I.env0
  have cellK : ∀ {c : Addr} {v : Option Value}, s.heap.IsCell c v → s2.heap.IsCell c v := fun {c v} ⟨o, ho, hd⟩ => ⟨o, hk _ _ ho, hd⟩
  have ltC : ∀ y c, (cloFrom X.env.cells scope.names []).lookup y = some c → c < s.heap.objs.size := fun y c e => by
    obtain ⟨_, v, q⟩ := C.all y c e
    exact q.lt
  have stkF : ∀ b, s.heap.objs.size ≤ b → b ∉ frs X.stack := fun b hb z => by
    rcases List.mem_cons.mp (I.stkSub b z) with e | e
    · have h1 := I.lt
      rw [← e] at h1
      exact Nat.lt_irrefl _ (Nat.lt_of_lt_of_le h1 hb)
    · exact I.nofs hb e
  have nfp : ∀ b ∈ fp, b ∉ frs X.stack := fun b hb z => by
    obtain ⟨f, _⟩ := hf b hb
    rcases List.mem_cons.mp (I.stkSub b z) with e | e
    · exact f.2.1 e
    · exact f.2.2.1 e
  refine ⟨⟨e0.mod, G.kind, I.ok.glob, rfl, Nat.le_refl _, C.inj, fun y hy => ?_, fun y c z _ => ?_, fun _ => hA, Around.frames_deeper hfr, .inr ⟨rfl, rfl⟩, fun b z => ⟨?_, fun y c e => ?_⟩, e0.bs, e0.bsz, fun b o e z => ?_,
      fun b z => nfp b z, e0.funs, e0.frf⟩,
    os, hb, Un.kept hk, ⟨m, hns, fun i y v e1 e2 e3 => ?_⟩, fun y c e => ?_, I.hok.fresh (Nat.le_refl _), fun y c e => (C.all y c e).1, fun p hp => ?_, I.hok.kept hk, ?_⟩
  · have hy : scope.names.lookup y = some .cell ∨ scope.names.lookup y = some .free := hy
    rcases hy with hy | hy
    · exact absurd rfl (G.cell _ (PySem.mem_of_lookup hy))
    · obtain ⟨i, hi⟩ := List.mem_iff_getElem?.mp (G.free _ (PySem.mem_of_lookup hy) rfl)
      obtain ⟨c, hc, _⟩ := C.has i y hi
      exact ⟨c, hc⟩
  · have z : false = true := z
    cases z
  · exact Nat.ne_of_lt (hf b z).2
  · exact ((hf b z).1.2.2.2.2.1 y c (cp.sub y c e))
  · obtain ⟨f, _⟩ := hf b z
    rcases f.2.2.2.1 with q | q
    · exact I.ok.noex b o e q
    · exact absurd (Nat.lt_of_lt_of_le (Nat.lt_of_lt_of_le (Heap.lt_size e) I.ok.bsz) q) (Nat.lt_irrefl _)
  · cases i with
    | zero => cases e2
    | succ i =>
      have e1 : fr[i]? = some y := e1
      have e2 : (js.map (NdefX.slotAt σ))[i]? = some (some v) := e2
      obtain ⟨c, hc, hv⟩ := C.has i y e1
      obtain ⟨u, ru, hu⟩ := hv v e2
      exact ⟨u, ru, .inr ⟨.inr (G.frk y (List.mem_of_getElem? e1)), c, hc, cellK hu⟩⟩
  · obtain ⟨v, z⟩ := (C.all y c e).2
    exact ⟨v, cellK z⟩
  · have hp : p ∈ pn := by
      rcases List.mem_append.mp hp with hp | hp
      · exact hp
      · cases hp
    obtain ⟨e, h1, h2⟩ := hpn p hp
    exact ⟨e, I.hok.fresh (Nat.le_of_lt h1), Nat.ne_of_gt h1, stkF _ (Nat.le_of_lt h1), h2⟩
  · show (js.map (NdefX.slotAt σ)).length + 1 = fr.length + 1
    rw [C.len]
theorem gx_run (hh : X.A.handled = none) (hroom : X.A.depth < recursionLimit) (TB : GxR.TabB X.base X.mg c P) (hcode : X.env.code = .ref c) (G : GxScope x fr X.env.scope scope) (hjs : js.map (fun j => X.N[j]?) = fr.map some) (hi : PI X (.Name x px) iter wi)
    (he : ∀ (C : Addr) (code : Value) (A : Around) (sc : Shared) (H0 : Hp) (fp : List Addr) (pn : List (Addr × Obj)), RoomG k (A.deeper (gxEnv X scope C code)) → PE (gxc X (x :: fr) (gxEnv X scope C code) A sc H0 fp pn) elt te)
    (hs : ∀ v, genFold iter X.env v = pure v) {pins : List (Addr × Obj)} {σ : L2.St} {H : Hp} {s : Shared} {cont : List V → Hp → Prop} (I : Inv X pins σ H s) (h : tGx P js wi te σ H cont) :
    wpAny (model X.prog X.w) X.A (eval (gxE elt (.Name x px) iter scope pos) X.env) (fun u s' => ∃ H1 sc ex, Inv X pins σ H1 sc ∧ ExOk X pins ex ∧ GMadeG X.prog X.w (k + 1) X.stack H1 sc ex cont u s') X.xe s := by
  have hfree : ∀ y ∈ scope.names, y.2 = .free → ∃ c, X.env.cells.lookup y.1 = some c := fun y hy e => (G.made y hy e).elim (fun z => I.ok.has _ (.inl z)) fun z => I.ok.has _ (.inr z)
  refine wpAny_GeneratorExp_make G.co (closure_ok hfree) G.cell G.dot G.kind hroom ?_ hs
  refine thn (hi.run pins s σ H _ I h) fun xv s1 hx => thn hx fun itv s2 h2 => ?_
  obtain ⟨it, fp, tn, J, H2, e, I2, T, st2, f2, ⟨ps, hP, ht⟩, q⟩ := h2
  subst e
  have cd : PySem.W.CodeHd s2.heap c P := TB.code.keeps I2.bk
  have hPs : s2.heap.get? P = some { cls := .none, data := .fields ps } := I2.hok P _ hP
  have cont1 : ∀ (code : Value) (h3 : Heap) (tk : Nat) (ps' : Array Value), Heap.ExtBut P s2.heap h3 → s2.heap.objs.size ≤ h3.objs.size → h3.get? P = some { cls := .none, data := .fields ps' } → (∃ more, ps' = ps ++ more) → TriplesOk ps'.toList →
      wpAny (model X.prog X.w) X.A (builtinsFor X.env.globals X.env.builtins) (fun bi s₄ => ∀ h', h'.Ns s₄.heap.objs.size (fun y => if y = ".0" then some (Value.ref it) else none) → Heap.SameBut s₄.heap.objs.size (s₄.heap.push { cls := .type "frame", data := .dict #[] }) h' →
          ∃ H1 sc ex, Inv X pins σ H1 sc ∧ ExOk X pins ex ∧ GMadeG X.prog X.w (k + 1) X.stack H1 sc ex cont (.ref h'.objs.size) { s₄ with
            gens := s₄.gens.push (.fresh (.compStart (gxE elt (.Name x px) iter scope pos) 0 (.ref it) .none (genEnv scope (cloFrom X.env.cells scope.names []) s₄.heap.objs.size code bi X.env))),
            toks := s₄.toks + 1 + 1 + 1,
            heap := h'.push { cls := .type "generator", data := .fields #[.int s₄.gens.size 0, .str "<genexpr>" (s₄.toks + 1), .str (X.env.qual ++ "<genexpr>") (s₄.toks + 1 + 1)] } }) X.xe { s2 with heap := h3, toks := tk } := by
    intro code h3 tk ps' hx hsz hP3 hmore ht3
    obtain ⟨bm, ob, e1, e2, e3, e4, e5, e6, e7, e8⟩ := TB.bm
    refine wpAny_builtinsFor (m := X.mg) (by rw [I2.ok.glob]; exact (I2.mod.glob.keeps I2.bk).extBut hx TB.gP) e1 e2 (hx _ _ e4 (I2.bk _ _ e5)) e6 e7 e8 ?_
    obtain ⟨more, em⟩ := hmore
    intro h' hns hsb
    have I3 := GxR.inv_tab (more := more) (h' := h3) (g' := s2.gens) (d' := s2.drawn) (t' := tk) I2 hP (fun b u hb e => hx b u hb e) (by rw [← em]; exact hP3) I2.bare
    have tb : GxR.Tabbed P H2 (upd H2 P (.tbl (ps ++ more))) := ⟨⟨ps ++ more, upd_same, by rw [← em]; exact ht3⟩, fun b hb => upd_ne hb⟩
    obtain ⟨W, ⟨m, w0⟩, hW⟩ := q _ tb
    have nP : ∀ b, H2 b = none → b ≠ P := fun b e z => by rw [z, hP] at e; cases e
    generalize (upd H2 P (.tbl (ps ++ more))) = H3 at I3 tb w0
    have f3 : ∀ b ∈ fp, FpOk X pins H3 b ∧ b < h3.objs.size := fun b hb => by
      obtain ⟨o, eo, _⟩ := T.obj _ _ st2 b hb
      exact ⟨⟨(tb.2 b (nP b (f2 b hb).1)).trans (f2 b hb).1, (f2 b hb).2⟩, Nat.lt_of_lt_of_le (Heap.lt_size eo) hsz⟩
    have st3 : tn 0 h3 := T.keep _ _ _ st2 fun b hb o e => hx b o (nP b (f2 b hb).1) e
    have sz : h'.objs.size = h3.objs.size + 1 := by rw [hsb.1, Heap.size_push]
    have kp1 : ∀ b o, h3.get? b = some o → h'.get? b = some o := fun b o e => hsb.extBut b o (Nat.ne_of_lt (Heap.lt_size e)) (Heap.get?_push_of_some _ e)
    generalize hgo : ({ cls := .type "generator", data := .fields #[.int ({ s2 with heap := h3, toks := tk } : Shared).gens.size 0, .str "<genexpr>" (tk + 1), .str (X.env.qual ++ "<genexpr>") (tk + 1 + 1)] } : Obj) = go
    have hgc : go.cls = .type "generator" := by rw [← hgo]
    have hgd0 : ∃ nm qn, go.data = .fields #[.int s2.gens.size 0, nm, qn] := ⟨_, _, by rw [← hgo]⟩
    have hgs : go.slots = #[] := by rw [← hgo]
    have hgf : ∀ h : Heap, (h.push go).get? h.objs.size = some go := fun h => by rw [← hgo]; exact Heap.get?_push_size _ rfl
    have hgd : ∀ v, go.data ≠ .cell v := fun v z => by obtain ⟨_, _, z2⟩ := hgd0; rw [z2] at z; cases z
    have kp2 : ∀ b o, h3.get? b = some o → (h'.push go).get? b = some o := fun b o e => Heap.get?_push_of_some _ (kp1 b o e)
    have hgen : ∀ h : Heap, h.get? h'.objs.size = some go → h.IsGen h'.objs.size s2.gens.size := fun h e => by obtain ⟨nm, qn, z⟩ := hgd0; exact ⟨go, nm, qn, e, hgc, z, hgs⟩
    refine ⟨H3, { s2 with heap := h3, toks := tk }, fp, I3, fun b hb => ⟨(f3 b hb).1.2.2.2.1, (f3 b hb).1.2.1, (f3 b hb).1.2.2.2.2.1, (f3 b hb).1.2.2.2.2.2⟩, h'.objs.size, s2.gens.size, _, rfl, ?_, ?_, hgen _ (hgf _), Array.getElem?_push_size .., rfl, AllBare.push I2.bare rfl, I3.nolimit.keeps kp2, kp2, ?_⟩
    · show h3.objs.size ≤ h'.objs.size
      omega
    · show h'.objs.size < (h'.push go).objs.size
      rw [Heap.size_push]; exact Nat.lt_succ_self _
    intro A S s5 hrA hfrA hS hk5 hSo hos hba
    have hS : (h'.push go).objs.size ≤ S := hS
    rw [Heap.size_push] at hS
    have kp5 : ∀ b o, h3.get? b = some o → s5.heap.get? b = some o := fun b o e => hk5 b o (kp2 b o e)
    have hga : s5.heap.get? h'.objs.size = some go := hk5 _ _ (hgf _)
    have hns5 : s5.heap.Ns h3.objs.size (fun y => if y = ".0" then some (Value.ref it) else none) := hns.keeps fun b o e => hk5 b o (Heap.get?_push_of_some _ e)
    have I4 := inv_startGx (X := X) (fp := fp) (pn := [(h'.objs.size, go)]) (A := A) (s2 := s5) I3 G hjs hrA.room.hd hfrA f3 code rfl kp5 hns5 hos hba (fun p hp => by
      rw [List.mem_singleton.mp hp]
      exact ⟨hga, by show h3.objs.size < h'.objs.size; omega, hgd⟩)
    obtain ⟨cS, heS⟩ := hSo
    have stkF : ∀ b, h3.objs.size ≤ b → b ∉ frs X.stack := fun b hb z => by
      rcases List.mem_cons.mp (I3.stkSub b z) with e | e
      · have h1 := I3.lt
        rw [← e] at h1
        exact Nat.lt_irrefl _ (Nat.lt_of_lt_of_le h1 hb)
      · exact I3.nofs hb e
    have hGI : GI (gxc X (x :: fr) (gxEnv X scope h3.objs.size code) A { s2 with heap := h3, toks := tk } H3 fp [(h'.objs.size, go)]) S [] [] (none :: js.map (NdefX.slotAt σ)) H3 s5 := by
      refine ⟨#[], cS, .nil, I4.pins_of fun p hp => ?_⟩
      rw [List.mem_singleton.mp hp]
      exact ⟨heS, I3.hok.fresh (show h3.objs.size ≤ S by omega), Nat.ne_of_gt (show h3.objs.size < S by omega), stkF S (by omega), fun v z => by cases z⟩
    have hAp : Apart (gxc X (x :: fr) (gxEnv X scope h3.objs.size code) A { s2 with heap := h3, toks := tk } H3 fp [(h'.objs.size, go)]) S := by
      refine ⟨by show h3.objs.size ≤ S; omega, Nat.ne_of_gt (show h3.objs.size < S by omega), fun y c e z => ?_⟩
      obtain ⟨v, o, eo, _⟩ := I4.cell y c e
      have hc : (cloFrom X.env.cells scope.names []).lookup y = some c := e
      obtain ⟨_, v2, q2⟩ := (NdefX.cells_of I3 (NdefX.Caps.made I3.ok G.made G.frm hjs)).all y c hc
      have lt : c < h3.objs.size := q2.lt
      have z : c = S := z
      rw [z] at lt
      exact absurd (Nat.lt_of_lt_of_le lt (show h3.objs.size ≤ S by omega)) (Nat.lt_irrefl _)
    refine seg_imp (R := GxEnd (gxc X (x :: fr) (gxEnv X scope h3.objs.size code) A { s2 with heap := h3, toks := tk } H3 fp [(h'.objs.size, go)]) S cont) (Y := GY (gxc X (x :: fr) (gxEnv X scope h3.objs.size code) A { s2 with heap := h3, toks := tk } H3 fp [(h'.objs.size, go)]) S) (fun n s₀ r s1' hR => ?_) (fun n s₀ v s1' kap kap' hkk hY => ?_) sizeLine ?_
    · obtain ⟨rfl, ys, σ', H', hn, hI, hQ⟩ := hR
      obtain ⟨a1, _, _, acc, cc, ra, ea⟩ := hI.at
      obtain ⟨_, _, _, J⟩ := hI
      exact .inl ⟨.inr rfl, H', ys, acc, cc, J.os, J.bare, J.base, J.hok, a1, ea, ra, by omega, hQ⟩
    · obtain ⟨ys, xx, ip, σ', H', hn, h2, hI, h3'⟩ := hY
      obtain ⟨_, _, _, acc, cc, ra, ea⟩ := hI.at
      have hg : s1'.heap.IsGen h'.objs.size s2.gens.size := by
        obtain ⟨acc, cc, _, J⟩ := hI
        exact hgen _ (J.pin (h'.objs.size, go) (List.mem_append_left _ (List.mem_singleton.mpr rfl))).1
      obtain ⟨_, _, _, J⟩ := hI
      have hsz : acc.size = ys.length := by
        have e1 := ra.length
        have e2 : acc.toList.length = acc.size := by simp
        omega
      exact ⟨J.os, J.bare, J.nolimit, hg, ⟨acc, cc, ea, by rw [hsz]; exact hn⟩, fun s' z => hkk _ _ (h3' s' z)⟩
    · refine seg_gxStart (X := X) G.nd G.loc G.co T (he _ _ _ _ _ _ _ (hrA.deeper _)) (fun p hp => ?_) (fun b hb => ?_) (fun p hp z => ?_) hAp hW w0 rfl hGI (T.keep _ _ _ st3 fun b _ o e => kp5 b o e) (fun b hb => (f3 b hb).1.1)
      · rw [List.mem_singleton.mp hp]
        exact Nat.ne_of_lt (show h'.objs.size < S by omega)
      · exact Nat.ne_of_lt (Nat.lt_of_lt_of_le (f3 b hb).2 (show h3.objs.size ≤ S by omega))
      · rw [List.mem_singleton.mp hp] at z
        exact absurd (Nat.lt_trans (f3 _ z).2 (show h3.objs.size < h'.objs.size by omega)) (Nat.lt_irrefl _)
  refine ⟨I2.nolimit, ?_⟩
  cases hf : codeAmong pos ps.toList with
  | none =>
    refine wpAny_genexprCodeX hcode (cd.code hPs ht) (cd.tab hPs) hf fun c' h' tk hx hge hlt hco' _ htab' _ => ?_
    obtain ⟨o1, vs, f1, tf, fl, tg, inF, tx, tt, op, _, _, _, _, _, _, _, _, _, htr, _⟩ := hco'
    exact cont1 _ h' tk _ hx (Nat.le_trans hge (Nat.le_of_lt hlt)) htab'.2 ⟨_, rfl⟩ htr
  | some cv =>
    refine wpAny_genexprCode_hit hcode (cd.code hPs ht) hf ?_
    exact cont1 cv s2.heap s2.toks ps (Heap.ExtBut.refl _ _) (Nat.le_refl _) hPs ⟨#[], by simp⟩ ht
end
end Lw

set_option maxRecDepth 100000
set_option maxHeartbeats 4000000
/-! tuple of a generator expression -/
namespace Lw
open PySem PySem.Spec
open PyProof.Rows L2 GenW
theorem RoomG.in1 {k : Nat} {A : Around} (r : RoomG (k + 1) A) : RoomG k A.in1 := ⟨r.room.in1, r.g⟩
theorem RoomG.in4 {k : Nat} {A : Around} (r : RoomG (k + 1) A) : RoomG k A.in1.in1.in1.in1 := ⟨⟨r.room.hd, by have := r.room.dp; show A.depth + 3 * k + 5 < _; omega, by have := r.room.un; show A.units + 1 + 1 + 1 + 1 + 16 * k + 200 < _; omega⟩, r.g⟩
section
variable {P : Program} {w : World} {s : Shared} {A : Around} {E : Value → Shared → Prop} {a g : Addr}
/-- the loop's end: the list at S holds what Q' wants -/
def LoopEnd (Q' : List Value → Shared → Prop) (S : Addr) (r : Result) (t : Shared) : Prop := r = .ok (.ret (.ref S)) ∧ ∃ acc c, t.heap.get? S = some (lstObj acc c) ∧ Q' acc.toList t
/-- what collects a generator comes to the loop that fills a new list -/
theorem collect_loop {Q' : List Value → Shared → Prop} {g : Nat} (hg : s.heap.IsGen a g) (hlt : a < s.heap.objs.size)
    (hQ : ∀ (c : Nat) (h4 : Heap), (∀ b o, s.heap.get? b = some o → h4.get? b = some o) → h4.get? s.heap.objs.size = some (lstObj #[] c) →
      codeAny (model P w) A (.builtin "list.extend.loop" ⟨[.ref s.heap.objs.size, .ref a, .ref s.heap.objs.size], []⟩) (LoopEnd Q' s.heap.objs.size) { s with heap := h4 }) : wpAny (model P w) A (collect (.ref a)) Q' E s := by
  generalize hS : s.heap.objs.size = S at hQ hlt
  have old : ∀ {b o}, s.heap.get? b = some o → b ≠ S := fun {b o} e => hS ▸ Nat.ne_of_lt (Heap.lt_size e)
  have touch : ∀ {h : Heap} {f : Obj → Obj}, (∀ b o, s.heap.get? b = some o → h.get? b = some o) → ∀ b o, s.heap.get? b = some o → (h.update S f).get? b = some o := fun k b o e => (Heap.get?_update_other _ _ (old e).symm).trans (k b o e)
  let l0 : Obj := { cls := .type "list", data := .seq ([] : List Value).toArray }
  have e1 : (s.heap.push l0).get? S = some l0 := hS ▸ Heap.get?_push_size (o := l0) _ rfl
  have k1 : ∀ b o, s.heap.get? b = some o → (s.heap.push l0).get? b = some o := fun b o e => Heap.get?_push_of_some _ e
  have gen1 : (s.heap.push l0).IsGen a g := hg.keeps k1
  have other : Builtin.List.listSameRef (.ref S) (.ref a) = false := by simp [Builtin.List.listSameRef, Ne.symm (Nat.ne_of_lt hlt)]
  have e2 := Heap.get?_update_self (Obj.mapSeq (·.push Value.none)) e1 rfl
  have e3 := Heap.get?_update_self (Obj.mapSeq (·.pop)) e2 rfl
  have fill : wpAny (model P w) A.in1 (Builtin.List.listExtendWith (.ref S) (.ref a) (.ref S)) (fun fin t => match fin with
      | .done f => LoopEnd Q' S (.ok f) t
      | .again c => c.quiet = true ∧ codeAny (model P w) A c (LoopEnd Q' S) t) (fun e t => LoopEnd Q' S (.error e) t) { s with heap := s.heap.push l0 } := by
    have T : ({ s with heap := s.heap.push l0 } : Shared).TypeIs (.ref a) "generator" := Heap.IsGen.typeIs (s := { s with heap := s.heap.push l0 }) gen1
    unfold Builtin.List.listExtendWith; refine wpAny_bind (wpAny_typeOf T ?_)
    simp only [other, (by decide : (Value.type "generator" == Value.type "list") = false), (by decide : (Value.type "generator" == Value.type "tuple") = false), Bool.or_false, Bool.false_eq_true, if_false]
    refine wpAny_bind (wpAny_pyIter_gen (s := { s with heap := s.heap.push l0 }) gen1 (wpAny_bind (wpAny_holding ?_)))
    unfold Builtin.List.listLengthHint; refine wpAny_bind (wpAny_specialOf T F.gen_no_len (?_ : wpAny _ A.in1 (specialOf (Value.ref a) (Str.ofString "__length_hint__") >>= _) _ _ _))
    refine wpAny_bind (wpAny_specialOf T F.gen_no_hint (wpAny_pure ?_))
    refine wpAny_bind (m := rule "list.extend.makes-room") (wpAny_rule (wpAny_bind (m := Builtin.List.listTouch (.ref S)) ?_))
    refine wpAny_bind (m := updateSeq S (·.push .none)) (wpAny_updateSeq e1 rfl (wpAny_updateSeq (hz := by seq_fits) e2 rfl (wpAny_pure ⟨plainId_quiet F.plain_extend_loop _, ?_⟩)))
    exact hQ _ _ (touch (touch k1)) e3
  unfold collect
  refine wpAny_bind (wpAny_runValue (codeAny_builtin F.entry_proto_collect (?_ : wpAny _ (A.under _) _ _ _ s)))
  rw [Around.under_plainId F.plain_proto_collect _]
  refine wpAny_bind (m := newList []) (wpAny_newObj_type (wpAny_pure ⟨plainId_quiet F.plain_list_iadd _, codeAny_builtin F.entry_list_iadd (?_ : wpAny _ (A.under _) _ _ _ _)⟩))
  rw [Around.under_plainId F.plain_list_iadd _, hS]
  refine wpAny_mono fill (fun f t h => ?_) fun e t h => by cases h.1
  cases f with
  | done f =>
    obtain ⟨e, acc, c, eo, q⟩ := h
    cases e
    exact wpAny_bind (wpAny_load eo (wpAny_pure q))
  | again c =>
    refine ⟨h.1, codeAny_mono h.2 fun r t ⟨e, acc, c, eo, q⟩ => ?_⟩
    subst e
    exact wpAny_bind (wpAny_load eo (wpAny_pure q))
end
section
variable {P : Program} {w : World} {outer : List Env} {H : Hp} {sc s : Shared} {ex : List Addr} {Q : List V → Hp → Prop} {A : Around} {k : Nat} {u : Value} {E : Value → Shared → Prop}
theorem collect_gx {Q' : List Value → Shared → Prop} (hr : RoomG k A.in1.in1) (hd : A.depth < recursionLimit) (hfr : A.frames = some outer) (h : GMadeG P w k outer H sc ex Q u s)
    (hQ : ∀ (t : Shared) (us : List Value) (H' : Hp) (ys : List V), Vals ys us → ys.length ≤ sizeLine → t.os = sc.os → AllBare t.gens → Un (frs outer) ex H H' sc.heap t.heap → HOk P w H' t.heap → Q ys H' → Q' us t) : wpAny (model P w) A (collect u) Q' E s := by
  obtain ⟨a, g, c, rfl, _, lt, hg, fresh, os, bare, lim, _, wake⟩ := h
  have ltc : cStatics < s.heap.objs.size := by obtain ⟨_, n, _⟩ := lim; exact n.lt
  refine collect_loop hg lt fun c4 h4 k4 e4 => ?_
  refine drain (A := A) (H := H) (sc := sc) (ex := ex) (Q := Q) (EX := fun _ _ _ => False) hr.room.hd hd (Nat.ne_of_gt lt) (Nat.ne_of_gt ltc) (fun t acc c H' ys eo rv hl o b un ok _ q => ⟨rfl, acc, c, eo, hQ t _ H' ys rv hl o b un ok q⟩)
    (fun e t h => by obtain ⟨_, _, _, _, _, _, _, _, _, _, _, _, z⟩ := h; exact z.elim) sizeLine { s with heap := h4 } (hg.keeps k4) (lim.keeps k4) ⟨_, fresh, rfl, wake _ _ _ hr hfr (Nat.le_refl _) k4 ⟨_, e4⟩ os (allBare_setGen (s := { s with heap := h4 }) bare rfl)⟩
end
section
variable {X : Cx} {fr : List Str} {elt iter : Expr} {x : Str} {px p pos gpos : Pos} {scope : Scope} {te : TE} {wi : TI} {k : Nat} {js : List Nat} {c P : Addr}
def tTupGx (tg : TGen) : TE := fun σ H Q => tg σ H fun out H2 => ∀ q, H2 q = none → Q (.ref q) (upd H2 q (.tup out))
/-- tuple(elt for x in iter) -/
theorem pe_tupGx (hr : RoomG (k + 2) X.A) (TB : GxR.TabB X.base X.mg c P) (hcode : X.env.code = .ref c) (G : GxScope x fr X.env.scope scope) (hjs : js.map (fun j => X.N[j]?) = fr.map some) (hi : PI X (.Name x px) iter wi)
    (he : ∀ (C : Addr) (code : Value) (A : Around) (sc : Shared) (H0 : Hp) (fp : List Addr) (pn : List (Addr × Obj)), RoomG k (A.deeper (gxEnv X scope C code)) → PE (gxc X (x :: fr) (gxEnv X scope C code) A sc H0 fp pn) elt te)
    (hg : Gl X "tuple") (hm : X.mg "tuple" = none) (hs : ∀ v, genFold iter X.env v = pure v := by intro _; rfl)
    (he1 : starEach [gxE elt (.Name x px) iter scope gpos] X.env = (false, eval (gxE elt (.Name x px) iter scope gpos) X.env) :: starEach [] X.env := by rfl) :
    PE X (.Call (.Name "tuple" p) [gxE elt (.Name x px) iter scope gpos] [] pos) (tTupGx (tGx P js wi te)) := ⟨fun pins s σ H Q I h => by
  have room : X.A.depth < recursionLimit := by have := hr.room.dp; omega
  refine Call_ (ld_blt I hg hm boot_tuple (PyProof.Rows.callWith_type1 (args_cons (thn (gx_run hr.room.hd room TB hcode G hjs hi he hs I h) fun u s1 ⟨H1, sc, ex, I1, hex, M⟩ => args_nil ?_) he1) he1))
  obtain ⟨a, ea, T⟩ : ∃ a, u = .ref a ∧ s1.TypeIs (.ref a) "generator" := by obtain ⟨a, _, _, e, _, _, hg, _⟩ := M; exact ⟨a, e, hg.typeIs⟩
  subst ea
  refine tuple_by T (by decide) fun E' => collect_gx (k := k + 1) (A := X.A.in1.in1) hr.in4 room I1.ok.frames M fun t us H' ys rv hl o b un ok q => ?_
  exact tup_end (I1.call' (ch := ex) o un ok b hex) rv hl q⟩
end
end Lw

set_option maxRecDepth 100000
set_option maxHeartbeats 4000000
/-! the end of a row whose defs hold generator expressions: their tables may grow -/
namespace Lw
open PySem PySem.Spec
open PyProof.Rows L2
/-- the heap that is told at the law's call: the script, the empty tables -/
def told (K : PySem.W.Frag) (cs : List Addr) (a : Addr) (o : Obj) (ns : List Int) : Hp := fun b =>
  if b ∈ cs then some (.tbl #[]) else if b = a ∧ (K.lookup a).isNone = true then some (.frz o (.lst (ns.map V.int))) else none
def emptyT : Obj := { cls := .none, data := .fields #[] }
/-- all but the tables is nothing or the script -/
def OnlyT (cs : List Addr) (H : Hp) : Prop := (∀ b ∈ cs, H b = some (.tbl #[])) ∧ ∀ b, b ∉ cs → H b = none ∨ ∃ o xs, H b = some (.frz o (.lst xs))
section
variable {P : Program} {w : World} {K : PySem.W.Frag} {mg mb : Str → Option Value} {k : Nat} {fa a : Addr} {fd : FuncData} {x : Str} {sp : Sp} {s1 : Shared} {vs : List Value} {ns : List Int} {ct : List (Addr × Addr)}
theorem law_callGT (KX : K.In s1.heap) (hns : s1.heap.Ns PySem.mainGlobals mg) (hb : s1.heap.Ns builtinsNs mb) (hbb : ∀ x : Str, x ≠ "__name__" → mb x = bootBuiltins x) (hlim : s1.heap.NoLimit) (hg : s1.gens = #[])
    (hT : ∀ p ∈ ct, s1.heap.get? p.2 = some emptyT) (nT : ∀ p ∈ ct, K.lookup p.2 = none) (C : ∀ p ∈ ct, PySem.W.CodeHd s1.heap p.1 p.2)
    (hbm : ∃ (bm : Addr) (ob : Obj), mg "__builtins__" = some (.ref bm) ∧ bm ≠ builtinsNs ∧ s1.heap.get? bm = some ob ∧ ob.cls = .type "module" ∧ ob.dict = some builtinsNs ∧ ob.data = .plain)
    (ha : s1.heap.get? a = some { cls := .type "list", data := .seq vs.toArray }) (hi : IntsAre vs ns) (hl : ns.length ≤ sizeLine) (hr : RoomG k callerA)
    (F : ∀ base : Heap, K.In base → base.Ns PySem.mainGlobals mg → (∀ p ∈ ct, GxR.TabB base mg p.1 p.2) → FnG P w K mg base k fa fd [x] sp) (hbind : ∀ (s : Shared) (u : Value), BindsTo s fd ⟨[u], []⟩ [(x, u)])
    (hsp : ∀ H : Hp, OnlyT (ct.map (·.2)) H → SqL K H a (ns.map V.int) → sp [.ref a] H (fun v _ => v = .bl true) fun _ _ _ => False) :
    codeAny (model P w) callerA (.call (.ref fa) ⟨[.ref a], []⟩) (fun r s2 => r = .ok (.ret (.bool true)) ∧ OldK s1.heap s2.heap ∧ s2.os = s1.os ∧ AllBare s2.gens) s1 := by
  have rv := vals_ints hi
  generalize hso : ({ cls := .type "list", data := .seq vs.toArray } : Obj) = so at ha
  have sd : ∃ n, so.data = .seq vs.toArray n := ⟨_, by rw [← hso]⟩
  have isT : ∀ b ∈ ct.map (·.2), s1.heap.get? b = some emptyT := fun b hb => by
    obtain ⟨p, hp, e⟩ := List.mem_map.mp hb
    exact e ▸ hT p hp
  have aT : a ∉ ct.map (·.2) := fun z => by
    obtain ⟨n, sd⟩ := sd
    have e := (isT a z).symm.trans ha
    rw [← Option.some.inj e] at sd
    cases sd
  have H1 : ∀ b u, told K (ct.map (·.2)) a so ns b = some u → (b ∈ ct.map (·.2) ∧ u = .tbl #[]) ∨ (b ∉ ct.map (·.2) ∧ b = a ∧ K.lookup a = none ∧ u = .frz so (.lst (ns.map V.int))) := fun b u e => by
    unfold told at e
    split at e
    · rename_i hb; cases e; exact .inl ⟨hb, rfl⟩
    · rename_i hb
      split at e
      · rename_i hz; cases e; exact .inr ⟨hb, hz.1, Option.isNone_iff_eq_none.mp hz.2, rfl⟩
      · cases e
  have HT : ∀ b ∈ ct.map (·.2), told K (ct.map (·.2)) a so ns b = some (.tbl #[]) := fun b hb => if_pos hb
  have only : OnlyT (ct.map (·.2)) (told K (ct.map (·.2)) a so ns) := ⟨HT, fun b hb => by
    cases e : told K (ct.map (·.2)) a so ns b with
    | none => exact .inl rfl
    | some u =>
      rcases H1 b u e with ⟨h, _⟩ | ⟨_, _, _, rfl⟩
      · exact absurd h hb
      · exact .inr ⟨_, _, rfl⟩⟩
  have hok : HOk P w (told K (ct.map (·.2)) a so ns) s1.heap := fun b u e => by
    rcases H1 b u e with ⟨hb, rfl⟩ | ⟨_, rfl, _, rfl⟩
    · exact isT b hb
    · exact ⟨ha, by rw [List.length_map]; exact hl, vs, _, rv, by rw [ha, ← hso]⟩
  have hS : SqL K (told K (ct.map (·.2)) a so ns) a (ns.map V.int) := by
    cases e : K.lookup a with
    | none => exact .inl (.inr ⟨so, by unfold told; rw [if_neg aT, if_pos ⟨rfl, by rw [e]; rfl⟩]⟩)
    | some o =>
      have e2 := KX a o e
      rw [ha] at e2
      cases e2
      exact .inr ⟨so, vs.toArray, _, e, by rw [← hso], by rw [← hso], by rw [← hso], by rw [List.size_toArray, hi.length]; exact hl, by simpa using rv⟩
  generalize told K (ct.map (·.2)) a so ns = H at H1 HT only hok hS
  -- what is no list and no table is untold
  have off : ∀ {b : Addr} {o : Obj}, s1.heap.get? b = some o → (∀ n, o.data ≠ .seq vs.toArray n) → o.data ≠ .fields #[] → H b = none := fun {b o} e n1 n2 => by
    cases z : H b with
    | none => rfl
    | some u =>
      rcases H1 b u z with ⟨hb, _⟩ | ⟨_, rfl, _, _⟩
      · have e2 := (isT b hb).symm.trans e
        exact (n2 (by rw [← Option.some.inj e2]; rfl)).elim
      · obtain ⟨n, sd⟩ := sd
        have e2 := ha.symm.trans e
        exact (n1 n (by rw [← Option.some.inj e2]; exact sd)).elim
  have dic : ∀ {b : Addr} {o : Obj} {es : Array DictEntry} {ep : Nat}, s1.heap.get? b = some o → o.data = .dict es ep → H b = none := fun e d => off e (fun n z => by rw [d] at z; cases z) fun z => by rw [d] at z; cases z
  have names : ∀ {b : Addr} {m : Str → Option Value}, s1.heap.Ns b m → (hidT s1.heap H).Ns b m := fun {b m} ⟨o, es, ep, e, d, r⟩ => ⟨o, es, ep, hidT_get e (dic e d), d, r⟩
  have inB : K.In (hidT s1.heap H) := fun b o e => hidT_get (KX b o e) (by
    cases z : H b with
    | none => rfl
    | some u =>
      rcases H1 b u z with ⟨hb, _⟩ | ⟨_, rfl, n, _⟩
      · obtain ⟨p, hp, ep⟩ := List.mem_map.mp hb
        rw [← ep, nT p hp] at e
        cases e
      · rw [n] at e; cases e)
  have hM : L2.Mod K mg (hidT s1.heap H) := ⟨inB, names hns, ⟨mb, names hb, hbb⟩, by obtain ⟨mc, h1, h2⟩ := hlim; exact ⟨mc, names h1, h2⟩⟩
  have tabs : ∀ p ∈ ct, GxR.TabB (hidT s1.heap H) mg p.1 p.2 := fun p hp => by
    refine ⟨?_, ?_, fun z => ?_⟩
    · obtain ⟨o, us, f1, f2, f3, f4, f5, f6, f7, e1, r1, r2, r3, r4⟩ := C p hp
      exact ⟨o, us, f1, f2, f3, f4, f5, f6, f7, hidT_get e1 (off e1 (fun n z => by rw [r2] at z; cases z) fun z => by rw [r2] at z; cases z; simp at r3), r1, r2, r3, r4⟩
    · obtain ⟨bm, ob, b1, b2, b3, b4, b5, b6⟩ := hbm
      refine ⟨bm, ob, b1, b2, fun q => ?_, fun q => ?_, hidT_get b3 (off b3 (fun n z => by rw [b6] at z; cases z) fun z => by rw [b6] at z; cases z), b4, b5, b6⟩
      · obtain ⟨o, es, ep, e, d, _⟩ := hns
        rw [q, e] at b3
        cases b3
        rw [d] at b6
        cases b6
      · have e := hT p hp
        rw [← q, b3] at e
        cases e
        cases b6
    · obtain ⟨o, es, ep, e, d, _⟩ := hns
      have e2 := hT p hp
      rw [← z, e] at e2
      cases e2
      cases d
  have e0 : Env0 P w K mg (hidT s1.heap H) callerA [] s1 H := ⟨rfl, hM, fun b o e => of_hidT e, Nat.le_of_eq (hidT_size _ _), trivial, (fun b hb => nomatch (show b ∈ ([] : List Addr) from hb)), hok, .of_eq hg⟩
  refine codeAny_mono ((F _ inB (names hns) tabs).run callerA [] s1 H ⟨[.ref a], []⟩ [.ref a] [.ref a] _ _ hr e0 (hbind s1 (.ref a)) (.cons rfl .nil) (hsp H only hS)) fun r s2 h => ?_
  cases r with
  | error e => exact False.elim h
  | ok fl =>
    cases fl with
    | next => exact False.elim h
    | brk => exact False.elim h
    | cont => exact False.elim h
    | ret u =>
      obtain ⟨v, H2, os, bare, un, hok2, r2, q⟩ := h
      have q2 : v = .bl true := q
      subst q2
      obtain rfl : u = Value.bool true := r2
      have stays : ∀ b o, b ∉ ct.map (·.2) → s1.heap.get? b = some o → s2.heap.get? b = some o := fun b o nb e => by
        rcases only.2 b nb with z | ⟨ob, xs, z⟩
        · exact un.keep b o e z (fun m => nomatch (show b ∈ ([] : List Addr) from m)) (fun m => nomatch m)
        · obtain ⟨e1, _⟩ := hok b _ z
          obtain ⟨e2, _⟩ := hok2 b _ (un.frzs b ob _ z)
          rw [e] at e1
          cases e1
          exact e2
      have grew : ∀ p ∈ ct, ∃ more : Array Value, s2.heap.get? p.2 = some { cls := .none, data := .fields more } := fun p hp => by
        obtain ⟨more, z⟩ := un.tbls p.2 #[] (HT _ (List.mem_map.mpr ⟨p, hp, rfl⟩))
        exact ⟨_, hok2 p.2 _ z⟩
      refine ⟨rfl, ⟨fun b o e => ?_, fun b o e => ?_⟩, os, bare⟩
      · by_cases nb : b ∈ ct.map (·.2)
        · obtain ⟨p, hp, ep⟩ := List.mem_map.mp nb
          obtain ⟨more, hm⟩ := grew p hp
          subst ep
          rw [hT p hp] at e
          cases e
          exact .inr (.inl ⟨((C p hp).tab (hT p hp)).isCodeTable, rfl, #[], more, rfl, by rw [Array.empty_append]; exact hm⟩)
        · exact .inl (stays b o nb e)
      · by_cases nb : b ∈ ct.map (·.2)
        · obtain ⟨p, hp, ep⟩ := List.mem_map.mp nb
          obtain ⟨more, hm⟩ := grew p hp
          subst ep
          exact ⟨_, hm⟩
        · exact ⟨o, stays b o nb e⟩
end
/-- the def y stands at f in K, its code object at c, the table of that at P, which K doesn't tell -/
structure TabIn (K : PySem.W.Frag) (mg : Str → Option Value) (y : Str) (c P : Addr) : Prop where
  ex : ∃ (f : Addr) (o : Obj) (fd : FuncData), mg y = some (.ref f) ∧ K.lookup f = some o ∧ o.data = .func fd ∧ fd.code = .ref c
  hd : PySem.W.codeHdIn K c P = true
  out : K.lookup P = none
theorem tab_empty {p : Program} {loose : List Str} {mean : ExcName → Option Value} {mg mb : Str → Option Value} {h : Heap} {K : PySem.W.Frag} {y : Str} {c P : Addr} (T : Top p loose mean mg mb h) (KX : K.In h) (hrec : ((recsOf p).any fun e => e.name == y) = true) (t : TabIn K mg y c P) : h.get? P = some emptyT := by
  obtain ⟨f, o, fd, m, lk, hd, hc⟩ := t.ex
  obtain ⟨d, hm, hn⟩ := List.any_eq_true.mp hrec
  obtain ⟨f2, o2, fd2, c2, P2, m2, g2, d2, k2, _, tb⟩ := T.tab d hm
  rw [beq_iff_eq.mp hn, m] at m2
  cases m2
  rw [KX _ _ lk] at g2
  cases g2
  rw [hd] at d2
  cases d2
  rw [hc] at k2
  cases k2
  obtain ⟨⟨oc, vc, e1, _, e3, e4⟩, hP⟩ := tb
  have C := PySem.W.codeHd_of_K KX t.hd
  obtain ⟨oc2, us, _, _, _, _, _, _, _, e5, _, r2, r3, _⟩ := C
  rw [e1] at e5
  cases e5
  rw [e3] at r2
  cases r2
  rw [e4] at r3
  cases r3
  exact hP
theorem walk_ofGT {l : PySem.W.OpenLaw} {n k : Nat} {q : Program} {loose : List Str} {XP : (Str → Option Value) → Heap → Prop} {YP : World → Heap → Prop} {d : DefRec} {K : Params → PySem.W.Frag} {sp : World → Sp} {x : Str} {cs : List Addr}
    (hn : l.most = some n) (hn2 : n ≤ sizeLine) (hdf : d.params.defaults = []) (hr : RoomG k callerA) (hY : ∀ (w : World) (h : Heap), YP w h → (K w.params).In h) (names : List Str) (hrec : (names.all fun y => (recsOf q).any fun e => e.name == y) = true)
    (F : ∀ (w : World) (mg : Str → Option Value) (fa : Addr) (h : Heap), (K w.params).In h → h.Ns PySem.mainGlobals mg → mg d.name = some (.ref fa) →
      ∃ (fd : FuncData) (ct : List (Addr × Addr)), ct.map (·.2) = cs ∧ (∀ (s : Shared) (u : Value), BindsTo s fd ⟨[u], []⟩ [(x, u)]) ∧ (∀ p ∈ ct, ∃ y ∈ names, TabIn (K w.params) mg y p.1 p.2) ∧
        ∀ base : Heap, (K w.params).In base → base.Ns PySem.mainGlobals mg → (∀ p ∈ ct, GxR.TabB base mg p.1 p.2) → FnG l.prog w (K w.params) mg base k fa fd [x] (sp w))
    (hsp : ∀ (w : World) (H : Hp) (a : Addr) (ns : List Int), ns.length ≤ n → OnlyT cs H → SqL (K w.params) H a (ns.map V.int) → sp w [.ref a] H (fun v _ => v = .bl true) fun _ _ _ => False) :
    PySem.W.WalkO q loose XP YP l.row.toRowW d [] (PySem.call · ·) := by
  refine Att.attach_call hn hdf fun w s0 s1 mg mb fa o pm cd doc a vs ns G Y ho hd hcd hmg hobj hints hlen hg => ?_
  have KX := hY w _ Y
  obtain ⟨fd, ct, rfl, hb, ht, hF⟩ := F w mg fa _ KX G.T.g hmg
  refine law_callGT KX G.T.g G.T.b G.T.builtins G.T.nolimit hg (fun p hp => ?_) (fun p hp => ?_) (fun p hp => ?_) G.T.bmain hobj hints (Nat.le_trans hlen hn2) hr hF hb fun H hO hS => hsp w H a ns hlen hO hS
  · obtain ⟨y, hy, t⟩ := ht p hp
    exact tab_empty G.T KX (List.all_eq_true.mp hrec y hy) t
  · obtain ⟨_, _, t⟩ := ht p hp
    exact t.out
  · obtain ⟨_, _, t⟩ := ht p hp
    exact PySem.W.codeHd_of_K KX t.hd
end Lw

set_option maxRecDepth 100000
set_option maxHeartbeats 4000000
/-! replacing variables by terms -/
namespace Lw
open PySem PySem.Spec
open PyProof.Rows L2
mutual
def Tm.sub (θ : Int → Option Tm) : Tm → Tm
  | .var i => (θ i).getD (.var i)
  | .app n ts => .app n (Tm.subs θ ts)
def Tm.subs (θ : Int → Option Tm) : List Tm → List Tm
  | [] => []
  | t :: r => t.sub θ :: Tm.subs θ r
end
theorem Tm.sub_var (θ : Int → Option Tm) (i : Int) : (Tm.var i).sub θ = (θ i).getD (.var i) := by rw [Tm.sub]
theorem Tm.sub_app (θ : Int → Option Tm) (n : Str) (ts : List Tm) : (Tm.app n ts).sub θ = .app n (Tm.subs θ ts) := by rw [Tm.sub]
theorem Tm.subs_map (θ : Int → Option Tm) : ∀ ts : List Tm, Tm.subs θ ts = ts.map (Tm.sub θ)
  | [] => by rw [Tm.subs]; rfl
  | t :: r => by rw [Tm.subs, Tm.subs_map θ r]; rfl
mutual
theorem Tm.sub_size {θ : Int → Option Tm} {m : Nat} (hm : 1 ≤ m) (h : ∀ i t, θ i = some t → t.size ≤ m) : ∀ t : Tm, (t.sub θ).size ≤ t.size * m
  | .var i => by
    rw [Tm.sub_var, Tm.size_var, Nat.one_mul]
    cases e : θ i with
    | none => show (Tm.var i).size ≤ m; rw [Tm.size_var]; exact hm
    | some t => exact h i t e
  | .app n ts => by
    have := Tm.subs_size hm h ts
    rw [Tm.sub_app, Tm.size_app, Tm.size_app, Nat.add_mul]
    omega
theorem Tm.subs_size {θ : Int → Option Tm} {m : Nat} (hm : 1 ≤ m) (h : ∀ i t, θ i = some t → t.size ≤ m) : ∀ ts : List Tm, Tm.sizes (Tm.subs θ ts) ≤ Tm.sizes ts * m
  | [] => by rw [Tm.subs, Tm.sizes_nil]; omega
  | t :: r => by
    have h1 := Tm.sub_size hm h t
    have h2 := Tm.subs_size hm h r
    rw [Tm.subs, Tm.sizes_cons, Tm.sizes_cons, Nat.add_mul]
    omega
end
mutual
theorem Tm.sub_depth {θ : Int → Option Tm} {b : Nat} (h : ∀ i t, θ i = some t → t.depth ≤ b + 1) : ∀ t : Tm, (t.sub θ).depth ≤ t.depth + b
  | .var i => by
    rw [Tm.sub_var, Tm.depth_var]
    cases e : θ i with
    | none => show (Tm.var i).depth ≤ _; rw [Tm.depth_var]; omega
    | some t => have := h i t e; show t.depth ≤ _; omega
  | .app n ts => by
    have := Tm.subs_depth h ts
    rw [Tm.sub_app, Tm.depth_app, Tm.depth_app]
    omega
theorem Tm.subs_depth {θ : Int → Option Tm} {b : Nat} (h : ∀ i t, θ i = some t → t.depth ≤ b + 1) : ∀ ts : List Tm, Tm.depths (Tm.subs θ ts) ≤ Tm.depths ts + b
  | [] => by rw [Tm.subs, Tm.depths_nil]; omega
  | t :: r => by
    have h1 := Tm.sub_depth h t
    have h2 := Tm.subs_depth h r
    rw [Tm.subs, Tm.depths_cons, Tm.depths_cons]
    omega
end
mutual
theorem Tm.sub_nice {θ : Int → Option Tm} (h : ∀ i t, θ i = some t → t.Nice) : ∀ t : Tm, t.Nice → (t.sub θ).Nice
  | .var i, hn => by
    rw [Tm.sub_var]
    cases e : θ i with
    | none => exact hn
    | some t => exact h i t e
  | .app n ts, hn => by
    rw [Tm.nice_app] at hn
    rw [Tm.sub_app, Tm.nice_app]
    exact ⟨hn.1, Tm.subs_nice h ts hn.2⟩
theorem Tm.subs_nice {θ : Int → Option Tm} (h : ∀ i t, θ i = some t → t.Nice) : ∀ ts : List Tm, Tm.Nices ts → Tm.Nices (Tm.subs θ ts)
  | [], _ => by rw [Tm.subs]; exact Tm.nices_nil
  | t :: r, hn => by
    rw [Tm.nices_cons] at hn
    rw [Tm.subs, Tm.nices_cons]
    exact ⟨Tm.sub_nice h t hn.1, Tm.subs_nice h r hn.2⟩
end
/-- the dict holds what θ says of ints -/
def TblAt (H : Hp) (kvs : List (Key × V)) (θ : Int → Option Tm) : Prop := ∀ i, (valV kvs (Sum.inl i) = none ∧ θ i = none) ∨ ∃ u t, valV kvs (Sum.inl i) = some u ∧ θ i = some t ∧ At H u t
theorem TblAt.keep {H H' : Hp} {kvs : List (Key × V)} {θ : Int → Option Tm} (h : TblAt H kvs θ) (k : KeepT H H') : TblAt H' kvs θ := fun i => by
  rcases h i with h | ⟨u, t, h1, h2, h3⟩
  · exact .inl h
  · exact .inr ⟨u, t, h1, h2, h3.keep k⟩
theorem TblAt.nil {H : Hp} : TblAt H [] fun _ => none := fun i => .inl ⟨rfl, rfl⟩
theorem TblAt.put {H : Hp} {kvs : List (Key × V)} {θ : Int → Option Tm} (h : TblAt H kvs θ) {i : Int} {u : V} {t : Tm} (a : At H u t) : TblAt H (putK kvs (Sum.inl i) u) fun j => if j = i then some t else θ j := fun j => by
  rw [valV_put]
  by_cases e : j = i
  · rw [if_pos (by rw [e])]
    exact .inr ⟨u, t, rfl, if_pos e, a⟩
  · rw [if_neg (fun z => e (Sum.inl.inj z))]
    rcases h j with ⟨h1, h2⟩ | ⟨u2, t2, h1, h2, h3⟩
    · exact .inl ⟨h1, (if_neg e).trans h2⟩
    · exact .inr ⟨u2, t2, h1, (if_neg e).trans h2, h3⟩
/-- a slice t[:1] of a tuple -/
theorem d_sl01 {K : PySem.W.Frag} {H : Hp} {Q : VK} {a : Addr} {y : V} {xs : List V} (h : H a = some (.tup (y :: xs))) (q : ∀ r H1, Kp [] H H1 → H1 r = some (.tup [y]) → Q (.ref r) H1) : rSlA K (.ref a) none (some 1) H Q := by
  have e : cutV (y :: xs) none (some 1) = [y] := by rw [cutV_take _ _ (by decide)]; rfl
  refine ⟨a, _, rfl, sqT h, fun z => ?_, fun _ p hp => ?_⟩
  · have e1 : HT.sIx (y :: xs).length (y :: xs).length (some 1) = 1 := by
      rw [show (1 : Int) = ((1 : Nat) : Int) from rfl, HT.sIx_nat, List.length_cons]; omega
    rw [e1] at z
    have hx : xs = [] := by
      have z2 := z.2
      rw [List.length_cons] at z2
      exact List.length_eq_zero_iff.mp (by omega)
    rw [hx] at h
    exact q a H (Kp.refl _ _) h
  · rw [e]
    exact q p _ (Kp.new hp) upd_same
/-- [f(x) for x in t], f handing back a term -/
theorem lb_tms {K : PySem.W.Frag} {r : Addr} {vs : List V} {ts : List Tm} {σ : L2.St} {i : Nat} {B : Hp} {D : Addr} {Qd : Hp → Prop} {te : TE} (g : Tm → Tm) (hi : i < σ.length) (hD : B D = none) (er : B r = some (.tup vs)) (hn : vs.length ≤ 100000) (a : Ats B vs ts)
    (call : ∀ v t H' (Q : VK), t ∈ ts → At H' v t → Kp [D] B H' → (∀ H'' v', Kp [] H' H'' → At H'' v' (g t) → Q v' H'') → te ((wipe σ [i]).set i (some v)) H' Q)
    (hd : ∀ H' vs', Kp [D] B H' → H' D = some (.lst vs') → Ats H' vs' (ts.map g) → Qd H') : LcB (Itt K r) (gName i) tYes te [i] σ B D Qd := by
  have nr : r ≠ D := ne_of_none er hD
  refine lb_tup (xs := vs) (fun j H' => Kp [D] B H' ∧ ∃ vs' gs, H' D = some (.lst vs') ∧ Ats H' vs' gs ∧ gs = (ts.take j).map g) ⟨Kp.new hD, [], [], upd_same, .nil, rfl⟩ (fun j H' _ h => sqT (h.1.one nr er)) (fun j v H' hv h => ?_) (fun H' h => ?_)
  · obtain ⟨kB, vs', gs, eD, aD, rfl⟩ := h
    obtain ⟨t, et, atm⟩ := a.get hv
    refine ⟨by show ((σ.set i none).set i _).set i none = σ.set i none; rw [List.set_set, List.set_set], ?_⟩
    refine call v t H' _ (List.mem_of_getElem? et) (atm.keep (kB.keepT (no_tup0 hD))) kB fun H2 v2 k2 a2 => ?_
    have eD2 := k2 _ _ (by simp) eD
    have kd : Kp [D] H2 (upd H2 D (.lst (vs' ++ [v2]))) := Kp.put (by simp)
    have l1 := aD.len
    have l2 := a.len
    rw [List.length_map, List.length_take] at l1
    refine ⟨_, eD2, smallL (by omega), (kB.trans (k2.mono (by simp))).trans kd, _, _, upd_same, (kd.ats (no_tup1 eD2) ((k2.ats (by simp) aD).append (.one a2))), ?_⟩
    rw [take_succ_of et, List.map_append]
    rfl
  · obtain ⟨kB, vs', gs, eD, aD, rfl⟩ := h
    rw [a.take_all] at aD
    exact hd H' vs' kB eD aD
theorem no_tupT {H : Hp} {P : Addr} (h : GxR.TabG H P) : ∀ b ∈ [P], ∀ ys, H b ≠ some (.tup ys) := fun b hb ys e => by
  obtain ⟨ps, h, _⟩ := h
  rw [List.mem_singleton.mp hb, h] at e
  cases e
/-- the same of a generator expression; the def's table at P may grow -/
theorem gx_tms {K : PySem.W.Frag} {r P : Addr} {vs : List V} {ts : List Tm} {ws : List (Option V)} {B : Hp} {te : TE} {cont : List V → Hp → Prop} (g : Tm → Tm) (er : B r = some (.tup vs)) (hn : vs.length ≤ 100000) (a : Ats B vs ts) (tb : GxR.TabG B P)
    (call : ∀ v t H' (Q : VK), t ∈ ts → At H' v t → Kp [P] B H' → GxR.TabG H' P → (∀ H'' v', Kp [P] H' H'' → GxR.TabG H'' P → At H'' v' (g t) → Q v' H'') → te (some v :: ws) H' Q)
    (hd : ∀ H' vs', Kp [P] B H' → GxR.TabG H' P → Ats H' vs' (ts.map g) → cont vs' H') : GxB (Itt K r) te ws B cont := by
  have nr : r ≠ P := fun z => no_tupT tb P (by simp) vs (z ▸ er)
  refine ⟨fun m j ys H' => m + j = vs.length ∧ Kp [P] B H' ∧ GxR.TabG H' P ∧ ∃ gs, Ats H' ys gs ∧ gs = (ts.take j).map g, ⟨vs.length, rfl, Kp.refl _ _, tb, [], .nil, rfl⟩, fun m j ys H' ⟨hm, kB, tH, gs, ay, eg⟩ => ?_⟩
  subst eg
  have eH := kB.one nr er
  by_cases hj : j < vs.length
  · obtain ⟨t, et, atm⟩ := a.get (List.getElem?_eq_getElem hj)
    have l1 := ay.len
    rw [List.length_map, List.length_take] at l1
    refine .inr ⟨⟨vs, vs[j], sqT eH, List.getElem?_eq_getElem hj⟩, smallL (by omega), fun ys' H2 => m = (m - 1) + 1 ∧ (m - 1) + (j + 1) = vs.length ∧ Kp [P] B H2 ∧ GxR.TabG H2 P ∧ ∃ gs, Ats H2 ys' gs ∧ gs = (ts.take (j + 1)).map g, fun ys' H2 ⟨h0, h⟩ => ⟨m - 1, by omega, h⟩, fun y H2 hy => ?_⟩
    obtain ⟨rfl, hy⟩ := hy
    have hv := hy vs (sqT eH)
    rw [List.getElem?_eq_getElem hj] at hv
    cases hv
    refine call _ t H2 _ (List.mem_of_getElem? et) (atm.keep (kB.keepT (no_tupT tb))) kB tH fun H3 v3 k3 t3 a3 => ?_
    refine ⟨by omega, by omega, kB.trans k3, t3, _, (k3.ats (no_tupT tH) ay).append (.one a3), ?_⟩
    rw [take_succ_of et, List.map_append]
    rfl
  · have hj2 : j = vs.length := by omega
    subst hj2
    rw [a.take_all] at ay
    exact .inl ⟨⟨vs, sqT eH, Nat.le_refl _⟩, hd H' ys kB tH ay⟩
section
variable {σ : L2.St} {H : Hp} {Q : VK} {td ty tx : TE}
theorem d_din (q : ty σ H fun y H1 => td σ H1 fun x H2 => ∃ a o, x = .ref a ∧ DGet H2 a y o ∧ Q (.bl o.isSome) H2) : tDIn ty td σ H Q := q
theorem d_dget (q : td σ H fun x H1 => ty σ H1 fun y H2 => ∃ a v, x = .ref a ∧ DGet H2 a y (some v) ∧ Q v H2) : tDGet td ty σ H Q := q
theorem d_dget2 (q : td σ H fun x H1 => ∃ a, x = .ref a ∧ IsD H1 a ∧ ty σ H1 fun y H2 => tx σ H2 fun z H3 => ∃ o, DGet H3 a y o ∧ Q (o.getD z) H3) : tDGet2 td ty tx σ H Q := q
end
/-! ### promises -/
def spRepl (d : Nat) : Sp := fun vs H Q _ => ∃ (v : V) (l : Addr) (tm : Tm) (kvs : List (Key × V)) (θ : Int → Option Tm), vs = [v, .ref l] ∧ At H v tm ∧ tm.depth ≤ d ∧ tm.size ≤ 100000 ∧ H l = some (.dK kvs) ∧ TblAt H kvs θ ∧
  ∀ H' v', Kp [] H H' → At H' v' (tm.sub θ) → Q v' H'
def spInst (P : Addr) (d : Nat) : Sp := fun vs H Q _ => ∃ (v : V) (l : Addr) (tm : Tm) (kvs : List (Key × V)) (θ : Int → Option Tm), vs = [v, .ref l] ∧ At H v tm ∧ tm.depth ≤ d ∧ tm.size ≤ 100000 ∧ H l = some (.dK kvs) ∧ TblAt H kvs θ ∧ GxR.TabG H P ∧
  ∀ H' v', Kp [P] H H' → GxR.TabG H' P → At H' v' (tm.sub θ) → Q v' H'
end Lw

set_option maxRecDepth 100000
set_option maxHeartbeats 4000000
/-! defs whose code object is known -/
namespace Lw
open PySem PySem.Spec
open PyProof.Rows L2
section
variable {P : Program} {w : World} {K : PySem.W.Frag} {mg : Str → Option Value} {base : Heap}
/-- .. and its code object stands at c -/
structure DfT (K : PySem.W.Frag) (mg : Str → Option Value) (x : Str) (st : Stmt) (ps : List Str) (c : Addr) : Prop where
  ex : ∃ (f : Addr) (fd : FuncData), Fun K x x st f fd ∧ mg x = some (.ref f) ∧ Binds K fd ps [] ∧ fd.code = .ref c
theorem DfT.df {x : Str} {st : Stmt} {ps : List Str} {c : Addr} (D : DfT K mg x st ps c) : Df K mg x st ps := by
  obtain ⟨f, fd, F, m, b, _⟩ := D.ex
  exact ⟨f, fd, F, m, b⟩
theorem Fun.okT {x qual : Str} {st : Stmt} {f c : Addr} {fd : FuncData} {N ps : List Str} {k : Nat} {sp : Sp} (F : Fun K x qual st f fd) (hc : fd.code = .ref c) (S : FnScope N ps (defScope st)) (len : ∀ vs H Q E, sp vs H Q E → vs.length = ps.length)
    (body : ∀ (A : Around) (outer : List Env) (s : Shared) (H : Hp) (vs : List V) (Q : VK) (E : XK), RoomG k (A.deeper (envOfC qual (defScope st) s.heap.objs.size f (.ref c))) → sp vs H Q E →
      ∃ t, PSs (cxOf CX0 P w K mg base N qual (defScope st) f (.ref c) A outer s H E).nox (defBody st) t ∧ t { nx := fun _ H' => Q .non H', rt := Q } (start N vs) H) : FnG P w K mg base (k + 1) f fd ps sp := by
  obtain ⟨oc, od, kV, doc, pm, an, cdv, ct, osl, rfl, lk, hcd⟩ := id F.ex
  have e : cdv = .ref c := hc
  subst e
  -- the promise of the def whatever its code is, asked for this one alone
  have key : FnG P w K mg base (k + 1) f (PySem.W.fnOf x qual (defArgs st) (defBody st) (defScope st) .none kV doc pm an (.ref c) ct) ps sp := by
    refine ⟨len, fun A outer s H args us vs Q E hr e0 hb rv hsp => ?_⟩
    have kp : ∀ b o, base.get? b = some o → s.heap.get? b = some o := fun b o e => (e0.bs b o e).1
    have inK : K.In s.heap := e0.mod.kin.keeps kp
    have kinds : ∀ y ∈ ps.zip us, (defScope st).names.lookup y.1 = some .local ∨ ((defScope st).names.lookup y.1 = some .cell ∧ ((cellsFrom (s.heap.objs.size + 1) (defScope st).names []).lookup y.1).isSome = true) := fun y hy =>
      (S.par y.1 (List.of_mem_zip hy).1).elim .inl fun c => .inr ⟨c, PySem.W.cellsFrom_some _ _ _ (.inl c)⟩
    refine codeAny_call_function hr.room.depth (inK _ _ lk) rfl S.co S.gen rfl (PySem.W.codeRec_of inK hcd) (hb _ _ _ _ (wpAny_newFunctionEnv_cells S.kind kinds fun env he s1 x => ?_))
    subst he
    obtain ⟨t, ht, hq⟩ := body A outer s H vs Q E (hr.deeper _) hsp
    have I := inv_start (CX := CX0) (E := E) S hr.room.hd e0 (len _ _ _ _ hsp) rv x
    refine ⟨(e0.mod.nolimit.keeps kp).keeps x.toInCall.keep, codeAny_func (wpAny_mono (ht.nox.run [] s1 (start N vs) H _ I hq) (fun fl s2 done => ?_) fun _ _ out => out)⟩
    match fl, done with
    | .ret u, ⟨v, _, H2, J, rv2, q⟩ => exact ⟨v, H2, J.os, J.bare, J.base, J.hok, rv2, q⟩
    | .next, ⟨_, H2, J, q⟩ => exact ⟨V.non, H2, J.os, J.bare, J.base, J.hok, rfl, q⟩
    | .brk, ⟨_, _, _, z⟩ => exact z.elim
    | .cont, ⟨_, _, _, z⟩ => exact z.elim
  exact key
theorem DfT.ok {x : Str} {st : Stmt} {N ps : List Str} {k : Nat} {sp : Sp} {c : Addr} (D : DfT K mg x st ps c) (S : FnScope N ps (defScope st)) (len : ∀ vs H Q E, sp vs H Q E → vs.length = ps.length)
    (body : ∀ (f : Addr) (A : Around) (outer : List Env) (s : Shared) (H : Hp) (vs : List V) (Q : VK) (E : XK), RoomG k (A.deeper (envOfC x (defScope st) s.heap.objs.size f (.ref c))) → sp vs H Q E →
      ∃ t, PSs (cxOf CX0 P w K mg base N x (defScope st) f (.ref c) A outer s H E).nox (defBody st) t ∧ t { nx := fun _ H' => Q .non H', rt := Q } (start N vs) H) : Cl P w K mg base (k + 1) x ps sp := by
  obtain ⟨f, fd, F, m, b, hc⟩ := D.ex
  exact ⟨f, fd, Fun.okT F hc S len (body f), m, F.kp, b⟩
end
theorem dft_mk {K : PySem.W.Frag} {h : Heap} {mg : Str → Option Value} {x : Str} {st : Stmt} {ps : List Str} {c : Addr} (X : K.In h) (G : h.Ns PySem.mainGlobals mg) {f : Addr} {oc : Value} {od an : Option Addr} {osl : Array (Option Value)} {kV doc pm ct : Value}
    (a : PySem.W.nsIn K PySem.mainGlobals x = some (some (.ref f))) (l : K.lookup f = some ⟨oc, od, .func (PySem.W.fnOf x x (defArgs st) (defBody st) (defScope st) .none kV doc pm an (.ref c) ct), osl⟩) (cd : PySem.W.codeIn K (.ref c) x = true) (kp : PySem.W.keepIn K (.ref f) = true)
    (b : ∀ (kV doc pm : Value) (an : Option Addr) (cdv ct : Value) (us : List Value), us.length = ps.length → bindArgs (PySem.W.fnOf x x (defArgs st) (defBody st) (defScope st) .none kV doc pm an cdv ct) ⟨us, []⟩ = pure (ps.zip us)) : DfT K mg x st ps c := by
  have F := fun_mk (st := st) l cd kp
  exact ⟨f, _, F, PySem.W.mg_of X G a, F.binds b, rfl⟩
theorem d_tupGx {tg : TGen} {σ : L2.St} {H : Hp} {Q : VK} (q : tg σ H fun out H2 => ∀ q, H2 q = none → Q (.ref q) (upd H2 q (.tup out))) : tTupGx tg σ H Q := q
theorem d_gx {P : Addr} {js : List Nat} {wi : TI} {te : TE} {σ : L2.St} {H : Hp} {cont : List V → Hp → Prop} (q : wi σ H fun J H1 => GxR.TabG H1 P ∧ ∀ H2, GxR.Tabbed P H1 H2 → GxB J te (js.map (NdefX.slotAt σ)) H2 cont) : tGx P js wi te σ H cont := q
theorem kp_tabbed {P : Addr} {H H' : Hp} (t : GxR.Tabbed P H H') : Kp [P] H H' := fun b o nb e => (t.2 b fun z => nb (by rw [z]; simp)).trans e
end Lw
theorem GxR.TabG.keep0 {P : PySem.Addr} {H H' : L2.Hp} (t : GxR.TabG H P) (k : Lw.Kp [] H H') : GxR.TabG H' P := by
  obtain ⟨ps, e, h⟩ := t
  exact ⟨ps, k _ _ (by simp) e, h⟩

set_option maxRecDepth 100000
set_option maxHeartbeats 4000000
/-! tuple(list) told with its object; dict(such a tuple of pairs) -/
namespace Lw
open PySem PySem.Spec
open PyProof.Rows L2
def plainTup (o : Obj) : Prop := o.cls = .type "tuple" ∧ o.dict = none
def rTupF (K : PySem.W.Frag) : List V → Hp → VK → Prop := fun xs H Q => ∃ p ys, xs = [.ref p] ∧ SqL K H p ys ∧ ∀ l o, H l = none → plainTup o → Q (.ref l) (upd H l (.frz o (.tup ys)))
/-- a tuple of pairs, its object known -/
def PairsAt (K : PySem.W.Frag) (H : Hp) (a : Addr) (kvs : List (Key × V)) : Prop := ∃ (o : Obj) (ps : List Addr), H a = some (.frz o (.tup (ps.map V.ref))) ∧ plainTup o ∧ Paired (fun p kv => SqT K H p [kV kv.1, kv.2]) ps kvs
def rDictT (K : PySem.W.Frag) : List V → Hp → VK → Prop := fun xs H Q => ∃ a kvs, xs = [.ref a] ∧ PairsAt K H a kvs ∧ ∀ d, H d = none → Q (.ref d) (upd H d (.dK (mergeK [] kvs)))
theorem pv_of {h : Heap} : ∀ {ps : List Addr} {prs : List (Key × Value)}, prs.length = ps.length → (∀ (j : Nat) (q : Key × Value), prs[j]? = some q → ∃ (b : Addr) (u : Value), ps[j]? = some b ∧ IsTup h b #[u, q.2] ∧ keyIs q.1 u = true) →
    ∃ pv : List (Value × Value), pv.length = ps.length ∧ ∀ (j : Nat) (k v : Value), pv[j]? = some (k, v) → ∃ (b : Addr) (key : Key), ps[j]? = some b ∧ IsTup h b #[k, v] ∧ prs[j]? = some (key, v) ∧ keyIs key k = true
  | [], [], _, _ => ⟨[], rfl, fun j k v e => by cases e⟩
  | [], _ :: _, e, _ => by cases e
  | _ :: _, [], e, _ => by cases e
  | p :: ps, q :: prs, e, hp => by
    obtain ⟨pv, l, h1⟩ := pv_of (ps := ps) (prs := prs) (by simpa using e) fun j q' e' => by simpa using hp (j + 1) q' (by simpa using e')
    obtain ⟨b, u, e1, e2, e3⟩ := hp 0 q rfl
    refine ⟨(u, q.2) :: pv, by simp [l], fun j k v e' => ?_⟩
    cases j with
    | zero => cases e'; exact ⟨b, q.1, e1, e2, rfl, e3⟩
    | succ j =>
      obtain ⟨b', key, f1, f2, f3, f4⟩ := h1 j k v (by simpa using e')
      exact ⟨b', key, by simpa using f1, f2, by simpa using f3, f4⟩
section
variable {X : Cx}
theorem c_tupF : CallR X (.type "tuple") (rTupF X.K) := by
  rintro pins s σ H _ us Q I r ⟨p, ys, rfl, hq, q⟩
  obtain ⟨_, rfl, rfl⟩ := vals1 r
  obtain ⟨its, rv, pl, hz⟩ := I.list hq
  refine call_tuple_list pl.isList (fun h' kp => ?_) (by rw [List.size_toArray, ← rv.length]; exact hz)
  have I1 : Inv X pins σ H { s with heap := h' } := I.kept (t' := s.toks) kp
  have g := Heap.get?_push_size (o := { cls := .type "tuple", data := .seq its.toArray }) h' rfl
  exact ⟨.ref h'.objs.size, _, I1.laid (t' := s.toks) (fun b o e => Heap.get?_push_of_some _ e) (Nat.le_refl _) (show ObjOk X.prog X.w _ _ _ (.frz _ (.tup ys)) from ⟨g, hz, its, rv, IsTup.new _ _⟩), rfl, q _ _ (I1.hok.fresh (Nat.le_refl _)) ⟨rfl, rfl⟩⟩
theorem c_dictT (hc : X.calm = true) : CallR X (.type "dict") (rDictT X.K) := by
  rintro pins s σ H _ us Q I r ⟨a, kvs, rfl, ⟨o, ps, ha, ⟨oc, od⟩, hp⟩, q⟩
  obtain ⟨_, rfl, rfl⟩ := vals1 r
  obtain ⟨ho, hz, its, rv, ht⟩ := (show ObjOk X.prog X.w H s.heap a (.frz o (.tup (ps.map V.ref))) from I.hok a _ ha)
  obtain ⟨o2, ho2, _, n, hd⟩ := ht
  rw [ho] at ho2
  cases ho2
  have ei := refs_at rv
  subst ei
  rw [List.length_map] at hz
  obtain ⟨prs, rel, hl, hpr⟩ := pairs_of I hp
  obtain ⟨pv, lv, hv⟩ := pv_of hl hpr
  have items : PySem.PairItems s.heap (ps.map Value.ref).toArray (fun j => ps.getD j 0) pv := ⟨by simp [lv], fun j k v e => by
    obtain ⟨b, key, f1, f2, _⟩ := hv j k v e
    have g : ps.getD j 0 = b := by rw [List.getD_eq_getElem?_getD, f1]; rfl
    exact ⟨by simp [f1], .inl (by show s.heap.IsTuple (ps.getD j 0) _; rw [g]; exact f2)⟩⟩
  refine PySem.call_dict_pairs (knd := mixKind X.prog X.w) (kvs := prs) (PySem.PairArg.tuple a (ps.map Value.ref).toArray (fun j => ps.getD j 0) pv) (I.ok.hd hc) ⟨⟨o, n, ho, oc, od, hd⟩, items⟩ ⟨hl.trans lv.symm, fun i key v e => ?_⟩ (by rw [lv]; exact hz) fun h' tk hd' k => ?_
  · obtain ⟨_, ky, _, _, f3, f4⟩ := hv i key v e
    exact ⟨ky, f3, f4⟩
  · have low : (s.heap.objs.size == sysModules) = false := beq_eq_false_iff_ne.mpr (Nat.ne_of_gt I.big)
    have short : (mergeK [] kvs).length ≤ sizeLine := Nat.le_trans (length_mergeK kvs []) (by rw [List.length_nil, Nat.zero_add, rel.length, hl]; exact hz)
    exact ⟨.ref s.heap.objs.size, _, I.laid (t' := tk) (fun b o e => k b o (List.not_mem_nil) e) (Nat.le_refl _) (show ObjOk X.prog X.w _ _ _ (.dK (mergeK [] kvs)) from ⟨short, low, merged [] prs, KV.merge rel .nil, hd'⟩), rfl, q _ (I.hok.fresh (Nat.le_refl _))⟩
end
theorem d_tupF {K : PySem.W.Frag} {H : Hp} {Q : VK} {p : Addr} {ys : List V} (h : H p = some (.lst ys)) (q : ∀ l o, H l = none → plainTup o → Q (.ref l) (upd H l (.frz o (.tup ys)))) : rTupF K [.ref p] H Q := ⟨p, ys, rfl, sqL h, q⟩
theorem d_dictT {K : PySem.W.Frag} {H : Hp} {Q : VK} {a : Addr} {kvs : List (Key × V)} (h : PairsAt K H a kvs) (q : ∀ d, H d = none → Q (.ref d) (upd H d (.dK (mergeK [] kvs)))) : rDictT K [.ref a] H Q := ⟨a, kvs, rfl, h, q⟩
/-! ### replacements as lists -/
def thOf (l : List (Int × Tm)) : Int → Option Tm := l.foldl (fun θ p j => if j = p.1 then some p.2 else θ j) fun _ => none
/-- the pairs of ints and terms that kvs stands for -/
def PairTm (H : Hp) (kvs : List (Key × V)) (l : List (Int × Tm)) : Prop := kvs.length = l.length ∧ ∀ (j : Nat) kv p, kvs[j]? = some kv → l[j]? = some p → kv.1 = Sum.inl p.1 ∧ At H kv.2 p.2
theorem tbl_fold {H : Hp} : ∀ {kvs : List (Key × V)} {l : List (Int × Tm)} {acc : List (Key × V)} {θ : Int → Option Tm}, PairTm H kvs l → TblAt H acc θ → TblAt H (mergeK acc kvs) (l.foldl (fun θ p j => if j = p.1 then some p.2 else θ j) θ)
  | [], [], _, _, _, h => h
  | [], _ :: _, _, _, ⟨e, _⟩, _ => by cases e
  | _ :: _, [], _, _, ⟨e, _⟩, _ => by cases e
  | kv :: kvs, p :: l, acc, θ, ⟨e, hp⟩, h => by
    obtain ⟨h1, h2⟩ := hp 0 kv p rfl rfl
    have step := h.put (i := p.1) h2
    rw [← h1] at step
    exact tbl_fold (kvs := kvs) (l := l) ⟨by simpa using e, fun j a b e1 e2 => hp (j + 1) a b (by simpa using e1) (by simpa using e2)⟩ step
theorem tbl_of {H : Hp} {kvs : List (Key × V)} {l : List (Int × Tm)} (h : PairTm H kvs l) : TblAt H (mergeK [] kvs) (thOf l) := tbl_fold h .nil
/-- pairs of ints and terms, as substitute takes them -/
def spSubst (P : Addr) (K : PySem.W.Frag) (d : Nat) : Sp := fun vs H Q _ => ∃ (v : V) (a : Addr) (tm : Tm) (kvs : List (Key × V)) (l : List (Int × Tm)), vs = [v, .ref a] ∧ At H v tm ∧ tm.depth ≤ d ∧ tm.size ≤ 100000 ∧ PairsAt K H a kvs ∧ PairTm H kvs l ∧ GxR.TabG H P ∧
  ∀ H' v', Kp [P] H H' → GxR.TabG H' P → At H' v' (tm.sub (thOf l)) → Q v' H'
theorem PairTm.keep {H H' : Hp} {kvs : List (Key × V)} {l : List (Int × Tm)} (h : PairTm H kvs l) (k : KeepT H H') : PairTm H' kvs l := ⟨h.1, fun j a b e1 e2 => ⟨(h.2 j a b e1 e2).1, (h.2 j a b e1 e2).2.keep k⟩⟩
end Lw

set_option maxRecDepth 100000
set_option maxHeartbeats 4000000
/-! lists of pairs; what a replacement rests on -/
namespace Lw
open PySem PySem.Spec
open PyProof.Rows L2
/-! ### replacements -/
theorem thOf_snoc (L : List (Int × Tm)) (p : Int × Tm) (j : Int) : thOf (L ++ [p]) j = if j = p.1 then some p.2 else thOf L j := by
  unfold thOf
  rw [List.foldl_append]
  rfl
theorem snoc_ind {α : Type} {m : List α → Prop} (h0 : m []) (h1 : ∀ L p, m L → m (L ++ [p])) (L : List α) : m L := by
  have key : ∀ R : List α, m R.reverse := fun R => by
    induction R with
    | nil => exact h0
    | cons p R ih => rw [List.reverse_cons]; exact h1 _ _ ih
  rw [← List.reverse_reverse L]
  exact key _
theorem thOf_none {i : Int} (L : List (Int × Tm)) : (∀ p ∈ L, p.1 ≠ i) → thOf L i = none := by
  refine snoc_ind (m := fun L => (∀ p ∈ L, p.1 ≠ i) → thOf L i = none) (fun _ => rfl) (fun L p ih h => ?_) L
  rw [thOf_snoc, if_neg (fun z => h p (by simp) z.symm)]
  exact ih fun q hq => h q (List.mem_append_left _ hq)
theorem thOf_mem {i : Int} {t : Tm} {L : List (Int × Tm)} : (L.map (·.1)).Nodup → (i, t) ∈ L → thOf L i = some t := by
  refine snoc_ind (m := fun L => (L.map (·.1)).Nodup → (i, t) ∈ L → thOf L i = some t) (fun _ h => by cases h) (fun L p ih hn h => ?_) L
  rw [List.map_append, List.nodup_append] at hn
  rw [thOf_snoc]
  rcases List.mem_append.mp h with h | h
  · rw [if_neg fun z => hn.2.2 i (List.mem_map.mpr ⟨_, h, rfl⟩) p.1 (by simp) z]
    exact ih hn.1 h
  · have e : (i, t) = p := by simpa using h
    rw [← e, if_pos rfl]
theorem thOf_in {i : Int} {t : Tm} {L : List (Int × Tm)} : thOf L i = some t → (i, t) ∈ L := by
  refine snoc_ind (m := fun L => thOf L i = some t → (i, t) ∈ L) (fun h => by cases h) (fun L p ih h => ?_) L
  rw [thOf_snoc] at h
  by_cases e : i = p.1
  · rw [if_pos e] at h
    cases h
    rw [e]
    exact List.mem_append_right _ (by simp)
  · rw [if_neg e] at h
    exact List.mem_append_left _ (ih h)
/-- the same pairs, each variable once: the same replacement -/
theorem thOf_eq {L M : List (Int × Tm)} {i : Int} (hL : (L.map (·.1)).Nodup) (hM : (M.map (·.1)).Nodup) (h : ∀ t, (i, t) ∈ L ↔ (i, t) ∈ M) : thOf L i = thOf M i := by
  cases e : thOf L i with
  | some t => rw [thOf_mem hM ((h t).mp (thOf_in e))]
  | none =>
    cases e2 : thOf M i with
    | none => rfl
    | some t => rw [thOf_mem hL ((h t).mpr (thOf_in e2))] at e; cases e
mutual
theorem Tm.sub_congr {θ θ' : Int → Option Tm} : ∀ t : Tm, (∀ i ∈ t.ints, θ i = θ' i) → t.sub θ = t.sub θ'
  | .var i, h => by rw [Tm.sub_var, Tm.sub_var, h i (by rw [Tm.ints_var]; simp)]
  | .app n ts, h => by
    rw [Tm.ints_app] at h
    rw [Tm.sub_app, Tm.sub_app, Tm.subs_congr ts h]
theorem Tm.subs_congr {θ θ' : Int → Option Tm} : ∀ ts : List Tm, (∀ i ∈ Tm.intss ts, θ i = θ' i) → Tm.subs θ ts = Tm.subs θ' ts
  | [], _ => by rw [Tm.subs, Tm.subs]
  | t :: r, h => by
    rw [Tm.intss_cons] at h
    rw [Tm.subs, Tm.subs, Tm.sub_congr t fun i hi => h i (List.mem_append_left _ hi), Tm.subs_congr r fun i hi => h i (List.mem_append_right _ hi)]
end
/-- a drawn term's variables are those it was drawn from -/
theorem Gen.ints {zs : List (Str × Int)} {vars : List Tm} {S : List Int} (hv : ∀ t ∈ vars, ∀ i ∈ t.ints, i ∈ S) {d : Nat} {t : Tm} (h : Gen zs vars d t) : ∀ i ∈ t.ints, i ∈ S := by
  induction h with
  | var h => exact hv _ h
  | leaf h => intro i hi; rw [Tm.ints_app, Tm.intss_nil] at hi; cases hi
  | @app d z n ts h hl hs ih =>
    intro i hi
    rw [Tm.ints_app] at hi
    obtain ⟨u, hu, e⟩ := List.mem_filterMap.mp hi
    obtain ⟨t, ht, hu⟩ := Tm.mem_occs.mp hu
    exact ih t ht i (List.mem_filterMap.mpr ⟨u, hu, e⟩)
/-! ### lists of pairs -/
def PrR (H : Hp) (x : V) (p : Int × Tm) : Prop := ∃ a v, x = .ref a ∧ H a = some (.tup [.int p.1, v]) ∧ At H v p.2
abbrev PrV (H : Hp) (xs : List V) (L : List (Int × Tm)) : Prop := Paired (PrR H) xs L
theorem PrV.keep {H H' : Hp} (k : KeepT H H') : ∀ {xs : List V} {L : List (Int × Tm)}, PrV H xs L → PrV H' xs L
  | _, _, .nil => .nil
  | _, _, .cons ⟨a, v, e, ea, av⟩ r => .cons ⟨a, v, e, k _ _ ea, av.keep k⟩ (PrV.keep k r)
theorem PrV.app {H : Hp} : ∀ {xs ys : List V} {L M : List (Int × Tm)}, PrV H xs L → PrV H ys M → PrV H (xs ++ ys) (L ++ M)
  | _, _, _, _, .nil, h => h
  | _, _, _, _, .cons a r, h => .cons a (PrV.app r h)
theorem PrV.len {H : Hp} {xs : List V} {L : List (Int × Tm)} (h : PrV H xs L) : xs.length = L.length := Paired.length h
theorem PrV.tk {H : Hp} : ∀ {xs : List V} {L : List (Int × Tm)} (n : Nat), PrV H xs L → PrV H (xs.take n) (L.take n)
  | _, _, 0, _ => by rw [List.take_zero, List.take_zero]; exact .nil
  | _, _, n + 1, .nil => by rw [List.take_nil, List.take_nil]; exact .nil
  | _, _, n + 1, .cons a r => .cons a (PrV.tk n r)
theorem PrV.dp {H : Hp} : ∀ {xs : List V} {L : List (Int × Tm)} (n : Nat), PrV H xs L → PrV H (xs.drop n) (L.drop n)
  | _, _, 0, h => h
  | _, _, n + 1, .nil => by rw [List.drop_nil, List.drop_nil]; exact .nil
  | _, _, n + 1, .cons a r => PrV.dp n r
theorem PrV.pairs {K : PySem.W.Frag} {H : Hp} : ∀ {xs : List V} {L : List (Int × Tm)}, PrV H xs L → ∃ (ps : List Addr) (kvs : List (Key × V)), xs = ps.map V.ref ∧ Paired (fun p kv => SqT K H p [kV kv.1, kv.2]) ps kvs ∧ PairTm H kvs L
  | _, _, .nil => ⟨[], [], rfl, .nil, rfl, fun j a b e => by cases e⟩
  | _, _, .cons (b := p) ⟨a, v, e, ea, av⟩ r => by
    obtain ⟨ps, kvs, e1, e2, e3, e4⟩ := PrV.pairs (K := K) r
    refine ⟨a :: ps, (Sum.inl p.1, v) :: kvs, by rw [e, e1]; rfl, .cons (sqT ea) e2, by simp [e3], fun j b c f1 f2 => ?_⟩
    cases j with
    | zero => cases f1; cases f2; exact ⟨rfl, av⟩
    | succ j => exact e4 j b c (by simpa using f1) (by simpa using f2)
/-- behind tuple(list of pairs) -/
theorem PrV.tup {K : PySem.W.Frag} {H : Hp} {xs : List V} {L : List (Int × Tm)} {l : Addr} {o : Obj} (h : PrV H xs L) (hl : H l = none) (po : plainTup o) :
    ∃ kvs, PairsAt K (upd H l (.frz o (.tup xs))) l kvs ∧ PairTm (upd H l (.frz o (.tup xs))) kvs L := by
  have k : KeepT H (upd H l (.frz o (.tup xs))) := (Kp.new (l := []) hl).keepT (by simp)
  obtain ⟨ps, kvs, e1, e2, e3⟩ := PrV.pairs (K := K) (h.keep k)
  exact ⟨kvs, ⟨o, ps, by rw [upd_same, e1], po, e2⟩, e3⟩
theorem cutV_drop (xs : List V) (n : Int) (h : 0 ≤ n) : cutV xs (some n) none = xs.drop n.toNat := by
  obtain ⟨m, rfl⟩ := Int.eq_ofNat_of_zero_le h
  unfold cutV
  rw [HT.sIx_none, HT.sIx_nat, Int.toNat_natCast]
  by_cases hm : m ≤ xs.length
  · rw [Nat.min_eq_left hm]
    exact List.take_of_length_le (by rw [List.length_drop]; exact Nat.le_refl _)
  · rw [Nat.min_eq_right (by omega), Nat.sub_self, List.take_zero, List.drop_of_length_le (by omega)]
theorem d_cat {H : Hp} {Q : VK} {a b : Addr} {xs ys : List V} (ha : H a = some (.lst xs)) (hb : H b = some (.lst ys)) (hz : xs.length + ys.length ≤ 1000000) (q : ∀ p, H p = none → Q (.ref p) (upd H p (.lst (xs ++ ys)))) : rCat (.ref a) (.ref b) H Q := ⟨a, b, xs, ys, rfl, rfl, ha, hb, smallN hz, q⟩
/-! ### the tape, the symbols, the variables and a def's table -/
structure Dq (H : Hp) (t sc sy va : Addr) (ns : List Int) (zs : List (Str × Int)) (vars : List Tm) (P : Addr) : Prop where
  dw : Dw H t sc sy va ns zs vars
  tg : GxR.TabG H P
section
variable {H H' : Hp} {t sc sy va P : Addr} {ns : List Int} {zs : List (Str × Int)} {vars : List Tm}
theorem Dq.nP (h : Dq H t sc sy va ns zs vars P) : ∀ xs, H P ≠ some (.lst xs) := fun xs e => by
  obtain ⟨ps, e2, _⟩ := h.tg
  rw [e] at e2
  cases e2
theorem Dq.tP (h : Dq H t sc sy va ns zs vars P) : t ≠ P := fun z => by
  obtain ⟨⟨pl, pd, sd, _, e⟩, _, _⟩ := h.dw.tp
  exact h.nP _ (z ▸ e)
theorem Dq.tape (h : Dq H t sc sy va ns zs vars P) (k : Kp [t] H H') (T : TapeAt H' t sc ns) : Dq H' t sc sy va ns zs vars P := by
  obtain ⟨ps, e, h2⟩ := h.tg
  exact ⟨h.dw.tape k T, ps, k.one h.tP.symm e, h2⟩
theorem Dq.nil (h : Dq H t sc sy va ns zs vars P) (k : Kp [] H H') : Dq H' t sc sy va ns zs vars P := ⟨h.dw.nil k, h.tg.keep0 k⟩
/-- one address besides changes, of no part of it -/
theorem Dq.put (h : Dq H t sc sy va ns zs vars P) {a : Addr} (k : Kp [a] H H') (n1 : t ≠ a) (n2 : sc ≠ a) (n3 : sy ≠ a) (n4 : va ≠ a) (n5 : P ≠ a) (nt : ∀ b ∈ [a], ∀ ys, H b ≠ some (.tup ys)) : Dq H' t sc sy va ns zs vars P := by
  obtain ⟨ps, e, h2⟩ := h.tg
  exact ⟨⟨h.dw.tp.keep k (one_not' n1) (one_not' n2), h.dw.sy.keep k (one_not' n3) nt, h.dw.va.keep k (one_not' n4) nt⟩, ps, k.one n5 e, h2⟩
theorem Dq.tab (h : Dq H t sc sy va ns zs vars P) (k : Kp [P] H H') (T : GxR.TabG H' P) : Dq H' t sc sy va ns zs vars P := by
  have nt := no_tupT h.tg
  have sN : sc ≠ P := fun z => h.nP _ (z ▸ h.dw.tp.scr)
  have yN : sy ≠ P := fun z => by obtain ⟨_, e, _⟩ := h.dw.sy.is; exact h.nP _ (z ▸ e)
  have vN : va ≠ P := fun z => by obtain ⟨_, e, _⟩ := h.dw.va.is; exact h.nP _ (z ▸ e)
  exact ⟨⟨h.dw.tp.keep k (one_not' h.tP) (one_not' sN), h.dw.sy.keep k (one_not' yN) nt, h.dw.va.keep k (one_not' vN) nt⟩, T⟩
end
/-- the law's five variables, from a place on -/
def five : List Int := [0, 1, 2, 41, 65535]
def vl (f : Int) (i : Nat) : Int := five.getD ((f + (0 + (i : Int))).fmod 5).toNat 0
theorem mod5 (a : Int) : 0 ≤ a.fmod 5 ∧ a.fmod 5 < 5 := by
  rw [Int.fmod_eq_emod_of_nonneg _ (by decide)]
  exact ⟨Int.emod_nonneg _ (by decide), Int.emod_lt_of_pos _ (by decide)⟩
theorem at5 {m : Int} (h0 : 0 ≤ m) (h1 : m < 5) : atI [V.int 0, V.int 1, V.int 2, V.int 41, V.int 65535] m = some (V.int (five.getD m.toNat 0)) ∧ five.getD m.toNat 0 ∈ [(0 : Int), 1, 2, 41, 65535] := by
  have hm : m = 0 ∨ m = 1 ∨ m = 2 ∨ m = 3 ∨ m = 4 := by omega
  rcases hm with rfl | rfl | rfl | rfl | rfl
  · exact ⟨rfl, by decide⟩
  · exact ⟨rfl, by decide⟩
  · exact ⟨rfl, by decide⟩
  · exact ⟨rfl, by decide⟩
  · exact ⟨rfl, by decide⟩
theorem vl_in (f : Int) (i : Nat) : vl f i ∈ [(0 : Int), 1, 2, 41, 65535] := (at5 (mod5 _).1 (mod5 _).2).2
theorem vl_nodup {f : Int} (h0 : 0 ≤ f) (h1 : f < 5) {n : Nat} (hn : n ≤ 5) : ((List.range n).map (vl f)).Nodup := by
  have key : ((List.range 5).map (vl f)).Nodup := by
    have hm : f = 0 ∨ f = 1 ∨ f = 2 ∨ f = 3 ∨ f = 4 := by omega
    rcases hm with rfl | rfl | rfl | rfl | rfl <;> decide
  have hs : (List.range n).Sublist (List.range 5) := List.range_sublist.mpr hn
  exact key.sublist (hs.map _)
/-- within a comprehension's own context -/
theorem ix_listK {X : Cx} {K : PySem.W.Frag} (h : X.K = K) : IxR X (rIxL K) := h ▸ ix_list
theorem ix_tupK {X : Cx} {K : PySem.W.Frag} (h : X.K = K) : IxR X (rIxT K) := h ▸ ix_tup
end Lw

set_option maxRecDepth 100000
set_option maxHeartbeats 4000000
/-! sorted(d): a dict whose keys are ints -/
namespace Lw
open PySem PySem.Spec
open PyProof.Rows L2
def rSortedDk : List V → Hp → VK → Prop := fun xs H Q => ∃ p kvs ns, xs = [.ref p] ∧ H p = some (.dK kvs) ∧ (kvs.map fun kv => kV kv.1) = ns.map V.int ∧
  ∀ (ns' : List Int) (q : Addr), ns'.Perm ns → ns'.Pairwise (· ≤ ·) → H q = none → Q (.ref q) (upd H q (.lst (ns'.map V.int)))
section
variable {prog : Program} {w : World} {A : Around} {E : Value → Shared → Prop}
variable {s : Shared} {r : Addr}
/-- what a collecting hands over: ints, and good when they lie sorted behind the heap -/
def SrtGood (Q : Value → Shared → Prop) (us : List Value) (s' : Shared) : Prop :=
  us.length ≤ sizeLine ∧ ∃ ns, IntsAre us ns ∧ ∀ (h2 : Heap) (ns' : List Int) (out : Array Value) (c : Nat), IntsAre out.toList ns' → ns'.Perm ns → ns'.Pairwise (· ≤ ·) → (∀ b o, s'.heap.get? b = some o → h2.get? b = some o) →
    h2.get? s'.heap.objs.size = some (seqObj "list" out c) → Q (.ref s'.heap.objs.size) { s' with heap := h2 }
theorem sort_behind {Q : Value → Shared → Prop} {us : List Value} (h : SrtGood Q us s) :
    wpAny (model prog w) A (call (.builtin "list.sort") [.ref s.heap.objs.size]) (fun _ t => Q (.ref s.heap.objs.size) t) E { s with heap := s.heap.push (seqObj "list" us.toArray 0) } := by
  obtain ⟨hz, ns, hi, q⟩ := h
  have at0 : (s.heap.push (seqObj "list" us.toArray 0)).get? s.heap.objs.size = some (seqObj "list" us.toArray 0) := Heap.get?_push_size _ rfl
  refine wpAny_call_entry slot_list_sort ⟨_, at0, rfl⟩ entry_list_sort (SrtO.list_sort_ord SrtO.swo_int (s := { s with heap := s.heap.push (seqObj "list" us.toArray 0) }) at0 hz (fun two => SrtO.ints_sortable hi two) fun out o1 o2 => ⟨_, rfl, ?_⟩) (args_list_sort _)
  obtain ⟨k1, k2, k3⟩ := SrtO.ints_out hi o1 o2
  obtain ⟨c, e⟩ := sortedHeap_at (vs := us) (out := out.toArray) at0
  exact q _ _ _ c k1 k2 k3 (fun b o g => (sortedHeap_old (Nat.ne_of_lt (Heap.lt_size g)) (Heap.lt_size (Heap.get?_push_of_some _ g))).trans (Heap.get?_push_of_some _ g)) e
theorem sorted_by {Q : Value → Shared → Prop} (hc : ∀ E', wpAny (model prog w) A.in1 (collect (.ref r)) (SrtGood Q) E' s) : wpAny (model prog w) A (call (.builtin "sorted") [.ref r]) Q E s :=
  Calls.call_function_entry kind_sorted plain_sorted entry_sorted (args_sorted1 _) (show wpAny _ _ (Builtin.«sorted» _) _ _ _ by
    unfold Builtin.«sorted»
    exact wpAny_bind (m := checkCount "sorted" 1 1 _) (wpAny_pure (wpAny_bind (wpAny_mono (hc _) (fun us t g => wpAny_bind (wpAny_newList (wpAny_bind (wpAny_holding (wpAny_mono (sort_behind g) (fun _ t' e => wpAny_pure ⟨_, rfl, e⟩) fun _ _ e => e))) g.1)) fun _ _ e => e))))
end
section
variable {X : Cx}
theorem c_sortedDk (hc : X.calm = true) : CallR X (.builtin "sorted") rSortedDk := by
  rintro pins s σ H _ us Q I r ⟨p, kvs, ns, rfl, hk, en, q⟩
  obtain ⟨_, rfl, rfl⟩ := vals1 r
  obtain ⟨hz, low, vs, kv, dof⟩ := dk_of I.hok hk
  obtain ⟨ep, dat⟩ := dof.dictAt
  have n : (kvs.map fun kv => kV kv.1).length = vs.length := by rw [List.length_map]; exact Paired.length kv
  have n2 := Nat.le_trans (Nat.le_of_eq n) (by rw [← n, List.length_map]; exact hz)
  refine sorted_by fun E' => PySem.W.kdu_collect (PySem.W.kdl_dict (knd := mixKind X.prog X.w) (kvs := vs) (ep := ep) low) (I.ok.hd hc) dat (n ▸ n2) fun h' tk acc kp hi => ?_
  have rv : Vals (kvs.map fun kv => kV kv.1) acc.toList := vals_items (n.symm ▸ hi) fun j x u e ⟨k, y, hky, hu⟩ => by
    obtain ⟨v, e1, _⟩ := L2.KV.at' kv hky
    rw [List.getElem?_map, e1] at e
    cases e
    exact keyIs_rel hu
  have len : acc.toList.length ≤ sizeLine := by rw [← rv.length]; exact n2
  rw [en] at rv
  refine ⟨len, ns, rv.ints, fun h2 ns' out c k1 k2 k3 old e => ?_⟩
  have hlen : (ns'.map V.int).length ≤ sizeLine := by rw [List.length_map, k2.length_eq, ← List.length_map (f := V.int), rv.length]; exact len
  exact ⟨.ref _, _, (I.kept (t' := tk) kp).laid (t' := tk) old (Nat.le_refl _) (show ObjOk X.prog X.w _ _ _ (.lst (ns'.map V.int)) from ⟨hlen, out.toList, c, vals_of_ints k1, e⟩), rfl, q _ _ k2 k3 ((I.kept (t' := tk) kp).hok.fresh (Nat.le_refl _))⟩
end
end Lw

set_option maxRecDepth 100000
set_option maxHeartbeats 4000000
/-! for i, x in enumerate(t), t a tuple -/
namespace Lw
open PySem PySem.Spec
open PyProof.Rows L2
/-! ### the iterator made -/
theorem enum_new1 {v : Value} {o : Obj} {G : Heap → Prop} (B : Begins v o G) :
    Meets (Builtin.«enumerate.__new__» ⟨[.type "enumerate", v], []⟩) (fun _ R s => G s.heap ∧
      R (.ok (.ret (.ref (s.heap.push o).objs.size))) { s with heap := (s.heap.push o).push { cls := .type "enumerate", data := .fields #[.none, .bool false, .ref s.heap.objs.size, rawInt 0, .none, .none] } }) := by
  refine .of_wp fun prog w A R s hyp => ?_
  obtain ⟨hp, gens, drw, tk, os⟩ := s
  obtain ⟨g1, done⟩ := hyp
  have sub0 := sub_enumerate
  have itr : ∀ {A' : Around} {E' Q' : Value → Shared → Prop}, Q' (.ref hp.objs.size) ⟨hp.push o, gens, drw, tk, os⟩ → wpAny (model prog w) A' (pyIter v) Q' E' ⟨hp, gens, drw, tk, os⟩ := fun q => B.iter prog w _ _ _ _ g1 q
  wp_walk
  refine wpAny_stack_any fun frames => wpAny_pure ?_
  split
  · rename_i who _ _ _ _ _
    cases (who == Value.type "enumerate") <;> (wp_walk using itr; exact ⟨_, rfl, done⟩)
  · wp_walk using itr
    exact ⟨_, rfl, done⟩
theorem enum_made {prog : Program} {w : World} {A : Around} {E : Value → Shared → Prop} {s : Shared} {v : Value} {o : Obj} {G : Heap → Prop} {Q : Value → Shared → Prop} (B : Begins v o G) (g1 : G s.heap)
    (q : ∀ h', IsEnum h' (s.heap.objs.size + 1) s.heap.objs.size 0 .none → h'.get? s.heap.objs.size = some o → (∀ b x, s.heap.get? b = some x → h'.get? b = some x) → Q (.ref (s.heap.objs.size + 1)) { s with heap := h' }) :
    wpAny (model prog w) A (call (.type "enumerate") [v]) Q E s := by
  refine callType_new F.called_enumerate (by decide) (F.typeCall_enumerate_1 _) (F.newCall_enumerate_1 _) (fun ob => F.args_object_init_2 ob _) F.entry_enumerate_new (enum_new1 B) ⟨g1, ?_⟩
  have sz : (s.heap.push o).objs.size = s.heap.objs.size + 1 := Heap.size_push ..
  have e0 : IsEnum ((s.heap.push o).push { cls := .type "enumerate", data := .fields #[.none, .bool false, .ref s.heap.objs.size, rawInt 0, .none, .none] }) (s.heap.push o).objs.size s.heap.objs.size 0 .none := Heap.get?_push_size (s.heap.push o) rfl
  show _ ∧ _
  rw [sz] at e0 ⊢
  exact ⟨⟨_, e0, rfl⟩, q _ e0 (Heap.get?_push_of_some _ (Heap.get?_push_size _ B.free)) fun b x ex => Heap.get?_push_of_some _ (Heap.get?_push_of_some _ ex)⟩
/-! ### its turns -/
/-- the tuple at a, each item in a new pair with its place -/
def Iet (K : PySem.W.Frag) (a : Addr) : It :=
  ⟨fun i H => ∃ (xs : List V) (x : V), SqT K H a xs ∧ xs[i]? = some x, fun i H v H' => ∃ p x, v = .ref p ∧ H p = none ∧ H' = upd H p (.tup [.int (i : Nat), x]) ∧ ∀ xs, SqT K H a xs → xs[i]? = some x, fun i H => ∃ xs : List V, SqT K H a xs ∧ xs.length = i⟩
theorem cls_ne {h : Heap} {a b : Addr} {oa ob : Obj} (ha : h.get? a = some oa) (hb : h.get? b = some ob) (hc : oa.cls ≠ ob.cls) : a ≠ b := fun z => by
  rw [z, hb] at ha
  cases ha
  exact hc rfl
def EtSt (a e it : Addr) (i : Nat) (h : Heap) : Prop := (∃ old, IsEnum h e it ((i : Nat) : Int) old) ∧ h.IsTupleIter it a i
theorem EtSt.ne {a e it : Addr} {i : Nat} {h : Heap} {items : Array Value} (st : EtSt a e it i h) (ha : h.IsTuple a items) : e ≠ it ∧ e ≠ a ∧ a ≠ it := by
  obtain ⟨⟨old, he⟩, oi, ei, ci, _⟩ := st
  obtain ⟨oa, ea, ca, _⟩ := ha
  exact ⟨cls_ne he ei (by rw [ci]; show Value.type "enumerate" ≠ Value.type "tuple_iterator"; decide), cls_ne he ea (by rw [ca]; show Value.type "enumerate" ≠ Value.type "tuple"; decide), cls_ne ea ei (by rw [ca, ci]; decide)⟩
theorem turn_enumT {P : Program} {w : World} {K : PySem.W.Frag} {elts : List Expr} {kk : Nat} {tpos : Pos} (a e it : Addr) : Turn P w K (.Tuple elts kk tpos) (Iet K a) [e, it] e (EtSt a e it) where
  mem := by simp
  obj := fun i h st b hb => by
    obtain ⟨⟨old, he⟩, o, ho, _, hd⟩ := st
    rcases List.mem_cons.mp hb with z | z
    · rw [z]; exact ⟨_, he, fun v q => nomatch q⟩
    · rw [List.mem_singleton.mp z]; exact ⟨o, ho, fun v q => by rw [hd] at q; cases q⟩
  keep := fun i h h' st k => ⟨st.1.imp fun _ he => k e (by simp) _ he, st.2.at fun o q => k it (by simp) o q⟩
  item := by
    intro X hP hw hK hc i pins s σ H E I hf st hg
    subst hP hw hK
    obtain ⟨xs, x, hq, hx⟩ := hg
    obtain ⟨its, rv, p, hz⟩ := I.tuple hq
    obtain ⟨u, hu, ru⟩ := rv.get hx
    have pT : s.heap.IsTuple a its.toArray := p
    obtain ⟨n1, n2, n3⟩ := st.ne pT
    obtain ⟨⟨old, he⟩, hit⟩ := st
    have eL : e < s.heap.objs.size := Heap.lt_size he
    have iL : it < s.heap.objs.size := by obtain ⟨_, q, _⟩ := hit; exact Heap.lt_size q
    have hi : i < its.toArray.size := by rw [List.size_toArray]; exact (List.getElem?_eq_some_iff.mp hu).1
    have D0 := Draws.tuple (prog := X.prog) (w := X.w) (A := X.A.in1) (I.ok.hd hc) it a n3 its.toArray
    refine wpAny_pyNext_enum_itemD D0 he ⟨hit, pT⟩ hi n1 (by simp [n1, n2]) fun y h' tk hy ho st2 hT hsz hk => ?_
    have ey : y = u := by
      rw [show its.toArray[i]? = its[i]? by simp, hu] at hy
      exact (Option.some.inj hy).symm
    subst ey
    refine ⟨_, rfl, wpAny_letOwnedTupleGo_enum (s := { s with heap := h', toks := tk + 1 }) ho fun h2 he2 sb => ?_⟩
    have hT2 : h2.get? s.heap.objs.size = some { cls := .type "tuple", data := .seq #[.int i tk, y] } := (sb.2 _ (Nat.ne_of_gt eL)).trans hT
    have new : ObjOk X.prog X.w (upd H s.heap.objs.size (.tup [.int (i : Nat), x])) h2 s.heap.objs.size (.tup [.int (i : Nat), x]) := ⟨by show 2 ≤ sizeLine; decide, [.int i tk, y], .cons ⟨_, rfl⟩ (.cons ru .nil), _, hT2, rfl, _, rfl⟩
    have I2 : Inv X pins σ (upd H s.heap.objs.size (.tup [.int (i : Nat), x])) { s with heap := h2, toks := tk + 1 } := I.turnedNew (ch := [e, it]) (fun b o hb q => by
      have b1 : b ≠ e := fun z => hb (by simp [z])
      have b2 : b ≠ it := fun z => hb (by simp [z])
      exact (sb.2 b b1).trans (hk b o b1 b2 q)) hf (Nat.le_refl _) new
    refine ⟨.ref s.heap.objs.size, _, I2, rfl, ⟨_, x, rfl, I.hok.fresh (Nat.le_refl _), rfl, fun ys hy => by rw [I.tuple_inj hy hq]; exact hx⟩, ⟨⟨y, ?_⟩, st2.1.at fun o q => (sb.2 it (Ne.symm n1)).trans q⟩, fun b hb => ?_⟩
    · rw [show ((i + 1 : Nat) : Int) = (i : Int) + 1 by omega]
      exact he2
    · have bl : b ≠ s.heap.objs.size := by
        rcases List.mem_cons.mp hb with z | z
        · rw [z]; exact Nat.ne_of_lt eL
        · rw [List.mem_singleton.mp z]; exact Nat.ne_of_lt iL
      rw [upd_ne bl]
      exact (hf b hb).1
  done := by
    intro X hP hw hK hc i pins s σ H E I hf st hg
    subst hP hw hK
    obtain ⟨xs, hq, hx⟩ := hg
    obtain ⟨its, rv, p, hz⟩ := I.tuple hq
    have pT : s.heap.IsTuple a its.toArray := p
    obtain ⟨n1, n2, n3⟩ := st.ne pT
    obtain ⟨⟨old, he⟩, hit⟩ := st
    obtain ⟨f0, f1, f2, f3, f4, f5⟩ := hf it (by simp)
    have D0 := Draws.tuple (prog := X.prog) (w := X.w) (A := X.A.in1) (I.ok.hd hc) it a n3 its.toArray
    have l1 := rv.length
    have l2 : i = its.toArray.size := by rw [List.size_toArray]; omega
    subst l2
    exact wpAny_pyNext_enum_endD D0 he ⟨hit, pT⟩ fun h' eb => ⟨rfl, I.turned (t' := s.toks) (fun b o hb q => eb b o hb q) f0 f1 f3 f4 f5⟩
  self := fun A i s Q E st h => wpAny_pyIter_enum st.1.choose_spec h
def iEnumT (K : PySem.W.Frag) (ta : TA) : TI := fun σ H R => ta σ H fun vs H1 => ∃ a xs, vs = [.ref a] ∧ SqT K H1 a xs ∧ R (Iet K a) H1
theorem pi_enumT {X : Cx} {x : Expr} {ta : TA} {p pos tpos : Pos} {elts : List Expr} {kk : Nat} (hg : Gl X "enumerate") (hm : X.mg "enumerate" = none) (ha : PA X [x] ta) (hs : starEach [x] X.env = [(false, eval x X.env)] := by rfl) :
    PI X (.Tuple elts kk tpos) (.Call (.Name "enumerate" p) [x] [] pos) (iEnumT X.K ta) := by
  constructor
  intro pins s σ H R I h
  refine Call_ (ld_blt I hg hm boot_enumerate (PyProof.Rows.callWith_type1 (thn (ha.run pos pins s σ H _ I h) fun us s1 hyp => ?_) hs rfl))
  obtain ⟨vs, H1, I1, r1, a, xs, rfl, hq, q⟩ := hyp
  obtain ⟨_, rfl, rfl⟩ := vals1 r1
  obtain ⟨its, rv, pp, hz⟩ := I1.tuple hq
  have pT : s1.heap.IsTuple a its.toArray := pp
  refine enum_made (begins_tuple a its.toArray) pT fun h' he hi hk => wpAny_pyIter_enum he ?_
  refine ⟨s1.heap.objs.size + 1, [s1.heap.objs.size + 1, s1.heap.objs.size], _, _, H1, rfl, I1.kept (t' := s1.toks) hk, turn_enumT a (s1.heap.objs.size + 1) s1.heap.objs.size, ⟨⟨.none, he⟩, _, hi, rfl, rfl⟩, fun b hb => ?_, q⟩
  have hle : s1.heap.objs.size ≤ b := by
    rcases List.mem_cons.mp hb with z | z
    · rw [z]; exact Nat.le_add_right _ _
    · rw [List.mem_singleton.mp z]; exact Nat.le_refl _
  exact I1.fpOk hle (I1.hok.fresh hle)
theorem walk_enumT {K : PySem.W.Frag} {a : Addr} {xs : List V} : Walk (Iet K a) xs.length (fun H => SqT K H a xs) (YPair (fun i => some (.int (i : Nat))) (fun i => xs[i]?)) := by
  refine ⟨fun i _ hi q => ⟨xs, xs[i], q, List.getElem?_eq_getElem hi⟩, fun _ q => ⟨xs, q, rfl⟩, fun i H v H' _ q y => ?_⟩
  obtain ⟨p, x, e1, e2, e3, e4⟩ := y
  exact ⟨p, .int (i : Nat), x, e1, e2, e3, rfl, e4 xs q⟩
/-- for i, x in enumerate(t): each turn in a heap with one tuple more -/
theorem fr_enumT {K : PySem.W.Frag} {a : Addr} {xs : List V} {g : TG} {tb : TS} {D : Ends} {σ : L2.St} {H : Hp} (Pv : Nat → L2.St → Hp → Prop) (h0 : Pv 0 σ H) (hl : ∀ i σ H, i ≤ xs.length → Pv i σ H → SqT K H a xs)
    (hs : ∀ i x σ H p, xs[i]? = some x → Pv i σ H → H p = none → g (.ref p) σ (upd H p (.tup [.int (i : Nat), x])) fun σ2 H2 => tb { D with nx := Pv (i + 1), ct := Pv (i + 1), bk := D.nx } σ2 H2) (hd : ∀ σ H, Pv xs.length σ H → D.nx σ H) : FrB (Iet K a) g tb D σ H :=
  for_it walk_enumT Pv h0 hl (fun i v σ H H' hi pv y => by
    obtain ⟨p, x, y2, rfl, e2, rfl, e4, e5⟩ := y
    cases e4
    exact hs i y2 σ H p e5 pv e2) hd
end Lw

set_option maxRecDepth 100000
set_option maxHeartbeats 4000000
/-! t >= u for tuples of ints; rows of ints; bounds -/
namespace Lw
open PySem PySem.Spec
open PyProof.Rows L2
/-- t >= u -/
def lexGe : List Int → List Int → Bool
  | _, [] => true
  | [], _ :: _ => false
  | x :: xs, y :: ys => if x = y then lexGe xs ys else decide (y ≤ x)
theorem lexGe_nil (xs : List Int) : lexGe xs [] = true := by cases xs <;> rfl
theorem lexGe_none (y : Int) (ys : List Int) : lexGe [] (y :: ys) = false := rfl
theorem lexGe_cons (x y : Int) (xs ys : List Int) : lexGe (x :: xs) (y :: ys) = if x = y then lexGe xs ys else decide (y ≤ x) := rfl
theorem firstGe (ns ms : List Int) : ∀ (k i : Nat), i + k = min ns.length ms.length →
    SeqAt.firstLt (fun j => ns.getD j 0 == ms.getD j 0) (fun j => decide (ms.getD j 0 ≤ ns.getD j 0)) (decide (ns.length ≥ ms.length)) (List.range' i k) = lexGe (ns.drop i) (ms.drop i)
  | 0, i, h => by
    show decide (ns.length ≥ ms.length) = _
    by_cases c : ms.length ≤ ns.length
    · rw [List.drop_of_length_le (show ms.length ≤ i by omega), lexGe_nil]
      exact decide_eq_true c
    · rw [List.drop_of_length_le (show ns.length ≤ i by omega), List.drop_eq_getElem_cons (show i < ms.length by omega), lexGe_none]
      exact decide_eq_false c
  | k + 1, i, h => by
    have h1 : i < ns.length := by omega
    have h2 : i < ms.length := by omega
    have g1 : ns.getD i 0 = ns[i] := by rw [List.getD_eq_getElem?_getD, List.getElem?_eq_getElem h1]; rfl
    have g2 : ms.getD i 0 = ms[i] := by rw [List.getD_eq_getElem?_getD, List.getElem?_eq_getElem h2]; rfl
    rw [List.drop_eq_getElem_cons h1, List.drop_eq_getElem_cons h2, lexGe_cons, ← firstGe ns ms k (i + 1) (by omega), List.range'_succ]
    by_cases c : ns[i] = ms[i]
    · rw [if_pos c, SeqAt.firstLt_yes (by rw [g1, g2, c]; exact beq_self_eq_true _)]
    · rw [if_neg c, SeqAt.firstLt_no (by rw [g1, g2]; exact beq_false_of_ne c), g1, g2]
theorem ints_get {us : List Value} {ns : List Int} (h : IntsAre us ns) : ∀ (j : Nat) (hj : j < us.length), ∃ t, us[j] = .int (ns.getD j 0) t := by
  induction h with
  | nil => intro j hj; exact absurd hj (Nat.not_lt_zero _)
  | cons a t _ ih =>
    intro j hj
    cases j with
    | zero => exact ⟨t, rfl⟩
    | succ j => exact ih j (Nat.lt_of_succ_lt_succ hj)
def rGeT (K : PySem.W.Frag) : R2 := fun x y H Q => ∃ a b ns ms, x = .ref a ∧ y = .ref b ∧ SqT K H a (ns.map V.int) ∧ SqT K H b (ms.map V.int) ∧ Q (.bl (lexGe ns ms)) H
theorem op_geT {X : Cx} (hu : X.A.units < cLine) : OpR X (compareOp .GtE) (rGeT X.K) := by
  rintro pins s σ H x y v u Q I rx ry ⟨a, b, ns, ms, rfl, rfl, ha, hb, q⟩
  cases rx
  cases ry
  obtain ⟨its, r1, p1, _⟩ := I.tuple ha
  obtain ⟨its2, r2, p2, _⟩ := I.tuple hb
  have i1 : IntsAre its ns := by have := intsAre_of r1; simpa using this
  have i2 : IntsAre its2 ms := by have := intsAre_of r2; simpa using this
  have l1 : its.length = ns.length := i1.length
  have l2 : its2.length = ms.length := i2.length
  have go := SeqAt.RcOp.tuples_ge (A := X.A) (e := fun j => ns.getD j 0 == ms.getD j 0) (r := fun j => decide (ms.getD j 0 ≤ ns.getD j 0)) (show s.heap.IsTuple a its.toArray from p1) (show s.heap.IsTuple b its2.toArray from p2) hu
    (fun j h1 h2 => by
      obtain ⟨t1, e1⟩ := ints_get i1 j (by simpa using h1)
      obtain ⟨t2, e2⟩ := ints_get i2 j (by simpa using h2)
      rw [List.getElem_toArray, List.getElem_toArray, e1, e2]
      exact SeqAt.EqAt.int_int _ _ _ _)
    (fun j h1 h2 _ => by
      obtain ⟨t1, e1⟩ := ints_get i1 j (by simpa using h1)
      obtain ⟨t2, e2⟩ := ints_get i2 j (by simpa using h2)
      rw [List.getElem_toArray, List.getElem_toArray, e1, e2]
      intro prog w E Q h
      exact (ge_int h : wpAny (model prog w) X.A.in1 (compareOp .GtE _ _) Q E s))
  refine go X.prog X.w _ _ ⟨.bl (lexGe ns ms), H, I, ?_, q⟩
  show Value.bool _ = Value.bool _
  rw [List.size_toArray, List.size_toArray, l1, l2, List.range_eq_range', firstGe ns ms _ 0 (by omega), List.drop_zero, List.drop_zero]
theorem d_geT {K : PySem.W.Frag} {H : Hp} {Q : VK} {a b : Addr} {ns ms : List Int} (ha : H a = some (.tup (ns.map V.int))) (hb : H b = some (.tup (ms.map V.int))) (q : Q (.bl (lexGe ns ms)) H) : rGeT K (.ref a) (.ref b) H Q := ⟨a, b, ns, ms, rfl, rfl, sqT ha, sqT hb, q⟩
theorem k_bb : kitB "bool" "bool" = some true := by decide +kernel
theorem d_isBB {K : PySem.W.Frag} {H : Hp} {Q : VK} {b : Bool} (q : Q (.bl true) H) : rIsi K [.bl b, .ty "bool"] H Q := ⟨_, _, _, _, true, rfl, .ty _, .base (.bl b), kit_ty k_bb, q⟩
theorem d_catA {K : PySem.W.Frag} {H : Hp} {Q : VK} {a b : Addr} {xs ys : List V} (ha : H a = some (.tup xs)) (hb : H b = some (.tup ys)) (hz : xs.length + ys.length ≤ 1000000)
    (q0 : xs = [] → Q (.ref b) H) (q1 : xs ≠ [] → ys = [] → Q (.ref a) H) (q2 : xs ≠ [] → ys ≠ [] → ∀ p, H p = none → Q (.ref p) (upd H p (.tup (xs ++ ys)))) : rCatA K (.ref a) (.ref b) H Q := ⟨a, b, xs, ys, rfl, rfl, sqT ha, sqT hb, smallN hz, q0, q1, q2⟩
theorem d_slA {K : PySem.W.Frag} {H : Hp} {Q : VK} {a : Addr} {xs : List V} {n : Nat} (ha : H a = some (.tup xs)) (hn : n ≤ xs.length) (q1 : n = xs.length → Q (.ref a) H) (q2 : ∀ p, H p = none → Q (.ref p) (upd H p (.tup (xs.take n)))) : rSlA K (.ref a) none (some (n : Int)) H Q := by
  refine ⟨a, xs, rfl, sqT ha, fun z => ?_, fun z p hp => ?_⟩
  · rw [HT.sIx_nat] at z
    exact q1 (by omega)
  · have e : cutV xs none (some (n : Int)) = xs.take n := by
      unfold cutV
      rw [HT.sIx_none, HT.sIx_nat, List.drop_zero, Nat.sub_zero, Nat.min_eq_left hn]
    rw [e]
    exact q2 p hp
/-- t[:n], however it comes about -/
theorem d_slK {K : PySem.W.Frag} {H : Hp} {Q : VK} {a : Addr} {xs : List V} {n : Nat} (ha : H a = some (.tup xs)) (hn : n ≤ xs.length) (q : ∀ p H', Kp [] H H' → H' p = some (.tup (xs.take n)) → Q (.ref p) H') : rSlA K (.ref a) none (some (n : Int)) H Q :=
  d_slA ha hn (fun e => q a H (Kp.refl _ _) (by rw [e, List.take_length]; exact ha)) fun p hp => q p _ (Kp.new hp) upd_same
/-- t + u, however it comes about -/
theorem d_catK {K : PySem.W.Frag} {H : Hp} {Q : VK} {a b : Addr} {xs ys : List V} (ha : H a = some (.tup xs)) (hb : H b = some (.tup ys)) (hz : xs.length + ys.length ≤ 1000000)
    (q : ∀ p H', Kp [] H H' → H' p = some (.tup (xs ++ ys)) → Q (.ref p) H') : rCatA K (.ref a) (.ref b) H Q :=
  d_catA ha hb hz (fun e => q b H (Kp.refl _ _) (by rw [e]; exact hb)) (fun _ e => q a H (Kp.refl _ _) (by rw [e, List.append_nil]; exact ha)) fun _ _ p hp => q p _ (Kp.new hp) upd_same
end Lw

set_option maxRecDepth 100000
set_option maxHeartbeats 4000000
/-! bounds: when what they bind is lower -/
namespace Lw
open PySem L2
abbrev Bd := Option (Int × Bool)
def cut1 (s : Bool) : Int := if s = true then 1 else 0
/-- the numbers respect the bounds -/
def Resp (ns : List Int) (bs : List Bd) (rs : List Int) : Prop := ∀ (k : Nat) (p : Int) (s : Bool), bs[k]? = some (some (p, s)) → ns.getD k 0 ≤ rs.getD p.toNat 0 - cut1 s
/-- lower, by the bounds -/
def Low (bs : List Bd) : Prop := ∃ j : Nat, bs[j]? = some (some ((j : Int), true)) ∧ ∀ i, i < j → bs[i]? = some (some ((i : Int), false))
/-- all rows of m of these -/
def rowsOf (is : List Int) : Nat → List (List Int)
  | 0 => [[]]
  | m + 1 => (rowsOf is m).flatMap fun r => is.map fun t => r ++ [t]
theorem mem_rows (is : List Int) : ∀ (m : Nat) (r : List Int), r ∈ rowsOf is m ↔ r.length = m ∧ ∀ x ∈ r, x ∈ is
  | 0, r => by
    show r ∈ [[]] ↔ _
    constructor
    · intro h
      rw [List.mem_singleton.mp h]
      exact ⟨rfl, fun x hx => by cases hx⟩
    · rintro ⟨h, _⟩
      rw [List.length_eq_zero_iff.mp h]
      exact List.mem_singleton.mpr rfl
  | m + 1, r => by
    show r ∈ (rowsOf is m).flatMap _ ↔ _
    rw [List.mem_flatMap]
    constructor
    · rintro ⟨q, hq, hr⟩
      obtain ⟨t, ht, rfl⟩ := List.mem_map.mp hr
      obtain ⟨l, hx⟩ := (mem_rows is m q).mp hq
      refine ⟨by rw [List.length_append, l]; rfl, fun x h => ?_⟩
      rcases List.mem_append.mp h with h | h
      · exact hx x h
      · rw [List.mem_singleton.mp h]; exact ht
    · rintro ⟨l, hx⟩
      have hn : r ≠ [] := fun z => by rw [z] at l; cases l
      refine ⟨r.dropLast, (mem_rows is m _).mpr ⟨by rw [List.length_dropLast, l]; rfl, fun x h => hx x (List.dropLast_subset r h)⟩, List.mem_map.mpr ⟨r.getLast hn, hx _ (List.getLast_mem hn), List.dropLast_concat_getLast hn⟩⟩
theorem len_rows (is : List Int) : ∀ m, (rowsOf is m).length = is.length ^ m
  | 0 => rfl
  | m + 1 => by
    show ((rowsOf is m).flatMap _).length = _
    rw [List.length_flatMap, show (fun r : List Int => (is.map fun t => r ++ [t]).length) = fun _ => is.length from funext fun r => by rw [List.length_map], List.map_const', List.sum_replicate_nat, len_rows is m, Nat.pow_succ]
theorem lex_less : ∀ (j : Nat) (ns ms : List Int), j < ns.length → j < ms.length → (∀ i, i < j → ns.getD i 0 ≤ ms.getD i 0) → ns.getD j 0 < ms.getD j 0 → lexGe ns ms = false
  | _, [], _, h, _, _, _ => absurd h (Nat.not_lt_zero _)
  | _, _ :: _, [], _, h, _, _ => absurd h (Nat.not_lt_zero _)
  | 0, x :: xs, y :: ys, _, _, _, hj => by
    have hj' : x < y := hj
    rw [lexGe_cons, if_neg (by omega)]
    exact decide_eq_false (by omega)
  | j + 1, x :: xs, y :: ys, h1, h2, hi, hj => by
    have h0 : x ≤ y := hi 0 (Nat.succ_pos _)
    rw [lexGe_cons]
    by_cases c : x = y
    · rw [if_pos c]
      exact lex_less j xs ys (Nat.lt_of_succ_lt_succ h1) (Nat.lt_of_succ_lt_succ h2) (fun i h => hi (i + 1) (Nat.succ_lt_succ h)) hj
    · rw [if_neg c]
      exact decide_eq_false (by omega)
theorem lex_more : ∀ (j : Nat) (ns ms : List Int), ns.length = ms.length → (∀ i, i < j → ns.getD i 0 = ms.getD i 0) → (ns.length ≤ j ∨ ms.getD j 0 < ns.getD j 0) → lexGe ns ms = true
  | _, [], [], _, _, _ => rfl
  | _, [], _ :: _, h, _, _ => nomatch h
  | _, _ :: _, [], h, _, _ => nomatch h
  | 0, x :: xs, y :: ys, _, _, hj => by
    rcases hj with hj | hj
    · exact absurd hj (Nat.not_succ_le_zero _)
    · have hj' : y < x := hj
      rw [lexGe_cons, if_neg (by omega)]
      exact decide_eq_true (by omega)
  | j + 1, x :: xs, y :: ys, h, hi, hj => by
    have h0 : x = y := hi 0 (Nat.succ_pos _)
    rw [lexGe_cons, if_pos h0]
    exact lex_more j xs ys (Nat.succ.inj h) (fun i h => hi (i + 1) (Nat.succ_lt_succ h)) (hj.imp Nat.le_of_succ_le_succ id)
def Wit (bs : List Bd) (rs ns : List Int) : Prop := lexGe ns (rs.take bs.length) = true ∧ Resp ns bs rs
theorem getD_map_range (f : Nat → Int) {n i : Nat} (h : i < n) : ((List.range n).map f).getD i 0 = f i := by
  rw [List.getD_eq_getElem?_getD, List.getElem?_map, List.getElem?_range h]
  rfl
theorem getD_far (l : List Int) {i : Nat} (h : l.length ≤ i) : l.getD i 0 = 0 := by
  rw [List.getD_eq_getElem?_getD, List.getElem?_eq_none h]
  rfl
theorem getD_take (rs : List Int) {n i : Nat} (h : i < n) : (rs.take n).getD i 0 = rs.getD i 0 := by
  rw [List.getD_eq_getElem?_getD, List.getElem?_take, if_pos h, ← List.getD_eq_getElem?_getD]
theorem low_none {bs : List Bd} {rs ns : List Int} (h : Low bs) (l4 : bs.length ≤ 4) (lr : rs.length = 4) (ln : ns.length = bs.length) : ¬ Wit bs rs ns := by
  rintro ⟨hg, hr⟩
  obtain ⟨j, ej, ei⟩ := h
  have hj : j < bs.length := (List.getElem?_eq_some_iff.mp ej).1
  have e : lexGe ns (rs.take bs.length) = false := by
    refine lex_less j _ _ (by omega) (by rw [List.length_take]; omega) (fun i hi => ?_) ?_
    · have := hr i _ _ (ei i hi)
      rw [getD_take _ (by omega)]
      simpa [cut1] using this
    · have := hr j _ _ ej
      rw [getD_take _ hj]
      simp only [cut1, if_true, Int.toNat_natCast] at this
      omega
  rw [e] at hg
  cases hg
theorem wit_of {bs : List Bd} (hp : ∀ (k : Nat) (p : Int) (s : Bool), bs[k]? = some (some (p, s)) → 0 ≤ p ∧ p < 4) (l4 : bs.length ≤ 4) (rk : Nat → Int) (h1 : ∀ i, rk i = 1 ∨ rk i = 3) (j : Nat) (x : Int) (hx : 2 ≤ x ∧ x ≤ 3) (hi : ∀ i, i < j → bs[i]? = some (some ((i : Int), false)))
    (hj : bs.length ≤ j ∨ (rk j = 1 ∧ ∀ p s, bs[j]? = some (some (p, s)) → x ≤ rk p.toNat - cut1 s)) :
    ∃ rs ∈ rowsOf [1, 3] 4, ∃ ns ∈ rowsOf [0, 1, 2, 3] bs.length, Wit bs rs ns := by
  have gr : ∀ i, i < 4 → ((List.range 4).map rk).getD i 0 = rk i := fun i h => getD_map_range rk h
  have gn : ∀ i, i < bs.length → ((List.range bs.length).map fun i => if i < j then rk i else if i = j then x else 0).getD i 0 = if i < j then rk i else if i = j then x else 0 := fun i h => getD_map_range _ h
  refine ⟨(List.range 4).map rk, (mem_rows _ _ _).mpr ⟨by rw [List.length_map, List.length_range], fun y hy => ?_⟩, (List.range bs.length).map (fun i => if i < j then rk i else if i = j then x else 0), (mem_rows _ _ _).mpr ⟨by rw [List.length_map, List.length_range], fun y hy => ?_⟩, ?_, fun k p s e => ?_⟩
  · obtain ⟨i, _, rfl⟩ := List.mem_map.mp hy
    rcases h1 i with e | e <;> simp [e]
  · obtain ⟨i, _, rfl⟩ := List.mem_map.mp hy
    by_cases c : i < j
    · simp only [if_pos c]
      rcases h1 i with e | e <;> simp [e]
    · by_cases d : i = j
      · simp only [if_neg c, if_pos d]
        have : x = 2 ∨ x = 3 := by omega
        rcases this with e | e <;> simp [e]
      · simp only [if_neg c, if_neg d]
        simp
  · refine lex_more j _ _ (by rw [List.length_take]; simp only [List.length_map, List.length_range]; omega) (fun i hij => ?_) ?_
    · by_cases hb : i < bs.length
      · rw [gn i hb, if_pos hij, getD_take _ hb, gr i (by omega)]
      · rw [getD_far _ (by simp only [List.length_map, List.length_range]; omega), getD_far _ (by rw [List.length_take]; simp only [List.length_map, List.length_range]; omega)]
    · by_cases hb : bs.length ≤ j
      · exact .inl (by simp only [List.length_map, List.length_range]; exact hb)
      · rcases hj with z | ⟨z, _⟩
        · exact absurd z hb
        · refine .inr ?_
          rw [gn j (by omega), if_neg (Nat.lt_irrefl _), if_pos rfl, getD_take _ (by omega), gr j (by omega), z]
          omega
  · have hk : k < bs.length := (List.getElem?_eq_some_iff.mp e).1
    obtain ⟨p0, p4⟩ := hp k p s e
    rw [gn k hk, gr _ (by omega)]
    by_cases c : k < j
    · rw [if_pos c]
      rw [hi k c] at e
      cases e
      simp [cut1]
    · rw [if_neg c]
      by_cases d : k = j
      · subst d
        rw [if_pos rfl]
        rcases hj with z | ⟨_, z⟩
        · omega
        · exact z p s e
      · rw [if_neg d]
        have := h1 p.toNat
        have c1 : cut1 s ≤ 1 := by unfold cut1; split <;> omega
        omega
theorem all_or_first (bs : List Bd) : ∀ n, n ≤ bs.length → (∀ i, i < n → bs[i]? = some (some ((i : Int), false))) ∨ ∃ j, j < n ∧ (∀ i, i < j → bs[i]? = some (some ((i : Int), false))) ∧ bs[j]? ≠ some (some ((j : Int), false))
  | 0, _ => .inl fun i h => absurd h (Nat.not_lt_zero _)
  | n + 1, hn => by
    rcases all_or_first bs n (by omega) with h | ⟨j, h1, h2, h3⟩
    · by_cases c : bs[n]? = some (some ((n : Int), false))
      · exact .inl fun i hi => by
          by_cases d : i = n
          · rw [d]; exact c
          · exact h i (by omega)
      · exact .inr ⟨n, Nat.lt_succ_self _, h, c⟩
    · exact .inr ⟨j, by omega, h2, h3⟩
theorem not_low {bs : List Bd} (h : ¬ Low bs) (hp : ∀ (k : Nat) (p : Int) (s : Bool), bs[k]? = some (some (p, s)) → 0 ≤ p ∧ p < 4) (l4 : bs.length ≤ 4) : ∃ rs ∈ rowsOf [1, 3] 4, ∃ ns ∈ rowsOf [0, 1, 2, 3] bs.length, Wit bs rs ns := by
  rcases all_or_first bs bs.length (Nat.le_refl _) with ha | ⟨j, h1, h2, h3⟩
  · exact wit_of hp l4 (fun _ => 1) (fun _ => .inl rfl) bs.length 2 (by omega) ha (.inl (Nat.le_refl _))
  · have ej : bs[j]? = some bs[j] := List.getElem?_eq_getElem h1
    cases eb : bs[j] with
    | none =>
      rw [eb] at ej
      exact wit_of hp l4 (fun _ => 1) (fun _ => .inl rfl) j 3 (by omega) h2 (.inr ⟨rfl, fun p s z => by rw [ej] at z; cases z⟩)
    | some ps =>
      obtain ⟨p, s⟩ := ps
      rw [eb] at ej
      obtain ⟨p0, p4⟩ := hp j p s ej
      have hne : p.toNat ≠ j := fun z => by
        have e : p = (j : Int) := by omega
        subst e
        cases s with
        | true => exact h ⟨j, ej, h2⟩
        | false => exact h3 ej
      refine wit_of hp l4 (fun i => if i = p.toNat then 3 else 1) (fun i => by by_cases c : i = p.toNat <;> simp [c]) j (3 - cut1 s) (by unfold cut1; split <;> omega) h2 (.inr ⟨if_neg (Ne.symm hne), fun p' s' z => ?_⟩)
      rw [ej] at z
      cases z
      simp
theorem low_iff {bs : List Bd} (hp : ∀ (k : Nat) (p : Int) (s : Bool), bs[k]? = some (some (p, s)) → 0 ≤ p ∧ p < 4) (l4 : bs.length ≤ 4) : Low bs ↔ ¬ ∃ rs ∈ rowsOf [1, 3] 4, ∃ ns ∈ rowsOf [0, 1, 2, 3] bs.length, Wit bs rs ns := by
  constructor
  · rintro h ⟨rs, hrs, ns, hns, z⟩
    exact low_none h l4 ((mem_rows _ _ _).mp hrs).1 ((mem_rows _ _ _).mp hns).1 z
  · intro h
    by_cases c : Low bs
    · exact c
    · exact absurd (not_low c hp l4) h
end Lw

set_option maxRecDepth 100000
set_option maxHeartbeats 4000000
/-! lists of things on the heap; what the defs of k47 promise -/
namespace Lw
open PySem PySem.Spec
open PyProof.Rows L2
/-- each value stands for its thing -/
structure Lat {α : Type} (R : Hp → V → α → Prop) (H : Hp) (vs : List V) (ts : List α) : Prop where
  len : vs.length = ts.length
  at' : ∀ (i : Nat) v t, vs[i]? = some v → ts[i]? = some t → R H v t
section
variable {α : Type} {R : Hp → V → α → Prop} {H H' : Hp} {vs : List V} {ts : List α} {v : V} {t : α}
theorem Lat.nil : Lat R H [] [] := ⟨rfl, fun i v t e => nomatch (show (none : Option V) = some v from by simpa using e)⟩
theorem Lat.snoc (h : Lat R H vs ts) (r : R H v t) : Lat R H (vs ++ [v]) (ts ++ [t]) := by
  refine ⟨by rw [List.length_append, List.length_append, h.len]; rfl, fun i w u ew eu => ?_⟩
  by_cases c : i < vs.length
  · rw [List.getElem?_append_left c] at ew
    rw [List.getElem?_append_left (by rw [← h.len]; exact c)] at eu
    exact h.at' i w u ew eu
  · rw [List.getElem?_append_right (by omega)] at ew
    rw [List.getElem?_append_right (by rw [← h.len]; omega), ← h.len] at eu
    cases hd : i - vs.length with
    | zero =>
      rw [hd] at ew eu
      cases ew
      cases eu
      exact r
    | succ n =>
      rw [hd] at ew
      cases ew
theorem Lat.one (r : R H v t) : Lat R H [v] [t] := Lat.nil.snoc r
theorem Lat.keep (h : Lat R H vs ts) (f : ∀ v t, R H v t → R H' v t) : Lat R H' vs ts := ⟨h.len, fun i v t a b => f v t (h.at' i v t a b)⟩
theorem Lat.get (h : Lat R H vs ts) {i : Nat} (e : vs[i]? = some v) : ∃ t, ts[i]? = some t ∧ R H v t := by
  have hi := (List.getElem?_eq_some_iff.mp e).1
  have ht : i < ts.length := by rw [← h.len]; exact hi
  exact ⟨ts[i], List.getElem?_eq_getElem ht, h.at' i v _ e (List.getElem?_eq_getElem ht)⟩
end
/-- a tuple of ints -/
def RowAt (H : Hp) (v : V) (r : List Int) : Prop := ∃ a, v = .ref a ∧ H a = some (.tup (r.map V.int))
theorem RowAt.keepT {H H' : Hp} {v : V} {r : List Int} (k : KeepT H H') (h : RowAt H v r) : RowAt H' v r := let ⟨a, e, q⟩ := h; ⟨a, e, k _ _ q⟩
/-- None, or a pair of a place and a flag -/
def BdAt (H : Hp) (v : V) (b : Bd) : Prop := (b = none ∧ v = .non) ∨ ∃ a p s, b = some (p, s) ∧ v = .ref a ∧ H a = some (.tup [.int p, .bl s])
theorem BdAt.keepT {H H' : Hp} {v : V} {b : Bd} (k : KeepT H H') (h : BdAt H v b) : BdAt H' v b := h.imp id fun ⟨a, p, s, e, f, q⟩ => ⟨a, p, s, e, f, k _ _ q⟩
theorem Lat.kp {α : Type} {R : Hp → V → α → Prop} {H H' : Hp} {vs : List V} {ts : List α} {l : List Addr} (h : Lat R H vs ts) (f : ∀ {H H' : Hp} {v : V} {t : α}, KeepT H H' → R H v t → R H' v t) (k : Kp l H H') (hl : ∀ a ∈ l, ∀ xs, H a ≠ some (.tup xs)) : Lat R H' vs ts :=
  h.keep fun _ _ => f (k.keepT hl)
def bdD : Bd → PyData
  | none => .none
  | some (p, s) => .tuple [.int p, .bool s]
theorem bd_dp {K : PySem.W.Frag} {H : Hp} {v : V} {b : Bd} (h : BdAt H v b) : Dp K H v (bdD b) := by
  rcases h with ⟨rfl, rfl⟩ | ⟨a, p, s, rfl, rfl, e⟩
  · exact .non
  · exact .tup (sqT e) (.cons (.int p) (.cons (.bl s) .nil))
theorem bd_shaped (b : Bd) : SeqAt.shaped (bdD b) = true := by
  cases b with
  | none => rfl
  | some ps => rfl
theorem bd_eqv (b : Bd) (i : Int) (s : Bool) : PyData.eqv (bdD b) (bdD (some (i, s))) = decide (b = some (i, s)) := by
  cases b with
  | none => rfl
  | some ps =>
    obtain ⟨p, s'⟩ := ps
    show PyData.eqv (.tuple [.int p, .bool s']) (.tuple [.int i, .bool s]) = _
    simp only [PyData.eqv, PyData.eqvAll, Bool.and_true]
    rw [Bool.eq_iff_iff, Bool.and_eq_true, beq_iff_eq, beq_iff_eq, decide_eq_true_iff, Option.some.injEq, Prod.mk.injEq]
theorem d_eqBd {K : PySem.W.Frag} {H : Hp} {Q : VK} {x : V} {b : Bd} {q : Addr} {i : Int} {s : Bool} (hx : BdAt H x b) (hq : H q = some (.tup [.int i, .bl s])) (h : Q (.bl (decide (b = some (i, s)))) H) : rEqD K x (.ref q) H Q :=
  ⟨bdD b, bdD (some (i, s)), bd_dp hx, bd_dp (.inr ⟨q, i, s, rfl, rfl, hq⟩), bd_shaped _, bd_shaped _, by rw [bd_eqv]; exact h⟩
theorem d_neBd {K : PySem.W.Frag} {H : Hp} {Q : VK} {x : V} {b : Bd} {q : Addr} {i : Int} {s : Bool} (hx : BdAt H x b) (hq : H q = some (.tup [.int i, .bl s])) (h : Q (.bl (!decide (b = some (i, s)))) H) : rNeD K x (.ref q) H Q :=
  ⟨bdD b, bdD (some (i, s)), bd_dp hx, bd_dp (.inr ⟨q, i, s, rfl, rfl, hq⟩), bd_shaped _, bd_shaped _, by rw [bd_eqv]; exact h⟩
theorem d_gtup2 {K : PySem.W.Frag} {H : Hp} {Q : L2.St → Hp → Prop} {σ : L2.St} {p : Addr} {i j : Nat} {x y : V} (e : H p = some (.tup [x, y])) (q : Q ((σ.set i (some x)).set j (some y)) H) : gTup K 2 (gCons (gName i) (gCons (gName j) gNil)) (.ref p) σ H Q :=
  ⟨p, [x, y], rfl, sqT e, rfl, x, [y], rfl, y, [], rfl, rfl, q⟩
theorem d_notN {H : Hp} {Q : VK} {x : V} (q : Q (.bl (!decide (x = .non))) H) : rNotN x .non H Q := ⟨rfl, q⟩
def spChoices : Sp := fun vs H Q _ => ∃ (a : Addr) (is : List Int) (m : Nat), vs = [.ref a, .int m] ∧ H a = some (.lst (is.map V.int)) ∧ is.length ≤ 4 ∧ m ≤ 4 ∧
  ∀ H' p ws, Kp [] H H' → H p = none → H' p = some (.lst ws) → Lat RowAt H' ws (rowsOf is m) → Q (.ref p) H'
def spRespects : Sp := fun vs H Q _ => ∃ (x y : V) (l : Addr) (ns rs : List Int) (bv : List V) (bs : List Bd), vs = [x, .ref l, y] ∧ RowAt H x ns ∧ RowAt H y rs ∧ H l = some (.lst bv) ∧ Lat BdAt H bv bs ∧ bs.length ≤ 4 ∧ ns.length = bs.length ∧ rs.length = 4 ∧
  (∀ (k : Nat) (p : Int) (s : Bool), bs[k]? = some (some (p, s)) → 0 ≤ p ∧ p < 4) ∧ ∀ H' b, Kp [] H H' → (b = true ↔ Resp ns bs rs) → Q (.bl b) H'
def spLower : Sp := fun vs H Q _ => ∃ (a : Addr) (bv : List V) (bs : List Bd), vs = [.ref a] ∧ H a = some (.tup bv) ∧ Lat BdAt H bv bs ∧ bs.length ≤ 4 ∧ ∀ H' b, Kp [] H H' → (b = true ↔ Low bs) → Q (.bl b) H'
end Lw
namespace Lw
open PySem PySem.Spec L2
def top (i : Nat) : Stmt := PySem.Challenge.pw_openrules_k47_lower_bounds.main.body.getD i (.Pass ⟨0, 0, 0, 0⟩)
local macro_rules | `(tactic| walk_at "rd1") => `(tactic| first
  | (with_reducible first
    | refine d_c ?_ | refine d_op ?_ | refine d_I0 ?_ | refine d_un ?_ | refine d_nil ?_ | refine d_cons ?_ | refine d_cb ?_ | refine d_ckw ?_ | refine d_call ?_ | refine d_asg ?_ | refine d_seq ?_
    | refine d_next ?_ | refine d_name ?_ | refine d_ret ?_ | refine d_retN ?_ | refine d_drop ?_ | refine d_ifs ?_ | refine d_ifx ?_ | refine d_test ?_ | refine d_tB ?_ | refine d_tnot ?_ | refine d_tand ?_ | refine d_tor ?_
    | refine d_andV ?_ | refine d_orV ?_ | refine d_notV ?_ | refine d_tup ?_ | refine d_lst ?_ | refine d_slice ?_ | refine d_part ?_ | refine d_nopart ?_ | refine d_bm ?_ | refine d_bm0 ?_ | refine d_U ?_ | refine d_sub ?_ | refine d_for ?_ | refine d_rng1 ?_ | refine d_ilist ?_ | refine d_itup ?_ | refine d_lc ?_ | refine d_tru ?_ | refine d_down ?_ | refine d_isII ?_ | refine d_isIT ?_ | refine d_isNT ?_ | refine d_isNI ?_
    | refine ⟨_, rfl, ?_⟩ | refine ⟨_, _, rfl, ?_⟩ | refine .inl ⟨_, rfl, ?_⟩)
  | ((with_reducible refine' d_var ?h ?_); (case h => exact rfl))
  | ((with_reducible refine' d_ixLc ?h ?e ?_); (case h => first | assumption | exact upd_same); (case e => exact rfl))
  | ((with_reducible refine' d_ixTc ?h ?e ?_); (case h => first | assumption | exact upd_same); (case e => exact rfl))
  | ((with_reducible refine' d_tyL ?h ?_); (case h => first | assumption | exact upd_same))
  | ((with_reducible refine' d_lenL ?h ?_); (case h => assumption))
  | ((with_reducible refine' d_lenT ?h ?_); (case h => assumption))
  | ((with_reducible refine' d_tupL ?h ?_); (case h => assumption))
  | ((with_reducible refine' d_isTI ?h ?_); (case h => assumption))
  | ((with_reducible refine' d_isTT ?h ?_); (case h => assumption))
  | ((with_reducible refine' d_truL ?h ?_); (case h => assumption))
  | ((with_reducible refine' d_setL ?h ?e ?_); (case h => first | assumption | exact upd_same); (case e => exact rfl))
  | ((with_reducible refine' d_eq ?h ?_); (case h => exact rfl))
  | ((with_reducible refine' d_ne ?h ?_); (case h => exact rfl))
  | ((with_reducible refine' d_I ?h ?_); (case h => first | decide | exact Or.inl (by decide) | exact Or.inr (by decide) | exact ⟨by decide, by decide, by decide⟩ | assumption | omega)))
local macro_rules | `(tactic| walk_at "rd") => `(tactic| ((repeat walk_at "rd1"); (try dsimp only [Int.reduceToNat, List.set_cons_zero, List.set_cons_succ, List.cons_append, List.nil_append])))
abbrev s_tape : Stmt := top 3
theorem sc_tape : FnScope ["script", "total", "cell"] ["script"] (defScope s_tape) := ⟨rfl, rfl, rfl, by decide +kernel, rfl, by decide +kernel, by decide +kernel⟩
theorem ok_tape {P : Program} {w : World} {K : PySem.W.Frag} {mg : Str → Option Value} {base : Heap} {k : Nat} (D : Df K mg "_law_tape" s_tape ["script"])
    (mi : mg "int" = none) (ma : mg "abs" = none) (ml : mg "list" = none) : Cl P w K mg base (k + 1) "_law_tape" ["script"] (spTape K) := by
  refine D.ok sc_tape (fun vs H Q E h => ?_) (fun f cdv A outer s H vs Q E hr h => ?_)
  · obtain ⟨a, ns, rfl, _⟩ := h
    rfl
  obtain ⟨a, ns, rfl, hS, q⟩ := h
  refine ⟨_, pss_cons (ps_set (i := 1) sc_tape.nd rfl (.inl rfl) pe_int)
    (pss_cons (ps_for PassesOwn.never rfl (pi_list (pv 0)) (pg_name (i := 2) sc_tape.nd rfl (.inl rfl))
      (pss_one (ps_set (i := 1) sc_tape.nd rfl (.inl rfl) (pe_op op_modN (pe_callTy call_int1 (by rfl) mi b_int (pa_cons (pe_op op_add (pe_op op_mul (pv 1) pe_int)
        (pe_callB call_abs (by rfl) ma b_abs (pa_cons (pe_callTy call_int1 (by rfl) mi b_int (pa_cons (pv 2) pa_nil)) pa_nil))) pa_nil)) pe_int))))
    (pss_one (ps_ret (pe_lst (pa_cons (pe_callTy call_list_of (by rfl) ml b_list (pa_cons (pv 0) pa_nil)) (pa_cons pe_int (pa_cons pe_int (pa_cons (pv 1) pa_nil)))))))), ?_⟩
  refine ⟨.ref a, rfl, a, rfl, ⟨_, hS⟩, for_list (K := K) (xs := ns.map V.int) (fun i σ H' => ∃ tot y, σ = [some (.ref a), some (.int tot), y] ∧ H' = H) ⟨7, none, rfl, rfl⟩ (fun i σ H' hi ⟨tot, y, e1, e2⟩ => by rw [e2]; exact hS) (fun i x σ H' hx ⟨tot, y, e1, e2⟩ => ?_) (fun σ H' ⟨tot, y, e1, e2⟩ => ?_)⟩
  · subst e1 e2
    obtain ⟨n, rfl⟩ : ∃ n, x = .int n := by
      rw [List.getElem?_map] at hx
      cases e : ns[i]? with
      | none => rw [e] at hx; cases hx
      | some n => rw [e] at hx; exact ⟨n, (Option.some.inj hx).symm⟩
    walk_at "rd"
  · subst e1 e2
    walk_at "rd"
    refine ⟨a, _, rfl, .inl hS, fun sc hsc => ?_⟩
    walk_at "rd"
    refine ⟨smallN (by show 4 ≤ 1000000; decide), fun t ht => ?_⟩
    have hne : sc ≠ t := fun z => by rw [← z, upd_same] at ht; cases ht
    have ht0 : H' t = none := by rw [upd_ne (Ne.symm hne)] at ht; exact ht
    refine q _ t sc ((Kp.new hsc).trans (Kp.new ht)) ht0 hsc ⟨⟨0, 0, tot, Int.le_refl _, upd_same⟩, ?_, hne⟩
    rw [upd_ne hne, upd_same]

abbrev s_draw : Stmt := top 4
theorem sc_draw : FnScope ["tape", "many", "place", "number"] ["tape", "many"] (defScope s_draw) := ⟨rfl, rfl, rfl, by decide +kernel, rfl, by decide +kernel, by decide +kernel⟩
theorem ok_draw {P : Program} {w : World} {K : PySem.W.Frag} {mg : Str → Option Value} {base : Heap} {k : Nat} (D : Df K mg "_law_draw" s_draw ["tape", "many"])
    (mi : mg "int" = none) (ma : mg "abs" = none) (ml : mg "len" = none) (mx : mg "max" = none) : Cl P w K mg base (k + 1) "_law_draw" ["tape", "many"] spDraw := by
  refine D.ok sc_draw (fun vs H Q E h => ?_) (fun f cdv A outer s H vs Q E hr h => ?_)
  · obtain ⟨t, sc, ns, many, rfl, _⟩ := h
    rfl
  obtain ⟨t, sc, ns, many, rfl, T, m0, m1, q⟩ := h
  refine ⟨_, pss_cons (ps_if (pt_cmpR op_eq (pe_ix ix_list (pv 0) pe_int (fun _ _ => rfl)) pe_int (nomark _))
      (pss_cons (ps_set (i := 2) sc_draw.nd rfl (.inl rfl) (pe_ix ix_list (pv 0) pe_int (fun _ _ => rfl)))
      (pss_cons (ps_set (i := 3) sc_draw.nd rfl (.inl rfl) pe_int)
      (pss_cons (ps_if (pt_cmpR op_lt (pv 2) (pe_callB call_len_seq (by rfl) ml b_len (pa_cons (pe_ix ix_list (pv 0) pe_int (fun _ _ => rfl)) pa_nil)) (nomark _))
        (pss_one (ps_set (i := 3) sc_draw.nd rfl (.inl rfl) (pe_callB call_abs (by rfl) ma b_abs (pa_cons (pe_callTy call_int1 (by rfl) mi b_int (pa_cons (pe_ix ix_list (pe_ix ix_list (pv 0) pe_int (fun _ _ => rfl)) (pv 2) (fun _ _ => rfl)) pa_nil)) pa_nil))))
        (pss_cons (ps_asg (pe_op op_modN (pe_callTy call_int1 (by rfl) mi b_int (pa_cons (pe_op op_add (pe_op op_add (pe_op op_mul (pe_ix ix_list (pv 0) pe_int (fun _ _ => rfl)) pe_int) (pv 2)) pe_int) pa_nil)) pe_int) (pg_sub (pv 0) pe_int set_list))
        (pss_one (ps_set (i := 3) sc_draw.nd rfl (.inl rfl) (pe_ix ix_list (pv 0) pe_int (fun _ _ => rfl))))))
      (pss_cons (ps_asg (pe_op op_add (pv 2) pe_int) (pg_sub (pv 0) pe_int set_list))
      (pss_cons (ps_if (pt_cmpR op_lt (pv 3) (pe_op op_pow pe_int pe_int) (nomark _))
        (pss_cons (ps_set (i := 3) sc_draw.nd rfl (.inl rfl) (pe_op op_modN (pe_callTy call_int1 (by rfl) mi b_int (pa_cons (pe_op op_add (pe_op op_add (pe_op op_mul (pv 3) pe_int) (pe_op op_mul (pv 2) pe_int)) pe_int) pa_nil)) pe_int))
        (pss_cons (ps_set (i := 3) sc_draw.nd rfl (.inl rfl) (pe_op op_modN (pe_callTy call_int1 (by rfl) mi b_int (pa_cons (pe_op op_mul (pv 3) pe_int) pa_nil)) pe_int))
        (pss_one (ps_ret (pe_op op_modN (pe_callTy call_int1 (by rfl) mi b_int (pa_cons (pv 3) pa_nil)) (pe_callB (call_max2 rfl) (by rfl) mx b_max (pa_cons (pv 1) (pa_cons pe_int pa_nil)))))))) pss_nil)
      (pss_one (ps_asg (pv 3) (pg_sub (pv 0) pe_int set_list)))))))) pss_nil)
    (pss_cons (ps_set (i := 3) sc_draw.nd rfl (.inl rfl) (pe_ix ix_list (pv 0) pe_int (fun _ _ => rfl)))
    (pss_cons (ps_asg (pe_op op_fdivN (pv 3) (pe_callB (call_max2 rfl) (by rfl) mx b_max (pa_cons (pv 1) (pa_cons pe_int pa_nil)))) (pg_sub (pv 0) pe_int set_list))
    (pss_one (ps_ret (pe_op op_modN (pe_callTy call_int1 (by rfl) mi b_int (pa_cons (pv 3) pa_nil)) (pe_callB (call_max2 rfl) (by rfl) mx b_max (pa_cons (pv 1) (pa_cons pe_int pa_nil)))))))), ?_⟩
  obtain ⟨⟨pl, pd, sd, h0, hT⟩, hS, ne⟩ := T
  have mx1 : (if (1 : Int) > many then 1 else many) = max many 1 := by split <;> omega
  have mx2 : (if (2 : Int) > many then 2 else many) ≠ 0 ∧ (if (2 : Int) > many then 2 else many).natAbs < 1073741824 := by split <;> omega
  have fin : ∀ (H' : Hp) (n : Int), Kp [t] H H' → TapeAt H' t sc ns → Q (.int (n.fmod (max many 1))) H' := fun H' n k T => by
    have hp : (0 : Int) < max many 1 := by omega
    rw [Int.fmod_eq_emod_of_nonneg n (Int.le_of_lt hp)]
    exact q H' _ k T (Int.emod_nonneg n (by omega)) (Int.emod_lt_of_pos n hp)
  rw [show L2.start ["tape", "many", "place", "number"] [.ref t, .int many] = [some (.ref t), some (.int many), none, none] from rfl]
  walk_at "rd"
  have hp1 : max many 1 ≠ 0 := by omega
  refine ite_bl (fun c => ?_) (fun c => ?_)
  · walk_at "rd"
    refine ⟨sc, _, rfl, .inl (sqL hS), ?_⟩
    walk_at "rd"
    rw [List.length_map]
    refine ite_dc (fun c1 => ?_) (fun c1 => ?_)
    · have hi : pl.toNat < ns.length := by omega
      have e1 : atI (ns.map V.int) pl = some (.int ns[pl.toNat]) := atI_of h0 (by rw [List.getElem?_map, List.getElem?_eq_getElem hi]; rfl)
      walk_at "rd"
      refine d_ixLc hS e1 ?_
      walk_at "rd"
      generalize (if ns[pl.toNat] < 0 then -ns[pl.toNat] else ns[pl.toNat]) = n
      have k1 : Kp [t] H (upd H t (.lst [.ref sc, .int (pl + 1), .int pd, .int sd])) := Kp.put (by simp)
      have T1 : (upd H t (.lst [.ref sc, .int (pl + 1), .int pd, .int sd])) t = some (.lst [.ref sc, .int (pl + 1), .int pd, .int sd]) := upd_same
      have S1 : (upd H t (.lst [.ref sc, .int (pl + 1), .int pd, .int sd])) sc = some (.lst (ns.map V.int)) := by rw [upd_ne ne]; exact hS
      revert k1 T1 S1
      generalize (upd H t (.lst [.ref sc, .int (pl + 1), .int pd, .int sd])) = H1
      revert H1 n
      generalize sd = sd2
      revert sd2
      intro sd2 n H1 k1 T1 S1
      refine ite_dc (fun c2 => ?_) (fun c2 => ?_)
      · walk_at "rd"
        rw [mx1]
        walk_at "rd"
        exact fin H1 _ k1 ⟨⟨pl + 1, pd, sd2, by omega, T1⟩, S1, ne⟩
      · walk_at "rd"
        rw [mx1]
        walk_at "rd"
        refine fin _ _ ((k1.trans (Kp.put (by simp))).trans (Kp.put (by simp))) ⟨⟨pl + 1, n.fdiv (if (2 : Int) > many then 2 else many), sd2, by omega, upd_same⟩, ?_, ne⟩
        rw [upd_ne ne, upd_ne ne]
        exact S1
    · walk_at "rd"
      generalize (sd * 48271 + pl + 1).fmod 2147483647 = sd2
      rw [upd_upd]
      have k1 : Kp [t] H (upd H t (.lst [.ref sc, .int (pl + 1), .int pd, .int sd2])) := Kp.put (by simp)
      have T1 : (upd H t (.lst [.ref sc, .int (pl + 1), .int pd, .int sd2])) t = some (.lst [.ref sc, .int (pl + 1), .int pd, .int sd2]) := upd_same
      have S1 : (upd H t (.lst [.ref sc, .int (pl + 1), .int pd, .int sd2])) sc = some (.lst (ns.map V.int)) := by rw [upd_ne ne]; exact hS
      revert k1 T1 S1
      generalize (upd H t (.lst [.ref sc, .int (pl + 1), .int pd, .int sd2])) = H1
      intro k1 T1 S1
      refine ite_dc (fun c2 => ?_) (fun c2 => ?_)
      · walk_at "rd"
        rw [mx1]
        walk_at "rd"
        exact fin H1 _ k1 ⟨⟨pl + 1, pd, sd2, by omega, T1⟩, S1, ne⟩
      · walk_at "rd"
        rw [mx1]
        walk_at "rd"
        refine fin _ _ ((k1.trans (Kp.put (by simp))).trans (Kp.put (by simp))) ⟨⟨pl + 1, sd2.fdiv (if (2 : Int) > many then 2 else many), sd2, by omega, upd_same⟩, ?_, ne⟩
        rw [upd_ne ne, upd_ne ne]
        exact S1
  · walk_at "rd"
    rw [mx1]
    walk_at "rd"
    refine fin _ _ (Kp.put (by simp)) ⟨⟨pl, pd.fdiv (if (2 : Int) > many then 2 else many), sd, h0, upd_same⟩, ?_, ne⟩
    rw [upd_ne ne]
    exact hS

abbrev s_choices : Stmt := top 5
abbrev nChoices : List Str := ["terms", "many", "rows", "k", "longer", "row", "term"]
theorem sc_choices : FnScope nChoices ["terms", "many"] (defScope s_choices) := ⟨rfl, rfl, rfl, by decide +kernel, rfl, by decide +kernel, by decide +kernel⟩
theorem ok_choices {P : Program} {w : World} {K : PySem.W.Frag} {mg : Str → Option Value} {base : Heap} {k : Nat} (D : Df K mg "_law_choices" s_choices ["terms", "many"]) (mr : mg "range" = none) (ml : mg "list" = none) : Cl P w K mg base (k + 1) "_law_choices" ["terms", "many"] spChoices := by
  refine D.ok sc_choices (fun vs H Q E h => ?_) (fun f cdv A outer s H vs Q E hr h => ?_)
  · obtain ⟨a, is, m, rfl, _⟩ := h
    rfl
  obtain ⟨a, is, m, rfl, ea, l4, m4, q⟩ := h
  refine ⟨_, pss_cons (ps_set (i := 2) sc_choices.nd rfl (.inl rfl) (pe_lst (pa_cons (pe_tup pa_nil) pa_nil)))
    (pss_cons (ps_for PassesOwn.never rfl (pi_range1 (by rfl) mr (pa_cons (pv 1) pa_nil)) (pg_name (i := 3) sc_choices.nd rfl (.inl rfl))
      (pss_cons (ps_set (i := 4) sc_choices.nd rfl (.inl rfl) (pe_lst pa_nil))
      (pss_cons (ps_for PassesOwn.never rfl (pi_list (pe_callTy call_list_of (by rfl) ml b_list (pa_cons (pv 2) pa_nil))) (pg_name (i := 5) sc_choices.nd rfl (.inl rfl))
        (pss_one (ps_for PassesOwn.never rfl (pi_list (pv 0)) (pg_name (i := 6) sc_choices.nd rfl (.inl rfl))
          (pss_one (ps_expr (pe_bm PySem.F.plainAttrs_list PySem.F.slot_list_append PySem.F.type_list_append mt_append (pv 4) (pa_cons (pe_op op_catA (pv 5) (pe_tup (pa_cons (pv 6) pa_nil))) pa_nil)))))))
      (pss_one (ps_set (i := 2) sc_choices.nd rfl (.inl rfl) (pe_callTy call_list_of (by rfl) ml b_list (pa_cons (pv 4) pa_nil)))))))
    (pss_one (ps_ret (pv 2)))), ?_⟩
  rw [show L2.start nChoices [.ref a, .int m] = [some (.ref a), some (.int m), none, none, none, none, none] from rfl]
  walk_at "rd"
  refine ⟨Nat.zero_le _, fun p0 hp0 => ?_⟩
  walk_at "rd"
  refine ⟨smallN (show 1 ≤ 1000000 by decide), fun p1 hp1 => ?_⟩
  have n01 : p0 ≠ p1 := fun z => by rw [← z, upd_same] at hp1; cases hp1
  have hp1' : H p1 = none := by rw [upd_ne (Ne.symm n01)] at hp1; exact hp1
  have k1 : Kp [] H (upd (upd H p0 (.tup [])) p1 (.lst [.ref p0])) := (Kp.new hp0).trans (Kp.new hp1)
  have L1 : Lat RowAt (upd (upd H p0 (.tup [])) p1 (.lst [.ref p0])) [.ref p0] (rowsOf is 0) := .one ⟨p0, rfl, by rw [upd_ne n01, upd_same]; rfl⟩
  have e1 : (upd (upd H p0 (.tup [])) p1 (.lst [.ref p0])) p1 = some (.lst [.ref p0]) := upd_same
  generalize (upd (upd H p0 (.tup [])) p1 (.lst [.ref p0])) = H1 at k1 L1 e1 ⊢
  walk_at "rd"
  refine ⟨by omega, by omega, ?_⟩
  rw [Int.toNat_natCast]
  have pw : ∀ i, i ≤ 4 → (rowsOf is i).length ≤ 256 := fun i hi => by
    rw [len_rows]
    exact Nat.le_trans (Nat.pow_le_pow_left l4 i) (Nat.le_trans (Nat.pow_le_pow_right (by decide) hi) (by decide))
  refine fr_range (fun i σ H' => ∃ p ws x3 x4 x5 x6, σ = [some (.ref a), some (.int m), some (.ref p), x3, x4, x5, x6] ∧ Kp [] H H' ∧ H p = none ∧ H' p = some (.lst ws) ∧ Lat RowAt H' ws (rowsOf is i))
    ⟨p1, [.ref p0], none, none, none, none, rfl, k1, hp1', e1, L1⟩ (fun i σ H2 hi h2 => ?_) (fun σ H2 h2 => ?_)
  · obtain ⟨p, ws, x3, x4, x5, x6, rfl, k2, hp, e2, L2⟩ := h2
    walk_at "rd"
    refine ⟨Nat.zero_le _, fun l hl => ?_⟩
    walk_at "rd"
    have npl : p ≠ l := ne_of_none e2 hl
    refine ⟨p, ws, rfl, .inl (sqL (by rw [upd_ne npl]; exact e2)), fun r hr => ?_⟩
    have nlr : l ≠ r := fun z => by rw [← z, upd_same] at hr; cases hr
    have hr0 : H2 r = none := by rw [upd_ne (Ne.symm nlr)] at hr; exact hr
    have kk : Kp [] H2 (upd (upd H2 l (.lst [])) r (.lst ws)) := (Kp.new hl).trans (Kp.new hr)
    have el : (upd (upd H2 l (.lst [])) r (.lst ws)) l = some (.lst []) := by rw [upd_ne nlr, upd_same]
    have er : (upd (upd H2 l (.lst [])) r (.lst ws)) r = some (.lst ws) := upd_same
    have hlH : H l = none := by
      cases z : H l with
      | none => rfl
      | some o => rw [k2 _ _ (by simp) z] at hl; cases hl
    have L3 := L2.kp RowAt.keepT kk (by simp)
    have ea3 := (k2.trans kk) _ _ (by simp) ea
    have k3 := k2.trans kk
    have nal : a ≠ l := fun z => by rw [z, hlH] at ea; cases ea
    generalize (upd (upd H2 l (.lst [])) r (.lst ws)) = H3 at el er L3 ea3 k3 kk ⊢
    walk_at "rd"
    refine ⟨⟨ws, sqL er⟩, ?_⟩
    have lw : ws.length = (rowsOf is i).length := L2.len
    have lb := pw i (by omega)
    refine fr_list (xs := ws) (fun j σ H' => ∃ acc x5 x6 ts, σ = [some (.ref a), some (.int m), some (.ref p), some (.int (0 + (i : Int))), some (.ref l), x5, x6] ∧ Kp [l] H3 H' ∧ H' l = some (.lst acc) ∧ ts = ((rowsOf is i).take j).flatMap (fun r => is.map fun t => r ++ [t]) ∧ Lat RowAt H' acc ts ∧ acc.length ≤ 4 * j)
      ⟨[], x5, x6, [], rfl, Kp.refl _ _, el, rfl, Lat.nil, Nat.le_refl _⟩ (fun j σ H' hj h' => ?_) (fun j x σ H' hx h' => ?_) (fun σ H' h' => ?_)
    · obtain ⟨_, _, _, _, _, k4, _⟩ := h'
      exact sqL (k4.one (Ne.symm nlr) er)
    · obtain ⟨acc, y5, y6, ts, rfl, k4, e4, ets, L4, la⟩ := h'
      walk_at "rd"
      obtain ⟨rw', erw, ⟨b, rfl, eb⟩⟩ := L3.get hx
      have nbl : b ≠ l := fun z => by rw [z, el] at eb; cases eb
      have eb4 := k4.one nbl eb
      have ea4 := k4.one nal ea3
      refine ⟨⟨_, sqL ea4⟩, ?_⟩
      have hj : j < ws.length := (List.getElem?_eq_some_iff.mp hx).1
      refine fr_list (xs := is.map V.int) (fun u σ H5 => ∃ acc x6 ts2, σ = [some (.ref a), some (.int m), some (.ref p), some (.int (0 + (i : Int))), some (.ref l), some (.ref b), x6] ∧ Kp [l] H3 H5 ∧ H5 l = some (.lst acc) ∧ ts2 = ts ++ (is.take u).map (fun t => rw' ++ [t]) ∧ Lat RowAt H5 acc ts2 ∧ acc.length ≤ 4 * j + u)
        ⟨acc, y6, ts, rfl, k4, e4, by simp, L4, by omega⟩ (fun u σ H5 hu h5 => ?_) (fun u x σ H5 hx5 h5 => ?_) (fun σ H5 h5 => ?_)
      · obtain ⟨_, _, _, _, k5, _⟩ := h5
        exact sqL (k5.one nal ea3)
      · obtain ⟨acc, z6, ts2, rfl, k5, e5, et2, L5, la5⟩ := h5
        obtain ⟨t, rfl, et⟩ : ∃ t, x = .int t ∧ is[u]? = some t := by
          rw [List.getElem?_map] at hx5
          cases z : is[u]? with
          | none => rw [z] at hx5; cases hx5
          | some t => rw [z] at hx5; exact ⟨t, (Option.some.inj hx5).symm, rfl⟩
        have hu : u < is.length := (List.getElem?_eq_some_iff.mp et).1
        walk_at "rd"
        refine ⟨smallN (show 1 ≤ 1000000 by decide), fun c hc => ?_⟩
        have eb5 := k5.one nbl eb
        have nlc : l ≠ c := ne_of_none e5 hc
        have kc : Kp [] H5 (upd H5 c (.tup [.int t])) := Kp.new hc
        have tk : is.take (u + 1) = is.take u ++ [t] := by rw [List.take_add_one, et]; rfl
        have fin : ∀ (G : Hp) (d : Addr), Kp [] H5 G → G d = some (.tup ((rw' ++ [t]).map V.int)) → ∃ acc2 x6 ts2, [some (V.ref a), some (.int m), some (.ref p), some (.int (0 + (i : Int))), some (.ref l), some (.ref b), some (.int t)] = [some (.ref a), some (.int m), some (.ref p), some (.int (0 + (i : Int))), some (.ref l), some (.ref b), x6] ∧ Kp [l] H3 (upd G l (.lst (acc ++ [.ref d]))) ∧
            (upd G l (.lst (acc ++ [.ref d]))) l = some (.lst acc2) ∧ ts2 = ts ++ (is.take (u + 1)).map (fun t => rw' ++ [t]) ∧ Lat RowAt (upd G l (.lst (acc ++ [.ref d]))) acc2 ts2 ∧ acc2.length ≤ 4 * j + (u + 1) := fun G d kG ed => by
          have el6 := kG _ _ (by simp) e5
          have kG2 : Kp [l] H5 (upd G l (.lst (acc ++ [.ref d]))) := (kG.mono (by simp)).trans (Kp.put (by simp))
          have ndl : d ≠ l := fun z => by rw [z, el6] at ed; cases ed
          refine ⟨_, _, ts2 ++ [rw' ++ [t]], rfl, k5.trans kG2, upd_same, by rw [et2, tk, List.map_append, List.append_assoc]; rfl, (L5.kp RowAt.keepT kG2 (no_tup1 e5)).snoc ⟨d, rfl, by rw [upd_ne ndl]; exact ed⟩, by rw [List.length_append]; show acc.length + 1 ≤ _; omega⟩
        refine d_catA (kc _ _ (by simp) eb5) upd_same (by rw [List.length_map]; have := (mem_rows is i rw').mp (List.mem_of_getElem? erw); show rw'.length + 1 ≤ 1000000; omega) (fun hv => ?_) (fun _ z => nomatch z) (fun hv _ d hd => ?_)
        · walk_at "rd"
          refine d_app (kc _ _ (by simp) e5) (by omega) ?_
          have z : rw' = [] := List.map_eq_nil_iff.mp hv
          exact fin _ c kc (by rw [upd_same, z]; rfl)
        · walk_at "rd"
          have kd : Kp [] (upd H5 c (.tup [.int t])) (upd (upd H5 c (.tup [.int t])) d (.tup (rw'.map V.int ++ [.int t]))) := Kp.new hd
          refine d_app ((kc.trans kd) _ _ (by simp) e5) (by omega) ?_
          exact fin _ d (kc.trans kd) (by rw [upd_same, List.map_append]; rfl)
      · obtain ⟨acc, z6, ts2, rfl, k5, e5, et2, L5, la5⟩ := h5
        rw [List.length_map] at et2 la5
        rw [List.take_length] at et2
        refine ⟨acc, _, _, ts2, rfl, k5, e5, ?_, L5, by omega⟩
        rw [et2, ets, List.take_add_one, erw, List.flatMap_append]
        simp
    · obtain ⟨acc, y5, y6, ts, rfl, k4, e4, ets, L4, la⟩ := h'
      walk_at "rd"
      refine ⟨l, acc, rfl, .inl (sqL e4), fun r2 hr2 => ?_⟩
      walk_at "rd"
      have k5 : Kp [] H' (upd H' r2 (.lst acc)) := Kp.new hr2
      have kH : Kp [] H H' := ((k3.mono (by simp)).trans k4).less hlH
      have hr2H : H r2 = none := by
        cases z : H r2 with
        | none => rfl
        | some o => rw [kH _ _ (by simp) z] at hr2; cases hr2
      refine ⟨r2, acc, _, _, _, _, rfl, kH.trans k5, hr2H, upd_same, ?_⟩
      rw [lw, List.take_length] at ets
      have e : rowsOf is (i + 1) = ts := by rw [ets]; rfl
      rw [e]
      exact L4.kp RowAt.keepT k5 (by simp)
  · obtain ⟨p, ws, x3, x4, x5, x6, rfl, k2, hp, e2, L2⟩ := h2
    walk_at "rd"
    exact q H2 p ws k2 hp e2 L2

abbrev s_respects : Stmt := top 6
abbrev nResp : List Str := ["numbers", "bounds", "ranks", "k"]
theorem sc_respects : FnScope nResp ["numbers", "bounds", "ranks"] (defScope s_respects) := ⟨rfl, rfl, rfl, by decide +kernel, rfl, by decide +kernel, by decide +kernel⟩
theorem ok_respects {P : Program} {w : World} {K : PySem.W.Frag} {mg : Str → Option Value} {base : Heap} {k : Nat} (D : Df K mg "_law_respects" s_respects ["numbers", "bounds", "ranks"]) (mr : mg "range" = none) (ml : mg "len" = none) (mi : mg "int" = none) : Cl P w K mg base (k + 1) "_law_respects" ["numbers", "bounds", "ranks"] spRespects := by
  refine D.ok sc_respects (fun vs H Q E h => ?_) (fun f cdv A outer s H vs Q E hr h => ?_)
  · obtain ⟨x, y, l, ns, rs, bv, bs, rfl, _⟩ := h
    rfl
  obtain ⟨_, _, l, ns, rs, bv, bs, rfl, ⟨a, rfl, ea⟩, ⟨b, rfl, eb⟩, el, L, l4, ln, lr, hp, q⟩ := h
  refine ⟨_, pss_cons (ps_for PassesOwn.never rfl (pi_range1 (by rfl) mr (pa_cons (pe_callB c_len (by rfl) ml b_len (pa_cons (pv 1) pa_nil)) pa_nil)) (pg_name (i := 3) sc_respects.nd rfl (.inl rfl))
      (pss_one (ps_if (PW.pt (pw_and (pt_cmpR op_notN1 (pe_ix ix_list (pv 1) (pv 3) (fun _ _ => rfl)) pe_non (nomark _))
        (pw_and1 (pt_cmpR op_gt (pe_ix ix_tup (pv 0) (pv 3) (fun _ _ => rfl)) (pe_op op_sub (pe_ix ix_tup (pv 2) (pe_ix ix_tup (pe_ix ix_list (pv 1) (pv 3) (fun _ _ => rfl)) pe_int (fun _ _ => rfl)) (fun _ _ => rfl))
          (pe_callTy call_int1 (by rfl) mi b_int (pa_cons (pe_ix ix_tup (pe_ix ix_list (pv 1) (pv 3) (fun _ _ => rfl)) pe_int (fun _ _ => rfl)) pa_nil))) (nomark _)))))
        (pss_one (ps_ret pe_bl)) pss_nil)))
    (pss_one (ps_ret pe_bl)), ?_⟩
  rw [show L2.start nResp [.ref a, .ref l, .ref b] = [some (.ref a), some (.ref l), some (.ref b), none] from rfl]
  walk_at "rd"
  have lb : bv.length = bs.length := L.len
  refine ⟨by omega, by omega, ?_⟩
  rw [Int.toNat_natCast]
  refine fr_range (fun i σ H' => ∃ x3 u v, σ = [some (.ref a), some (.ref l), some (.ref b), x3] ∧ H' = H ∧ u = v ∧ v = 0 ∧ ∀ (j : Nat), j < i → ∀ (p : Int) (s : Bool), bs[j]? = some (some (p, s)) → ns.getD j 0 ≤ rs.getD p.toNat 0 - cut1 s)
    ⟨none, 0, 0, rfl, rfl, rfl, rfl, fun j h => absurd h (Nat.not_lt_zero _)⟩ (fun i σ H' hi h' => ?_) (fun σ H' h' => ?_)
  · obtain ⟨x3, _, _, rfl, rfl, _, _, hb⟩ := h'
    walk_at "rd"
    have hi2 : i < bs.length := by omega
    have hv : bv[i]? = some bv[i] := List.getElem?_eq_getElem hi
    have hbs : bs[i]? = some bs[i] := List.getElem?_eq_getElem hi2
    have at1 : atI bv (0 + (i : Int)) = some bv[i] := by rw [Int.zero_add]; exact atI_nat hv
    have rel := L.at' i _ _ hv hbs
    generalize bv[i] = v0 at hv at1 rel
    generalize bs[i] = b0 at hbs rel
    refine d_ixLc el at1 ?_
    walk_at "rd"
    refine d_notN ?_
    rcases rel with ⟨rfl, rfl⟩ | ⟨c, p, s, rfl, rfl, ec⟩
    · refine ⟨_, rfl, ?_⟩
      rw [show (!decide (V.non = V.non)) = false by simp, if_neg Bool.false_ne_true]
      walk_at "rd"
      refine ⟨_, 0, 0, rfl, rfl, rfl, rfl, fun j hj p s e => ?_⟩
      by_cases z : j = i
      · rw [z, hbs] at e; cases e
      · exact hb j (by omega) p s e
    · refine ⟨_, rfl, ?_⟩
      rw [show (!decide (V.ref c = V.non)) = true by simp, if_pos rfl]
      obtain ⟨p0, p4⟩ := hp i p s hbs
      have n1 : atI (ns.map V.int) (0 + (i : Int)) = some (.int (ns.getD i 0)) := by
        rw [Int.zero_add]
        refine atI_nat ?_
        rw [List.getElem?_map, List.getElem?_eq_getElem (show i < ns.length by omega), List.getD_eq_getElem?_getD, List.getElem?_eq_getElem (show i < ns.length by omega)]
        rfl
      have r1 : atI (rs.map V.int) p = some (.int (rs.getD p.toNat 0)) := by
        refine atI_of p0 ?_
        rw [List.getElem?_map, List.getElem?_eq_getElem (show p.toNat < rs.length by omega), List.getD_eq_getElem?_getD, List.getElem?_eq_getElem (show p.toNat < rs.length by omega)]
        rfl
      walk_at "rd"
      refine d_ixTc ea n1 ?_
      walk_at "rd"
      refine d_ixLc el at1 ?_
      walk_at "rd"
      refine d_ixTc eb r1 ?_
      walk_at "rd"
      refine d_ixLc el at1 ?_
      walk_at "rd"
      refine .inr ⟨s, rfl, ?_⟩
      walk_at "rd"
      have ec1 : (if s = true then (1 : Int) else 0) = cut1 s := rfl
      rw [ec1]
      refine ite_dc (fun c1 => ?_) (fun c1 => ?_)
      · walk_at "rd"
        refine q H' false (Kp.refl _ _) ⟨(fun z => nomatch z), fun z => ?_⟩
        have := z i p s hbs
        omega
      · walk_at "rd"
        refine ⟨_, 0, 0, rfl, rfl, rfl, rfl, fun j hj p' s' e => ?_⟩
        by_cases z : j = i
        · subst z
          rw [hbs] at e
          cases e
          omega
        · exact hb j (by omega) p' s' e
  · obtain ⟨x3, _, _, rfl, rfl, _, _, hb⟩ := h'
    walk_at "rd"
    refine q H' true (Kp.refl _ _) ⟨fun _ j p s e => ?_, fun _ => rfl⟩
    exact hb j (by rw [lb]; exact (List.getElem?_eq_some_iff.mp e).1) p s e

abbrev s_lower : Stmt := top 1
abbrev nLower : List Str := ["bounds", "position", "bound"]
theorem sc_lower : FnScope nLower ["bounds"] (defScope s_lower) := ⟨rfl, rfl, rfl, by decide +kernel, rfl, by decide +kernel, by decide +kernel⟩
theorem ok_lower {P : Program} {w : World} {K : PySem.W.Frag} {mg : Str → Option Value} {base : Heap} {k : Nat} (D : Df K mg "is_lower" s_lower ["bounds"]) (me : mg "enumerate" = none) : Cl P w K mg base (k + 1) "is_lower" ["bounds"] spLower := by
  refine D.ok sc_lower (fun vs H Q E h => ?_) (fun f cdv A outer s H vs Q E hr h => ?_)
  · obtain ⟨a, bv, bs, rfl, _⟩ := h
    rfl
  obtain ⟨a, bv, bs, rfl, ea, L, l4, q⟩ := h
  refine ⟨_, pss_cons (ps_for PassesOwn.never rfl (pi_enumT (by rfl) me (pa_cons (pv 0) pa_nil)) (pg_tup rfl (pgs_cons (pg_name (i := 1) sc_lower.nd rfl (.inl rfl)) (pgs_cons (pg_name (i := 2) sc_lower.nd rfl (.inl rfl)) pgs_nil)))
      (pss_cons (ps_if (pt_cmpR (op_eqD hr.u64) (pv 2) (pe_tup (pa_cons (pv 1) (pa_cons pe_bl pa_nil))) (nomark _)) (pss_one (ps_ret pe_bl)) pss_nil)
      (pss_one (ps_if (pt_cmpR (op_neD hr.u64) (pv 2) (pe_tup (pa_cons (pv 1) (pa_cons pe_bl pa_nil))) (nomark _)) (pss_one (ps_ret pe_bl)) pss_nil))))
    (pss_one (ps_ret pe_bl)), ?_⟩
  rw [show L2.start nLower [.ref a] = [some (.ref a), none, none] from rfl]
  have lb : bv.length = bs.length := L.len
  refine d_seq (d_for ?_)
  refine d_cons (d_var rfl (d_nil ⟨a, bv, rfl, sqT ea, ?_⟩))
  refine fr_enumT (xs := bv) (fun i σ H' => ∃ x1 x2 u, σ = [some (.ref a), x1, x2] ∧ Kp [] H H' ∧ u = 0 ∧ ∀ (j : Nat), j < i → bs[j]? = some (some ((j : Int), false)))
    ⟨none, none, 0, rfl, Kp.refl _ _, rfl, fun j h => absurd h (Nat.not_lt_zero _)⟩ (fun i σ H' hi h' => ?_) (fun i x σ H' p hx h' hp => ?_) (fun σ H' h' => ?_)
  · obtain ⟨x1, x2, _, rfl, k1, _⟩ := h'
    exact sqT (k1 _ _ (by simp) ea)
  · obtain ⟨x1, x2, _, rfl, k1, _, hb⟩ := h'
    refine d_gtup2 upd_same ?_
    have kp : Kp [] H' (upd H' p (.tup [.int (i : Nat), x])) := Kp.new hp
    have k2 := k1.trans kp
    generalize (upd H' p (.tup [.int (i : Nat), x])) = H2 at k2 kp ⊢
    have hi : i < bs.length := by rw [← lb]; exact (List.getElem?_eq_some_iff.mp hx).1
    have hbs : bs[i]? = some bs[i] := List.getElem?_eq_getElem hi
    have rel := BdAt.keepT (k2.keepT (by simp)) (L.at' i _ _ hx hbs)
    generalize bs[i] = b0 at hbs rel
    show tSeq _ _ _ [some (.ref a), some (.int (i : Nat)), some x] H2
    walk_at "rd"
    refine ⟨smallN (show 2 ≤ 1000000 by decide), fun r hr1 => ?_⟩
    have kr : Kp [] H2 (upd H2 r (.tup [.int (i : Nat), .bl true])) := Kp.new hr1
    refine d_eqBd (BdAt.keepT (kr.keepT (by simp)) rel) upd_same ?_
    refine ⟨_, rfl, ?_⟩
    refine ite_dc (fun c => ?_) (fun c => ?_)
    · walk_at "rd"
      refine q _ true (k2.trans kr) ⟨fun _ => ⟨i, by rw [hbs, c], hb⟩, fun _ => rfl⟩
    · walk_at "rd"
      have rel2 := BdAt.keepT (kr.keepT (by simp)) rel
      have k3 := k2.trans kr
      generalize (upd H2 r (.tup [.int (i : Nat), .bl true])) = H3 at rel2 k3 ⊢
      refine ⟨smallN (show 2 ≤ 1000000 by decide), fun r2 hr2 => ?_⟩
      have kr2 : Kp [] H3 (upd H3 r2 (.tup [.int (i : Nat), .bl false])) := Kp.new hr2
      refine d_neBd (BdAt.keepT (kr2.keepT (by simp)) rel2) upd_same ?_
      refine ⟨_, rfl, ?_⟩
      refine ite_ndc (fun c2 => ?_) (fun c2 => ?_)
      · walk_at "rd"
        refine q _ false (k3.trans kr2) ⟨(fun z => nomatch z), fun ⟨j, e1, e2⟩ => ?_⟩
        rcases Nat.lt_trichotomy j i with z | z | z
        · rw [hb j z] at e1; cases e1
        · rw [z, hbs] at e1; exact absurd (Option.some.inj e1) c
        · have := e2 i z; rw [hbs] at this; exact absurd (Option.some.inj this) c2
      · walk_at "rd"
        refine ⟨_, _, 0, rfl, k3.trans kr2, rfl, fun j hj => ?_⟩
        by_cases z : j = i
        · rw [z, hbs, c2]
        · exact hb j (by omega)
  · obtain ⟨x1, x2, _, rfl, k1, _, hb⟩ := h'
    walk_at "rd"
    refine q H' false k1 ⟨(fun z => nomatch z), fun ⟨j, e1, e2⟩ => ?_⟩
    have := hb j (by rw [lb]; exact (List.getElem?_eq_some_iff.mp e1).1)
    rw [this] at e1
    cases e1

abbrev s_law : Stmt := top 7
abbrev nLaw : List Str := ["script", "tape", "bounds", "k", "choice", "lower", "rows", "ranks", "numbers", "told"]
theorem sc_law : FnScope nLaw ["script"] (defScope s_law) := ⟨rfl, rfl, rfl, by decide +kernel, rfl, by decide +kernel, by decide +kernel⟩
theorem b_bool : bootBuiltins "bool" = some (.type "bool") := by decide +kernel
def spLaw (K : PySem.W.Frag) : Sp := fun vs H Q _ => ∃ (a : Addr) (ns : List Int), vs = [.ref a] ∧ SqL K H a (ns.map V.int) ∧ ns.length ≤ 63 ∧ ∀ H', Q (.bl true) H'
def BdOk (bs : List Bd) : Prop := ∀ (k : Nat) (p : Int) (s : Bool), bs[k]? = some (some (p, s)) → 0 ≤ p ∧ p < 4
theorem BdOk.snoc {bs : List Bd} {b : Bd} (h : BdOk bs) (hb : ∀ p s, b = some (p, s) → 0 ≤ p ∧ p < 4) : BdOk (bs ++ [b]) := fun k p s e => by
  by_cases c : k < bs.length
  · rw [List.getElem?_append_left c] at e
    exact h k p s e
  · rw [List.getElem?_append_right (by omega)] at e
    cases hd : k - bs.length with
    | zero => rw [hd] at e; exact hb p s (Option.some.inj e)
    | succ n => rw [hd] at e; cases e
theorem ok_law {P : Program} {w : World} {K : PySem.W.Frag} {mg : Str → Option Value} {base : Heap} {k : Nat} {f : Addr} {fd : FuncData} (F : Fun K "law" "law" s_law f fd)
    (cTape : Cl P w K mg base k "_law_tape" ["script"] (spTape K)) (cD : Cl P w K mg base k "_law_draw" ["tape", "many"] spDraw) (cC : Cl P w K mg base k "_law_choices" ["terms", "many"] spChoices)
    (cR : Cl P w K mg base k "_law_respects" ["numbers", "bounds", "ranks"] spRespects) (cL : Cl P w K mg base k "is_lower" ["bounds"] spLower)
    (ml : mg "len" = none) (mr : mg "range" = none) (mt : mg "tuple" = none) (ms : mg "isinstance" = none) (mb : mg "bool" = none) : FnG P w K mg base (k + 1) f fd ["script"] (spLaw K) := by
  refine Fun.okG F sc_law (fun vs H Q E h => ?_) (fun cdv A outer s H vs Q E hr h => ?_)
  · obtain ⟨a, ns, rfl, _⟩ := h
    rfl
  obtain ⟨a, ns, rfl, hS, hlen, q⟩ := h
  refine' ⟨_, pss_cons ?a1 (pss_cons ?a2 (pss_cons ?a3 (pss_cons ?a4 (pss_cons ?a5 (pss_cons ?a6 (pss_cons ?a7 (pss_one ?a8))))))), ?rst⟩
  case a1 => exact (ps_set (i := 1) sc_law.nd rfl (.inl rfl) (pe_cl cTape hr (Nat.le_refl _) (by rfl) (pa_cons (pv 0) pa_nil)))
  case a2 => exact (ps_set (i := 2) sc_law.nd rfl (.inl rfl) (pe_lst pa_nil))
  case a3 => 
    refine' (ps_for PassesOwn.never rfl (pi_range1 (by rfl) mr (pa_cons (pe_ix ix_list (pe_lst (pa_cons pe_int (pa_cons pe_int (pa_cons pe_int (pa_cons pe_int (pa_cons pe_int (pa_cons pe_int (pa_cons pe_int (pa_cons pe_int pa_nil)))))))))
        (pe_cl cD hr (Nat.le_refl _) (by rfl) (pa_cons (pv 1) (pa_cons pe_int pa_nil))) (fun _ _ => rfl)) pa_nil)) (pg_name (i := 3) sc_law.nd rfl (.inl rfl)) (pss_cons ?b1 (pss_one ?b2)))
    case b1 => exact (ps_set (i := 4) sc_law.nd rfl (.inl rfl) (pe_cl cD hr (Nat.le_refl _) (by rfl) (pa_cons (pv 1) (pa_cons pe_int pa_nil))))
    case b2 => 
      refine' (ps_if (pt_cmpR op_lt (pv 4) pe_int (nomark _)) (pss_one ?c1) (pss_one ?c2))
      case c1 => exact (ps_expr (pe_bm PySem.F.plainAttrs_list PySem.F.slot_list_append PySem.F.type_list_append mt_append (pv 2) (pa_cons (pe_tup (pa_cons (pv 3) (pa_cons (pe_cmpR op_eq (pv 4) pe_int (nomark _)) pa_nil))) pa_nil)))
      case c2 => 
        refine' (ps_if (pt_cmpR op_eq (pv 4) pe_int (nomark _)) (pss_one ?d1) (pss_one ?d2))
        case d1 => exact (ps_expr (pe_bm PySem.F.plainAttrs_list PySem.F.slot_list_append PySem.F.type_list_append mt_append (pv 2) (pa_cons (pe_tup (pa_cons (pe_cl cD hr (Nat.le_refl _) (by rfl) (pa_cons (pv 1) (pa_cons pe_int pa_nil)))
            (pa_cons (pe_cmpR op_eq (pe_cl cD hr (Nat.le_refl _) (by rfl) (pa_cons (pv 1) (pa_cons pe_int pa_nil))) pe_int (nomark _)) pa_nil))) pa_nil)))
        case d2 => exact (ps_expr (pe_bm PySem.F.plainAttrs_list PySem.F.slot_list_append PySem.F.type_list_append mt_append (pv 2) (pa_cons pe_non pa_nil)))
  case a4 => exact (ps_set (i := 5) sc_law.nd rfl (.inl rfl) pe_bl)
  case a5 => exact (ps_set (i := 6) sc_law.nd rfl (.inl rfl) (pe_cl cC hr (Nat.le_refl _) (by rfl) (pa_cons (pe_lst (pa_cons pe_int (pa_cons pe_int (pa_cons pe_int (pa_cons pe_int pa_nil))))) (pa_cons (pe_callB c_len (by rfl) ml b_len (pa_cons (pv 2) pa_nil)) pa_nil))))
  case a6 => exact (ps_for PassesOwn.never rfl (pi_list (pe_cl cC hr (Nat.le_refl _) (by rfl) (pa_cons (pe_lst (pa_cons pe_int (pa_cons pe_int pa_nil))) (pa_cons pe_int pa_nil)))) (pg_name (i := 7) sc_law.nd rfl (.inl rfl))
      (pss_one (ps_for PassesOwn.never rfl (pi_list (pv 6)) (pg_name (i := 8) sc_law.nd rfl (.inl rfl))
        (pss_one (ps_if (PW.pt (pw_and (pt_cmpR (op_geT hr.room.units0) (pv 8) (pe_slice sl_tupA (pv 7) po_none (po_some (pe_callB c_len (by rfl) ml b_len (pa_cons (pv 2) pa_nil)))) (nomark _))
            (pw_and1 (pt_val (pe_cl cR hr (Nat.le_refl _) (by rfl) (pa_cons (pv 8) (pa_cons (pv 2) (pa_cons (pv 7) pa_nil))))))))
          (pss_one (ps_set (i := 5) sc_law.nd rfl (.inl rfl) pe_bl)) pss_nil)))))
  case a7 => exact (ps_set (i := 9) sc_law.nd rfl (.inl rfl) (pe_cl cL hr (Nat.le_refl _) (by rfl) (pa_cons (pe_callTy c_tup (by rfl) mt b_tuple (pa_cons (pv 2) pa_nil)) pa_nil)))
  case a8 => exact (ps_ret (pe_and (pe_callB call_isi (by rfl) ms b_isinstance (pa_cons (pv 9) (pa_cons (pe_bltn (v := .ty "bool") (by rfl) mb b_bool rfl) pa_nil))) (pe_one (pe_cmpR op_eq (pv 9) (pv 5) (nomark _)))))
  rw [show L2.start nLaw [.ref a] = [some (.ref a), none, none, none, none, none, none, none, none, none] from rfl]
  walk_at "rd"
  refine ⟨a, ns, rfl, hS, fun H1 t sc k1 _ _ T1 => ?_⟩
  walk_at "rd"
  refine ⟨Nat.zero_le _, fun l hl => ?_⟩
  walk_at "rd"
  have kl : Kp [] H1 (upd H1 l (.lst [])) := Kp.new hl
  have nl : l ≠ t := fun z => T1.t_some hl z.symm
  have nsc : l ≠ sc := fun z => T1.s_some hl z.symm
  have Tl := T1.nil kl
  have el : (upd H1 l (.lst [])) l = some (.lst []) := upd_same
  generalize (upd H1 l (.lst [])) = H2 at kl Tl el ⊢
  refine ⟨smallN (show 8 ≤ 1000000 by decide), fun c hc => ?_⟩
  have kc : Kp [] H2 (upd H2 c (.lst [.int 0, .int 1, .int 2, .int 3, .int 1, .int 2, .int 3, .int 4])) := Kp.new hc
  have Tc := Tl.nil kc
  have ec : (upd H2 c (.lst [.int 0, .int 1, .int 2, .int 3, .int 1, .int 2, .int 3, .int 4])) c = some (.lst [.int 0, .int 1, .int 2, .int 3, .int 1, .int 2, .int 3, .int 4]) := upd_same
  have nc : c ≠ t := fun z => Tl.t_some hc z.symm
  have elc := kc _ _ (by simp) el
  generalize (upd H2 c (.lst [.int 0, .int 1, .int 2, .int 3, .int 1, .int 2, .int 3, .int 4])) = H3 at kc Tc ec elc ⊢
  walk_at "rd"
  refine ⟨t, sc, ns, 8, rfl, Tc, by decide, by decide, fun H4 n4 k4 T4 n40 n41 => ?_⟩
  have ec4 := kept_at k4 nc ec
  have el4 := kept_at k4 nl elc
  obtain ⟨m, hm, hm4⟩ : ∃ m : Nat, atI [V.int 0, V.int 1, V.int 2, V.int 3, V.int 1, V.int 2, V.int 3, V.int 4] n4 = some (.int (m : Int)) ∧ m ≤ 4 := by
    have : n4 = 0 ∨ n4 = 1 ∨ n4 = 2 ∨ n4 = 3 ∨ n4 = 4 ∨ n4 = 5 ∨ n4 = 6 ∨ n4 = 7 := by omega
    rcases this with e | e | e | e | e | e | e | e <;> rw [e]
    · exact ⟨0, rfl, by decide⟩
    · exact ⟨1, rfl, by decide⟩
    · exact ⟨2, rfl, by decide⟩
    · exact ⟨3, rfl, by decide⟩
    · exact ⟨1, rfl, by decide⟩
    · exact ⟨2, rfl, by decide⟩
    · exact ⟨3, rfl, by decide⟩
    · exact ⟨4, rfl, by decide⟩
  refine d_ixLc ec4 hm ?_
  walk_at "rd"
  refine ⟨by omega, by omega, ?_⟩
  rw [Int.toNat_natCast]
  refine fr_range (fun i σ H' => ∃ x3 x4 bv bs, σ = [some (.ref a), some (.ref t), some (.ref l), x3, x4, none, none, none, none, none] ∧ TapeAt H' t sc ns ∧ H' l = some (.lst bv) ∧ Lat BdAt H' bv bs ∧ bs.length = i ∧ BdOk bs)
    ⟨none, none, [], [], rfl, T4, el4, Lat.nil, rfl, fun k p s e => by simp at e⟩ (fun i σ H' hi h' => ?_) (fun σ H' h' => ?_)
  · obtain ⟨x3, x4, bv, bs, rfl, T, eb, L, lb, ok⟩ := h'
    have lv := L.len
    -- one more
    have more : ∀ (G : Hp) (v : V) (b : Bd), TapeAt G t sc ns → G l = some (.lst bv) → Lat BdAt G bv bs → BdAt G v b → (∀ p s, b = some (p, s) → 0 ≤ p ∧ p < 4) → ∀ ch : Int, ∃ x3 x4 bv2 bs2, [some (V.ref a), some (.ref t), some (.ref l), some (.int (0 + (i : Int))), some (.int ch), none, none, none, none, none] = [some (V.ref a), some (.ref t), some (.ref l), x3, x4, none, none, none, none, none] ∧
        TapeAt (upd G l (.lst (bv ++ [v]))) t sc ns ∧ (upd G l (.lst (bv ++ [v]))) l = some (.lst bv2) ∧ Lat BdAt (upd G l (.lst (bv ++ [v]))) bv2 bs2 ∧ bs2.length = i + 1 ∧ BdOk bs2 := fun G v b TG eG LG hb ho ch => by
      have kG : Kp [l] G (upd G l (.lst (bv ++ [v]))) := Kp.put (by simp)
      exact ⟨_, _, bv ++ [v], bs ++ [b], rfl, TG.keep kG (fun z => nl (List.mem_singleton.mp z).symm) (fun z => nsc (List.mem_singleton.mp z).symm), upd_same, (LG.kp BdAt.keepT kG (no_tup1 eG)).snoc (hb.keepT (kG.keepT (no_tup1 eG))), by rw [List.length_append, lb]; rfl, ok.snoc ho⟩
    walk_at "rd"
    refine ⟨t, sc, ns, 6, rfl, T, by decide, by decide, fun H5 ch k5 T5 c0 c1 => ?_⟩
    have eb5 := kept_at k5 nl eb
    have L5 := L.kp BdAt.keepT k5 (fun b hb ys => by rw [List.mem_singleton.mp hb]; exact T.not_tup ys)
    walk_at "rd"
    refine ite_dc (fun c1 => ?_) (fun c1 => ?_)
    · walk_at "rd"
      refine ⟨smallN (show 2 ≤ 1000000 by decide), fun r hr1 => ?_⟩
      have kr : Kp [] H5 (upd H5 r (.tup [.int (0 + (i : Int)), .bl (decide (V.int ch = V.int 0))])) := Kp.new hr1
      walk_at "rd"
      refine d_app (kr _ _ (by simp) eb5) (by omega) ?_
      exact more _ _ (some (0 + (i : Int), decide (V.int ch = V.int 0))) (T5.nil kr) (kr _ _ (by simp) eb5) (L5.kp BdAt.keepT kr (by simp)) (.inr ⟨r, _, _, rfl, rfl, upd_same⟩) (fun p s e => by cases e; omega) ch
    · walk_at "rd"
      refine ite_dc (fun c2 => ?_) (fun c2 => ?_)
      · walk_at "rd"
        refine ⟨t, sc, ns, 4, rfl, T5, by decide, by decide, fun H6 p k6 T6 p0 p1 => ?_⟩
        have eb6 := kept_at k6 nl eb5
        have L6 := L5.kp BdAt.keepT k6 (fun b hb ys => by rw [List.mem_singleton.mp hb]; exact T5.not_tup ys)
        walk_at "rd"
        refine ⟨t, sc, ns, 2, rfl, T6, by decide, by decide, fun H7 s k7 T7 s0 s1 => ?_⟩
        have eb7 := kept_at k7 nl eb6
        have L7 := L6.kp BdAt.keepT k7 (fun b hb ys => by rw [List.mem_singleton.mp hb]; exact T6.not_tup ys)
        walk_at "rd"
        refine ⟨smallN (show 2 ≤ 1000000 by decide), fun r hr1 => ?_⟩
        have kr : Kp [] H7 (upd H7 r (.tup [.int p, .bl (decide (V.int s = V.int 0))])) := Kp.new hr1
        walk_at "rd"
        refine d_app (kr _ _ (by simp) eb7) (by omega) ?_
        exact more _ _ (some (p, decide (V.int s = V.int 0))) (T7.nil kr) (kr _ _ (by simp) eb7) (L7.kp BdAt.keepT kr (by simp)) (.inr ⟨r, _, _, rfl, rfl, upd_same⟩) (fun p' s' e => by cases e; exact ⟨p0, p1⟩) ch
      · walk_at "rd"
        refine d_app eb5 (by omega) ?_
        exact more _ _ none T5 eb5 L5 (.inl ⟨rfl, rfl⟩) (fun p s e => nomatch e) ch
  · obtain ⟨x3, x4, bv, bs, rfl, T, eb, L, lb, ok⟩ := h'
    have lv := L.len
    walk_at "rd"
    refine ⟨smallN (show 4 ≤ 1000000 by decide), fun c4 hc4 => ?_⟩
    have k5 : Kp [] H' (upd H' c4 (.lst [.int 0, .int 1, .int 2, .int 3])) := Kp.new hc4
    have e4 : (upd H' c4 (.lst [.int 0, .int 1, .int 2, .int 3])) c4 = some (.lst [.int 0, .int 1, .int 2, .int 3]) := upd_same
    have eb5 := k5 _ _ (by simp) eb
    have L5 := L.kp BdAt.keepT k5 (by simp)
    generalize (upd H' c4 (.lst [.int 0, .int 1, .int 2, .int 3])) = H5 at k5 e4 eb5 L5 ⊢
    walk_at "rd"
    refine ⟨c4, [0, 1, 2, 3], bv.length, rfl, e4, by decide, by omega, fun H6 rw6 ws k6 _ e6 Lw => ?_⟩
    have eb6 := k6 _ _ (by simp) eb5
    have L6 := L5.kp BdAt.keepT k6 (by simp)
    walk_at "rd"
    refine ⟨smallN (show 2 ≤ 1000000 by decide), fun c2 hc2 => ?_⟩
    have k7 : Kp [] H6 (upd H6 c2 (.lst [.int 1, .int 3])) := Kp.new hc2
    have e2 : (upd H6 c2 (.lst [.int 1, .int 3])) c2 = some (.lst [.int 1, .int 3]) := upd_same
    have eb7 := k7 _ _ (by simp) eb6
    have L7 := L6.kp BdAt.keepT k7 (by simp)
    have e67 := k7 _ _ (by simp) e6
    have Lw7 := Lw.kp RowAt.keepT k7 (by simp)
    generalize (upd H6 c2 (.lst [.int 1, .int 3])) = H7 at k7 e2 eb7 L7 e67 Lw7 ⊢
    walk_at "rd"
    refine ⟨c2, [1, 3], 4, rfl, e2, by decide, by decide, fun H8 rk vs k8 _ e8 Lv => ?_⟩
    have eb8 := k8 _ _ (by simp) eb7
    have L8 := L7.kp BdAt.keepT k8 (by simp)
    have e68 := k8 _ _ (by simp) e67
    have Lw8 := Lw7.kp RowAt.keepT k8 (by simp)
    walk_at "rd"
    refine ⟨⟨vs, sqL e8⟩, ?_⟩
    rw [lv] at Lw8
    refine fr_list (xs := vs) (fun i σ H' => ∃ x7 x8 b, σ = [some (.ref a), some (.ref t), some (.ref l), x3, x4, some (.bl b), some (.ref rw6), x7, x8, none] ∧ Kp [] H8 H' ∧ (b = true ↔ ¬ ∃ rs ∈ (rowsOf [1, 3] 4).take i, ∃ ns ∈ rowsOf [0, 1, 2, 3] bs.length, Wit bs rs ns))
      ⟨none, none, true, rfl, Kp.refl _ _, ⟨fun _ ⟨rs, h, _⟩ => (by rw [List.take_zero] at h; cases h), fun _ => rfl⟩⟩ (fun i σ H' hi h' => ?_) (fun i v σ H9 hv h' => ?_) (fun σ H9 h' => ?_)
    · obtain ⟨_, _, _, _, k9, _⟩ := h'
      exact sqL (k9 _ _ (by simp) e8)
    · obtain ⟨x7, x8, b, rfl, k9, hb⟩ := h'
      obtain ⟨rs, ers, ⟨ra, rfl, era⟩⟩ := Lv.get hv
      obtain ⟨lrs, _⟩ := (mem_rows _ _ _).mp (List.mem_of_getElem? ers)
      have ers2 : (rowsOf [1, 3] 4).take (i + 1) = (rowsOf [1, 3] 4).take i ++ [rs] := by rw [List.take_add_one, ers]; rfl
      walk_at "rd"
      refine ⟨⟨ws, sqL (k9 _ _ (by simp) e68)⟩, ?_⟩
      refine fr_list (xs := ws) (fun j σ H' => ∃ x8 b, σ = [some (.ref a), some (.ref t), some (.ref l), x3, x4, some (.bl b), some (.ref rw6), some (.ref ra), x8, none] ∧ Kp [] H8 H' ∧
          (b = true ↔ (¬ ∃ rs ∈ (rowsOf [1, 3] 4).take i, ∃ ns ∈ rowsOf [0, 1, 2, 3] bs.length, Wit bs rs ns) ∧ ¬ ∃ ns ∈ (rowsOf [0, 1, 2, 3] bs.length).take j, Wit bs rs ns))
        ⟨x8, b, rfl, k9, by rw [hb, List.take_zero]; exact ⟨fun h => ⟨h, fun ⟨_, h2, _⟩ => (by cases h2)⟩, fun h => h.1⟩⟩ (fun j σ H' hj h' => ?_) (fun j v σ H10 hv10 h' => ?_) (fun σ H10 h' => ?_)
      · obtain ⟨_, _, _, k10, _⟩ := h'
        exact sqL (k10 _ _ (by simp) e68)
      · obtain ⟨x8', b', rfl, k10, hb'⟩ := h'
        obtain ⟨qs, eqs, ⟨qa, rfl, eqa⟩⟩ := Lw8.get hv10
        obtain ⟨lqs, _⟩ := (mem_rows _ _ _).mp (List.mem_of_getElem? eqs)
        have eqs2 : (rowsOf [0, 1, 2, 3] bs.length).take (j + 1) = (rowsOf [0, 1, 2, 3] bs.length).take j ++ [qs] := by rw [List.take_add_one, eqs]; rfl
        have eqa10 := k10 _ _ (by simp) eqa
        have era10 := k10 _ _ (by simp) era
        have eb10 := k10 _ _ (by simp) eb8
        have L10 := L8.kp BdAt.keepT k10 (by simp)
        -- the two ends of a turn
        have yes : Wit bs rs qs → (false = true ↔ (¬ ∃ rs ∈ (rowsOf [1, 3] 4).take i, ∃ ns ∈ rowsOf [0, 1, 2, 3] bs.length, Wit bs rs ns) ∧ ¬ ∃ ns ∈ (rowsOf [0, 1, 2, 3] bs.length).take (j + 1), Wit bs rs ns) := fun h => ⟨fun z => (by cases z), fun z => absurd ⟨qs, by rw [eqs2]; simp, h⟩ z.2⟩
        have no : ¬ Wit bs rs qs → (b' = true ↔ (¬ ∃ rs ∈ (rowsOf [1, 3] 4).take i, ∃ ns ∈ rowsOf [0, 1, 2, 3] bs.length, Wit bs rs ns) ∧ ¬ ∃ ns ∈ (rowsOf [0, 1, 2, 3] bs.length).take (j + 1), Wit bs rs ns) := fun h => by
          rw [hb']
          refine ⟨fun z => ⟨z.1, fun ⟨u, hu, w⟩ => ?_⟩, fun z => ⟨z.1, fun ⟨u, hu, w⟩ => z.2 ⟨u, by rw [eqs2]; exact List.mem_append_left _ hu, w⟩⟩⟩
          rw [eqs2] at hu
          rcases List.mem_append.mp hu with hu | hu
          · exact z.2 ⟨u, hu, w⟩
          · rw [List.mem_singleton.mp hu] at w; exact h w
        walk_at "rd"
        refine d_slK era10 (by rw [List.length_map, lrs, lv]; omega) (fun sa G kG esa => ?_)
        rw [← List.map_take, lv] at esa
        refine d_geT (kG _ _ (by simp) eqa10) esa ?_
        refine ⟨_, rfl, ?_⟩
        refine ite_bl (fun c => ?_) (fun c => ?_)
        · walk_at "rd"
          refine ⟨.ref qa, .ref ra, l, qs, rs, bv, bs, rfl, ⟨qa, rfl, kG _ _ (by simp) eqa10⟩, ⟨ra, rfl, kG _ _ (by simp) era10⟩, kG _ _ (by simp) eb10, L10.kp BdAt.keepT kG (by simp), by omega, lqs, lrs, ok, fun H12 b3 k12 hb3 => ?_⟩
          refine ⟨_, rfl, ?_⟩
          refine ite_bl (fun c3 => ?_) (fun c3 => ?_)
          · walk_at "rd"
            exact ⟨(k10.trans kG).trans k12, yes ⟨c, hb3.mp c3⟩⟩
          · walk_at "rd"
            exact ⟨(k10.trans kG).trans k12, no fun w => by rw [hb3.mpr w.2] at c3; cases c3⟩
        · rw [if_neg Bool.false_ne_true]
          walk_at "rd"
          exact ⟨k10.trans kG, no fun w => by rw [w.1] at c; cases c⟩
      · obtain ⟨x8', b', rfl, k10, hb'⟩ := h'
        have lws : ws.length = (rowsOf [0, 1, 2, 3] bs.length).length := Lw8.len
        rw [lws, List.take_length] at hb'
        refine ⟨_, _, b', rfl, k10, ?_⟩
        rw [hb', ers2]
        refine ⟨fun z ⟨u, hu, w⟩ => ?_, fun z => ⟨fun ⟨u, hu, w⟩ => z ⟨u, List.mem_append_left _ hu, w⟩, fun w => z ⟨rs, by simp, w⟩⟩⟩
        rcases List.mem_append.mp hu with hu | hu
        · exact z.1 ⟨u, hu, w⟩
        · rw [List.mem_singleton.mp hu] at w; exact z.2 w
    · obtain ⟨x7, x8, b, rfl, k9, hb⟩ := h'
      have lvs : vs.length = (rowsOf [1, 3] 4).length := Lv.len
      rw [lvs, List.take_length, ← low_iff ok (by omega)] at hb
      have eb9 := k9 _ _ (by simp) eb8
      have L9 := L8.kp BdAt.keepT k9 (by simp)
      walk_at "rd"
      intro tp htp
      have kt : Kp [] H9 (upd H9 tp (.tup bv)) := Kp.new htp
      walk_at "rd"
      refine ⟨tp, bv, bs, rfl, upd_same, L9.kp BdAt.keepT kt (by simp), by omega, fun H11 b2 k11 hb2 => ?_⟩
      have e : b2 = b := by rw [Bool.eq_iff_iff, hb2, hb]
      subst e
      walk_at "rd"
      refine d_isBB ?_
      walk_at "rd"
      rw [if_pos rfl]
      walk_at "rd"
      rw [decide_eq_true rfl]
      exact q _

theorem all_mk {l : PySem.W.OpenLaw} {w : World} {K : PySem.W.Frag} {h : Heap} {mg : Str → Option Value} {fa : Addr} (X : K.In h) (G : h.Ns PySem.mainGlobals mg) (hfa : mg "law" = some (.ref fa))
    {f0 : Addr} {od0 an0 : Option Addr} {sl0 : Array (Option Value)} {oc0 kV0 dc0 pm0 cd0 ct0 : Value}
    (a0 : PySem.W.nsIn K PySem.mainGlobals "_law_tape" = some (some (.ref f0)))
    (l0 : K.lookup f0 = some ⟨oc0, od0, .func (PySem.W.fnOf "_law_tape" "_law_tape" (defArgs s_tape) (defBody s_tape) (defScope s_tape) .none kV0 dc0 pm0 an0 cd0 ct0), sl0⟩)
    (c0 : PySem.W.codeIn K cd0 "_law_tape" = true) (k0 : PySem.W.keepIn K (.ref f0) = true)
    {f1 : Addr} {od1 an1 : Option Addr} {sl1 : Array (Option Value)} {oc1 kV1 dc1 pm1 cd1 ct1 : Value}
    (a1 : PySem.W.nsIn K PySem.mainGlobals "_law_draw" = some (some (.ref f1)))
    (l1 : K.lookup f1 = some ⟨oc1, od1, .func (PySem.W.fnOf "_law_draw" "_law_draw" (defArgs s_draw) (defBody s_draw) (defScope s_draw) .none kV1 dc1 pm1 an1 cd1 ct1), sl1⟩)
    (c1 : PySem.W.codeIn K cd1 "_law_draw" = true) (k1 : PySem.W.keepIn K (.ref f1) = true)
    {f2 : Addr} {od2 an2 : Option Addr} {sl2 : Array (Option Value)} {oc2 kV2 dc2 pm2 cd2 ct2 : Value}
    (a2 : PySem.W.nsIn K PySem.mainGlobals "_law_choices" = some (some (.ref f2)))
    (l2 : K.lookup f2 = some ⟨oc2, od2, .func (PySem.W.fnOf "_law_choices" "_law_choices" (defArgs s_choices) (defBody s_choices) (defScope s_choices) .none kV2 dc2 pm2 an2 cd2 ct2), sl2⟩)
    (c2 : PySem.W.codeIn K cd2 "_law_choices" = true) (k2 : PySem.W.keepIn K (.ref f2) = true)
    {f3 : Addr} {od3 an3 : Option Addr} {sl3 : Array (Option Value)} {oc3 kV3 dc3 pm3 cd3 ct3 : Value}
    (a3 : PySem.W.nsIn K PySem.mainGlobals "_law_respects" = some (some (.ref f3)))
    (l3 : K.lookup f3 = some ⟨oc3, od3, .func (PySem.W.fnOf "_law_respects" "_law_respects" (defArgs s_respects) (defBody s_respects) (defScope s_respects) .none kV3 dc3 pm3 an3 cd3 ct3), sl3⟩)
    (c3 : PySem.W.codeIn K cd3 "_law_respects" = true) (k3 : PySem.W.keepIn K (.ref f3) = true)
    {f4 : Addr} {od4 an4 : Option Addr} {sl4 : Array (Option Value)} {oc4 kV4 dc4 pm4 cd4 ct4 : Value}
    (a4 : PySem.W.nsIn K PySem.mainGlobals "is_lower" = some (some (.ref f4)))
    (l4 : K.lookup f4 = some ⟨oc4, od4, .func (PySem.W.fnOf "is_lower" "is_lower" (defArgs s_lower) (defBody s_lower) (defScope s_lower) .none kV4 dc4 pm4 an4 cd4 ct4), sl4⟩)
    (c4 : PySem.W.codeIn K cd4 "is_lower" = true) (k4 : PySem.W.keepIn K (.ref f4) = true)
    {f5 : Addr} {od5 an5 : Option Addr} {sl5 : Array (Option Value)} {oc5 kV5 dc5 pm5 cd5 ct5 : Value}
    (a5 : PySem.W.nsIn K PySem.mainGlobals "law" = some (some (.ref f5)))
    (l5 : K.lookup f5 = some ⟨oc5, od5, .func (PySem.W.fnOf "law" "law" (defArgs s_law) (defBody s_law) (defScope s_law) .none kV5 dc5 pm5 an5 cd5 ct5), sl5⟩)
    (c5 : PySem.W.codeIn K cd5 "law" = true) (k5 : PySem.W.keepIn K (.ref f5) = true)
    (y_int : PySem.W.nsIn K PySem.mainGlobals "int" = some none)
    (y_abs : PySem.W.nsIn K PySem.mainGlobals "abs" = some none)
    (y_list : PySem.W.nsIn K PySem.mainGlobals "list" = some none)
    (y_len : PySem.W.nsIn K PySem.mainGlobals "len" = some none)
    (y_max : PySem.W.nsIn K PySem.mainGlobals "max" = some none)
    (y_range : PySem.W.nsIn K PySem.mainGlobals "range" = some none)
    (y_tuple : PySem.W.nsIn K PySem.mainGlobals "tuple" = some none)
    (y_isinstance : PySem.W.nsIn K PySem.mainGlobals "isinstance" = some none)
    (y_enumerate : PySem.W.nsIn K PySem.mainGlobals "enumerate" = some none)
    (y_bool : PySem.W.nsIn K PySem.mainGlobals "bool" = some none)
    : ∃ fd : FuncData, (∀ (s : Shared) (v : Value), BindsTo s fd ⟨[v], []⟩ [("script", v)]) ∧ ∀ base : Heap, K.In base → base.Ns PySem.mainGlobals mg → FnG l.prog w K mg base 91 fa fd ["script"] (spLaw K) := by
  have e := hfa.symm.trans (PySem.W.mg_of X G a5)
  cases e
  have D_law_tape : Df K mg "_law_tape" s_tape ["script"] := df_mk X G a0 l0 c0 k0 fun _ _ _ _ _ _ us hl => match us, hl with | [_], _ => rfl
  have D_law_draw : Df K mg "_law_draw" s_draw ["tape", "many"] := df_mk X G a1 l1 c1 k1 fun _ _ _ _ _ _ us hl => match us, hl with | [_, _], _ => rfl
  have D_law_choices : Df K mg "_law_choices" s_choices ["terms", "many"] := df_mk X G a2 l2 c2 k2 fun _ _ _ _ _ _ us hl => match us, hl with | [_, _], _ => rfl
  have D_law_respects : Df K mg "_law_respects" s_respects ["numbers", "bounds", "ranks"] := df_mk X G a3 l3 c3 k3 fun _ _ _ _ _ _ us hl => match us, hl with | [_, _, _], _ => rfl
  have Dis_lower : Df K mg "is_lower" s_lower ["bounds"] := df_mk X G a4 l4 c4 k4 fun _ _ _ _ _ _ us hl => match us, hl with | [_], _ => rfl
  have Flaw := fun_mk (st := s_law) l5 c5 k5
  have z_int := PySem.W.mg_none_of X G y_int
  have z_abs := PySem.W.mg_none_of X G y_abs
  have z_list := PySem.W.mg_none_of X G y_list
  have z_len := PySem.W.mg_none_of X G y_len
  have z_max := PySem.W.mg_none_of X G y_max
  have z_range := PySem.W.mg_none_of X G y_range
  have z_tuple := PySem.W.mg_none_of X G y_tuple
  have z_isinstance := PySem.W.mg_none_of X G y_isinstance
  have z_enumerate := PySem.W.mg_none_of X G y_enumerate
  have z_bool := PySem.W.mg_none_of X G y_bool
  refine ⟨PySem.W.fnOf "law" "law" (defArgs s_law) (defBody s_law) (defScope s_law) .none kV5 dc5 pm5 an5 cd5 ct5, fun s v => .of_eq rfl, fun base _ _ => ?_⟩
  have cD := ok_draw (P := l.prog) (w := w) (base := base) (k := 0) D_law_draw z_int z_abs z_len z_max
  have cTp := ok_tape (P := l.prog) (w := w) (base := base) (k := 0) D_law_tape z_int z_abs z_list
  have cC := ok_choices (P := l.prog) (w := w) (base := base) (k := 0) D_law_choices z_range z_list
  have cR := ok_respects (P := l.prog) (w := w) (base := base) (k := 0) D_law_respects z_range z_len z_int
  have cL := ok_lower (P := l.prog) (w := w) (base := base) (k := 0) Dis_lower z_enumerate
  exact ok_law (k := 90) Flaw (cTp.mono (by decide)) (cD.mono (by decide)) (cC.mono (by decide)) (cR.mono (by decide)) (cL.mono (by decide)) z_len z_range z_tuple z_isinstance z_bool
end Lw
open PySem PySem.W PyProof.Rows
set_option maxHeartbeats 0 in
theorem PySem.Challenge.cw_openrules_k47_lower_bounds_holds : PySem.Challenge.rw_openrules_k47_lower_bounds.Holds := by
  w_on; o_law; k_head; (case hw => w_witness2)
  k_fill
  refine Lw.walk_ofG (l := PySem.Challenge.rw_openrules_k47_lower_bounds) (n := 63) (k := 91) (x := "script") (sp := fun w => Lw.spLaw _) rfl (by decide) rfl ⟨⟨rfl, by decide, by decide⟩, rfl⟩ (fun w h Y => PySem.W.kIn_of Y) ?F (fun _ _ a ns hl _ hS => ⟨a, ns, rfl, hS, hl, fun _ => rfl⟩)
  case F =>
    intro w mg fa h KX G hmg
    refine' Lw.all_mk KX G hmg ?a0 ?l0 ?c0 ?k0 ?a1 ?l1 ?c1 ?k1 ?a2 ?l2 ?c2 ?k2 ?a3 ?l3 ?c3 ?k3 ?a4 ?l4 ?c4 ?k4 ?a5 ?l5 ?c5 ?k5 ?y_int ?y_abs ?y_list ?y_len ?y_max ?y_range ?y_tuple ?y_isinstance ?y_enumerate ?y_bool
    (case a0 => k_is)
    (case l0 => k_is)
    (case c0 => k_is)
    (case k0 => k_is)
    (case a1 => k_is)
    (case l1 => k_is)
    (case c1 => k_is)
    (case k1 => k_is)
    (case a2 => k_is)
    (case l2 => k_is)
    (case c2 => k_is)
    (case k2 => k_is)
    (case a3 => k_is)
    (case l3 => k_is)
    (case c3 => k_is)
    (case k3 => k_is)
    (case a4 => k_is)
    (case l4 => k_is)
    (case c4 => k_is)
    (case k4 => k_is)
    (case a5 => k_is)
    (case l5 => k_is)
    (case c5 => k_is)
    (case k5 => k_is)
    (case y_int => k_is)
    (case y_abs => k_is)
    (case y_list => k_is)
    (case y_len => k_is)
    (case y_max => k_is)
    (case y_range => k_is)
    (case y_tuple => k_is)
    (case y_isinstance => k_is)
    (case y_enumerate => k_is)
    (case y_bool => k_is)
