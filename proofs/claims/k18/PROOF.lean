import PyProof.Rows.All
import Wide.All
import OpenK.AllK
import Wide.FinOn
import PyProof.Rows.SortShell
import HandS.ForMost
import HandS.IsInst
import HandS.SortKw
import HandS.RaiseMore
import HandS.Codes
import PySem.Challenge.RW_openrules_k18_height_and_number_of_rules
set_option Elab.async false
set_option linter.all false
set_option maxRecDepth 100000
set_option maxHeartbeats 4000000
set_option maxRecDepth 100000
set_option maxHeartbeats 4000000
/-! machine rules of our own: list.extend of a tuple, a tuple's slice [:0:-1], max(xs, default=d) -/
namespace Lw
open PySem PySem.Spec PyProof.Rows L2

/-! ### list.extend(tuple) -/
section
variable {X : Cx}
def rExtT (K : PySem.W.Frag) : V → List V → Hp → VK → Prop := fun x vs H Q => ∃ l b xs zs, x = .ref l ∧ vs = [.ref b] ∧ H l = some (.lst xs) ∧ SqT K H b zs ∧ xs.length + zs.length ≤ 1000000 ∧ Q .non (upd H l (.lst (xs ++ zs)))
theorem le_line {n : Nat} (h : n ≤ 1000000) : n ≤ sizeLine := by rw [sizeLine_eq]; omega
theorem mt_extT : MtM X "list.extend" (rExtT X.K) := by
  intro pins s σ H x vs v us Q I rx rv h
  obtain ⟨l, b, xs, zs, rfl, rfl, hH, hB, hz, q⟩ := h
  cases rx
  obtain ⟨u, rfl, ru⟩ := rv.one
  cases ru
  obtain ⟨z1, itA, nA, rA, lenA, eA⟩ := I.lstM hH
  obtain ⟨itB, rB, pB, _⟩ := I.tuple hB
  have lenB := rB.length
  have lA := rA.length
  have hzz : itA.toArray.size + itB.toArray.size ≤ sizeLine := by rw [List.size_toArray, List.size_toArray, ← lA, ← lenB]; exact le_line hz
  have hlong : ¬ (!itA.toArray.isEmpty && Builtin.List.listTooLong (itA.toArray.size + itB.toArray.size)) = true := by
    rw [notLongL hzz, Bool.and_false]
    exact Bool.false_ne_true
  obtain ⟨oB, gB, cB, nB, dB⟩ := id pB
  refine wpAny_call_entry F.slot_list_extend ⟨_, eA, rfl⟩ F.entry_list_extend ?_ (F.args_list_extend_2 _ _)
  show wpAny (model X.prog X.w) X.A.in1 (Builtin.List.listExtendWith (.ref l) (.ref b) .none) _ _ s
  unfold Builtin.List.listExtendWith
  refine wpAny_bind (wpAny_typeOf pB.typeIs ?_)
  have ht : (Builtin.List.listSameRef (.ref l) (.ref b) || (Value.type "tuple" == Value.type "list") || (Value.type "tuple" == Value.type "tuple")) = true := by
    rw [show (Value.type "tuple" == Value.type "tuple") = true by decide, Bool.or_true]
  rw [if_pos ht]
  refine wpAny_bind (listItems_at gB dB (wpAny_bind (listItems_at eA rfl ?_)))
  rw [if_neg hlong]
  refine wpAny_bind (listUpdate_at eA rfl ?_ (by omega) (by show (itA.toArray ++ itB.toArray).size ≤ _; rw [Array.size_append]; omega))
  refine wpAny_pure ⟨_, rfl, .non, _, I.lset (its' := itA ++ itB) hH eA (by simp) (rA.append rB) ?_, rfl, q⟩
  rw [List.length_append]
  exact le_line hz
end
end Lw

set_option maxRecDepth 100000
set_option maxHeartbeats 4000000
/-! a tuple's slice [:0:-1] -/
namespace Lw
open PySem PySem.Spec PyProof.Rows L2

theorem adj_down (n : Nat) (h : 0 < n) : Builtin.Slice.sliceAdjust none (some 0) (-1) (n : Int) = ((n : Int) - 1, 0) := by
  unfold Builtin.Slice.sliceAdjust
  have h1 : ((-1 : Int) < 0) := by decide
  simp only [h1, if_true]
  refine Prod.ext rfl ?_
  simp only [Int.lt_irrefl, if_false]
  omega
theorem plc_down (n : Nat) (h : 0 < n) : Builtin.Slice.slicePlaces ((n : Int) - 1) 0 (-1) = n - 1 := by
  unfold Builtin.Slice.slicePlaces
  have h1 : ¬ ((-1 : Int) > 0) := by decide
  simp only [h1, if_false]
  rw [show (- -1 : Int) = 1 by decide, Int.ediv_one]
  split <;> omega
theorem filterMap_some {α β : Type} (f : α → Option β) (g : α → β) : ∀ l : List α, (∀ a ∈ l, f a = some (g a)) → l.filterMap f = l.map g
  | [], _ => rfl
  | a :: l, h => by
    rw [List.filterMap_cons_some (h a List.mem_cons_self), filterMap_some f g l fun b hb => h b (List.mem_cons_of_mem _ hb)]
    rfl
theorem pick_down (y : Value) (xs : List Value) : (List.range ((y :: xs).toArray.size - 1)).filterMap (fun (k : Nat) => (y :: xs).toArray[((((y :: xs).toArray.size : Nat) : Int) - 1 + (k : Int) * (-1)).toNat]?) = xs.reverse := by
  have hs : (y :: xs).toArray.size = xs.length + 1 := by rw [List.size_toArray, List.length_cons]
  rw [hs, Nat.add_sub_cancel]
  have e : (fun (k : Nat) => (y :: xs).toArray[(((xs.length + 1 : Nat) : Int) - 1 + (k : Int) * (-1)).toNat]?) = fun (k : Nat) => (y :: xs)[((xs.length : Int) - (k : Int)).toNat]? := by
    funext k
    rw [List.getElem?_toArray]
    congr 1
    omega
  rw [e]
  rw [filterMap_some _ (fun k => (y :: xs).getD (xs.length - k) y) (List.range xs.length) (fun k hk => by
    have hk' := List.mem_range.mp hk
    have ek : ((xs.length : Int) - (k : Int)).toNat = xs.length - k := by omega
    rw [ek, List.getD_eq_getElem?_getD]
    rw [List.getElem?_eq_getElem (show xs.length - k < (y :: xs).length by rw [List.length_cons]; omega)]
    rfl)]
  apply List.ext_getElem
  · rw [List.length_map, List.length_range, List.length_reverse]
  · intro i h1 h2
    rw [List.length_map, List.length_range] at h1
    rw [List.getElem_map, List.getElem_range, List.getElem_reverse, List.getD_eq_getElem?_getD]
    rw [List.getElem?_eq_getElem (show xs.length - i < (y :: xs).length by rw [List.length_cons]; omega), Option.getD_some]
    have e2 : xs.length - i = (xs.length - 1 - i) + 1 := by omega
    simp only [e2, List.getElem_cons_succ]
theorem vals_rev : ∀ {xs : List V} {us : List Value}, Vals xs us → Vals xs.reverse us.reverse
  | _, _, .nil => .nil
  | _, _, .cons r t => by
    rw [List.reverse_cons, List.reverse_cons]
    exact (vals_rev t).append (.cons r .nil)
section
variable {prog : Program} {w : World} {A : Around} {E : Value → Shared → Prop} {s : Shared}
theorem applied_down {sl : Addr} {u0 : Tok} {u1 : Tok} {n : Nat} {Q : Int × Int × Nat → Shared → Prop} (hn : 0 < n) (hs : s.heap.IsSliceOf sl .none (.int 0 u0) (.int (-1) u1))
    (h : Q ((n : Int) - 1, -1, n - 1) s) : wpAny (model prog w) A (Builtin.Slice.sliceApplied (.ref sl) (pure (n : Int))) Q E s := by
  obtain ⟨ob, gb, _, db⟩ := hs
  unfold Builtin.Slice.sliceApplied Builtin.Slice.sliceFields
  refine wpAny_bind (wpAny_bind (wpAny_field gb db (x := .none) rfl (wpAny_bind (wpAny_field gb db (x := .int 0 u0) rfl (wpAny_bind (wpAny_field gb db (x := .int (-1) u1) rfl (wpAny_pure ?_)))))))
  refine wpAny_bind (slicePart_int ?_)
  show wpAny _ _ (if ((-1 : Int) == 0) = true then _ else _) _ _ s
  rw [if_neg (by decide)]
  refine wpAny_bind (slicePart_none (wpAny_bind (slicePart_int (wpAny_bind (wpAny_pure ?_)))))
  show wpAny _ _ (match Builtin.Slice.sliceAdjust none (some 0) (-1) (n : Int) with | (lo, hi) => pure (lo, (-1 : Int), Builtin.Slice.slicePlaces lo hi (-1))) _ _ s
  rw [adj_down n hn]
  show wpAny _ _ (pure ((n : Int) - 1, (-1 : Int), Builtin.Slice.slicePlaces ((n : Int) - 1) 0 (-1))) _ _ s
  rw [plc_down n hn]
  exact wpAny_pure h
theorem item_down {t sl : Addr} {y : Value} {xs : List Value} {u0 u1 : Tok} {Q : Value → Shared → Prop} (ht : IsTup s.heap t (y :: xs).toArray) (hs : s.heap.IsSliceOf sl .none (.int 0 u0) (.int (-1) u1))
    (h : Q (.ref s.heap.objs.size) { s with heap := s.heap.push { cls := .type "tuple", data := .seq xs.reverse.toArray } }) (hz : xs.length ≤ sizeLine) : wpAny (model prog w) A (getItem (.ref t) (.ref sl)) Q E s := by
  have htake : sizeOk (.seq xs.reverse.toArray) := by
    show xs.reverse.toArray.size ≤ sizeLine
    rw [List.size_toArray, List.length_reverse]
    exact hz
  obtain ⟨ob, gb, cb, db⟩ := id hs
  have hTs : s.TypeIs (.ref sl) "slice" := ⟨ob, gb, cb⟩
  unfold getItem
  with_reducible refine wpAny_holding ?_; refine wpAny_bind (wpAny_sequenceKey ht.typeIs (by decide) ?_)
  refine wpAny_bind (wpAny_callSpecial?_slot (name := Str.ofString "__getitem__") ht.typeIs PyProof.Rows.slot_tuple_getitem (wpAny_call_entry PyProof.Rows.slot_tuple_getitem ht.typeIs entry_tuple_getitem ?_ (args_tuple_getitem _ _)))
  show wpAny _ _ (Builtin.Tuple.tupleItemsOf (.ref t) >>= fun xs => _) _ _ s
  refine wpAny_bind (tupleItemsOf_ ht (wpAny_bind (wpAny_typeOf hTs ?_)))
  rw [if_pos (by decide)]
  refine wpAny_bind (applied_down (by rw [List.size_toArray, List.length_cons]; omega) hs ?_)
  have hno : ¬ (((((y :: xs).toArray.size : Nat) : Int) - 1 == 0 && (-1 : Int) == 1 && ((y :: xs).toArray.size - 1) == (y :: xs).toArray.size) = true) := by
    rw [show ((-1 : Int) == 1) = false by decide, Bool.and_false, Bool.false_and]
    exact Bool.false_ne_true
  show wpAny _ _ (if ((((y :: xs).toArray.size : Nat) : Int) - 1 == 0 && (-1 : Int) == 1 && ((y :: xs).toArray.size - 1) == (y :: xs).toArray.size) = true then _ else _) _ _ s
  rw [if_neg hno, pick_down]; exact wpAny_bind (m := Builtin.Tuple.tupleExact _) (wpAny_newObj_type (wpAny_pure ⟨_, rfl, wpAny_pure h⟩) htake)
end
def tDownT (K : PySem.W.Frag) (te : TE) : TE := fun σ H Q => te σ H fun x H1 => ∃ a y xs, x = .ref a ∧ SqT K H1 a (y :: xs) ∧ ∀ p, H1 p = none → Q (.ref p) (upd H1 p (.tup xs.reverse))
section
variable {X : Cx}
theorem pe_downT {e : Expr} {te : TE} {k k2 : Nat} {p0 p1 p2 p3 pos : Pos} (he : PE X e te) : PE X (.Subscript e (.Slice none (some (.Constant (.int 0) k2 p0)) (some (.UnaryOp .USub (.Constant (.int 1) k p1) p2)) p3) pos) (tDownT X.K te) := by
  refine ⟨fun pins s σ H Q I h => ?_⟩
  refine Subscript_ (thn (he.run pins s σ H _ I h) fun v s1 ⟨x, H1, I1, r1, q1⟩ => ?_)
  obtain ⟨a, y, xs, ex, hx, q⟩ := q1
  subst ex
  cases r1
  have hst : PO X (some (.UnaryOp .USub (.Constant (.int 1) k p1) p2)) (tPart (tUn (rU fun i => .int (-i)) (tC (.int 1)))) := po_some (pe_un un_neg pe_int)
  have hup : PO X (some (.Constant (.int 0) k2 p0)) (tPart (tC (.int 0))) := po_some pe_int
  refine wpAny_Slice (thn (po_none.run pins s1 σ H1 (fun o H2 => o = none ∧ H2 = H1) I1 ⟨rfl, rfl⟩) fun vl s2 ⟨l, H2, I2, pl, el, e2⟩ => ?_)
  subst el e2
  refine thn (hup.run pins s2 σ H2 (fun o H3 => o = some 0 ∧ H3 = H2) I2 ⟨0, rfl, rfl, rfl⟩) fun vu s3 ⟨u, H3, I3, pu, eu, e3⟩ => ?_
  subst eu e3
  refine thn (hst.run pins s3 σ H3 (fun o H4 => o = some (-1) ∧ H4 = H3) I3 ⟨1, rfl, -1, rfl, rfl, rfl⟩) fun vs s4 ⟨o, H4, I4, ps, eo, e4⟩ => ?_
  subst eo e4
  cases pl
  cases pu with | int _ t0 => ?_
  cases ps with | int _ t1 => ?_
  have I5 : Inv X pins σ H4 { s4 with heap := s4.heap.push { cls := .type "slice", data := .fields #[.none, .int 0 t0, .int (-1) t1] } } := I4.kept (t' := s4.toks) fun b ob q => Heap.get?_push_of_some _ q
  obtain ⟨its, r, ht, hz⟩ := I5.tuple hx
  cases r with | cons ry rxs => ?_
  rename_i uy us
  have hlen := rxs.length
  rw [List.length_cons] at hz
  refine tail_any (ops := [.ref a, .ref s4.heap.objs.size]) ht.typeIs (PyProof.Rows.slot_tuple_getitem.lookup) ?_ (by with_unfolding_all rfl)
  refine item_down ht (Heap.IsSliceOf.new _ _ _ _) ?_ (by omega)
  refine ⟨.ref _, _, I5.laid (t' := s4.toks) (o := .tup xs.reverse) (fun b ob q => Heap.get?_push_of_some _ q) (Nat.le_refl _) ?_, rfl, q _ (I5.hok.fresh (Nat.le_refl _))⟩
  exact ⟨by rw [List.length_reverse]; omega, _, vals_rev rxs, IsTup.new _ _⟩
end
end Lw

set_option maxRecDepth 100000
set_option maxHeartbeats 4000000
/-! max(xs, default=d) of a list of ints -/
namespace Lw
open PySem PySem.Spec PyProof.Rows L2

theorem fun_tree_kw {prog : Program} {w : World} {A : Around} {E : Value → Shared → Prop} {s : Shared} {id : String} {b : Builtin} {args : List Value} {kw : List (Str × Value)} {Q : Value → Shared → Prop}
    (hk : builtinKind id = none) (hp : plainId id = true) (hb : entryFor table id = some b) (ha : argsOk id ⟨args, kw⟩)
    (hc : wpAny (model prog w) A.in1 (b ⟨args, kw⟩) (fun fin s2 => match fin with
      | .done f => (match (Except.ok f : Result) with | .ok (.ret v) => Q v s2 | .ok _ => False | .error e => E e s2)
      | .again c2 => c2.quiet = true ∧ codeAny (model prog w) A c2 (fun r s3 => match r with | .ok (.ret v) => Q v s3 | .ok _ => False | .error e => E e s3) s2) E s) :
    wpAny (model prog w) A (call (.builtin id) args kw) Q E s := by
  refine wpAny_call (codeAny_call_builtin hp hb ?_)
  simp only [checkBuiltinCall, hk]
  cases hsig : Manifest.signature? id with
  | none => exact wpAny_pure hc
  | some sig =>
    have h2 : Bind.checkArgs id sig ⟨args, kw⟩ = pure () := by simpa only [argsOk, hsig] using ha
    show wpAny _ A.in1 (Bind.checkArgs id sig ⟨args, kw⟩) _ _ s
    rw [h2]
    exact wpAny_pure hc

section
variable {prog : Program} {w : World} {A : Around} {E : Value → Shared → Prop}
variable {I : Addr} {fp wr : List Addr} {G : Array GenState → Array GenState → Prop} {n : Nat} {P : Nat → Value → Prop} {St : Nat → Shared → Prop} {R : Result → Shared → Prop}

theorem nm_max : (toString "max" ++ toString ".loop" : String) = "max.loop" := by decide

/-- the loop behind its first item, whatever the keywords -/
theorem max_on (kw : List (Str × Value)) (W : WalksS prog w A.in1 I fp wr G n P St) (bt : Nat → Nat → Bool) (hcmp : CmpOf prog w A.in1 .Gt P bt) (S : Addr) (hSf : S ∉ fp) :
    ∀ (m j : Nat) (s : Shared) (vb : Value) (c : Nat), n - (j + 1) = m → j + 1 ≤ n → St (j + 1) s → P (argBest bt j) vb →
    s.heap.get? S = some { cls := .type "list", dict := none, data := .seq #[vb, vb] c, slots := #[] } → (∀ v s2, P (argBest bt (n - 1)) v → Moved (S :: wr) G s s2 → R (.ok (.ret v)) s2) →
    codeAny (model prog w) A (.builtin "max.loop" ⟨[.ref I, .none, .ref S], kw⟩) R s := by
  have hSw : S ∉ wr := fun h => hSf (W.sub _ h)
  have more : ∀ b ∈ wr, b ∈ S :: wr := fun b hb => List.mem_cons_of_mem _ hb
  have offS : ∀ {b : Addr}, b ∉ S :: wr → S ≠ b := fun hb h => hb (by rw [h]; exact List.mem_cons_self)
  intro m
  induction m with
  | zero =>
    intro j s vb c hk hj hst hPb hS hR
    have last : j + 1 = n := by omega
    refine codeAny_builtin F.entry_max_loop ?_
    rw [Around.under_plainId F.plain_max_loop _]
    refine wpAny_bind (wpAny_seqItems hS rfl ?_)
    refine wpAny_bind (wpAny_tryCatch (W.done s _ _ (last ▸ hst) fun s2 hm => ?_))
    have hS2 := hm.heap S _ hSw hS
    refine wpAny_bind (m := updateSeq S fun _ => #[]) ?_
    refine wpAny_updateSeq hS2 rfl (wpAny_bind (wpAny_letGo (wpAny_pure ?_)))
    exact hR vb _ (by rw [← last]; exact hPb) ((hm.mono more).then_heap (tk := s2.toks) (Nat.le_refl _) fun b o hb e => (Heap.get?_update_other _ _ (offS hb)).trans e)
  | succ m ih =>
    intro j s vb c hk hj hst hPb hS hR
    have more1 : j + 1 < n := by omega
    refine codeAny_builtin F.entry_max_loop ?_
    rw [Around.under_plainId F.plain_max_loop _]
    refine wpAny_bind (wpAny_seqItems hS rfl ?_)
    refine wpAny_bind (wpAny_tryCatch (W.item (j + 1) s _ _ more1 hst fun v s2 hP hst2 hm => ?_))
    have hS2 := hm.heap S _ hSw hS
    show wpAny _ A.in1 (tryCatch (holding [v, v] (richCompare .Gt v vb >>= fun answer => _)) _ >>= _) _ _ s2
    refine wpAny_bind (wpAny_tryCatch (wpAny_holding (wpAny_bind (hcmp (j + 1) (argBest bt j) v vb _ _ _ hP hPb (wpAny_bind (wpAny_holding (wpAny_truthy_bool (wpAny_bind (wpAny_letGo (wpAny_pure ?_))))))))))
    cases hb : bt (j + 1) (argBest bt j) with
    | true =>
      simp only [if_true]
      refine wpAny_bind (wpAny_updateSeq hS2 rfl (wpAny_bind (wpAny_letGo ?_)))
      rw [nm_max]
      refine wpAny_pure ⟨plainId_quiet F.plain_max_loop _, ih (j + 1) _ v _ (by omega) more1 (W.frame _ s2 _ s2.toks hst2 (Nat.le_refl _) fun b hbf o e => ?_) (by simp only [argBest, hb, if_true]; exact hP)
        (Heap.get?_update_self _ hS2 rfl) fun v3 s3 hP3 hm3 => ?_⟩
      · exact (Heap.get?_update_other _ _ (fun z : S = b => hSf (z ▸ hbf))).trans e
      · exact hR v3 s3 hP3 (Moved.trans W.gtrans ((hm.mono more).then_heap (Nat.le_refl _) fun b o hb e => (Heap.get?_update_other _ _ (offS hb)).trans e) hm3)
    | false =>
      simp only [Bool.false_eq_true, if_false]
      refine wpAny_bind (wpAny_letGo ?_)
      rw [nm_max]
      refine wpAny_pure ⟨plainId_quiet F.plain_max_loop _, ih (j + 1) _ vb c (by omega) more1 hst2 (by simp only [argBest, hb, Bool.false_eq_true, if_false]; exact hPb) hS2 fun v3 s3 hP3 hm3 => ?_⟩
      exact hR v3 s3 hP3 (Moved.trans W.gtrans (hm.mono more) hm3)

theorem max_first (kw : List (Str × Value)) (W : WalksS prog w A.in1 I fp wr G n P St) (bt : Nat → Nat → Bool) (hcmp : CmpOf prog w A.in1 .Gt P bt) (S : Addr) (hSf : S ∉ fp) (hn : 0 < n) {s : Shared} {c : Nat} (hst : St 0 s)
    (hS : s.heap.get? S = some { cls := .type "list", dict := none, data := .seq #[] c, slots := #[] }) (hR : ∀ v s2, P (argBest bt (n - 1)) v → Moved (S :: wr) G s s2 → R (.ok (.ret v)) s2) :
    codeAny (model prog w) A (.builtin "max.loop" ⟨[.ref I, .none, .ref S], kw⟩) R s := by
  have hSw : S ∉ wr := fun h => hSf (W.sub _ h)
  have more : ∀ b ∈ wr, b ∈ S :: wr := fun b hb => List.mem_cons_of_mem _ hb
  have offS : ∀ {b : Addr}, b ∉ S :: wr → S ≠ b := fun hb h => hb (by rw [h]; exact List.mem_cons_self)
  refine codeAny_builtin F.entry_max_loop ?_
  rw [Around.under_plainId F.plain_max_loop _]
  refine wpAny_bind (wpAny_seqItems hS rfl ?_)
  refine wpAny_bind (wpAny_tryCatch (W.item 0 s _ _ hn hst fun v s2 hP hst2 hm => ?_))
  have hS2 := hm.heap S _ hSw hS
  show wpAny _ A.in1 (updateSeq S (fun _ => #[v, v]) >>= fun _ => _) _ _ s2
  refine wpAny_bind (wpAny_updateSeq hS2 rfl ?_)
  rw [nm_max]
  refine wpAny_pure ⟨plainId_quiet F.plain_max_loop _, max_on kw W bt hcmp S hSf _ 0 _ v _ rfl hn (W.frame _ s2 _ s2.toks hst2 (Nat.le_refl _) fun b hbf o e => ?_) hP (Heap.get?_update_self _ hS2 rfl) fun v3 s3 hP3 hm3 => ?_⟩
  · exact (Heap.get?_update_other _ _ (fun z : S = b => hSf (z ▸ hbf))).trans e
  · exact hR v3 s3 hP3 (Moved.trans W.gtrans ((hm.mono more).then_heap (Nat.le_refl _) fun b o hb e => (Heap.get?_update_other _ _ (offS hb)).trans e) hm3)

/-- no item: the default -/
theorem max_none {d : Value} (W : WalksS prog w A.in1 I fp wr G 0 P St) (S : Addr) (hSf : S ∉ fp) {s : Shared} {c : Nat} (hst : St 0 s)
    (hS : s.heap.get? S = some { cls := .type "list", dict := none, data := .seq #[] c, slots := #[] }) (hR : ∀ s2, Moved wr G s s2 → R (.ok (.ret d)) s2) :
    codeAny (model prog w) A (.builtin "max.loop" ⟨[.ref I, .none, .ref S], [("default", d)]⟩) R s := by
  refine codeAny_builtin F.entry_max_loop ?_
  rw [Around.under_plainId F.plain_max_loop _]
  refine wpAny_bind (wpAny_seqItems hS rfl ?_)
  refine wpAny_bind (wpAny_tryCatch (W.done s _ _ hst fun s2 hm => ?_))
  exact wpAny_bind (wpAny_rule (wpAny_pure (hR s2 hm)))
end
theorem args_maxD (a d : Value) : argsOk "max" ⟨[a], [("default", d)]⟩ := by unfold argsOk; kernel_rfl
end Lw

set_option maxRecDepth 100000
set_option maxHeartbeats 4000000
namespace Lw
open PySem PySem.Spec PyProof.Rows L2
section
variable {prog : Program} {w : World} {A : Around} {E : Value → Shared → Prop} {s : Shared} {l : Addr} {its : List Value} {ns : List Int} {Q : Value → Shared → Prop}
theorem max_rawD {d : Int} {td : Tok} (hh : A.handled = none) (hl : s.heap.IsList l its.toArray) (hi : IntsAre its ns)
    (h : ∀ h2 tk m t2, (∀ b o, s.heap.get? b = some o → h2.get? b = some o) → ((ns = [] ∧ m = d) ∨ (m ∈ ns ∧ ∀ a, a ∈ ns → a ≤ m)) → Q (.int m t2) { s with heap := h2, toks := tk }) :
    wpAny (model prog w) A (call (.builtin "max") [.ref l] [("default", .int d td)]) Q E s := by
  obtain ⟨xs, e⟩ := hi.allInts.items
  have hn : numsOf (intItems xs).toList = ns := by rw [← e]; exact hi.numsOf
  rw [nums_intItems] at hn
  subst hn
  rw [e] at hl
  refine fun_tree_kw F.kind_max F.plain_max F.entry_max (args_maxD _ _) ?_
  show wpAny _ A.in1 (Builtin.Builtins.bindParams "max" ["key", "default"] 0 ⟨[], [("default", .int d td)]⟩ >>= fun r => _) _ _ s
  refine wpAny_bind (wpAny_of_eq (show Builtin.Builtins.bindParams "max" ["key", "default"] 0 ⟨[], [("default", .int d td)]⟩ = pure [none, some (.int d td)] from rfl) ?_)
  refine wpAny_bind (wpAny_pure ?_)
  refine wpAny_bind (iter_intList hl fun s2 e2 st hfp hlI => ?_)
  have W0 := Walks.list (prog := prog) (w := w) (A := A.in1) hh _ l hlI (intItems xs)
  have W := W0.toS
  refine wpAny_bind (wpAny_newObj_type ?_)
  have hSf : s2.heap.objs.size ∉ [s.heap.objs.size, l] := fun hm => Nat.lt_irrefl _ (hfp _ hm)
  rw [nm_max]
  refine wpAny_pure ⟨plainId_quiet F.plain_max_loop _, ?_⟩
  have stN : (s2.heap.push { cls := .type "list", data := .seq #[] }).IsListIter s.heap.objs.size l 0 ∧ (s2.heap.push { cls := .type "list", data := .seq #[] }).IsList l (intItems xs) :=
    ⟨st.1.at fun o e => Heap.get?_push_of_some _ e, st.2.push _⟩
  have fin : ∀ (s3 : Shared) (m : Int) (t2 : Tok), Moved [s.heap.objs.size] (fun a b => b = a) s2 s3 → ((xs.toList.map (·.1) = [] ∧ m = d) ∨ (m ∈ xs.toList.map (·.1) ∧ ∀ a, a ∈ xs.toList.map (·.1) → a ≤ m)) → Q (.int m t2) s3 := by
    intro s3 m t2 hm hx
    have e3 : s3 = { s with heap := s3.heap, toks := s3.toks } := by
      have k1 := hm.gens
      have k2 := hm.drawn
      have k3 := hm.os
      obtain ⟨hp3, g3, d3, tk3, os3⟩ := s3
      simp only at k1 k2 k3 ⊢
      subst k1 k2 k3 e2
      rfl
    rw [e3]
    refine h _ _ _ _ (fun b o q => ?_) hx
    subst e2
    refine hm.heap b o (fun z => ?_) (Heap.get?_push_of_some _ q)
    rcases List.mem_cons.mp z with z | z
    · exact absurd (z ▸ Heap.lt_size q) (Nat.lt_irrefl _)
    · cases z
  by_cases h0 : xs.size = 0
  · have z0 : (intItems xs).size = 0 := by simpa [intItems] using h0
    have W2 := W
    rw [z0] at W2
    have ex : xs.toList.map (·.1) = [] := by
      rw [List.map_eq_nil_iff, ← List.length_eq_zero_iff, Array.length_toList]
      exact h0
    exact max_none W2 s2.heap.objs.size hSf stN (Heap.get?_push_size _ rfl) fun s3 hm => fin s3 d td
      ⟨fun b o hb q => hm.heap b o hb (Heap.get?_push_of_some _ q), hm.gens, hm.drawn, hm.os, hm.toks⟩ (.inl ⟨ex, rfl⟩)
  · have hp : 0 < (intItems xs).size := by
      have e4 : (intItems xs).size = xs.size := by simp [intItems]
      omega
    refine max_first _ W _ (CmpOf.ints_gt (numAt xs) (fun _ _ => intItems_at)) s2.heap.objs.size hSf hp stN (Heap.get?_push_size _ rfl) fun v s3 hv hm => ?_
    obtain ⟨t, rfl⟩ := intItems_at hv
    obtain ⟨h1, h2⟩ := argBest_gt (numAt xs) ((intItems xs).size - 1)
    have e4 : (intItems xs).size = xs.size := by simp [intItems]
    refine fin s3 _ t (Moved.drop_new hm (Nat.le_refl _)) (.inr ⟨?_, fun a ha => ?_⟩)
    · rw [numAt_eq]
      exact PySem.getD_mem (by rw [List.length_map, Array.length_toList]; omega)
    · obtain ⟨j, hj, rfl⟩ := mem_getD ha
      rw [List.length_map, Array.length_toList] at hj
      rw [← numAt_eq]
      exact h2 j (by omega)
end
section
variable {X : Cx}
/-- max(xs, default=d), xs a list of ints -/
def rMaxD (K : PySem.W.Frag) : List V → List V → Hp → VK → Prop := fun vs zs H Q => ∃ (a : Addr) (ns : List Int) (d : Int), vs = [V.ref a] ∧ zs = [V.int d] ∧ SqL K H a (ns.map V.int) ∧
  ∀ m : Int, ((ns = [] ∧ m = d) ∨ (m ∈ ns ∧ ∀ a, a ∈ ns → a ≤ m)) → Q (.int m) H
theorem cr_maxD (hc : X.calm = true) : CallRK X (.builtin "max") ["default"] (rMaxD X.K) := by
  intro pins s σ H xs zs us ws Q I r1 r2 h
  obtain ⟨a, ns, d, rfl, rfl, hs, q⟩ := h
  obtain ⟨its, rv, hl, _⟩ := I.list hs
  rw [Vals.ref1 r1]
  cases r2 with | cons rd rn => ?_
  cases rn
  obtain ⟨td, rfl⟩ := rd
  exact max_rawD (I.ok.hd hc) hl.isList rv.ints fun h2 tk m t2 hk hm => ⟨.int m, H, I.kept hk, ⟨_, rfl⟩, q m hm⟩
end
end Lw

set_option maxRecDepth 100000
set_option maxHeartbeats 4000000
/-! terms as data, and how the heap bears them -/
namespace Lw
open PySem L2

inductive Tm where
  | var (i : Int)
  | app (n : Str) (ts : List Tm)

mutual
def Tm.size : Tm → Nat
  | .var _ => 1
  | .app _ ts => 1 + Tm.sizes ts
def Tm.sizes : List Tm → Nat
  | [] => 0
  | t :: r => t.size + Tm.sizes r
end
mutual
def Tm.depth : Tm → Nat
  | .var _ => 1
  | .app _ ts => 1 + Tm.depths ts
def Tm.depths : List Tm → Nat
  | [] => 0
  | t :: r => max t.depth (Tm.depths r)
end
mutual
/-- all occurrences of subterms, a term before its arguments -/
def Tm.occ : Tm → List Tm
  | .var i => [.var i]
  | .app n ts => .app n ts :: Tm.occs ts
def Tm.occs : List Tm → List Tm
  | [] => []
  | t :: r => t.occ ++ Tm.occs r
end
theorem Tm.size_pos : ∀ t : Tm, 0 < t.size
  | .var _ => by unfold Tm.size; exact Nat.one_pos
  | .app _ ts => by unfold Tm.size; omega
theorem Tm.depth_pos : ∀ t : Tm, 0 < t.depth
  | .var _ => by unfold Tm.depth; exact Nat.one_pos
  | .app _ ts => by unfold Tm.depth; omega
theorem Tm.size_app (n : Str) (ts : List Tm) : (Tm.app n ts).size = 1 + Tm.sizes ts := by rw [Tm.size]
theorem Tm.size_var (i : Int) : (Tm.var i).size = 1 := by rw [Tm.size]
theorem Tm.depth_app (n : Str) (ts : List Tm) : (Tm.app n ts).depth = 1 + Tm.depths ts := by rw [Tm.depth]
theorem Tm.depth_var (i : Int) : (Tm.var i).depth = 1 := by rw [Tm.depth]
theorem Tm.sizes_nil : Tm.sizes [] = 0 := by rw [Tm.sizes]
theorem Tm.sizes_cons (t : Tm) (r : List Tm) : Tm.sizes (t :: r) = t.size + Tm.sizes r := by rw [Tm.sizes]
theorem Tm.depths_nil : Tm.depths [] = 0 := by rw [Tm.depths]
theorem Tm.depths_cons (t : Tm) (r : List Tm) : Tm.depths (t :: r) = max t.depth (Tm.depths r) := by rw [Tm.depths]
theorem Tm.occ_app (n : Str) (ts : List Tm) : (Tm.app n ts).occ = .app n ts :: Tm.occs ts := by rw [Tm.occ]
theorem Tm.occ_var (i : Int) : (Tm.var i).occ = [.var i] := by rw [Tm.occ]
theorem Tm.occs_nil : Tm.occs [] = [] := by rw [Tm.occs]
theorem Tm.occs_cons (t : Tm) (r : List Tm) : Tm.occs (t :: r) = t.occ ++ Tm.occs r := by rw [Tm.occs]
theorem Tm.sizes_append : ∀ a b : List Tm, Tm.sizes (a ++ b) = Tm.sizes a + Tm.sizes b
  | [], b => by rw [List.nil_append, Tm.sizes_nil, Nat.zero_add]
  | t :: a, b => by rw [List.cons_append, Tm.sizes_cons, Tm.sizes_cons, Tm.sizes_append a b]; omega
theorem Tm.occs_append : ∀ a b : List Tm, Tm.occs (a ++ b) = Tm.occs a ++ Tm.occs b
  | [], b => by rw [List.nil_append, Tm.occs_nil, List.nil_append]
  | t :: a, b => by rw [List.cons_append, Tm.occs_cons, Tm.occs_cons, Tm.occs_append a b, List.append_assoc]
theorem Tm.sizes_reverse (a : List Tm) : Tm.sizes a.reverse = Tm.sizes a := by
  induction a with
  | nil => rfl
  | cons t a ih => rw [List.reverse_cons, Tm.sizes_append, Tm.sizes_cons, Tm.sizes_cons, Tm.sizes_nil, ih]; omega
theorem Tm.depth_mem : ∀ {ts : List Tm} {t : Tm}, t ∈ ts → t.depth ≤ Tm.depths ts
  | a :: r, t, h => by
    rw [Tm.depths_cons]
    rcases List.mem_cons.mp h with e | h
    · rw [e]; exact Nat.le_max_left _ _
    · exact Nat.le_trans (Tm.depth_mem h) (Nat.le_max_right _ _)
theorem Tm.size_mem : ∀ {ts : List Tm} {t : Tm}, t ∈ ts → t.size ≤ Tm.sizes ts
  | a :: r, t, h => by
    rw [Tm.sizes_cons]
    rcases List.mem_cons.mp h with e | h
    · rw [e]; omega
    · have := Tm.size_mem h; omega
theorem Tm.depths_le {ts : List Tm} {d : Nat} (h : ∀ t ∈ ts, t.depth ≤ d) : Tm.depths ts ≤ d := by
  induction ts with
  | nil => rw [Tm.depths_nil]; exact Nat.zero_le _
  | cons t r ih =>
    rw [Tm.depths_cons]
    exact Nat.max_le.mpr ⟨h t List.mem_cons_self, ih fun u hu => h u (List.mem_cons_of_mem _ hu)⟩
theorem Tm.length_le_sizes : ∀ ts : List Tm, ts.length ≤ Tm.sizes ts
  | [] => by rw [Tm.sizes_nil]; exact Nat.le_refl _
  | t :: r => by
    have h1 := Tm.length_le_sizes r
    have h2 := t.size_pos
    rw [Tm.sizes_cons, List.length_cons]
    omega
mutual
theorem Tm.occ_len : ∀ t : Tm, t.occ.length = t.size
  | .var i => by rw [Tm.occ_var, Tm.size_var]; rfl
  | .app n ts => by rw [Tm.occ_app, Tm.size_app, List.length_cons, Tm.occs_len ts, Nat.add_comm]
theorem Tm.occs_len : ∀ ts : List Tm, (Tm.occs ts).length = Tm.sizes ts
  | [] => by rw [Tm.occs_nil, Tm.sizes_nil]; rfl
  | t :: r => by rw [Tm.occs_cons, Tm.sizes_cons, List.length_append, Tm.occ_len t, Tm.occs_len r]
end

/-- v stands for the term -/
inductive At (H : Hp) : V → Tm → Prop where
  | var (i : Int) : At H (.int i) (.var i)
  | app {a : Addr} {n : Str} {vs : List V} {ts : List Tm} (e : H a = some (.tup (.str n :: vs))) (hl : vs.length = ts.length) (hs : ∀ (i : Nat) v t, vs[i]? = some v → ts[i]? = some t → At H v t) : At H (.ref a) (.app n ts)
/-- lists of values stand for lists of terms -/
structure Ats (H : Hp) (vs : List V) (ts : List Tm) : Prop where
  len : vs.length = ts.length
  at' : ∀ (i : Nat) v t, vs[i]? = some v → ts[i]? = some t → At H v t
theorem Ats.nil {H : Hp} : Ats H [] [] := ⟨rfl, fun i v t h => by simp at h⟩
theorem Ats.cons {H : Hp} {v : V} {t : Tm} {vs : List V} {ts : List Tm} (h : At H v t) (r : Ats H vs ts) : Ats H (v :: vs) (t :: ts) :=
  ⟨by rw [List.length_cons, List.length_cons, r.len], fun i => by
    cases i with
    | zero => intro u w e1 e2; simp at e1 e2; rw [← e1, ← e2]; exact h
    | succ i => intro u w e1 e2; exact r.at' i u w (by simpa using e1) (by simpa using e2)⟩
theorem Ats.head {H : Hp} {v : V} {t : Tm} {vs : List V} {ts : List Tm} (h : Ats H (v :: vs) (t :: ts)) : At H v t := h.at' 0 v t rfl rfl
theorem Ats.tail {H : Hp} {v : V} {t : Tm} {vs : List V} {ts : List Tm} (h : Ats H (v :: vs) (t :: ts)) : Ats H vs ts :=
  ⟨by have := h.len; simpa using this, fun i u w e1 e2 => h.at' (i + 1) u w (by simpa using e1) (by simpa using e2)⟩
theorem Ats.append {H : Hp} : ∀ {vs : List V} {ts : List Tm} {ws : List V} {us : List Tm}, Ats H vs ts → Ats H ws us → Ats H (vs ++ ws) (ts ++ us)
  | [], [], _, _, _, b => b
  | [], _ :: _, _, _, a, _ => by have := a.len; simp at this
  | _ :: _, [], _, _, a, _ => by have := a.len; simp at this
  | _ :: _, _ :: _, _, _, a, b => .cons a.head (Ats.append a.tail b)
theorem Ats.one {H : Hp} {v : V} {t : Tm} (h : At H v t) : Ats H [v] [t] := .cons h .nil
theorem Ats.rev {H : Hp} : ∀ {vs : List V} {ts : List Tm}, Ats H vs ts → Ats H vs.reverse ts.reverse
  | [], [], _ => .nil
  | [], _ :: _, a => by have := a.len; simp at this
  | _ :: _, [], a => by have := a.len; simp at this
  | v :: vs, t :: ts, a => by
    rw [List.reverse_cons, List.reverse_cons]
    exact (Ats.rev a.tail).append (.one a.head)
theorem Ats.get {H : Hp} {vs : List V} {ts : List Tm} {i : Nat} {v : V} (h : Ats H vs ts) (e : vs[i]? = some v) : ∃ t, ts[i]? = some t ∧ At H v t := by
  have hi : i < vs.length := (List.getElem?_eq_some_iff.mp e).1
  have hj : i < ts.length := by rw [← h.len]; exact hi
  exact ⟨ts[i], List.getElem?_eq_getElem hj, h.at' i v _ e (List.getElem?_eq_getElem hj)⟩
theorem Ats.get' {H : Hp} {vs : List V} {ts : List Tm} {i : Nat} {t : Tm} (h : Ats H vs ts) (e : ts[i]? = some t) : ∃ v, vs[i]? = some v ∧ At H v t := by
  have hi : i < ts.length := (List.getElem?_eq_some_iff.mp e).1
  have hj : i < vs.length := by rw [h.len]; exact hi
  exact ⟨vs[i], List.getElem?_eq_getElem hj, h.at' i _ t (List.getElem?_eq_getElem hj) e⟩
theorem Ats.take {H : Hp} {vs : List V} {ts : List Tm} (n : Nat) (h : Ats H vs ts) : Ats H (vs.take n) (ts.take n) :=
  ⟨by rw [List.length_take, List.length_take, h.len], fun i v t e1 e2 => by
    rw [List.getElem?_take] at e1 e2
    split at e1
    · rename_i hlt
      rw [if_pos hlt] at e2
      exact h.at' i v t e1 e2
    · cases e1⟩
theorem Ats.drop {H : Hp} {vs : List V} {ts : List Tm} (n : Nat) (h : Ats H vs ts) : Ats H (vs.drop n) (ts.drop n) :=
  ⟨by rw [List.length_drop, List.length_drop, h.len], fun i v t e1 e2 => by
    rw [List.getElem?_drop] at e1 e2
    exact h.at' _ v t e1 e2⟩
/-- what At leans on is tuples alone -/
def KeepT (H H' : Hp) : Prop := ∀ a xs, H a = some (.tup xs) → H' a = some (.tup xs)
theorem KeepT.refl (H : Hp) : KeepT H H := fun _ _ h => h
theorem KeepT.trans {H H1 H2 : Hp} (a : KeepT H H1) (b : KeepT H1 H2) : KeepT H H2 := fun x o h => b x o (a x o h)
theorem At.keep {H H' : Hp} (k : KeepT H H') {v : V} {t : Tm} (h : At H v t) : At H' v t := by
  induction h with
  | var i => exact .var i
  | app e hl _ ih => exact .app (k _ _ e) hl ih
theorem Ats.keep {H H' : Hp} (k : KeepT H H') {vs : List V} {ts : List Tm} (h : Ats H vs ts) : Ats H' vs ts := ⟨h.len, fun i v t e1 e2 => (h.at' i v t e1 e2).keep k⟩
theorem At.app_ats {H : Hp} {a : Addr} {t : Tm} (h : At H (.ref a) t) : ∃ n vs ts, t = .app n ts ∧ H a = some (.tup (.str n :: vs)) ∧ Ats H vs ts := by
  cases h with
  | app e hl hs => exact ⟨_, _, _, rfl, e, hl, hs⟩
theorem At.of {H : Hp} {a : Addr} {n : Str} {vs : List V} {ts : List Tm} (e : H a = some (.tup (.str n :: vs))) (h : Ats H vs ts) : At H (.ref a) (.app n ts) := .app e h.len h.at'

/-! ### what changes: all but given addresses stays -/
/-- all that was tracked stays, but what stands at one of the addresses -/
def Kp (l : List Addr) (H H' : Hp) : Prop := ∀ b o, b ∉ l → H b = some o → H' b = some o
theorem Kp.refl (l : List Addr) (H : Hp) : Kp l H H := fun _ _ _ h => h
theorem Kp.trans {l : List Addr} {H H1 H2 : Hp} (a : Kp l H H1) (b : Kp l H1 H2) : Kp l H H2 := fun x o hx h => b x o hx (a x o hx h)
theorem Kp.new {l : List Addr} {H : Hp} {p : Addr} {o : HO} (h : H p = none) : Kp l H (upd H p o) := fun b u _ e => by
  rw [upd_ne (ne_of_none e h)]
  exact e
theorem Kp.put {l : List Addr} {H : Hp} {p : Addr} {o : HO} (h : p ∈ l) : Kp l H (upd H p o) := fun b u hb e => by
  rw [upd_ne (fun z : b = p => hb (z ▸ h))]
  exact e
theorem Kp.mono {l l' : List Addr} {H H' : Hp} (a : Kp l H H') (h : ∀ b ∈ l, b ∈ l') : Kp l' H H' := fun b o hb e => a b o (fun z => hb (h b z)) e
/-- an address that H did not know may have been changed besides -/
theorem Kp.less {l : List Addr} {p : Addr} {H H' : Hp} (a : Kp (p :: l) H H') (h : H p = none) : Kp l H H' := fun b o hb e => a b o (fun z => by
  rcases List.mem_cons.mp z with z | z
  · rw [z, h] at e; cases e
  · exact hb z) e
theorem Kp.same {H H' : Hp} (a : Kp [] H H') : Same H H' := fun b o e => a b o (by simp) e
theorem Kp.of_same {l : List Addr} {H H' : Hp} (a : Same H H') : Kp l H H' := fun b o _ e => a b o e
end Lw

set_option maxRecDepth 100000
set_option maxHeartbeats 4000000
/-! the promises of the defs that draw -/
namespace Lw
open PySem L2

/-! ### built-ins by name -/
theorem b_int : bootBuiltins "int" = some (.type "int") := by decide +kernel
theorem b_list : bootBuiltins "list" = some (.type "list") := by decide +kernel
theorem b_tuple : bootBuiltins "tuple" = some (.type "tuple") := by decide +kernel
theorem b_dict : bootBuiltins "dict" = some (.type "dict") := by decide +kernel
theorem b_range : bootBuiltins "range" = some (.type "range") := by decide +kernel
theorem b_set : bootBuiltins "set" = some (.type "set") := by decide +kernel
theorem b_str : bootBuiltins "str" = some (.type "str") := by decide +kernel
theorem b_zip : bootBuiltins "zip" = some (.type "zip") := by decide +kernel
theorem b_enumerate : bootBuiltins "enumerate" = some (.type "enumerate") := by decide +kernel
theorem b_len : bootBuiltins "len" = some (.builtin "len") := by decide +kernel
theorem b_abs : bootBuiltins "abs" = some (.builtin "abs") := by decide +kernel
theorem b_max : bootBuiltins "max" = some (.builtin "max") := by decide +kernel
theorem b_min : bootBuiltins "min" = some (.builtin "min") := by decide +kernel
theorem b_sum : bootBuiltins "sum" = some (.builtin "sum") := by decide +kernel
theorem b_isinstance : bootBuiltins "isinstance" = some (.builtin "isinstance") := by decide +kernel
theorem b_repr : bootBuiltins "repr" = some (.builtin "repr") := by decide +kernel
theorem b_sorted : bootBuiltins "sorted" = some (.builtin "sorted") := by decide +kernel
theorem b_all : bootBuiltins "all" = some (.builtin "all") := by decide +kernel
theorem b_any : bootBuiltins "any" = some (.builtin "any") := by decide +kernel
/-- a tape at t: its script's copy at sc -/
structure TapeAt (H : Hp) (t sc : Addr) (ns : List Int) : Prop where
  is : ∃ pl pd sd : Int, 0 ≤ pl ∧ H t = some (.lst [.ref sc, .int pl, .int pd, .int sd])
  scr : H sc = some (.lst (ns.map V.int))
  ne : sc ≠ t
theorem TapeAt.keep {H H' : Hp} {t sc : Addr} {ns : List Int} (h : TapeAt H t sc ns) {l : List Addr} (k : Kp l H H') (ht : t ∉ l) (hs : sc ∉ l) : TapeAt H' t sc ns := by
  obtain ⟨⟨pl, pd, sd, h0, e⟩, e2, ne⟩ := h
  exact ⟨⟨pl, pd, sd, h0, k _ _ ht e⟩, k _ _ hs e2, ne⟩
theorem TapeAt.nil {H H' : Hp} {t sc : Addr} {ns : List Int} (h : TapeAt H t sc ns) (k : Kp [] H H') : TapeAt H' t sc ns := h.keep k (by simp) (by simp)
theorem TapeAt.t_some {H : Hp} {t sc : Addr} {ns : List Int} (h : TapeAt H t sc ns) {p : Addr} (hp : H p = none) : t ≠ p := by
  obtain ⟨⟨pl, pd, sd, h0, e⟩, _, _⟩ := h
  exact ne_of_none e hp
theorem TapeAt.s_some {H : Hp} {t sc : Addr} {ns : List Int} (h : TapeAt H t sc ns) {p : Addr} (hp : H p = none) : sc ≠ p := ne_of_none h.scr hp
theorem TapeAt.keepT {H H' : Hp} {t sc : Addr} {ns : List Int} (h : TapeAt H t sc ns) (k : Kp [t] H H') : KeepT H H' := fun a xs e => by
  obtain ⟨⟨pl, pd, sd, h0, e2⟩, _, _⟩ := h
  refine k a _ (fun z => ?_) e
  rcases List.mem_cons.mp z with z | z
  · rw [z, e2] at e; cases e
  · cases z
theorem Kp.keepT {l : List Addr} {H H' : Hp} (k : Kp l H H') (h : ∀ a ∈ l, ∀ xs, H a ≠ some (.tup xs)) : KeepT H H' := fun a xs e => k a _ (fun z => h a z xs e) e

def spTape (K : PySem.W.Frag) : Sp := fun vs H Q _ => ∃ (a : Addr) (ns : List Int), vs = [.ref a] ∧ SqL K H a (ns.map V.int) ∧
  ∀ (H' : Hp) (t sc : Addr), Kp [] H H' → H t = none → H sc = none → TapeAt H' t sc ns → Q (.ref t) H'
def spDraw : Sp := fun vs H Q _ => ∃ (t sc : Addr) (ns : List Int) (many : Int), vs = [.ref t, .int many] ∧ TapeAt H t sc ns ∧ 0 ≤ many ∧ many < 1000000000 ∧
  ∀ (H' : Hp) (n : Int), Kp [t] H H' → TapeAt H' t sc ns → 0 ≤ n → n < max many 1 → Q (.int n) H'

/-! ### names -/
def smallC (c : Nat) : Prop := 97 ≤ c ∧ c ≤ 122
def signC (c : Nat) : Prop := (97 ≤ c ∧ c ≤ 122) ∨ (65 ≤ c ∧ c ≤ 90) ∨ (48 ≤ c ∧ c ≤ 57)
instance : DecidablePred smallC := fun c => by unfold smallC; infer_instance
instance : DecidablePred signC := fun c => by unfold signC; infer_instance
structure NameOk (z : Str) : Prop where
  pos : 0 < z.cps.toList.length
  le : z.cps.toList.length ≤ 16
  first : ∀ c, z.cps.toList[0]? = some c → smallC c
  all : ∀ c ∈ z.cps.toList, signC c
  short : z.cps.toList.length ≤ 3 ∨ z.cps.toList.length = 16
/-- a stem: empty, or the beginning of a name -/
structure StemOk (z : Str) : Prop where
  le : z.cps.toList.length ≤ 13
  first : ∀ c, z.cps.toList[0]? = some c → smallC c
  all : ∀ c ∈ z.cps.toList, signC c
  len : z.cps.toList.length = 0 ∨ z.cps.toList.length = 13
def spWord : Sp := fun vs H Q _ => ∃ (t sc : Addr) (ns : List Int) (stem : Str), vs = [.ref t, .str stem] ∧ TapeAt H t sc ns ∧ StemOk stem ∧
  ∀ (H' : Hp) (z : Str), Kp [t] H H' → TapeAt H' t sc ns → NameOk z → Q (.str z) H'

/-! ### symbols -/
structure SymsAt (H : Hp) (a : Addr) (zs : List (Str × Int)) : Prop where
  is : ∃ rs : List Addr, H a = some (.lst (rs.map V.ref)) ∧ rs.length = zs.length ∧ ∀ (i : Nat) r z, rs[i]? = some r → zs[i]? = some z → H r = some (.tup [.str z.1, .int z.2])
  ok : ∀ z ∈ zs, NameOk z.1 ∧ 0 ≤ z.2 ∧ z.2 ≤ 3
def spSymbols : Sp := fun vs H Q _ => ∃ (t sc : Addr) (ns : List Int) (many : Int), vs = [.ref t, .int many] ∧ TapeAt H t sc ns ∧ 1 ≤ many ∧ many ≤ 1000 ∧
  ∀ (H' : Hp) (p : Addr) (zs : List (Str × Int)), Kp [t] H H' → TapeAt H' t sc ns → H p = none → SymsAt H' p zs → (zs.length : Int) = many + 1 → Q (.ref p) H'
end Lw

set_option maxRecDepth 100000
set_option maxHeartbeats 4000000
/-! the promise of a def where it is known that no container's repr is under way -/
namespace Lw
open PySem PySem.Spec PyProof.Rows L2
/-- room, and no repr of a container under way -/
structure RoomG (k : Nat) (A : Around) : Prop where
  room : Room k A
  g : A.guards = some []
theorem RoomG.mono {j k : Nat} {A : Around} (r : RoomG k A) (h : j ≤ k) : RoomG j A := ⟨r.room.mono h, r.g⟩
theorem RoomG.deeper {k : Nat} {A : Around} (r : RoomG (k + 1) A) (env : Env) : RoomG k (A.deeper env) := ⟨r.room.deeper env, r.g⟩
structure FnG (P : Program) (w : World) (K : PySem.W.Frag) (mg : Str → Option Value) (base : Heap) (k : Nat) (f : Addr) (fd : FuncData) (ps : List Str) (sp : Sp) : Prop where
  len : ∀ vs H Q E, sp vs H Q E → vs.length = ps.length
  run : ∀ (A : Around) (outer : List Env) (s : Shared) (H : Hp) (args : Args) (us : List Value) (vs : List V) (Q : VK) (E : XK), RoomG k A → Env0 P w K mg base A outer s H → BindsTo s fd args (ps.zip us) → Vals vs us → sp vs H Q E →
    codeAny (model P w) A (.call (.ref f) args) (CR CX0 outer P w H s Q E) s
section
variable {P : Program} {w : World} {K : PySem.W.Frag} {mg : Str → Option Value} {base : Heap}
theorem FnG.mono {j k : Nat} {f : Addr} {fd : FuncData} {ps : List Str} {sp : Sp} (F : FnG P w K mg base j f fd ps sp) (h : j ≤ k) : FnG P w K mg base k f fd ps sp :=
  ⟨F.len, fun A outer s H args us vs Q E hr => F.run A outer s H args us vs Q E (hr.mono h)⟩
theorem FnG.imp {k : Nat} {f : Addr} {fd : FuncData} {ps : List Str} {sp sp' : Sp} (F : FnG P w K mg base k f fd ps sp) (h : ∀ vs H Q E, sp' vs H Q E → sp vs H Q E) : FnG P w K mg base k f fd ps sp' :=
  ⟨fun vs H Q E q => F.len vs H Q E (h _ _ _ _ q), fun A outer s H args us vs Q E hr he hb hv hs => F.run A outer s H args us vs Q E hr he hb hv (h _ _ _ _ hs)⟩
/-- a def by its body -/
theorem Fun.okG {x qual : Str} {st : Stmt} {f : Addr} {fd : FuncData} {N ps : List Str} {k : Nat} {sp : Sp} (F : Fun K x qual st f fd) (S : FnScope N ps (defScope st)) (len : ∀ vs H Q E, sp vs H Q E → vs.length = ps.length)
    (body : ∀ (cdv : Value) (A : Around) (outer : List Env) (s : Shared) (H : Hp) (vs : List V) (Q : VK) (E : XK), RoomG k (A.deeper (envOfC qual (defScope st) s.heap.objs.size f cdv)) → sp vs H Q E →
      ∃ t, PSs (cxOf CX0 P w K mg base N qual (defScope st) f cdv A outer s H E).nox (defBody st) t ∧ t { nx := fun _ H' => Q .non H', rt := Q } (start N vs) H) : FnG P w K mg base (k + 1) f fd ps sp := by
  obtain ⟨oc, od, kV, doc, pm, an, cdv, ct, osl, rfl, lk, hcd⟩ := F.ex
  refine ⟨len, fun A outer s H args us vs Q E hr e0 hb rv hsp => ?_⟩
  have inK : K.In s.heap := e0.mod.kin.keeps fun b o e => (e0.bs b o e).1
  have noL : s.heap.NoLimit := e0.mod.nolimit.keeps fun b o e => (e0.bs b o e).1
  have kinds : ∀ y ∈ ps.zip us, (defScope st).names.lookup y.1 = some .local ∨ ((defScope st).names.lookup y.1 = some .cell ∧ ((cellsFrom (s.heap.objs.size + 1) (defScope st).names []).lookup y.1).isSome = true) := by
    rintro ⟨n, v⟩ hy
    rcases S.par n (List.of_mem_zip hy).1 with c | c
    · exact .inl c
    · exact .inr ⟨c, PySem.W.cellsFrom_some _ _ _ (.inl c)⟩
  refine codeAny_call_function hr.room.depth (inK _ _ lk) rfl S.co S.gen rfl (PySem.W.codeRec_of inK hcd) (hb _ _ _ _ (wpAny_newFunctionEnv_cells S.kind kinds fun env he s1 x => ?_))
  subst he
  refine ⟨noL.keeps x.toInCall.keep, codeAny_func ?_⟩
  obtain ⟨t, ht, hq⟩ := body cdv A outer s H vs Q E (hr.deeper _) hsp
  have I := inv_start (CX := CX0) (E := E) S hr.room.hd e0 (len _ _ _ _ hsp) rv x
  refine wpAny_mono (ht.nox.run [] s1 (start N vs) H _ I hq) (fun fl s2 done => ?_) fun e s2 out => out
  cases fl with
  | ret u =>
    obtain ⟨v, σ2, H2, J, rv2, q⟩ := done
    exact ⟨v, H2, J.os, J.bare, J.base, J.hok, rv2, q⟩
  | next =>
    obtain ⟨σ2, H2, J, q⟩ := done
    exact ⟨V.non, H2, J.os, J.bare, J.base, J.hok, rfl, q⟩
  | brk =>
    obtain ⟨_, _, _, z⟩ := done
    exact z.elim
  | cont =>
    obtain ⟨_, _, _, z⟩ := done
    exact z.elim
end
section
variable {X : Cx} {k j : Nat} {f : Addr} {fd : FuncData} {ps : List Str} {sp : Sp} {x : Str} {p pos : Pos} {e : Expr} {es : List Expr} {t : TA}
theorem pe_callG (F : FnG X.prog X.w X.K X.mg X.base k f fd ps sp) (hr : RoomG k X.A) (hg : Gl X x) (hm : X.mg x = some (.ref f)) (hk : PySem.W.keepIn X.K (.ref f) = true) (hb : Binds X.K fd ps [])
    (ha : PA X (e :: es) t) (hdb : (x == ("__debug__" : Str)) = false := by decide) (he : starEach (e :: es) X.env = (false, eval e X.env) :: starEach es X.env := by rfl) (hpl : (backTo pos (starEach es X.env)).any (·.1) = false := by rfl) :
    PE X (.Call (.Name x p) (e :: es) [] pos) (tCall sp [] E0 t) := by
  refine ⟨fun pins s σ H Q I h => wpAny_Call_Name_kw (ld_glob I hg hm (PySem.W.callWith_K (h₀ := X.base) I.ok.mod.kin hk (thn (ha.run pos pins s σ H _ I h) fun us s1 ⟨vs, H1, I1, r, q⟩ => ⟨I1.kIn, ?_⟩) he hpl) hdb)⟩
  have q : sp (vs ++ []) H1 Q E0 := q
  rw [List.append_nil] at q
  have hl : (us ++ []).length = ps.length := by rw [List.append_nil, ← r.length]; exact F.len _ _ _ _ q
  have b := hb s1 us I1.kIn hl
  rw [List.append_nil] at b
  refine wpAny_call (codeAny_mono (F.run X.A X.stack s1 H1 ⟨us, []⟩ us vs Q E0 hr I1.env0 b r q) fun r s2 hq => ?_)
  cases r with
  | error e => exact hq.elim
  | ok fl =>
    cases fl with
    | ret u => exact I1.after hq
    | next => exact False.elim hq
    | brk => exact False.elim hq
    | cont => exact False.elim hq
end
end Lw
namespace Lw
open PySem PySem.Spec PyProof.Rows L2
/-- the law's def at the heap behind the top -/
theorem law_callG {P : Program} {w : World} {K : PySem.W.Frag} {mg mb : Str → Option Value} {k : Nat} {fa a : Addr} {fd : FuncData} {x : Str} {sp : Sp} {s1 : Shared} {vs : List Value} {ns : List Int}
    (KX : K.In s1.heap) (hns : s1.heap.Ns PySem.mainGlobals mg) (hb : s1.heap.Ns builtinsNs mb) (hbb : ∀ x : Str, x ≠ "__name__" → mb x = bootBuiltins x) (hlim : s1.heap.NoLimit) (hg : s1.gens = #[])
    (ha : s1.heap.get? a = some { cls := .type "list", data := .seq vs.toArray }) (hi : IntsAre vs ns) (hl : ns.length ≤ sizeLine) (hr : RoomG k callerA)
    (F : ∀ base : Heap, K.In base → base.Ns PySem.mainGlobals mg → FnG P w K mg base k fa fd [x] sp) (hbind : ∀ (s : Shared) (u : Value), BindsTo s fd ⟨[u], []⟩ [(x, u)])
    (hsp : ∀ H : Hp, Only H → SqL K H a (ns.map V.int) → sp [.ref a] H (fun v _ => v = .bl true) fun _ _ _ => False) :
    codeAny (model P w) callerA (.call (.ref fa) ⟨[.ref a], []⟩) (fun r s2 => r = .ok (.ret (.bool true)) ∧ OldK s1.heap s2.heap ∧ s2.os = s1.os ∧ AllBare s2.gens) s1 := by
  have rv := vals_ints hi
  have lv := hi.length
  -- from any abstract heap that tracks the script at most
  have go : ∀ H : Hp, Only H → SqL K H a (ns.map V.int) → HOk P w H s1.heap → (∀ b u, H b = some u → b = a ∧ K.lookup a = none) →
      codeAny (model P w) callerA (.call (.ref fa) ⟨[.ref a], []⟩) (fun r s2 => r = .ok (.ret (.bool true)) ∧ OldK s1.heap s2.heap ∧ s2.os = s1.os ∧ AllBare s2.gens) s1 := by
    intro H hO hS hok hA
    have off : ∀ {b : Addr} {o : Obj}, s1.heap.get? b = some o → (b = a → K.lookup a = none → False) → H b = none := fun {b o} _ n => by
      cases z : H b with
      | none => rfl
      | some u => exact (n (hA b u z).1 (hA b u z).2).elim
    have dicts : ∀ {b : Addr} {o : Obj} {es : Array DictEntry} {ep : Nat}, s1.heap.get? b = some o → o.data = .dict es ep → H b = none := fun {b o es ep} e d => off e fun z _ => by
      rw [z, ha] at e
      cases e
      cases d
    have names : ∀ {b : Addr} {m : Str → Option Value}, s1.heap.Ns b m → (hidT s1.heap H).Ns b m := fun {b m} ⟨o, es, ep, e, d, r⟩ => ⟨o, es, ep, hidT_get e (dicts e d), d, r⟩
    have inB : K.In (hidT s1.heap H) := fun b o e => hidT_get (KX b o e) (off (KX b o e) fun z n => by rw [z, n] at e; cases e)
    have hM : Mod K mg (hidT s1.heap H) := ⟨inB, names hns, ⟨mb, names hb, hbb⟩, let ⟨mc, h1, h2⟩ := hlim; ⟨mc, names h1, h2⟩⟩
    have e0 : Env0 P w K mg (hidT s1.heap H) callerA [] s1 H := ⟨rfl, hM, fun b o e => of_hidT e, Nat.le_of_eq (hidT_size _ _), trivial, (fun b hb => nomatch (show b ∈ ([] : List Addr) from hb)), hok, .of_eq hg⟩
    refine codeAny_mono ((F _ inB (names hns)).run callerA [] s1 H ⟨[.ref a], []⟩ [.ref a] [.ref a] _ _ hr e0 (hbind s1 (.ref a)) (.cons rfl .nil) (hsp H hO hS)) fun r s2 h => ?_
    cases r with
    | error e => exact False.elim h
    | ok fl =>
      cases fl with
      | next => exact False.elim h
      | brk => exact False.elim h
      | cont => exact False.elim h
      | ret u =>
        obtain ⟨v, H2, os, bare, un, hok2, r2, q⟩ := h
        have q2 : v = .bl true := q
        subst q2
        obtain rfl : u = Value.bool true := r2
        refine ⟨rfl, OldK.of_keep fun b o e => ?_, os, bare⟩
        rcases hO b with z | ⟨ob, xs, z⟩
        · exact un.keep b o e z (fun m => nomatch (show b ∈ ([] : List Addr) from m)) (fun m => nomatch m)
        · have z2 := un.frzs b ob _ z
          obtain ⟨e1, _⟩ := hok b _ z
          obtain ⟨e2, _⟩ := hok2 b _ z2
          rw [e] at e1
          cases e1
          exact e2
  by_cases hk : K.lookup a = none
  · refine go (fun b => if b = a then some (.frz { cls := .type "list", data := .seq vs.toArray } (.lst (ns.map V.int))) else none) (fun b => ?_) (.inl (.inr ⟨_, if_pos rfl⟩)) (fun b u z => ?_) (fun b u z => ?_)
    · by_cases hb : b = a
      · exact .inr ⟨_, _, if_pos hb⟩
      · exact .inl (if_neg hb)
    · by_cases hb : b = a
      · subst hb
        have z2 := (if_pos rfl).symm.trans z
        cases z2
        exact ⟨ha, by rw [List.length_map]; exact hl, vs, _, rv, ha⟩
      · have z2 := (if_neg hb).symm.trans z
        cases z2
    · by_cases hb : b = a
      · exact ⟨hb, hk⟩
      · have z2 := (if_neg hb).symm.trans z
        cases z2
  · obtain ⟨o, ho⟩ : ∃ o, K.lookup a = some o := by
      cases z : K.lookup a with
      | none => exact absurd z hk
      | some o => exact ⟨o, rfl⟩
    have e := KX a o ho
    rw [ha] at e
    cases e
    exact go (fun _ => none) (fun _ => .inl rfl) (.inr ⟨_, vs.toArray, _, ho, rfl, rfl, rfl, by rw [List.size_toArray, lv]; exact hl, by simpa using rv⟩) (fun b u z => nomatch (show (none : Option HO) = some u from z)) (fun b u z => nomatch (show (none : Option HO) = some u from z))
/-- the goal that the head leaves -/
theorem walk_ofG {l : PySem.W.OpenLaw} {n k : Nat} {q : Program} {loose : List Str} {XP : (Str → Option Value) → Heap → Prop} {YP : World → Heap → Prop} {d : DefRec} {K : Params → PySem.W.Frag} {sp : World → Sp} {x : Str}
    (hn : l.most = some n) (hn2 : n ≤ sizeLine) (hdf : d.params.defaults = []) (hr : RoomG k callerA) (hY : ∀ (w : World) (h : Heap), YP w h → (K w.params).In h)
    (F : ∀ (w : World) (mg : Str → Option Value) (fa : Addr) (h : Heap), (K w.params).In h → h.Ns PySem.mainGlobals mg → mg d.name = some (.ref fa) →
      ∃ fd : FuncData, (∀ (s : Shared) (u : Value), BindsTo s fd ⟨[u], []⟩ [(x, u)]) ∧ ∀ base : Heap, (K w.params).In base → base.Ns PySem.mainGlobals mg → FnG l.prog w (K w.params) mg base k fa fd [x] (sp w))
    (hsp : ∀ (w : World) (H : Hp) (a : Addr) (ns : List Int), ns.length ≤ n → Only H → SqL (K w.params) H a (ns.map V.int) → sp w [.ref a] H (fun v _ => v = .bl true) fun _ _ _ => False) :
    PySem.W.WalkO q loose XP YP l.row.toRowW d [] (fun f vs => PySem.call f vs) := by
  refine Att.attach_call hn hdf fun w s0 s1 mg mb fa o pm cd doc a vs ns G Y ho hd hcd hmg hobj hints hlen hg => ?_
  obtain ⟨fd, hb, hF⟩ := F w mg fa _ (hY w _ Y) G.T.g hmg
  exact law_callG (hY w _ Y) G.T.g G.T.b G.T.builtins G.T.nolimit hg hobj hints (Nat.le_trans hlen hn2) hr hF hb fun H hO hS => hsp w H a ns hlen hO hS
end Lw

set_option maxRecDepth 100000
set_option maxHeartbeats 4000000
/-! readings, a step a lemma -/
namespace Lw
open PySem L2
section
variable {σ : St} {H : Hp} {Q : VK} {D : Ends} {K : PySem.W.Frag} {ta tb te tc : TE} {t u : TT} {v : V} {i j : Int} {r : R2} {a : Addr} {xs : List V}
theorem d_var {i : Nat} {v : V} (h : σ[i]? = some (some v)) (q : Q v H) : tVar i σ H Q := ⟨v, h, q⟩
theorem d_c (q : Q v H) : tC v σ H Q := q
theorem d_op (q : ta σ H fun x H1 => tb σ H1 fun y H2 => r x y H2 Q) : tOp r ta tb σ H Q := q
theorem d_un {r : V → Hp → VK → Prop} (q : ta σ H fun x H1 => r x H1 Q) : tUn r ta σ H Q := q
theorem d_I0 {g : Int → Int → V} (q : Q (g i j) H) : rI0 g (.int i) (.int j) H Q := ⟨i, j, rfl, rfl, q⟩
theorem d_I {C : Int → Int → Prop} {g : Int → Int → V} (c : C i j) (q : Q (g i j) H) : rI C g (.int i) (.int j) H Q := ⟨i, j, rfl, rfl, c, q⟩
theorem d_U {g : Int → V} (q : Q (g i) H) : rU g (.int i) H Q := ⟨i, rfl, q⟩
theorem d_eq {x y : V} (c : scal x y = true) (q : Q (.bl (decide (x = y))) H) : rEq x y H Q := ⟨c, q⟩
theorem d_ne {x y : V} (c : scal x y = true) (q : Q (.bl (!decide (x = y))) H) : rNe x y H Q := ⟨c, q⟩
theorem d_nil {Q : List V → Hp → Prop} (q : Q [] H) : tNil σ H Q := q
theorem d_cons {tr : TA} {Q : List V → Hp → Prop} (q : te σ H fun x H1 => tr σ H1 fun xs H2 => Q (x :: xs) H2) : tCons te tr σ H Q := q
theorem d_tup {t : TA} (q : t σ H fun xs H1 => xs.length ≤ sizeLine ∧ ∀ p, H1 p = none → Q (.ref p) (upd H1 p (.tup xs))) : tTup t σ H Q := q
theorem d_lst {t : TA} (q : t σ H fun xs H1 => xs.length ≤ sizeLine ∧ ∀ p, H1 p = none → Q (.ref p) (upd H1 p (.lst xs))) : tLst t σ H Q := q
theorem d_cb {t : TA} {r : List V → Hp → VK → Prop} (q : t σ H fun vs H1 => r vs H1 Q) : tCB r t σ H Q := q
theorem d_ckw {t tk : TA} {r : List V → List V → Hp → VK → Prop} (q : t σ H fun vs H1 => tk σ H1 fun zs H2 => r vs zs H2 Q) : tCKw r t tk σ H Q := q
theorem d_call {sp : Sp} {dvs : List V} {E : XK} {t : TA} (q : t σ H fun vs H1 => sp (vs ++ dvs) H1 Q E) : tCall sp dvs E t σ H Q := q
theorem d_slice {r : V → Option Int → Option Int → Hp → VK → Prop} {tl th : TO} (q : te σ H fun x H1 => tl σ H1 fun lo H2 => th σ H2 fun hi H3 => r x lo hi H3 Q) : tSl r te tl th σ H Q := q
theorem d_part {Q : Option Int → Hp → Prop} (q : te σ H fun x H1 => ∃ i, x = .int i ∧ Q (some i) H1) : tPart te σ H Q := q
theorem d_nopart {Q : Option Int → Hp → Prop} (q : Q none H) : tNoPart σ H Q := q
theorem d_bm0 {T : String} {r : V → List V → Hp → VK → Prop} (q : te σ H fun x H1 => tyV K T x H1 ∧ r x [] H1 Q) : tBM0 K T r te σ H Q := q
theorem d_bm {T : String} {r : V → List V → Hp → VK → Prop} {t : TA} (q : te σ H fun x H1 => tyV K T x H1 ∧ t σ H1 fun xs H2 => r x xs H2 Q) : tBM K T r te t σ H Q := q
theorem d_next (q : D.nx σ H) : tNext D σ H := q
theorem d_seq {t u : TS} (q : t { D with nx := u D } σ H) : tSeq t u D σ H := q
theorem d_drop (q : te σ H fun _ H1 => D.nx σ H1) : tDrop te D σ H := q
theorem d_ret (q : te σ H D.rt) : tRet te D σ H := q
theorem d_retN (q : D.rt .non H) : tRetN D σ H := q
theorem d_asg {g : TG} (q : te σ H fun x H1 => g x σ H1 D.nx) : tAsg te g D σ H := q
theorem d_name {n : Nat} {x : V} {Q : St → Hp → Prop} (q : Q (σ.set n (some x)) H) : gName n x σ H Q := q
theorem d_ifs {c : TT} {t u : TS} (q : c σ H fun b H1 => if b = true then t D σ H1 else u D σ H1) : tIfS c t u D σ H := q
theorem d_ifx {c : TT} (q : c σ H fun b H1 => if b = true then ta σ H1 Q else tb σ H1 Q) : tIf c ta tb σ H Q := q
theorem d_test {Q : Bool → Hp → Prop} (q : te σ H fun x H1 => ∃ k, x = .bl k ∧ Q k H1) : tTest te σ H Q := q
theorem d_tB {Q : Bool → Hp → Prop} (q : te σ H fun x H1 => ∃ k, x = .bl k ∧ Q k H1) : tB te σ H Q := q
theorem d_tnot {Q : Bool → Hp → Prop} (q : t σ H fun c H1 => Q (!c) H1) : tNot t σ H Q := q
theorem d_tand {Q : Bool → Hp → Prop} (q : t σ H fun c H1 => if c = true then u σ H1 Q else Q false H1) : tAnd t u σ H Q := q
theorem d_tor {Q : Bool → Hp → Prop} (q : t σ H fun c H1 => if c = true then Q true H1 else u σ H1 Q) : tOr t u σ H Q := q
theorem d_andV (q : ta σ H fun x H1 => ∃ c, x = .bl c ∧ if c = true then tb σ H1 Q else Q (.bl false) H1) : tAndV ta tb σ H Q := q
theorem d_orV (q : ta σ H fun x H1 => ∃ c, x = .bl c ∧ if c = true then Q (.bl true) H1 else tb σ H1 Q) : tOrV ta tb σ H Q := q
theorem d_notV (q : ta σ H fun x H1 => ∃ c, x = .bl c ∧ Q (.bl (!c)) H1) : tNotV ta σ H Q := q
theorem d_ixL {p : Addr} (h : SqL K H p xs) (e : atI xs i = some v) (q : Q v H) : rIxL K (.ref p) (.int i) H Q := ⟨p, xs, i, v, rfl, rfl, h, e, q⟩
theorem d_ixT {p : Addr} (h : SqT K H p xs) (e : atI xs i = some v) (q : Q v H) : rIxT K (.ref p) (.int i) H Q := ⟨p, xs, i, v, rfl, rfl, h, e, q⟩
end
theorem ite_bl {A B : Prop} {b : Bool} (h1 : b = true → A) (h2 : b = false → B) : if b = true then A else B := by
  cases b with
  | true => rw [if_pos rfl]; exact h1 rfl
  | false => rw [if_neg Bool.false_ne_true]; exact h2 rfl
theorem ite_dc {A B : Prop} {p : Prop} [Decidable p] (h1 : p → A) (h2 : ¬ p → B) : if decide p = true then A else B :=
  ite_bl (fun e => h1 (of_decide_eq_true e)) (fun e => h2 (of_decide_eq_false e))
theorem ite_ndc {A B : Prop} {p : Prop} [Decidable p] (h1 : ¬ p → A) (h2 : p → B) : if (!decide p) = true then A else B :=
  ite_bl (fun e => h1 (by simpa using e)) (fun e => h2 (by simpa using e))
theorem sqL {K : PySem.W.Frag} {H : Hp} {a : Addr} {xs : List V} (h : H a = some (.lst xs)) : SqL K H a xs := .inl (.inl h)
theorem sqT {K : PySem.W.Frag} {H : Hp} {a : Addr} {xs : List V} (h : H a = some (.tup xs)) : SqT K H a xs := .inl (.inl h)
theorem atI_of {α : Type} {xs : List α} {k : Int} {v : α} (h0 : 0 ≤ k) (h : xs[k.toNat]? = some v) : atI xs k = some v := by
  have e : k = ((k.toNat : Nat) : Int) := by omega
  rw [e]
  exact atI_nat h
theorem smallN {n : Nat} (h : n ≤ 1000000) : n ≤ sizeLine := le_line h
theorem smallL {n : Nat} (h : n < 1000000) : n < sizeLine := by rw [sizeLine_eq]; omega
end Lw
namespace Lw
open PySem L2
section
variable {H : Hp} {Q : VK} {K : PySem.W.Frag} {i : Int} {p : Addr} {xs : List V}
theorem d_ixLc {v : V} (h : H p = some (.lst xs)) (e : atI xs i = some v) (q : Q v H) : rIxL K (.ref p) (.int i) H Q := ⟨p, xs, i, v, rfl, rfl, sqL h, e, q⟩
theorem d_ixTc {v : V} (h : H p = some (.tup xs)) (e : atI xs i = some v) (q : Q v H) : rIxT K (.ref p) (.int i) H Q := ⟨p, xs, i, v, rfl, rfl, sqT h, e, q⟩
end
end Lw
namespace Lw
open PySem L2
section
variable {H : Hp} {Q : Hp → Prop} {i : Int} {p : Addr} {xs : List V} {j : Nat} {v : V}
theorem d_setL (h : H p = some (.lst xs)) (e : ixN xs.length i = some j) (q : Q (upd H p (.lst (xs.set j v)))) : rSetL (.ref p) (.int i) v H Q := ⟨p, xs, i, j, rfl, rfl, h, e, q⟩
end
end Lw
namespace Lw
open PySem L2
theorem d_sub {to ti : TE} {t : TSet} {v : V} {σ : St} {H : Hp} {Q : St → Hp → Prop} (q : to σ H fun o H1 => ti σ H1 fun i H2 => t o i v H2 fun H3 => Q σ H3) : gSub to ti t v σ H Q := q
end Lw
namespace Lw
open PySem PySem.Spec L2
section
variable {P : Program} {w : World} {K : PySem.W.Frag} {mg : Str → Option Value} {base : Heap}
/-- a def of the module as it stands behind the top, under its own name, no defaults -/
structure Df (K : PySem.W.Frag) (mg : Str → Option Value) (x : Str) (st : Stmt) (ps : List Str) : Prop where
  ex : ∃ (f : Addr) (fd : FuncData), Fun K x x st f fd ∧ mg x = some (.ref f) ∧ Binds K fd ps []
/-- a def that may be called under its name, and keeps the promise -/
structure Cl (P : Program) (w : World) (K : PySem.W.Frag) (mg : Str → Option Value) (base : Heap) (k : Nat) (x : Str) (ps : List Str) (sp : Sp) : Prop where
  ex : ∃ (f : Addr) (fd : FuncData), FnG P w K mg base k f fd ps sp ∧ mg x = some (.ref f) ∧ PySem.W.keepIn K (.ref f) = true ∧ Binds K fd ps []
theorem Cl.mono {j k : Nat} {x : Str} {ps : List Str} {sp : Sp} (c : Cl P w K mg base j x ps sp) (h : j ≤ k) : Cl P w K mg base k x ps sp := by
  obtain ⟨f, fd, F, m, kp, b⟩ := c.ex
  exact ⟨f, fd, F.mono h, m, kp, b⟩
theorem Cl.imp {k : Nat} {x : Str} {ps : List Str} {sp sp' : Sp} (c : Cl P w K mg base k x ps sp) (h : ∀ vs H Q E, sp' vs H Q E → sp vs H Q E) : Cl P w K mg base k x ps sp' := by
  obtain ⟨f, fd, F, m, kp, b⟩ := c.ex
  exact ⟨f, fd, F.imp h, m, kp, b⟩
theorem Df.ok {x : Str} {st : Stmt} {N ps : List Str} {k : Nat} {sp : Sp} (D : Df K mg x st ps) (S : FnScope N ps (defScope st)) (len : ∀ vs H Q E, sp vs H Q E → vs.length = ps.length)
    (body : ∀ (f : Addr) (cdv : Value) (A : Around) (outer : List Env) (s : Shared) (H : Hp) (vs : List V) (Q : VK) (E : XK), RoomG k (A.deeper (PyProof.Rows.envOfC x (defScope st) s.heap.objs.size f cdv)) → sp vs H Q E →
      ∃ t, PSs (cxOf CX0 P w K mg base N x (defScope st) f cdv A outer s H E).nox (defBody st) t ∧ t { nx := fun _ H' => Q .non H', rt := Q } (start N vs) H) : Cl P w K mg base (k + 1) x ps sp := by
  obtain ⟨f, fd, F, m, b⟩ := D.ex
  exact ⟨f, fd, Fun.okG F S len (fun cdv A outer s H vs Q E hr h => body f cdv A outer s H vs Q E hr h), m, F.kp, b⟩
/-- a promise that nothing can ask for -/
theorem Df.none {x : Str} {st : Stmt} {N ps : List Str} {k : Nat} {sp : Sp} (D : Df K mg x st ps) (no : ∀ vs H Q E, ¬ sp vs H Q E) : Cl P w K mg base k x ps sp := by
  obtain ⟨f, fd, F, m, b⟩ := D.ex
  exact ⟨f, fd, ⟨fun vs H Q E h => absurd h (no vs H Q E), fun A outer s H args us vs Q E _ _ _ _ h => absurd h (no vs H Q E)⟩, m, F.kp, b⟩
end
section
variable {X : Cx} {k j : Nat} {x : Str} {ps : List Str} {sp : Sp} {p pos : Pos} {e : Expr} {es : List Expr} {t : TA}
theorem pe_cl (c : Cl X.prog X.w X.K X.mg X.base k x ps sp) (hr : RoomG j X.A) (hk : k ≤ j) (hg : Gl X x) (ha : PA X (e :: es) t)
    (hdb : (x == ("__debug__" : Str)) = false := by decide) (he : starEach (e :: es) X.env = (false, eval e X.env) :: starEach es X.env := by rfl) (hpl : (backTo pos (starEach es X.env)).any (·.1) = false := by rfl) :
    PE X (.Call (.Name x p) (e :: es) [] pos) (tCall sp [] E0 t) := by
  obtain ⟨f, fd, F, hm, kp, b⟩ := c.ex
  exact pe_callG F (hr.mono hk) hg hm kp b ha hdb he hpl
end
/-! ### texts -/
theorem atI_all {α : Type} {P : α → Prop} {l : List α} (h : ∀ c ∈ l, P c) {k : Int} (h0 : 0 ≤ k) (h1 : k < l.length) : ∃ c, atI l k = some c ∧ P c := by
  have hk : k.toNat < l.length := by omega
  exact ⟨l[k.toNat], atI_of h0 (List.getElem?_eq_getElem hk), h _ (List.getElem_mem hk)⟩
theorem str_app (a b : Str) : (a ++ b).cps.toList = a.cps.toList ++ b.cps.toList := by
  show (a.cps ++ b.cps).toList = _
  rw [Array.toList_append]
theorem str_len (a : Str) : a.length = a.cps.toList.length := by
  show a.cps.size = _
  rw [Array.length_toList]
theorem cut_take (z : Str) (k : Int) (h : 0 ≤ k) : (cutS z none (some k)).cps.toList = z.cps.toList.take k.toNat := by
  obtain ⟨n, rfl⟩ := Int.eq_ofNat_of_zero_le h
  unfold cutS
  rw [HT.sIx_none, HT.sIx_nat, str_len]
  show ((z.cps.toList.drop 0).take (min n z.cps.toList.length - 0)).toArray.toList = _
  rw [List.drop_zero, Nat.sub_zero, List.toList_toArray, Int.toNat_natCast, ← List.take_eq_take_min]
theorem name_take {z : Str} {l : List Nat} {n : Nat} (e : z.cps.toList = l.take n) (hn : 0 < n) (hn2 : n ≤ 16) (hl : 0 < l.length) (ho : (l.take n).length ≤ 3 ∨ (l.take n).length = 16) (h1 : ∀ c, l[0]? = some c → smallC c) (h2 : ∀ c ∈ l, signC c) : NameOk z := by
  refine ⟨?_, ?_, fun c hc => ?_, fun c hc => ?_, by rw [e]; exact ho⟩
  · rw [e, List.length_take]; omega
  · rw [e, List.length_take]; omega
  · rw [e, List.getElem?_take, if_pos hn] at hc
    exact h1 c hc
  · rw [e] at hc
    exact h2 c (List.mem_of_mem_take hc)
end Lw
namespace Lw
open PySem PySem.Spec L2
section
variable {K : PySem.W.Frag} {H : Hp} {l : Addr} {xs : List V} {y : V} {Q : VK} {R : Prop}
theorem d_tyL (h : H l = some (.lst xs)) (q : R) : tyV K "list" (.ref l) H ∧ R := ⟨.inl ⟨rfl, _, sqL h⟩, q⟩
theorem d_app (h : H l = some (.lst xs)) (hl : xs.length < 1000000) (q : Q .non (upd H l (.lst (xs ++ [y])))) : rAppend (.ref l) [y] H Q := ⟨l, xs, y, rfl, rfl, h, smallL hl, q⟩
end
/-! ### symbols -/
theorem SymsAt.keep {H H' : Hp} {p : Addr} {zs : List (Str × Int)} (h : SymsAt H p zs) {l : List Addr} (k : Kp l H H') (hp : p ∉ l) (hl : ∀ a ∈ l, ∀ xs, H a ≠ some (.tup xs)) : SymsAt H' p zs := by
  obtain ⟨rs, e, el, hr⟩ := h.is
  exact ⟨⟨rs, k _ _ hp e, el, fun i r z a b => k.keepT hl _ _ (hr i r z a b)⟩, h.ok⟩
theorem SymsAt.tape {H H' : Hp} {t sc p : Addr} {ns : List Int} {zs : List (Str × Int)} (h : SymsAt H p zs) (T : TapeAt H t sc ns) (k : Kp [t] H H') (hp : p ≠ t) : SymsAt H' p zs :=
  h.keep k (fun z => by rcases List.mem_cons.mp z with z | z; exact hp z; cases z) (fun a ha xs e => by
    rcases List.mem_cons.mp ha with z | z
    · obtain ⟨⟨pl, pd, sd, h0, e2⟩, _, _⟩ := T
      rw [z, e2] at e; cases e
    · cases z)
theorem SymsAt.nil {H : Hp} {p : Addr} (h : H p = some (.lst [])) : SymsAt H p [] := ⟨⟨[], h, rfl, fun i r z a _ => by simp at a⟩, fun z hz => by cases hz⟩
theorem SymsAt.get {H : Hp} {p : Addr} {zs : List (Str × Int)} (h : SymsAt H p zs) {k : Int} (h0 : 0 ≤ k) (h1 : k < zs.length) :
    ∃ (xs : List V) (r : Addr) (z : Str) (n : Int), H p = some (.lst xs) ∧ xs.length = zs.length ∧ atI xs k = some (.ref r) ∧ H r = some (.tup [.str z, .int n]) ∧ NameOk z ∧ 0 ≤ n ∧ n ≤ 3 ∧ zs[k.toNat]? = some (z, n) := by
  obtain ⟨rs, e, el, hr⟩ := h.is
  have hk : k.toNat < rs.length := by omega
  have hz : k.toNat < zs.length := by omega
  have ok := h.ok _ (List.getElem_mem hz)
  exact ⟨_, rs[k.toNat], zs[k.toNat].1, zs[k.toNat].2, e, by rw [List.length_map, el], atI_of h0 (by rw [List.getElem?_map, List.getElem?_eq_getElem hk]; rfl),
    hr _ _ _ (List.getElem?_eq_getElem hk) (List.getElem?_eq_getElem hz), ok.1, ok.2.1, ok.2.2, List.getElem?_eq_getElem hz⟩
/-- a further symbol at the end -/
theorem SymsAt.push {H : Hp} {p r : Addr} {zs : List (Str × Int)} {xs : List V} {z : Str} {n : Int} (h : SymsAt H p zs) (e : H p = some (.lst xs)) (er : H r = some (.tup [.str z, .int n])) (hz : NameOk z) (h0 : 0 ≤ n) (h1 : n ≤ 3) :
    SymsAt (upd H p (.lst (xs ++ [.ref r]))) p (zs ++ [(z, n)]) := by
  obtain ⟨rs, e2, el, hr⟩ := h.is
  have ex : xs = rs.map V.ref := by rw [e] at e2; cases e2; rfl
  have nt : ∀ b ys, H b = some (.tup ys) → b ≠ p := fun b ys eb z => by rw [z, e] at eb; cases eb
  refine ⟨⟨rs ++ [r], by rw [upd_same, ex, List.map_append]; rfl, by rw [List.length_append, List.length_append, el]; rfl, fun i a y ea ey => ?_⟩, fun y hy => ?_⟩
  · by_cases hi : i < rs.length
    · rw [List.getElem?_append_left hi] at ea
      rw [List.getElem?_append_left (by omega)] at ey
      have q := hr i a y ea ey
      rw [upd_ne (nt _ _ q)]
      exact q
    · have hi2 : i = rs.length := by
        have := (List.getElem?_eq_some_iff.mp ea).1
        rw [List.length_append] at this
        simp at this
        omega
      subst hi2
      rw [List.getElem?_append_right (Nat.le_refl _), Nat.sub_self] at ea
      rw [el, List.getElem?_append_right (Nat.le_refl _), Nat.sub_self] at ey
      cases ea
      cases ey
      rw [upd_ne (nt _ _ er)]
      exact er
  · rcases List.mem_append.mp hy with hy | hy
    · exact h.ok y hy
    · rcases List.mem_cons.mp hy with rfl | hy
      · exact ⟨hz, h0, h1⟩
      · cases hy
end Lw
namespace Lw
open PySem PySem.Spec L2
/-! ### loops -/
def FrB (J : It) (g : TG) (tb : TS) (D : Ends) (σ : St) (H : Hp) : Prop := ∃ W : Nat → Nat → St → Hp → Prop, (∃ m, W 0 m σ H) ∧ ∀ i m σ H, W i m σ H →
  (J.stop i H ∧ D.nx σ H) ∨ (J.go i H ∧ ∃ N : St → Hp → Prop, (∀ σ' H', N σ' H' → ∃ m', m' < m ∧ W (i + 1) m' σ' H') ∧ ∀ x H', J.yld i H x H' → g x σ H' fun σ2 H2 => tb { D with nx := N, ct := N, bk := D.nx } σ2 H2)
theorem d_for {wi : TI} {g : TG} {tb : TS} {D : Ends} {σ : St} {H : Hp} (q : wi σ H fun J H1 => FrB J g tb D σ H1) : tFor wi g tb D σ H := q
theorem d_rng1 {ta : TA} {σ : St} {H : Hp} {R : It → Hp → Prop} (q : ta σ H fun vs H1 => ∃ j : Int, vs = [.int j] ∧ -(2 ^ 62) ≤ j ∧ j < 2 ^ 62 ∧ R (Itr 0 j.toNat) H1) : iRng1 ta σ H R := q
theorem d_rng2 {ta : TA} {σ : St} {H : Hp} {R : It → Hp → Prop} (q : ta σ H fun vs H1 => ∃ i j : Int, vs = [.int i, .int j] ∧ (-(2 ^ 62) ≤ i ∧ i < 2 ^ 62 ∧ -(2 ^ 62) ≤ j ∧ j < 2 ^ 62) ∧ R (Itr i (j - i).toNat) H1) : iRng2 ta σ H R := q
theorem d_ilist {K : PySem.W.Frag} {te : TE} {σ : St} {H : Hp} {R : It → Hp → Prop} (q : te σ H fun x H1 => ∃ a, x = .ref a ∧ (∃ xs, SqL K H1 a xs) ∧ R (Itl K a) H1) : iList K te σ H R := q
theorem d_itup {K : PySem.W.Frag} {te : TE} {σ : St} {H : Hp} {R : It → Hp → Prop} (q : te σ H fun x H1 => ∃ a, x = .ref a ∧ (∃ xs, SqT K H1 a xs) ∧ R (Itt K a) H1) : iTup K te σ H R := q
theorem fr_range {lo : Int} {n : Nat} {g : TG} {tb : TS} {D : Ends} {σ : St} {H : Hp} (Pv : Nat → St → Hp → Prop) (h0 : Pv 0 σ H)
    (hs : ∀ i σ H, i < n → Pv i σ H → g (.int (lo + i)) σ H fun σ2 H2 => tb { D with nx := Pv (i + 1), ct := Pv (i + 1), bk := D.nx } σ2 H2) (hd : ∀ σ H, Pv n σ H → D.nx σ H) : FrB (Itr lo n) g tb D σ H := for_range Pv h0 hs hd
theorem fr_list {K : PySem.W.Frag} {a : Addr} {xs : List V} {g : TG} {tb : TS} {D : Ends} {σ : St} {H : Hp} (Pv : Nat → St → Hp → Prop) (h0 : Pv 0 σ H) (hl : ∀ i σ H, i ≤ xs.length → Pv i σ H → SqL K H a xs)
    (hs : ∀ i x σ H, xs[i]? = some x → Pv i σ H → g x σ H fun σ2 H2 => tb { D with nx := Pv (i + 1), ct := Pv (i + 1), bk := D.nx } σ2 H2) (hd : ∀ σ H, Pv xs.length σ H → D.nx σ H) : FrB (Itl K a) g tb D σ H := for_list Pv h0 hl hs hd
theorem fr_tup {K : PySem.W.Frag} {a : Addr} {xs : List V} {g : TG} {tb : TS} {D : Ends} {σ : St} {H : Hp} (Pv : Nat → St → Hp → Prop) (h0 : Pv 0 σ H) (hl : ∀ i σ H, i ≤ xs.length → Pv i σ H → SqT K H a xs)
    (hs : ∀ i x σ H, xs[i]? = some x → Pv i σ H → g x σ H fun σ2 H2 => tb { D with nx := Pv (i + 1), ct := Pv (i + 1), bk := D.nx } σ2 H2) (hd : ∀ σ H, Pv xs.length σ H → D.nx σ H) : FrB (Itt K a) g tb D σ H := for_tup Pv h0 hl hs hd
/-! ### comprehensions -/
def LcB (J : It) (g : TG) (tt : TT) (te : TE) (vs : List Nat) (σ : St) (H1 : Hp) (D : Addr) (Qd : Hp → Prop) : Prop := ∃ W : Nat → Nat → Hp → Prop, (∃ m, W 0 m (upd H1 D (.lst []))) ∧ ∀ i m H, W i m H →
  (J.stop i H ∧ Qd H) ∨ (J.go i H ∧ ∃ Nx : Hp → Prop, (∀ H', Nx H' → ∃ m', m' < m ∧ W (i + 1) m' H') ∧ ∀ x H', J.yld i H x H' → g x (wipe σ vs) H' fun σ2 H2 => wipe σ2 vs = wipe σ vs ∧ tt σ2 H2 fun b H3 =>
    if b = true then te σ2 H3 fun y H4 => ∃ acc, H4 D = some (.lst acc) ∧ acc.length < sizeLine ∧ Nx (upd H4 D (.lst (acc ++ [y]))) else Nx H3)
theorem d_lc {wi : TI} {g : TG} {tt : TT} {te : TE} {vs : List Nat} {σ : St} {H : Hp} {Q : VK} (q : wi σ H fun J H1 => ∀ D, H1 D = none → LcB J g tt te vs σ H1 D fun H2 => Q (.ref D) H2) : tLc wi g tt te vs σ H Q := q
theorem lb_range {lo : Int} {n : Nat} {g : TG} {te : TE} {vs : List Nat} {σ : St} {H1 : Hp} {D : Addr} {Qd : Hp → Prop} (Pv : Nat → Hp → Prop) (h0 : Pv 0 (upd H1 D (.lst [])))
    (hs : ∀ i H, i < n → Pv i H → g (.int (lo + i)) (wipe σ vs) H fun σ2 H2 => wipe σ2 vs = wipe σ vs ∧ te σ2 H2 fun y H4 => ∃ acc, H4 D = some (.lst acc) ∧ acc.length < sizeLine ∧ Pv (i + 1) (upd H4 D (.lst (acc ++ [y])))) (hd : ∀ H, Pv n H → Qd H) :
    LcB (Itr lo n) g tYes te vs σ H1 D Qd := lc_range Pv h0 (fun i H hi p => hs i H hi p) hd
theorem lb_list {K : PySem.W.Frag} {a : Addr} {xs : List V} {g : TG} {te : TE} {vs : List Nat} {σ : St} {H1 : Hp} {D : Addr} {Qd : Hp → Prop} (Pv : Nat → Hp → Prop) (h0 : Pv 0 (upd H1 D (.lst []))) (hl : ∀ i H, i ≤ xs.length → Pv i H → SqL K H a xs)
    (hs : ∀ i x H, xs[i]? = some x → Pv i H → g x (wipe σ vs) H fun σ2 H2 => wipe σ2 vs = wipe σ vs ∧ te σ2 H2 fun y H4 => ∃ acc, H4 D = some (.lst acc) ∧ acc.length < sizeLine ∧ Pv (i + 1) (upd H4 D (.lst (acc ++ [y])))) (hd : ∀ H, Pv xs.length H → Qd H) :
    LcB (Itl K a) g tYes te vs σ H1 D Qd := lc_list Pv h0 hl (fun i x H hx p => hs i x H hx p) hd
theorem lb_tup {K : PySem.W.Frag} {a : Addr} {xs : List V} {g : TG} {te : TE} {vs : List Nat} {σ : St} {H1 : Hp} {D : Addr} {Qd : Hp → Prop} (Pv : Nat → Hp → Prop) (h0 : Pv 0 (upd H1 D (.lst []))) (hl : ∀ i H, i ≤ xs.length → Pv i H → SqT K H a xs)
    (hs : ∀ i x H, xs[i]? = some x → Pv i H → g x (wipe σ vs) H fun σ2 H2 => wipe σ2 vs = wipe σ vs ∧ te σ2 H2 fun y H4 => ∃ acc, H4 D = some (.lst acc) ∧ acc.length < sizeLine ∧ Pv (i + 1) (upd H4 D (.lst (acc ++ [y])))) (hd : ∀ H, Pv xs.length H → Qd H) :
    LcB (Itt K a) g tYes te vs σ H1 D Qd := lc_tup Pv h0 hl (fun i x H hx p => hs i x H hx p) hd
end Lw
namespace Lw
open PySem PySem.Spec L2
theorem fresh_of {H H1 : Hp} {t sc p : Addr} {ns : List Int} (k : Kp [t] H H1) (T : TapeAt H1 t sc ns) (hp : H1 p = none) : H p = none := by
  cases e : H p with
  | none => rfl
  | some o =>
    have e2 := k p o (fun z => by
      rcases List.mem_cons.mp z with z | z
      · exact T.t_some hp z.symm
      · cases z) e
    rw [hp] at e2
    cases e2
theorem kept_at {H H1 : Hp} {t p : Addr} {o : HO} (k : Kp [t] H H1) (h : p ≠ t) (e : H p = some o) : H1 p = some o := k p o (fun z => by
  rcases List.mem_cons.mp z with z | z
  · exact h z
  · cases z) e
end Lw

set_option maxRecDepth 100000
set_option maxHeartbeats 4000000
/-! drawn terms -/
namespace Lw
open PySem PySem.Spec L2
/-! ### calls with a named reading -/
section
variable {X : Cx} {K : PySem.W.Frag} {H : Hp} {Q : VK} {p : Addr} {ys : List V}
def rLenN (K : PySem.W.Frag) : List V → Hp → VK → Prop := fun xs H Q => ∃ p ys, xs = [.ref p] ∧ (SqL K H p ys ∨ SqT K H p ys) ∧ Q (.int ys.length) H
theorem c_len : CallR X (.builtin "len") (rLenN X.K) := call_len_seq
theorem d_lenL (h : H p = some (.lst ys)) (q : Q (.int ys.length) H) : rLenN K [.ref p] H Q := ⟨p, ys, rfl, .inl (sqL h), q⟩
theorem d_lenT (h : H p = some (.tup ys)) (q : Q (.int ys.length) H) : rLenN K [.ref p] H Q := ⟨p, ys, rfl, .inr (sqT h), q⟩
def rTupN (K : PySem.W.Frag) : List V → Hp → VK → Prop := fun xs H Q => ∃ p ys, xs = [.ref p] ∧ ((SqL K H p ys ∧ ∀ l, H l = none → Q (.ref l) (upd H l (.tup ys))) ∨ (SqT K H p ys ∧ Q (.ref p) H))
theorem c_tup : CallR X (.type "tuple") (rTupN X.K) := call_tuple_of
theorem d_tupL (h : H p = some (.lst ys)) (q : ∀ l, H l = none → Q (.ref l) (upd H l (.tup ys))) : rTupN K [.ref p] H Q := ⟨p, ys, rfl, .inl ⟨sqL h, q⟩⟩
theorem d_catT {a b : Addr} {xs ys : List V} (ha : H a = some (.tup xs)) (hb : H b = some (.tup ys)) (hx : xs ≠ []) (hz : xs.length + ys.length ≤ 1000000) (q1 : ys = [] → Q (.ref a) H) (q2 : ys ≠ [] → ∀ p, H p = none → Q (.ref p) (upd H p (.tup (xs ++ ys)))) :
    rCatT K (.ref a) (.ref b) H Q := ⟨a, b, xs, ys, rfl, rfl, sqT ha, sqT hb, hx, smallN hz, q1, q2⟩
end
/-- a term that may be drawn with the symbols and the variables; d: one less than the depth that is left -/
inductive Gen (zs : List (Str × Int)) (vars : List Tm) : Nat → Tm → Prop where
  | var {d : Nat} {t : Tm} (h : t ∈ vars) : Gen zs vars d t
  | leaf {z : Str} {n : Int} (h : (z, n) ∈ zs) : Gen zs vars 0 (.app z [])
  | app {d : Nat} {z : Str} {n : Int} {ts : List Tm} (h : (z, n) ∈ zs) (hl : ts.length = n.toNat) (hs : ∀ u ∈ ts, Gen zs vars d u) : Gen zs vars (d + 1) (.app z ts)
theorem Gen.depth {zs : List (Str × Int)} {vars : List Tm} {b : Nat} (hv : ∀ t ∈ vars, t.depth ≤ b) (hb : 1 ≤ b) {d : Nat} {t : Tm} (h : Gen zs vars d t) : t.depth ≤ d + b := by
  induction h with
  | var h => have := hv _ h; omega
  | leaf h => rw [Tm.depth_app, Tm.depths_nil]; omega
  | app h hl hs ih =>
    rw [Tm.depth_app]
    have := Tm.depths_le (d := _) ih
    omega
theorem Tm.sizes_le {ts : List Tm} {m : Nat} (h : ∀ t ∈ ts, t.size ≤ m) : Tm.sizes ts ≤ ts.length * m := by
  induction ts with
  | nil => rw [Tm.sizes_nil]; exact Nat.zero_le _
  | cons t r ih =>
    rw [Tm.sizes_cons, List.length_cons, Nat.succ_mul]
    have h1 := h t List.mem_cons_self
    have h2 := ih fun u hu => h u (List.mem_cons_of_mem _ hu)
    omega
/-- how great a drawn term may be: at most three arguments -/
def genMax (m : Nat) : Nat → Nat
  | 0 => m
  | d + 1 => 1 + 3 * genMax m d
theorem genMax_ge (m d : Nat) : m ≤ genMax m d := by
  induction d with
  | zero => exact Nat.le_refl _
  | succ d ih => show m ≤ 1 + 3 * genMax m d; omega
theorem Gen.size {zs : List (Str × Int)} {vars : List Tm} {m : Nat} (hz : ∀ z ∈ zs, z.2 ≤ 3) (hv : ∀ t ∈ vars, t.size ≤ m) (hm : 1 ≤ m) {d : Nat} {t : Tm} (h : Gen zs vars d t) : t.size ≤ genMax m d := by
  induction h with
  | var h => exact Nat.le_trans (hv _ h) (genMax_ge m _)
  | leaf h => rw [Tm.size_app, Tm.sizes_nil]; exact hm
  | @app d z n ts h hl hs ih =>
    rw [Tm.size_app]
    have h1 := Tm.sizes_le ih
    have h2 : ts.length ≤ 3 := by have := hz _ h; simp only at this; omega
    have h3 : ts.length * genMax m d ≤ 3 * genMax m d := Nat.mul_le_mul_right _ h2
    show 1 + Tm.sizes ts ≤ 1 + 3 * genMax m d
    omega
structure VarsAt (H : Hp) (a : Addr) (vars : List Tm) : Prop where
  is : ∃ ws : List V, H a = some (.lst ws) ∧ Ats H ws vars
theorem VarsAt.keep {H H' : Hp} {p : Addr} {vars : List Tm} (h : VarsAt H p vars) {l : List Addr} (k : Kp l H H') (hp : p ∉ l) (hl : ∀ a ∈ l, ∀ xs, H a ≠ some (.tup xs)) : VarsAt H' p vars := by
  obtain ⟨ws, e, a⟩ := h.is
  exact ⟨ws, k _ _ hp e, a.keep (k.keepT hl)⟩
theorem TapeAt.not_tup {H : Hp} {t sc : Addr} {ns : List Int} (T : TapeAt H t sc ns) (xs : List V) : H t ≠ some (.tup xs) := by
  obtain ⟨⟨pl, pd, sd, h0, e2⟩, _, _⟩ := T
  rw [e2]
  intro z
  cases z
theorem one_not {a t : Addr} (h : a ≠ t) : a ∉ [t] := fun z => by
  rcases List.mem_cons.mp z with z | z
  · exact h z
  · cases z
theorem VarsAt.tape {H H' : Hp} {t sc p : Addr} {ns : List Int} {vars : List Tm} (h : VarsAt H p vars) (T : TapeAt H t sc ns) (k : Kp [t] H H') (hp : p ≠ t) : VarsAt H' p vars :=
  h.keep k (one_not hp) (fun a ha xs e => by
    rcases List.mem_cons.mp ha with z | z
    · exact T.not_tup xs (z ▸ e)
    · cases z)
theorem VarsAt.ne {H : Hp} {t sc p : Addr} {ns : List Int} {vars : List Tm} (h : VarsAt H p vars) (T : TapeAt H t sc ns) : p ≠ t := by
  obtain ⟨ws, e, a⟩ := h.is
  obtain ⟨⟨pl, pd, sd, h0, e2⟩, e3, _⟩ := T
  intro z
  rw [z, e2] at e
  cases e
  cases vars with
  | nil => have := a.len; simp at this
  | cons x r =>
    have := a.head
    obtain ⟨n, vs, ts, _, q, _⟩ := this.app_ats
    rw [e3] at q
    cases q
theorem SymsAt.ne {H : Hp} {t sc p : Addr} {ns : List Int} {zs : List (Str × Int)} (h : SymsAt H p zs) (T : TapeAt H t sc ns) : p ≠ t := by
  obtain ⟨rs, e, _, _⟩ := h.is
  obtain ⟨⟨pl, pd, sd, h0, e2⟩, e3, _⟩ := T
  intro z
  rw [z, e2] at e
  have e4 : [V.ref sc, V.int pl, V.int pd, V.int sd] = rs.map V.ref := HO.lst.inj (Option.some.inj e)
  cases rs with
  | nil => cases e4
  | cons x r =>
    cases r with
    | nil => cases e4
    | cons y r => rw [List.map_cons, List.map_cons] at e4; injection e4 with _ e5; injection e5 with e6 _; cases e6
def spTerm (d : Nat) : Sp := fun vs H Q _ => ∃ (t sc sy va : Addr) (ns : List Int) (zs : List (Str × Int)) (vars : List Tm), vs = [.ref t, .ref sy, .ref va, .int ((d : Int) + 1)] ∧ TapeAt H t sc ns ∧ SymsAt H sy zs ∧ 1 ≤ zs.length ∧ zs.length ≤ 100000 ∧
  VarsAt H va vars ∧ vars.length ≤ 100000 ∧ ∀ (H' : Hp) (v : V) (tm : Tm), Kp [t] H H' → TapeAt H' t sc ns → At H' v tm → Gen zs vars d tm → Q v H'
def spNone : Sp := fun _ _ _ _ => False
end Lw

set_option maxRecDepth 100000
set_option maxHeartbeats 4000000
/-! isinstance, sizes, depths, occurrences -/
namespace Lw
open PySem PySem.Spec L2
section
variable {X : Cx} {K : PySem.W.Frag} {H : Hp} {Q : VK} {a : Addr} {xs : List V}
theorem k_ii : kitB "int" "int" = some true := by decide +kernel
theorem k_ti : kitB "tuple" "int" = some false := by decide +kernel
theorem k_tt : kitB "tuple" "tuple" = some true := by decide +kernel
theorem k_it : kitB "int" "tuple" = some false := by decide +kernel
theorem k_nt : kitB "NoneType" "tuple" = some false := by decide +kernel
theorem k_ni : kitB "NoneType" "int" = some false := by decide +kernel
theorem d_isII {i : Int} (q : Q (.bl true) H) : rIsi K [.int i, .ty "int"] H Q := ⟨_, _, _, _, true, rfl, .ty _, .base (.int i), kit_ty k_ii, q⟩
theorem d_isIT {i : Int} (q : Q (.bl false) H) : rIsi K [.int i, .ty "tuple"] H Q := ⟨_, _, _, _, false, rfl, .ty _, .base (.int i), kit_ty k_it, q⟩
theorem d_isTI (h : H a = some (.tup xs)) (q : Q (.bl false) H) : rIsi K [.ref a, .ty "int"] H Q := ⟨_, _, _, _, false, rfl, .ty _, .base (.tup h), kit_ty k_ti, q⟩
theorem d_isTT (h : H a = some (.tup xs)) (q : Q (.bl true) H) : rIsi K [.ref a, .ty "tuple"] H Q := ⟨_, _, _, _, true, rfl, .ty _, .base (.tup h), kit_ty k_tt, q⟩
theorem d_isNT (q : Q (.bl false) H) : rIsi K [.non, .ty "tuple"] H Q := ⟨_, _, _, _, false, rfl, .ty _, .base .non, kit_ty k_nt, q⟩
theorem d_isNI (q : Q (.bl false) H) : rIsi K [.non, .ty "int"] H Q := ⟨_, _, _, _, false, rfl, .ty _, .base .non, kit_ty k_ni, q⟩
/-- truth of a list, as a test -/
def rTru (K : PySem.W.Frag) (x : V) (H : Hp) (Q : Bool → Hp → Prop) : Prop := ∃ k, TruV K x H k ∧ Q k H
def tTru (K : PySem.W.Frag) (ta : TE) : TT := fun σ H Q => ta σ H fun x H1 => rTru K x H1 Q
theorem p_tru {a : Expr} {ta : TE} (ha : PE X a ta) (he : ∀ whole, isTrue a X.env whole = (do let v ← whole; standAt a.pos; holding [v] (truthy v)) := by intro _; rfl) : PT X a (tTru X.K ta) := pt_truth ha he
theorem d_tru {ta : TE} {σ : St} {Q : Bool → Hp → Prop} (q : ta σ H fun x H1 => rTru K x H1 Q) : tTru K ta σ H Q := q
theorem d_truL {Q : Bool → Hp → Prop} (h : H a = some (.lst xs)) (q : Q (!xs.isEmpty) H) : rTru K (.ref a) H Q := ⟨_, .inl ⟨xs, sqL h, rfl⟩, q⟩
theorem d_popL {ys : List V} {y : V} (h : H a = some (.lst (ys ++ [y]))) (q : Q y (upd H a (.lst ys))) : rPop (.ref a) [] H Q :=
  ⟨a, _, y, rfl, rfl, h, by rw [List.length_append]; show (ys ++ [y])[ys.length + 1 - 1]? = _; rw [Nat.add_sub_cancel, List.getElem?_append_right (Nat.le_refl _), Nat.sub_self]; rfl, by rw [List.dropLast_concat]; exact q⟩
theorem d_extT {zs : List V} {b : Addr} (h : H a = some (.lst xs)) (hb : H b = some (.tup zs)) (hz : xs.length + zs.length ≤ 1000000) (q : Q .non (upd H a (.lst (xs ++ zs)))) : rExtT K (.ref a) [.ref b] H Q := ⟨a, b, xs, zs, rfl, rfl, h, sqT hb, hz, q⟩
theorem d_down {te : TE} {σ : St} (q : te σ H fun x H1 => ∃ a y xs, x = .ref a ∧ SqT K H1 a (y :: xs) ∧ ∀ p, H1 p = none → Q (.ref p) (upd H1 p (.tup xs.reverse))) : tDownT K te σ H Q := q
theorem d_while {c : TT} {tb : TS} {D : Ends} {σ : St} {m0 : Nat} (W : Nat → St → Hp → Prop) (h0 : W m0 σ H)
    (hs : ∀ m σ H, W m σ H → c σ H fun b H1 => if b = true then ∃ N : St → Hp → Prop, (∀ σ' H', N σ' H' → ∃ m', m' < m ∧ W m' σ' H') ∧ tb { D with nx := N, ct := N, bk := D.nx } σ H1 else D.nx σ H1) : tWhile c tb D σ H := ⟨W, ⟨m0, h0⟩, hs⟩
end
/-- a slice t[1:] of a tuple, a new one -/
theorem d_slT1 {K : PySem.W.Frag} {H : Hp} {Q : VK} {a : Addr} {y : V} {xs : List V} (h : H a = some (.tup (y :: xs))) (q : ∀ p, H p = none → Q (.ref p) (upd H p (.tup xs))) : rSlT K (.ref a) (some 1) none H Q := by
  have e1 : HT.sIx (y :: xs).length 0 (some 1) = 1 := by
    rw [show (1 : Int) = ((1 : Nat) : Int) from rfl, HT.sIx_nat, List.length_cons]; omega
  have e : cutV (y :: xs) (some 1) none = xs := by
    unfold cutV
    rw [e1, HT.sIx_none, List.length_cons, Nat.add_sub_cancel]
    show xs.take xs.length = xs
    exact List.take_length
  refine ⟨a, _, rfl, sqT h, fun z => ?_, fun p hp => ?_⟩
  · rw [e1] at z
    exact absurd z.1 (by decide)
  · rw [e]
    exact q p hp
def spOcc : Sp := fun vs H Q _ => ∃ (v : V) (tm : Tm), vs = [v] ∧ At H v tm ∧ tm.size ≤ 100000 ∧ ∀ (H' : Hp) (p : Addr) (fs : List V), Kp [] H H' → H p = none → H' p = some (.lst fs) → Ats H' fs tm.occ → Q (.ref p) H'
def spSize : Sp := fun vs H Q _ => ∃ (v : V) (tm : Tm), vs = [v] ∧ At H v tm ∧ tm.size ≤ 100000 ∧ ∀ (H' : Hp), Kp [] H H' → Q (.int tm.size) H'
/-- .. for terms of at most this depth -/
def spSizeD (d : Nat) : Sp := fun vs H Q _ => ∃ (v : V) (tm : Tm), vs = [v] ∧ At H v tm ∧ tm.size ≤ 100000 ∧ tm.depth ≤ d ∧ ∀ (H' : Hp), Kp [] H H' → Q (.int tm.size) H'
def spDepthD (d : Nat) : Sp := fun vs H Q _ => ∃ (v : V) (tm : Tm), vs = [v] ∧ At H v tm ∧ tm.size ≤ 100000 ∧ tm.depth ≤ d ∧ ∀ (H' : Hp), Kp [] H H' → Q (.int tm.depth) H'
theorem At.int {H : Hp} {v : V} {tm : Tm} (h : At H v tm) : (∃ i, v = .int i ∧ tm = .var i) ∨ ∃ a n vs ts, v = .ref a ∧ tm = .app n ts ∧ H a = some (.tup (.str n :: vs)) ∧ Ats H vs ts := by
  cases h with
  | var i => exact .inl ⟨i, rfl, rfl⟩
  | app e hl hs => exact .inr ⟨_, _, _, _, rfl, rfl, e, hl, hs⟩
end Lw
namespace Lw
open PySem PySem.Spec L2
/-- the last one apart -/
theorem Ats.snoc {H : Hp} {ws : List V} {wt : List Tm} (h : Ats H ws wt) (hn : ws ≠ []) : ∃ ys y us u, ws = ys ++ [y] ∧ wt = us ++ [u] ∧ Ats H ys us ∧ At H y u := by
  have hw : wt ≠ [] := fun z => hn (by have := h.len; rw [z] at this; exact List.length_eq_zero_iff.mp this)
  refine ⟨ws.dropLast, ws.getLast hn, wt.dropLast, wt.getLast hw, (List.dropLast_concat_getLast hn).symm, (List.dropLast_concat_getLast hw).symm, ?_, ?_⟩
  · rw [List.dropLast_eq_take, List.dropLast_eq_take, h.len]
    exact h.take _
  · refine h.at' (ws.length - 1) _ _ ?_ ?_
    · rw [List.getLast_eq_getElem hn, List.getElem?_eq_getElem]
    · rw [List.getLast_eq_getElem hw, h.len, List.getElem?_eq_getElem]
theorem Kp.ats {l : List Addr} {H H' : Hp} {vs : List V} {ts : List Tm} (k : Kp l H H') (hl : ∀ a ∈ l, ∀ xs, H a ≠ some (.tup xs)) (h : Ats H vs ts) : Ats H' vs ts := h.keep (k.keepT hl)
theorem no_tup {H : Hp} {a : Addr} {xs : List V} (h : H a = some (.lst xs)) : ∀ ys, H a ≠ some (.tup ys) := fun ys e => by rw [h] at e; cases e
theorem no_tup1 {H : Hp} {a : Addr} {xs : List V} (h : H a = some (.lst xs)) : ∀ b ∈ [a], ∀ ys, H b ≠ some (.tup ys) := fun b hb ys => by
  rcases List.mem_cons.mp hb with z | z
  · rw [z]; exact no_tup h ys
  · cases z
end Lw
namespace Lw
open PySem PySem.Spec L2
theorem depths_max : ∀ (ts : List Tm) (m : Int), ((ts.map fun t => (t.depth : Int)) = [] ∧ m = 0) ∨ (m ∈ (ts.map fun t => (t.depth : Int)) ∧ ∀ a, a ∈ (ts.map fun t => (t.depth : Int)) → a ≤ m) → m = (Tm.depths ts : Int)
  | ts, m, .inl ⟨h, e⟩ => by
    have z : ts = [] := List.map_eq_nil_iff.mp h
    rw [z, Tm.depths_nil, e]; rfl
  | ts, m, .inr ⟨h, hm⟩ => by
    obtain ⟨t, ht, e⟩ := List.mem_map.mp h
    have h1 := Tm.depth_mem ht
    have h2 : Tm.depths ts ≤ m.toNat := Tm.depths_le fun u hu => by
      have := hm _ (List.mem_map.mpr ⟨u, hu, rfl⟩)
      omega
    omega
theorem sizes_sum : ∀ ts : List Tm, (ts.map fun t => (t.size : Int)).sum = (Tm.sizes ts : Int)
  | [] => by rw [Tm.sizes_nil]; rfl
  | t :: r => by
    rw [List.map_cons, List.sum_cons, sizes_sum r, Tm.sizes_cons]
    omega
theorem d_maxD {K : PySem.W.Frag} {H : Hp} {Q : VK} {a : Addr} {ns : List Int} {d : Int} (h : H a = some (.lst (ns.map V.int))) (q : ∀ m : Int, ((ns = [] ∧ m = d) ∨ (m ∈ ns ∧ ∀ a, a ∈ ns → a ≤ m)) → Q (.int m) H) : rMaxD K [.ref a] [.int d] H Q := ⟨a, ns, d, rfl, rfl, sqL h, q⟩
theorem d_sum {K : PySem.W.Frag} {H : Hp} {Q : VK} {a : Addr} {ns : List Int} (h : H a = some (.lst (ns.map V.int))) (q : Q (.int ns.sum) H) : rSum K [.ref a] H Q := ⟨a, ns, rfl, sqL h, q⟩
theorem take_map_int {α : Type} (f : α → Int) (ts : List α) (i : Nat) (t : α) (h : ts[i]? = some t) : ((ts.take i).map f).map V.int ++ [V.int (f t)] = ((ts.take (i + 1)).map f).map V.int := by
  rw [List.take_add_one, h, List.map_append, List.map_append]
  rfl
end Lw
namespace Lw
open PySem PySem.Spec L2
/-- [f(x) for x in t], f handing back an int -/
theorem lb_call {α : Type} {AtR : Hp → V → α → Prop} {K : PySem.W.Frag} {r : Addr} {vs : List V} {ts : List α} {σ : St} {i : Nat} {B : Hp} {D : Addr} {Qd : Hp → Prop} {sp : Sp} (f : α → Int) (hi : i < σ.length) (hD : B D = none) (er : B r = some (.tup vs)) (hn : vs.length ≤ 100000) (hl : vs.length = ts.length)
    (at' : ∀ (j : Nat) v t H', vs[j]? = some v → ts[j]? = some t → Kp [D] B H' → H' D ≠ none → (∀ xs, H' D ≠ some (.tup xs)) → AtR H' v t)
    (call : ∀ v t H' (Q : VK) E, t ∈ ts → AtR H' v t → (∀ H'', Kp [] H' H'' → Q (.int (f t)) H'') → sp [v] H' Q E) (hd : ∀ H', Kp [D] B H' → H' D = some (.lst ((ts.map f).map V.int)) → Qd H') :
    LcB (Itt K r) (gName i) tYes (tCall sp [] E0 (tCons (tVar i) tNil)) [i] σ B D Qd := by
  have nr : r ≠ D := ne_of_none er hD
  have nr1 : r ∉ [D] := fun z => by rcases List.mem_cons.mp z with z | z; exact nr z; cases z
  refine lb_tup (xs := vs) (fun j H' => Kp [D] B H' ∧ H' D = some (.lst (((ts.take j).map f).map V.int))) ⟨Kp.new hD, upd_same⟩ (fun j H' _ h => sqT (h.1 r _ nr1 er)) (fun j v H' hv h => ?_) (fun H' h => ?_)
  · obtain ⟨kB, eD⟩ := h
    have hj : j < vs.length := (List.getElem?_eq_some_iff.mp hv).1
    have ht : ts[j]? = some ts[j] := List.getElem?_eq_getElem (by omega)
    have a1 := at' j v _ H' hv ht kB (by rw [eD]; intro z; cases z) (fun xs z => by rw [eD] at z; cases z)
    show wipe (List.set (wipe σ [i]) i (some v)) [i] = wipe σ [i] ∧ _
    refine ⟨?_, ?_⟩
    · show ((σ.set i none).set i (some v)).set i none = σ.set i none
      rw [List.set_set, List.set_set]
    refine d_call (d_cons ?_)
    refine d_var (v := v) ?_ ?_
    · show ((σ.set i none).set i (some v))[i]? = _
      rw [List.getElem?_set_self (by rw [List.length_set]; exact hi)]
    refine d_nil ?_
    refine call v ts[j] H' _ _ (List.getElem_mem _) a1 (fun H2 k2 => ?_)
    have eD2 := k2 _ _ (by simp) eD
    refine ⟨_, eD2, smallL (by rw [List.length_map, List.length_map, List.length_take]; omega), (kB.trans (k2.mono (by simp))).trans (Kp.put (by simp)), ?_⟩
    rw [upd_same, take_map_int f ts j _ ht]
  · obtain ⟨kB, eD⟩ := h
    rw [List.take_of_length_le (by omega)] at eD
    exact hd H' kB eD
end Lw
namespace Lw
open PySem L2
theorem no_tup0 {H : Hp} {a : Addr} (h : H a = none) : ∀ b ∈ [a], ∀ ys, H b ≠ some (.tup ys) := fun b hb ys e => by
  rcases List.mem_cons.mp hb with z | z
  · rw [z, h] at e; cases e
  · cases z
end Lw
namespace Lw
theorem Tm.depths_append : ∀ a b : List Tm, Tm.depths (a ++ b) = max (Tm.depths a) (Tm.depths b)
  | [], b => by rw [List.nil_append, Tm.depths_nil]; omega
  | t :: a, b => by rw [List.cons_append, Tm.depths_cons, Tm.depths_cons, Tm.depths_append a b]; omega
end Lw
namespace Lw
open PySem PySem.Spec L2
theorem d_cut {t u : TS} {D : Ends} {σ : St} {H : Hp} (Mid : St → Hp → Prop) (h : t { D with nx := Mid } σ H) (q : ∀ σ' H', Mid σ' H' → u D σ' H') : C8.tCut t u D σ H := ⟨Mid, h, q⟩
/-- told and due are one int -/
def spAlikeI : Sp := fun vs H Q _ => ∃ i : Int, vs = [.int i, .int i] ∧ i.natAbs < 2 ^ 64 ∧ ∀ H', Kp [] H H' → Q (.bl true) H'
def spTermLe (m : Nat) : Sp := fun vs H Q E => ∃ d, d ≤ m ∧ spTerm d vs H Q E
theorem log_small {i : Int} (h : i.natAbs < 2 ^ 64) : i.natAbs.log2 < 1920 := by
  by_cases z : i.natAbs = 0
  · rw [z]; decide
  · have := (Nat.log2_lt z).mpr h
    omega
end Lw
namespace Lw
open PySem PySem.Spec L2
def rReprI : List V → Hp → VK → Prop := fun xs H Q => ∃ i, xs = [.int i] ∧ i.natAbs.log2 < 1920 ∧ Q (.str (toString i)) H
theorem c_reprI {X : Cx} : CallR X (.builtin "repr") rReprI := SkE.call_repr_int
theorem d_reprI {i : Int} {H : Hp} {Q : VK} (h : i.natAbs.log2 < 1920) (q : Q (.str (toString i)) H) : rReprI [.int i] H Q := ⟨i, rfl, h, q⟩
end Lw
namespace Lw
open PySem PySem.Spec L2
/-- what the law's own draws lean on -/
structure Dw (H : Hp) (t sc sy va : Addr) (ns : List Int) (zs : List (Str × Int)) (vars : List Tm) : Prop where
  tp : TapeAt H t sc ns
  sy : SymsAt H sy zs
  va : VarsAt H va vars
theorem Dw.tape {H H' : Hp} {t sc sy va : Addr} {ns : List Int} {zs : List (Str × Int)} {vars : List Tm} (h : Dw H t sc sy va ns zs vars) (k : Kp [t] H H') (T : TapeAt H' t sc ns) : Dw H' t sc sy va ns zs vars :=
  ⟨T, h.sy.tape h.tp k (h.sy.ne h.tp), h.va.tape h.tp k (h.va.ne h.tp)⟩
theorem Dw.nil {H H' : Hp} {t sc sy va : Addr} {ns : List Int} {zs : List (Str × Int)} {vars : List Tm} (h : Dw H t sc sy va ns zs vars) (k : Kp [] H H') : Dw H' t sc sy va ns zs vars :=
  h.tape (k.mono (by simp)) (h.tp.nil k)
theorem At.nil {H H' : Hp} {v : V} {tm : Tm} (h : At H v tm) (k : Kp [] H H') : At H' v tm := h.keep (k.keepT (by simp))
theorem At.tape {H H' : Hp} {v : V} {tm : Tm} {t sc : Addr} {ns : List Int} (h : At H v tm) (k : Kp [t] H H') (T : TapeAt H t sc ns) : At H' v tm := h.keep (T.keepT k)
theorem cutV_take (xs : List V) (n : Int) (h : 0 ≤ n) : cutV xs none (some n) = xs.take n.toNat := by
  obtain ⟨m, rfl⟩ := Int.eq_ofNat_of_zero_le h
  unfold cutV
  rw [HT.sIx_none, HT.sIx_nat]
  show ((xs.drop 0).take (min m xs.length - 0)) = _
  rw [List.drop_zero, Nat.sub_zero, Int.toNat_natCast, ← List.take_eq_take_min]
theorem ats_ints {H : Hp} : ∀ is : List Int, Ats H (is.map V.int) (is.map Tm.var)
  | [] => .nil
  | i :: r => .cons (.var i) (ats_ints r)
theorem d_slL {K : PySem.W.Frag} {H : Hp} {Q : VK} {a : Addr} {xs : List V} {lo hi : Option Int} (h : H a = some (.lst xs)) (q : ∀ p, H p = none → Q (.ref p) (upd H p (.lst (cutV xs lo hi)))) : rSlL K (.ref a) lo hi H Q := ⟨a, xs, rfl, sqL h, q⟩
theorem Dw.sym0 {H : Hp} {t sc sy va : Addr} {ns : List Int} {zs : List (Str × Int)} {vars : List Tm} (h : Dw H t sc sy va ns zs vars) {k : Int} (h0 : 0 ≤ k) (h1 : k < zs.length) :
    ∃ (xs : List V) (r : Addr) (z : Str) (n : Int), H sy = some (.lst xs) ∧ xs.length = zs.length ∧ atI xs k = some (.ref r) ∧ H r = some (.tup [.str z, .int n]) ∧ NameOk z := by
  obtain ⟨xs, r, z, n, a, b, c, d, e, _⟩ := h.sy.get h0 h1
  exact ⟨xs, r, z, n, a, b, c, d, e⟩
/-- [draw(..) for k in range(n)]: drawn terms -/
theorem lb_terms {t sc sy va : Addr} {ns : List Int} {zs : List (Str × Int)} {vars : List Tm} {σ : St} {i m d : Nat} {n : Nat} {B : Hp} {D : Addr} {Qd : Hp → Prop} {te : TE} (hD : B D = none) (W : Dw B t sc sy va ns zs vars) (z1 : 1 ≤ zs.length) (z2 : zs.length ≤ 100000) (v2 : vars.length ≤ 100000) (hn : n ≤ 100000)
    (hte : ∀ j H' (Q : VK), spTermLe m [.ref t, .ref sy, .ref va, .int ((d : Int) + 1)] H' Q E0 → te (((wipe σ [i]).set i (some (.int (0 + (j : Nat)))))) H' Q) (hd0 : d ≤ m)
    (hd : ∀ H' vs ts, Kp [D, t] B H' → H' D = some (.lst vs) → Ats H' vs ts → ts.length = n → (∀ u ∈ ts, Gen zs vars d u) → Dw H' t sc sy va ns zs vars → Qd H') :
    LcB (Itr 0 n) (gName i) tYes te [i] σ B D Qd := by
  have nD1 : D ≠ t := fun z => W.tp.t_some hD z.symm
  have nD2 : D ≠ sc := fun z => W.tp.s_some hD z.symm
  have nD3 : D ≠ sy := fun z => by obtain ⟨_, q1, _⟩ := W.sy.is; exact ne_of_none q1 hD z.symm
  have nD4 : D ≠ va := fun z => by obtain ⟨_, q1, _⟩ := W.va.is; exact ne_of_none q1 hD z.symm
  have i1 : ∀ {a : Addr}, D ≠ a → a ∉ [D] := fun h z => by rcases List.mem_cons.mp z with z | z; exact h z.symm; cases z
  refine lb_range (fun j H2 => ∃ vs ts, H2 D = some (.lst vs) ∧ Ats H2 vs ts ∧ ts.length = j ∧ (∀ u ∈ ts, Gen zs vars d u) ∧ Kp [D, t] B H2 ∧ Dw H2 t sc sy va ns zs vars)
    ⟨[], [], upd_same, .nil, rfl, (fun u hu => by cases hu), Kp.new hD, W.nil (Kp.new hD)⟩ (fun j H2 hj h2 => ?_) (fun H2 h2 => ?_)
  · obtain ⟨vs, ts, eD, aD, lD, gD, kD, W2⟩ := h2
    show wipe (List.set (wipe σ [i]) i (some (.int (0 + (j : Nat))))) [i] = wipe σ [i] ∧ _
    refine ⟨by show ((σ.set i none).set i _).set i none = σ.set i none; rw [List.set_set, List.set_set], ?_⟩
    refine hte j H2 _ ⟨d, hd0, t, sc, sy, va, ns, zs, vars, rfl, W2.tp, W2.sy, z1, z2, W2.va, v2, fun H4 v tm k4 T4 a4 g4 => ?_⟩
    have W4 := W2.tape k4 T4
    have eD4 := kept_at k4 nD1 eD
    have kd : Kp [D] H4 (upd H4 D (.lst (vs ++ [v]))) := Kp.put (by simp)
    refine ⟨vs, eD4, smallL (by rw [aD.len, lD]; omega), vs ++ [v], ts ++ [tm], upd_same, ?_, by rw [List.length_append, lD]; rfl, fun u hu => ?_, ?_, ?_⟩
    · exact kd.ats (no_tup1 eD4) ((aD.keep (W2.tp.keepT k4)).append (.one a4))
    · rcases List.mem_append.mp hu with hu | hu
      · exact gD u hu
      · rcases List.mem_cons.mp hu with rfl | hu
        · exact g4
        · cases hu
    · exact (kD.trans (k4.mono fun b hb => List.mem_cons_of_mem _ hb)).trans (Kp.put (by simp))
    · exact ⟨T4.keep kd (i1 nD1) (i1 nD2), W4.sy.keep kd (i1 nD3) (no_tup1 eD4), W4.va.keep kd (i1 nD4) (no_tup1 eD4)⟩
  · obtain ⟨vs, ts, eD, aD, lD, gD, kD, W2⟩ := h2
    exact hd H2 vs ts kD eD aD lD gD W2
end Lw
namespace Lw
open PySem PySem.Spec L2
theorem df_mk {K : PySem.W.Frag} {h : Heap} {mg : Str → Option Value} {x : Str} {st : Stmt} {ps : List Str} (X : K.In h) (G : h.Ns PySem.mainGlobals mg) {f : Addr} {oc : Value} {od an : Option Addr} {osl : Array (Option Value)} {kV doc pm cdv ct : Value}
    (a : PySem.W.nsIn K PySem.mainGlobals x = some (some (.ref f))) (l : K.lookup f = some ⟨oc, od, .func (PySem.W.fnOf x x (defArgs st) (defBody st) (defScope st) .none kV doc pm an cdv ct), osl⟩) (c : PySem.W.codeIn K cdv x = true) (kp : PySem.W.keepIn K (.ref f) = true)
    (b : ∀ (kV doc pm : Value) (an : Option Addr) (cdv ct : Value) (us : List Value), us.length = ps.length → bindArgs (PySem.W.fnOf x x (defArgs st) (defBody st) (defScope st) .none kV doc pm an cdv ct) ⟨us, []⟩ = pure (ps.zip us)) : Df K mg x st ps := by
  have F := fun_mk (st := st) l c kp
  exact ⟨f, _, F, PySem.W.mg_of X G a, F.binds b⟩
end Lw
namespace Lw
open PySem PySem.Spec L2
/-- [draw(..) for k in range(n)]: whatever each turn does, it draws and hands back a term that G holds of -/
theorem lb_gen {t sc sy : Addr} {ns : List Int} {zs : List (Str × Int)} {σ : St} {i : Nat} {n : Nat} {B : Hp} {D : Addr} {Qd : Hp → Prop} {te : TE} {α : Type} {AtR : Hp → List V → List α → Prop} (hD : B D = none) (T : TapeAt B t sc ns) (S : SymsAt B sy zs) (hn : n ≤ 100000)
    (G : α → Prop) (r0 : ∀ H, AtR H [] []) (rl : ∀ H vs ts, AtR H vs ts → vs.length = ts.length) (rk : ∀ H H' vs ts, KeepT H H' → AtR H vs ts → AtR H' vs ts)
    (hte : ∀ j H' (Q : VK), TapeAt H' t sc ns → SymsAt H' sy zs → (∀ H2 v a, Kp [t] H' H2 → TapeAt H2 t sc ns → (∀ vs ts, AtR H2 vs ts → AtR H2 (vs ++ [v]) (ts ++ [a])) → G a → Q v H2) → te (((wipe σ [i]).set i (some (.int (0 + (j : Nat)))))) H' Q)
    (hd : ∀ H' vs ts, Kp [D, t] B H' → H' D = some (.lst vs) → AtR H' vs ts → ts.length = n → (∀ u ∈ ts, G u) → TapeAt H' t sc ns → SymsAt H' sy zs → Qd H') :
    LcB (Itr 0 n) (gName i) tYes te [i] σ B D Qd := by
  have nD1 : D ≠ t := fun z => T.t_some hD z.symm
  have nD2 : D ≠ sc := fun z => T.s_some hD z.symm
  have nD3 : D ≠ sy := fun z => by obtain ⟨_, q1, _⟩ := S.is; exact ne_of_none q1 hD z.symm
  have i1 : ∀ {a : Addr}, D ≠ a → a ∉ [D] := fun h z => by rcases List.mem_cons.mp z with z | z; exact h z.symm; cases z
  refine lb_range (fun j H2 => ∃ vs ts, H2 D = some (.lst vs) ∧ AtR H2 vs ts ∧ ts.length = j ∧ (∀ u ∈ ts, G u) ∧ Kp [D, t] B H2 ∧ TapeAt H2 t sc ns ∧ SymsAt H2 sy zs)
    ⟨[], [], upd_same, r0 _, rfl, (fun u hu => by cases hu), Kp.new hD, T.nil (Kp.new hD), S.keep (l := []) (Kp.new hD) (by simp) (by simp)⟩ (fun j H2 hj h2 => ?_) (fun H2 h2 => ?_)
  · obtain ⟨vs, ts, eD, aD, lD, gD, kD, T2, S2⟩ := h2
    show wipe (List.set (wipe σ [i]) i (some (.int (0 + (j : Nat))))) [i] = wipe σ [i] ∧ _
    refine ⟨by show ((σ.set i none).set i _).set i none = σ.set i none; rw [List.set_set, List.set_set], ?_⟩
    refine hte j H2 _ T2 S2 (fun H4 v tm k4 T4 a4 g4 => ?_)
    have S4 := S2.tape T2 k4 (S2.ne T2)
    have eD4 := kept_at k4 nD1 eD
    have kd : Kp [D] H4 (upd H4 D (.lst (vs ++ [v]))) := Kp.put (by simp)
    refine ⟨vs, eD4, smallL (by rw [rl _ _ _ aD, lD]; omega), vs ++ [v], ts ++ [tm], upd_same, ?_, by rw [List.length_append, lD]; rfl, fun u hu => ?_, ?_, ?_, ?_⟩
    · exact rk _ _ _ _ (kd.keepT (no_tup1 eD4)) (a4 _ _ (rk _ _ _ _ (T2.keepT k4) aD))
    · rcases List.mem_append.mp hu with hu | hu
      · exact gD u hu
      · rcases List.mem_cons.mp hu with rfl | hu
        · exact g4
        · cases hu
    · exact (kD.trans (k4.mono fun b hb => List.mem_cons_of_mem _ hb)).trans (Kp.put (by simp))
    · exact T4.keep kd (i1 nD1) (i1 nD2)
    · exact S4.keep kd (i1 nD3) (no_tup1 eD4)
  · obtain ⟨vs, ts, eD, aD, lD, gD, kD, T2, S2⟩ := h2
    exact hd H2 vs ts kD eD aD lD gD T2 S2
end Lw

set_option maxRecDepth 100000
set_option maxHeartbeats 4000000
/-! derivations as data -/
namespace Lw
open PySem PySem.Spec L2
inductive Dv where
  | mk (n : Str) (ts : List Tm) (ds : List Dv)
mutual
def Dv.height : Dv → Nat
  | .mk _ _ ds => 1 + Dv.heights ds
def Dv.heights : List Dv → Nat
  | [] => 0
  | d :: r => max d.height (Dv.heights r)
end
mutual
def Dv.count : Dv → Nat
  | .mk _ _ ds => 1 + Dv.counts ds
def Dv.counts : List Dv → Nat
  | [] => 0
  | d :: r => d.count + Dv.counts r
end
theorem Dv.height_mk (n : Str) (ts : List Tm) (ds : List Dv) : (Dv.mk n ts ds).height = 1 + Dv.heights ds := by rw [Dv.height]
theorem Dv.count_mk (n : Str) (ts : List Tm) (ds : List Dv) : (Dv.mk n ts ds).count = 1 + Dv.counts ds := by rw [Dv.count]
theorem Dv.heights_nil : Dv.heights [] = 0 := by rw [Dv.heights]
theorem Dv.heights_cons (t : Dv) (r : List Dv) : Dv.heights (t :: r) = max t.height (Dv.heights r) := by rw [Dv.heights]
theorem Dv.counts_nil : Dv.counts [] = 0 := by rw [Dv.counts]
theorem Dv.counts_cons (t : Dv) (r : List Dv) : Dv.counts (t :: r) = t.count + Dv.counts r := by rw [Dv.counts]
theorem Dv.height_pos : ∀ t : Dv, 0 < t.height
  | .mk _ _ ds => by rw [Dv.height_mk]; omega
theorem Dv.count_pos : ∀ t : Dv, 0 < t.count
  | .mk _ _ ds => by rw [Dv.count_mk]; omega
theorem Dv.heights_append : ∀ a b : List Dv, Dv.heights (a ++ b) = max (Dv.heights a) (Dv.heights b)
  | [], b => by rw [List.nil_append, Dv.heights_nil]; omega
  | t :: a, b => by rw [List.cons_append, Dv.heights_cons, Dv.heights_cons, Dv.heights_append a b]; omega
theorem Dv.counts_append : ∀ a b : List Dv, Dv.counts (a ++ b) = Dv.counts a + Dv.counts b
  | [], b => by rw [List.nil_append, Dv.counts_nil]; omega
  | t :: a, b => by rw [List.cons_append, Dv.counts_cons, Dv.counts_cons, Dv.counts_append a b]; omega
theorem Dv.height_mem : ∀ {ts : List Dv} {t : Dv}, t ∈ ts → t.height ≤ Dv.heights ts
  | a :: r, t, h => by
    rw [Dv.heights_cons]
    rcases List.mem_cons.mp h with e | h
    · rw [e]; exact Nat.le_max_left _ _
    · exact Nat.le_trans (Dv.height_mem h) (Nat.le_max_right _ _)
theorem Dv.count_mem : ∀ {ts : List Dv} {t : Dv}, t ∈ ts → t.count ≤ Dv.counts ts
  | a :: r, t, h => by
    rw [Dv.counts_cons]
    rcases List.mem_cons.mp h with e | h
    · rw [e]; omega
    · have := Dv.count_mem h; omega
theorem Dv.heights_le {ts : List Dv} {d : Nat} (h : ∀ t ∈ ts, t.height ≤ d) : Dv.heights ts ≤ d := by
  induction ts with
  | nil => rw [Dv.heights_nil]; exact Nat.zero_le _
  | cons t r ih =>
    rw [Dv.heights_cons]
    exact Nat.max_le.mpr ⟨h t List.mem_cons_self, ih fun u hu => h u (List.mem_cons_of_mem _ hu)⟩
theorem Dv.counts_le {ts : List Dv} {m : Nat} (h : ∀ t ∈ ts, t.count ≤ m) : Dv.counts ts ≤ ts.length * m := by
  induction ts with
  | nil => rw [Dv.counts_nil]; exact Nat.zero_le _
  | cons t r ih =>
    rw [Dv.counts_cons, List.length_cons, Nat.succ_mul]
    have h1 := h t List.mem_cons_self
    have h2 := ih fun u hu => h u (List.mem_cons_of_mem _ hu)
    omega
theorem Dv.length_le_counts : ∀ ts : List Dv, ts.length ≤ Dv.counts ts
  | [] => by rw [Dv.counts_nil]; exact Nat.le_refl _
  | t :: r => by
    have h1 := Dv.length_le_counts r
    have h2 := t.count_pos
    rw [Dv.counts_cons, List.length_cons]
    omega
theorem heights_max : ∀ (ts : List Dv) (m : Int), ((ts.map fun t => (t.height : Int)) = [] ∧ m = 0) ∨ (m ∈ (ts.map fun t => (t.height : Int)) ∧ ∀ a, a ∈ (ts.map fun t => (t.height : Int)) → a ≤ m) → m = (Dv.heights ts : Int)
  | ts, m, .inl ⟨h, e⟩ => by
    have z : ts = [] := List.map_eq_nil_iff.mp h
    rw [z, Dv.heights_nil, e]; rfl
  | ts, m, .inr ⟨h, hm⟩ => by
    obtain ⟨t, ht, e⟩ := List.mem_map.mp h
    have h1 := Dv.height_mem ht
    have h2 : Dv.heights ts ≤ m.toNat := Dv.heights_le fun u hu => by
      have := hm _ (List.mem_map.mpr ⟨u, hu, rfl⟩)
      omega
    omega
theorem counts_sum : ∀ ts : List Dv, (ts.map fun t => (t.count : Int)).sum = (Dv.counts ts : Int)
  | [] => by rw [Dv.counts_nil]; rfl
  | t :: r => by
    rw [List.map_cons, List.sum_cons, counts_sum r, Dv.counts_cons]
    omega
inductive DAt (H : Hp) : V → Dv → Prop where
  | mk {a b c : Addr} {n : Str} {ws vs : List V} {ts : List Tm} {ds : List Dv} (e : H a = some (.tup [.str n, .ref b, .ref c])) (eb : H b = some (.tup ws)) (at' : Ats H ws ts) (ec : H c = some (.tup vs)) (hl : vs.length = ds.length)
      (hs : ∀ (i : Nat) v d, vs[i]? = some v → ds[i]? = some d → DAt H v d) : DAt H (.ref a) (.mk n ts ds)
structure DAts (H : Hp) (vs : List V) (ds : List Dv) : Prop where
  len : vs.length = ds.length
  at' : ∀ (i : Nat) v d, vs[i]? = some v → ds[i]? = some d → DAt H v d
theorem DAts.nil {H : Hp} : DAts H [] [] := ⟨rfl, fun i v t h => by simp at h⟩
theorem DAts.cons {H : Hp} {v : V} {t : Dv} {vs : List V} {ts : List Dv} (h : DAt H v t) (r : DAts H vs ts) : DAts H (v :: vs) (t :: ts) :=
  ⟨by rw [List.length_cons, List.length_cons, r.len], fun i => by
    cases i with
    | zero => intro u w e1 e2; simp at e1 e2; rw [← e1, ← e2]; exact h
    | succ i => intro u w e1 e2; exact r.at' i u w (by simpa using e1) (by simpa using e2)⟩
theorem DAts.head {H : Hp} {v : V} {t : Dv} {vs : List V} {ts : List Dv} (h : DAts H (v :: vs) (t :: ts)) : DAt H v t := h.at' 0 v t rfl rfl
theorem DAts.tail {H : Hp} {v : V} {t : Dv} {vs : List V} {ts : List Dv} (h : DAts H (v :: vs) (t :: ts)) : DAts H vs ts :=
  ⟨by have := h.len; simpa using this, fun i u w e1 e2 => h.at' (i + 1) u w (by simpa using e1) (by simpa using e2)⟩
theorem DAts.append {H : Hp} : ∀ {vs : List V} {ts : List Dv} {ws : List V} {us : List Dv}, DAts H vs ts → DAts H ws us → DAts H (vs ++ ws) (ts ++ us)
  | [], [], _, _, _, b => b
  | [], _ :: _, _, _, a, _ => by have := a.len; simp at this
  | _ :: _, [], _, _, a, _ => by have := a.len; simp at this
  | _ :: _, _ :: _, _, _, a, b => .cons a.head (DAts.append a.tail b)
theorem DAts.one {H : Hp} {v : V} {t : Dv} (h : DAt H v t) : DAts H [v] [t] := .cons h .nil
theorem DAt.keep {H H' : Hp} (k : KeepT H H') {v : V} {t : Dv} (h : DAt H v t) : DAt H' v t := by
  induction h with
  | mk e eb at' ec hl _ ih => exact .mk (k _ _ e) (k _ _ eb) (at'.keep k) (k _ _ ec) hl ih
theorem DAts.keep {H H' : Hp} (k : KeepT H H') {vs : List V} {ts : List Dv} (h : DAts H vs ts) : DAts H' vs ts := ⟨h.len, fun i v t e1 e2 => (h.at' i v t e1 e2).keep k⟩
theorem DAt.of {H : Hp} {a b c : Addr} {n : Str} {ws vs : List V} {ts : List Tm} {ds : List Dv} (e : H a = some (.tup [.str n, .ref b, .ref c])) (eb : H b = some (.tup ws)) (at' : Ats H ws ts) (ec : H c = some (.tup vs)) (h : DAts H vs ds) : DAt H (.ref a) (.mk n ts ds) := .mk e eb at' ec h.len h.at'
theorem DAt.get {H : Hp} {v : V} {d : Dv} (h : DAt H v d) : ∃ a b c n ws vs ts ds, v = .ref a ∧ d = .mk n ts ds ∧ H a = some (.tup [.str n, .ref b, .ref c]) ∧ H b = some (.tup ws) ∧ Ats H ws ts ∧ H c = some (.tup vs) ∧ DAts H vs ds := by
  cases h with
  | mk e eb at' ec hl hs => exact ⟨_, _, _, _, _, _, _, _, rfl, rfl, e, eb, at', ec, hl, hs⟩
theorem DAt.nil {H H' : Hp} {v : V} {tm : Dv} (h : DAt H v tm) (k : Kp [] H H') : DAt H' v tm := h.keep (k.keepT (by simp))
theorem DAt.tape {H H' : Hp} {v : V} {tm : Dv} {t sc : Addr} {ns : List Int} (h : DAt H v tm) (k : Kp [t] H H') (T : TapeAt H t sc ns) : DAt H' v tm := h.keep (T.keepT k)
theorem Kp.dats {l : List Addr} {H H' : Hp} {vs : List V} {ts : List Dv} (k : Kp l H H') (hl : ∀ a ∈ l, ∀ xs, H a ≠ some (.tup xs)) (h : DAts H vs ts) : DAts H' vs ts := h.keep (k.keepT hl)
def spHeightD (m : Nat) : Sp := fun vs H Q _ => ∃ (v : V) (d : Dv), vs = [v] ∧ DAt H v d ∧ d.count ≤ 100000 ∧ d.height ≤ m ∧ ∀ (H' : Hp), Kp [] H H' → Q (.int d.height) H'
def spCountD (m : Nat) : Sp := fun vs H Q _ => ∃ (v : V) (d : Dv), vs = [v] ∧ DAt H v d ∧ d.count ≤ 100000 ∧ d.height ≤ m ∧ ∀ (H' : Hp), Kp [] H H' → Q (.int d.count) H'
end Lw
namespace Lw
open PySem PySem.Spec L2
def cMax : Nat → Nat
  | 0 => 1
  | d + 1 => 1 + 4 * cMax d
theorem cMax_pos (d : Nat) : 1 ≤ cMax d := by cases d with
  | zero => exact Nat.le_refl _
  | succ d => show 1 ≤ 1 + 4 * cMax d; omega
/-- a drawn triple; d: one less than the depth -/
def spTriple (d : Nat) : Sp := fun vs H Q _ => ∃ (t sc sy : Addr) (ns : List Int) (zs : List (Str × Int)), vs = [.ref t, .ref sy, .int ((d : Int) + 1)] ∧ TapeAt H t sc ns ∧ SymsAt H sy zs ∧ 1 ≤ zs.length ∧ zs.length ≤ 100000 ∧
  ∀ (H' : Hp) (v : V) (dv : Dv), Kp [t] H H' → TapeAt H' t sc ns → DAt H' v dv → dv.height ≤ d + 1 → dv.count ≤ cMax d → Q v H'
end Lw
namespace Lw
open PySem PySem.Spec L2
def top (i : Nat) : Stmt := PySem.Challenge.pw_openrules_k18_height_and_number_of_rules.main.body.getD i (.Pass ⟨0, 0, 0, 0⟩)
local macro_rules | `(tactic| walk_at "rd1") => `(tactic| first
  | (with_reducible first
    | refine d_c ?_ | refine d_op ?_ | refine d_I0 ?_ | refine d_un ?_ | refine d_nil ?_ | refine d_cons ?_ | refine d_cb ?_ | refine d_ckw ?_ | refine d_call ?_ | refine d_asg ?_ | refine d_seq ?_
    | refine d_next ?_ | refine d_name ?_ | refine d_ret ?_ | refine d_retN ?_ | refine d_drop ?_ | refine d_ifs ?_ | refine d_ifx ?_ | refine d_test ?_ | refine d_tB ?_ | refine d_tnot ?_ | refine d_tand ?_ | refine d_tor ?_
    | refine d_andV ?_ | refine d_orV ?_ | refine d_notV ?_ | refine d_tup ?_ | refine d_lst ?_ | refine d_slice ?_ | refine d_part ?_ | refine d_nopart ?_ | refine d_bm ?_ | refine d_bm0 ?_ | refine d_U ?_ | refine d_sub ?_ | refine d_for ?_ | refine d_rng1 ?_ | refine d_ilist ?_ | refine d_itup ?_ | refine d_lc ?_ | refine d_tru ?_ | refine d_down ?_ | refine d_isII ?_ | refine d_isIT ?_ | refine d_isNT ?_ | refine d_isNI ?_
    | refine ⟨_, rfl, ?_⟩ | refine ⟨_, _, rfl, ?_⟩ | refine .inl ⟨_, rfl, ?_⟩)
  | ((with_reducible refine' d_var ?h ?_); (case h => exact rfl))
  | ((with_reducible refine' d_ixLc ?h ?e ?_); (case h => first | assumption | exact upd_same); (case e => exact rfl))
  | ((with_reducible refine' d_ixTc ?h ?e ?_); (case h => first | assumption | exact upd_same); (case e => exact rfl))
  | ((with_reducible refine' d_tyL ?h ?_); (case h => first | assumption | exact upd_same))
  | ((with_reducible refine' d_lenL ?h ?_); (case h => assumption))
  | ((with_reducible refine' d_lenT ?h ?_); (case h => assumption))
  | ((with_reducible refine' d_tupL ?h ?_); (case h => assumption))
  | ((with_reducible refine' d_isTI ?h ?_); (case h => assumption))
  | ((with_reducible refine' d_isTT ?h ?_); (case h => assumption))
  | ((with_reducible refine' d_truL ?h ?_); (case h => assumption))
  | ((with_reducible refine' d_setL ?h ?e ?_); (case h => first | assumption | exact upd_same); (case e => exact rfl))
  | ((with_reducible refine' d_eq ?h ?_); (case h => exact rfl))
  | ((with_reducible refine' d_ne ?h ?_); (case h => exact rfl))
  | ((with_reducible refine' d_I ?h ?_); (case h => first | decide | exact Or.inl (by decide) | exact Or.inr (by decide) | exact ⟨by decide, by decide, by decide⟩ | assumption | omega)))
local macro_rules | `(tactic| walk_at "rd") => `(tactic| ((repeat walk_at "rd1"); (try dsimp only [Int.reduceToNat, List.set_cons_zero, List.set_cons_succ, List.cons_append, List.nil_append])))
abbrev s_tape : Stmt := top 4
theorem sc_tape : FnScope ["script", "total", "cell"] ["script"] (defScope s_tape) := ⟨rfl, rfl, rfl, by decide +kernel, rfl, by decide +kernel, by decide +kernel⟩
theorem ok_tape {P : Program} {w : World} {K : PySem.W.Frag} {mg : Str → Option Value} {base : Heap} {k : Nat} (D : Df K mg "_law_tape" s_tape ["script"])
    (mi : mg "int" = none) (ma : mg "abs" = none) (ml : mg "list" = none) : Cl P w K mg base (k + 1) "_law_tape" ["script"] (spTape K) := by
  refine D.ok sc_tape (fun vs H Q E h => ?_) (fun f cdv A outer s H vs Q E hr h => ?_)
  · obtain ⟨a, ns, rfl, _⟩ := h
    rfl
  obtain ⟨a, ns, rfl, hS, q⟩ := h
  refine ⟨_, pss_cons (ps_set (i := 1) sc_tape.nd rfl (.inl rfl) pe_int)
    (pss_cons (ps_for PassesOwn.never rfl (pi_list (pv 0)) (pg_name (i := 2) sc_tape.nd rfl (.inl rfl))
      (pss_one (ps_set (i := 1) sc_tape.nd rfl (.inl rfl) (pe_op op_modN (pe_callTy call_int1 (by rfl) mi b_int (pa_cons (pe_op op_add (pe_op op_mul (pv 1) pe_int)
        (pe_callB call_abs (by rfl) ma b_abs (pa_cons (pe_callTy call_int1 (by rfl) mi b_int (pa_cons (pv 2) pa_nil)) pa_nil))) pa_nil)) pe_int))))
    (pss_one (ps_ret (pe_lst (pa_cons (pe_callTy call_list_of (by rfl) ml b_list (pa_cons (pv 0) pa_nil)) (pa_cons pe_int (pa_cons pe_int (pa_cons (pv 1) pa_nil)))))))), ?_⟩
  refine ⟨.ref a, rfl, a, rfl, ⟨_, hS⟩, for_list (K := K) (xs := ns.map V.int) (fun i σ H' => ∃ tot y, σ = [some (.ref a), some (.int tot), y] ∧ H' = H) ⟨7, none, rfl, rfl⟩ (fun i σ H' hi ⟨tot, y, e1, e2⟩ => by rw [e2]; exact hS) (fun i x σ H' hx ⟨tot, y, e1, e2⟩ => ?_) (fun σ H' ⟨tot, y, e1, e2⟩ => ?_)⟩
  · subst e1 e2
    obtain ⟨n, rfl⟩ : ∃ n, x = .int n := by
      rw [List.getElem?_map] at hx
      cases e : ns[i]? with
      | none => rw [e] at hx; cases hx
      | some n => rw [e] at hx; exact ⟨n, (Option.some.inj hx).symm⟩
    walk_at "rd"
  · subst e1 e2
    walk_at "rd"
    refine ⟨a, _, rfl, .inl hS, fun sc hsc => ?_⟩
    walk_at "rd"
    refine ⟨smallN (by show 4 ≤ 1000000; decide), fun t ht => ?_⟩
    have hne : sc ≠ t := fun z => by rw [← z, upd_same] at ht; cases ht
    have ht0 : H' t = none := by rw [upd_ne (Ne.symm hne)] at ht; exact ht
    refine q _ t sc ((Kp.new hsc).trans (Kp.new ht)) ht0 hsc ⟨⟨0, 0, tot, Int.le_refl _, upd_same⟩, ?_, hne⟩
    rw [upd_ne hne, upd_same]

abbrev s_draw : Stmt := top 5
theorem sc_draw : FnScope ["tape", "many", "place", "number"] ["tape", "many"] (defScope s_draw) := ⟨rfl, rfl, rfl, by decide +kernel, rfl, by decide +kernel, by decide +kernel⟩
theorem ok_draw {P : Program} {w : World} {K : PySem.W.Frag} {mg : Str → Option Value} {base : Heap} {k : Nat} (D : Df K mg "_law_draw" s_draw ["tape", "many"])
    (mi : mg "int" = none) (ma : mg "abs" = none) (ml : mg "len" = none) (mx : mg "max" = none) : Cl P w K mg base (k + 1) "_law_draw" ["tape", "many"] spDraw := by
  refine D.ok sc_draw (fun vs H Q E h => ?_) (fun f cdv A outer s H vs Q E hr h => ?_)
  · obtain ⟨t, sc, ns, many, rfl, _⟩ := h
    rfl
  obtain ⟨t, sc, ns, many, rfl, T, m0, m1, q⟩ := h
  refine ⟨_, pss_cons (ps_if (pt_cmpR op_eq (pe_ix ix_list (pv 0) pe_int (fun _ _ => rfl)) pe_int (nomark _))
      (pss_cons (ps_set (i := 2) sc_draw.nd rfl (.inl rfl) (pe_ix ix_list (pv 0) pe_int (fun _ _ => rfl)))
      (pss_cons (ps_set (i := 3) sc_draw.nd rfl (.inl rfl) pe_int)
      (pss_cons (ps_if (pt_cmpR op_lt (pv 2) (pe_callB call_len_seq (by rfl) ml b_len (pa_cons (pe_ix ix_list (pv 0) pe_int (fun _ _ => rfl)) pa_nil)) (nomark _))
        (pss_one (ps_set (i := 3) sc_draw.nd rfl (.inl rfl) (pe_callB call_abs (by rfl) ma b_abs (pa_cons (pe_callTy call_int1 (by rfl) mi b_int (pa_cons (pe_ix ix_list (pe_ix ix_list (pv 0) pe_int (fun _ _ => rfl)) (pv 2) (fun _ _ => rfl)) pa_nil)) pa_nil))))
        (pss_cons (ps_asg (pe_op op_modN (pe_callTy call_int1 (by rfl) mi b_int (pa_cons (pe_op op_add (pe_op op_add (pe_op op_mul (pe_ix ix_list (pv 0) pe_int (fun _ _ => rfl)) pe_int) (pv 2)) pe_int) pa_nil)) pe_int) (pg_sub (pv 0) pe_int set_list))
        (pss_one (ps_set (i := 3) sc_draw.nd rfl (.inl rfl) (pe_ix ix_list (pv 0) pe_int (fun _ _ => rfl))))))
      (pss_cons (ps_asg (pe_op op_add (pv 2) pe_int) (pg_sub (pv 0) pe_int set_list))
      (pss_cons (ps_if (pt_cmpR op_lt (pv 3) (pe_op op_pow pe_int pe_int) (nomark _))
        (pss_cons (ps_set (i := 3) sc_draw.nd rfl (.inl rfl) (pe_op op_modN (pe_callTy call_int1 (by rfl) mi b_int (pa_cons (pe_op op_add (pe_op op_add (pe_op op_mul (pv 3) pe_int) (pe_op op_mul (pv 2) pe_int)) pe_int) pa_nil)) pe_int))
        (pss_cons (ps_set (i := 3) sc_draw.nd rfl (.inl rfl) (pe_op op_modN (pe_callTy call_int1 (by rfl) mi b_int (pa_cons (pe_op op_mul (pv 3) pe_int) pa_nil)) pe_int))
        (pss_one (ps_ret (pe_op op_modN (pe_callTy call_int1 (by rfl) mi b_int (pa_cons (pv 3) pa_nil)) (pe_callB (call_max2 rfl) (by rfl) mx b_max (pa_cons (pv 1) (pa_cons pe_int pa_nil)))))))) pss_nil)
      (pss_one (ps_asg (pv 3) (pg_sub (pv 0) pe_int set_list)))))))) pss_nil)
    (pss_cons (ps_set (i := 3) sc_draw.nd rfl (.inl rfl) (pe_ix ix_list (pv 0) pe_int (fun _ _ => rfl)))
    (pss_cons (ps_asg (pe_op op_fdivN (pv 3) (pe_callB (call_max2 rfl) (by rfl) mx b_max (pa_cons (pv 1) (pa_cons pe_int pa_nil)))) (pg_sub (pv 0) pe_int set_list))
    (pss_one (ps_ret (pe_op op_modN (pe_callTy call_int1 (by rfl) mi b_int (pa_cons (pv 3) pa_nil)) (pe_callB (call_max2 rfl) (by rfl) mx b_max (pa_cons (pv 1) (pa_cons pe_int pa_nil)))))))), ?_⟩
  obtain ⟨⟨pl, pd, sd, h0, hT⟩, hS, ne⟩ := T
  have mx1 : (if (1 : Int) > many then 1 else many) = max many 1 := by split <;> omega
  have mx2 : (if (2 : Int) > many then 2 else many) ≠ 0 ∧ (if (2 : Int) > many then 2 else many).natAbs < 1073741824 := by split <;> omega
  have fin : ∀ (H' : Hp) (n : Int), Kp [t] H H' → TapeAt H' t sc ns → Q (.int (n.fmod (max many 1))) H' := fun H' n k T => by
    have hp : (0 : Int) < max many 1 := by omega
    rw [Int.fmod_eq_emod_of_nonneg n (Int.le_of_lt hp)]
    exact q H' _ k T (Int.emod_nonneg n (by omega)) (Int.emod_lt_of_pos n hp)
  rw [show L2.start ["tape", "many", "place", "number"] [.ref t, .int many] = [some (.ref t), some (.int many), none, none] from rfl]
  walk_at "rd"
  have hp1 : max many 1 ≠ 0 := by omega
  refine ite_bl (fun c => ?_) (fun c => ?_)
  · walk_at "rd"
    refine ⟨sc, _, rfl, .inl (sqL hS), ?_⟩
    walk_at "rd"
    rw [List.length_map]
    refine ite_dc (fun c1 => ?_) (fun c1 => ?_)
    · have hi : pl.toNat < ns.length := by omega
      have e1 : atI (ns.map V.int) pl = some (.int ns[pl.toNat]) := atI_of h0 (by rw [List.getElem?_map, List.getElem?_eq_getElem hi]; rfl)
      walk_at "rd"
      refine d_ixLc hS e1 ?_
      walk_at "rd"
      generalize (if ns[pl.toNat] < 0 then -ns[pl.toNat] else ns[pl.toNat]) = n
      have k1 : Kp [t] H (upd H t (.lst [.ref sc, .int (pl + 1), .int pd, .int sd])) := Kp.put (by simp)
      have T1 : (upd H t (.lst [.ref sc, .int (pl + 1), .int pd, .int sd])) t = some (.lst [.ref sc, .int (pl + 1), .int pd, .int sd]) := upd_same
      have S1 : (upd H t (.lst [.ref sc, .int (pl + 1), .int pd, .int sd])) sc = some (.lst (ns.map V.int)) := by rw [upd_ne ne]; exact hS
      revert k1 T1 S1
      generalize (upd H t (.lst [.ref sc, .int (pl + 1), .int pd, .int sd])) = H1
      revert H1 n
      generalize sd = sd2
      revert sd2
      intro sd2 n H1 k1 T1 S1
      refine ite_dc (fun c2 => ?_) (fun c2 => ?_)
      · walk_at "rd"
        rw [mx1]
        walk_at "rd"
        exact fin H1 _ k1 ⟨⟨pl + 1, pd, sd2, by omega, T1⟩, S1, ne⟩
      · walk_at "rd"
        rw [mx1]
        walk_at "rd"
        refine fin _ _ ((k1.trans (Kp.put (by simp))).trans (Kp.put (by simp))) ⟨⟨pl + 1, n.fdiv (if (2 : Int) > many then 2 else many), sd2, by omega, upd_same⟩, ?_, ne⟩
        rw [upd_ne ne, upd_ne ne]
        exact S1
    · walk_at "rd"
      generalize (sd * 48271 + pl + 1).fmod 2147483647 = sd2
      rw [upd_upd]
      have k1 : Kp [t] H (upd H t (.lst [.ref sc, .int (pl + 1), .int pd, .int sd2])) := Kp.put (by simp)
      have T1 : (upd H t (.lst [.ref sc, .int (pl + 1), .int pd, .int sd2])) t = some (.lst [.ref sc, .int (pl + 1), .int pd, .int sd2]) := upd_same
      have S1 : (upd H t (.lst [.ref sc, .int (pl + 1), .int pd, .int sd2])) sc = some (.lst (ns.map V.int)) := by rw [upd_ne ne]; exact hS
      revert k1 T1 S1
      generalize (upd H t (.lst [.ref sc, .int (pl + 1), .int pd, .int sd2])) = H1
      intro k1 T1 S1
      refine ite_dc (fun c2 => ?_) (fun c2 => ?_)
      · walk_at "rd"
        rw [mx1]
        walk_at "rd"
        exact fin H1 _ k1 ⟨⟨pl + 1, pd, sd2, by omega, T1⟩, S1, ne⟩
      · walk_at "rd"
        rw [mx1]
        walk_at "rd"
        refine fin _ _ ((k1.trans (Kp.put (by simp))).trans (Kp.put (by simp))) ⟨⟨pl + 1, sd2.fdiv (if (2 : Int) > many then 2 else many), sd2, by omega, upd_same⟩, ?_, ne⟩
        rw [upd_ne ne, upd_ne ne]
        exact S1
  · walk_at "rd"
    rw [mx1]
    walk_at "rd"
    refine fin _ _ (Kp.put (by simp)) ⟨⟨pl, pd.fdiv (if (2 : Int) > many then 2 else many), sd, h0, upd_same⟩, ?_, ne⟩
    rw [upd_ne ne]
    exact hS

abbrev s_word : Stmt := top 6
theorem sc_word : FnScope ["tape", "stem", "letters", "signs", "number", "word", "length"] ["tape", "stem"] (defScope s_word) := ⟨rfl, rfl, rfl, by decide +kernel, rfl, by decide +kernel, by decide +kernel⟩
theorem lets_ok : ∀ c ∈ (Str.ofString "abcdefghijklmnopqrstuvwxyz").cps.toList, smallC c := by decide +kernel
theorem lets_len : (Str.ofString "abcdefghijklmnopqrstuvwxyz").cps.toList.length = 26 := by decide +kernel
theorem sgns_ok : ∀ c ∈ (Str.ofString "ABCDEFGHIJKLMNOPQRSTUVWXYZ0123456789").cps.toList, signC c := by decide +kernel
theorem sgns_len : (Str.ofString "ABCDEFGHIJKLMNOPQRSTUVWXYZ0123456789").cps.toList.length = 36 := by decide +kernel
theorem ok_word {P : Program} {w : World} {K : PySem.W.Frag} {mg : Str → Option Value} {base : Heap} {k : Nat} (D : Df K mg "_law_word" s_word ["tape", "stem"])
    (cD : Cl P w K mg base k "_law_draw" ["tape", "many"] spDraw) (mi : mg "int" = none) : Cl P w K mg base (k + 1) "_law_word" ["tape", "stem"] spWord := by
  refine D.ok sc_word (fun vs H Q E h => ?_) (fun f cdv A outer s H vs Q E hr h => ?_)
  · obtain ⟨t, sc, ns, z, rfl, _⟩ := h
    rfl
  obtain ⟨t, sc, ns, stem, rfl, T, hs, q⟩ := h
  refine ⟨_, pss_cons (ps_set (i := 2) sc_word.nd rfl (.inl rfl) pe_str)
    (pss_cons (ps_set (i := 3) sc_word.nd rfl (.inl rfl) (pe_op op_add_str (pv 2) pe_str))
    (pss_cons (ps_set (i := 4) sc_word.nd rfl (.inl rfl) (pe_cl cD hr (Nat.le_refl _) (by rfl) (pa_cons (pv 0) (pa_cons (pe_op op_mul (pe_op op_mul (pe_op op_mul pe_int pe_int) pe_int) pe_int) pa_nil))))
    (pss_cons (ps_set (i := 5) sc_word.nd rfl (.inl rfl) (pe_op op_add_str (pe_op op_add_str
        (pe_ix ix_str (pv 2) (pe_op op_modN (pe_callTy call_int1 (by rfl) mi b_int (pa_cons (pv 4) pa_nil)) pe_int) (fun _ _ => rfl))
        (pe_ix ix_str (pv 3) (pe_op op_modN (pe_callTy call_int1 (by rfl) mi b_int (pa_cons (pe_op op_fdivN (pv 4) pe_int) pa_nil)) pe_int) (fun _ _ => rfl)))
        (pe_ix ix_str (pv 3) (pe_op op_modN (pe_callTy call_int1 (by rfl) mi b_int (pa_cons (pe_op op_fdivN (pv 4) pe_int) pa_nil)) pe_int) (fun _ _ => rfl))))
    (pss_cons (ps_set (i := 6) sc_word.nd rfl (.inl rfl) (pe_op op_modN (pe_callTy call_int1 (by rfl) mi b_int (pa_cons (pe_op op_fdivN (pv 4) pe_int) pa_nil)) pe_int))
    (pss_cons (ps_if (pt_cmpR op_eq (pv 6) pe_int (nomark _)) (pss_one (ps_ret (pe_slice sl_str (pe_op op_add_str (pv 1) (pv 5)) po_none (po_some pe_int)))) pss_nil)
    (pss_one (ps_ret (pe_slice sl_str (pv 5) po_none (po_some (pe_op op_add pe_int (pv 6))))))))))), ?_⟩
  rw [show L2.start ["tape", "stem", "letters", "signs", "number", "word", "length"] [.ref t, .str stem] = [some (.ref t), some (.str stem), none, none, none, none, none] from rfl]
  have hl1 : (Str.ofString "abcdefghijklmnopqrstuvwxyz").length = 26 := by rw [str_len]; exact lets_len
  have hl2 : (Str.ofString "ABCDEFGHIJKLMNOPQRSTUVWXYZ0123456789").length = 36 := by rw [str_len]; exact sgns_len
  have sg : ∀ c ∈ (Str.ofString "abcdefghijklmnopqrstuvwxyz" ++ Str.ofString "ABCDEFGHIJKLMNOPQRSTUVWXYZ0123456789").cps.toList, signC c := fun c hc => by
    rw [str_app] at hc
    rcases List.mem_append.mp hc with hc | hc
    · exact .inl (lets_ok c hc)
    · exact sgns_ok c hc
  have sgl : (Str.ofString "abcdefghijklmnopqrstuvwxyz" ++ Str.ofString "ABCDEFGHIJKLMNOPQRSTUVWXYZ0123456789").cps.toList.length = 62 := by rw [str_app, List.length_append, lets_len, sgns_len]
  have sgl2 : (Str.ofString "abcdefghijklmnopqrstuvwxyz" ++ Str.ofString "ABCDEFGHIJKLMNOPQRSTUVWXYZ0123456789").length = 62 := by rw [str_len]; exact sgl
  have md : ∀ (n m : Int), 0 < m → 0 ≤ n.fmod m ∧ n.fmod m < m := fun n m hm => by
    rw [Int.fmod_eq_emod_of_nonneg n (Int.le_of_lt hm)]
    exact ⟨Int.emod_nonneg n (by omega), Int.emod_lt_of_pos n hm⟩
  walk_at "rd"
  refine ⟨_, _, rfl, rfl, smallN (by rw [hl1, hl2]; decide), ?_⟩
  walk_at "rd"
  refine ⟨t, sc, ns, _, rfl, T, by decide, by decide, fun H1 n k1 T1 n0 _ => ?_⟩
  walk_at "rd"
  obtain ⟨c1, e1, p1⟩ := atI_all lets_ok (md n 26 (by decide)).1 (by rw [lets_len]; exact (md n 26 (by decide)).2)
  obtain ⟨c2, e2, p2⟩ := atI_all sg (md (n.fdiv 26) 62 (by decide)).1 (by rw [sgl]; exact (md (n.fdiv 26) 62 (by decide)).2)
  obtain ⟨c3, e3, p3⟩ := atI_all sg (md (n.fdiv 1612) 62 (by decide)).1 (by rw [sgl]; exact (md (n.fdiv 1612) 62 (by decide)).2)
  refine ⟨_, _, c1, rfl, rfl, smallN (by rw [hl1]; decide), e1, ?_⟩
  walk_at "rd"
  refine d_I ⟨by decide, by decide⟩ ?_
  walk_at "rd"
  refine ⟨_, _, c2, rfl, rfl, smallN (by rw [sgl2]; decide), e2, ?_⟩
  refine ⟨_, _, rfl, rfl, smallN (show 1 + 1 ≤ 1000000 by decide), ?_⟩
  walk_at "rd"
  refine d_I ⟨by decide, by decide⟩ ?_
  walk_at "rd"
  refine ⟨_, _, c3, rfl, rfl, smallN (by rw [sgl2]; decide), e3, ?_⟩
  refine ⟨_, _, rfl, rfl, smallN (show 2 + 1 ≤ 1000000 by decide), ?_⟩
  generalize hw : (Str.mk #[c1] ++ Str.mk #[c2] ++ Str.mk #[c3]) = wd
  have wl : wd.cps.toList = [c1, c2, c3] := by rw [← hw]; rfl
  have wl3 : wd.length = 3 := by rw [str_len, wl]; rfl
  walk_at "rd"
  refine d_I ⟨by decide, by decide⟩ ?_
  walk_at "rd"
  have ml := md (n.fdiv 99944) 4 (by decide)
  generalize (n.fdiv 99944).fmod 4 = m at ml
  refine ite_bl (fun c => ?_) (fun c => ?_)
  · walk_at "rd"
    have sl : stem.length = stem.cps.toList.length := str_len stem
    refine ⟨_, _, rfl, rfl, smallN (by rw [wl3]; have := hs.le; omega), ?_⟩
    walk_at "rd"
    have el : (stem ++ wd).cps.toList = stem.cps.toList ++ [c1, c2, c3] := by rw [str_app, wl]
    refine ⟨_, rfl, smallN (by rw [str_len, el, List.length_append]; have := hs.le; show _ + 3 ≤ _; omega), ?_⟩
    refine q H1 _ k1 T1 (name_take (l := stem.cps.toList ++ [c1, c2, c3]) (n := 16) ((cut_take _ 16 (by decide)).trans (by rw [el]; rfl)) (by decide) (by decide) (by rw [List.length_append]; show 0 < _ + 3; omega) (by rw [List.length_take, List.length_append]; show min 16 (_ + 3) ≤ 3 ∨ min 16 (_ + 3) = 16; have := hs.len; omega) (fun x hx => ?_) (fun x hx => ?_))
    · cases hst : stem.cps.toList with
      | nil => rw [hst] at hx; cases hx; exact p1
      | cons y r => rw [hst] at hx; exact hs.first x (by rw [hst]; exact hx)
    · rcases List.mem_append.mp hx with hx | hx
      · exact hs.all x hx
      · rcases List.mem_cons.mp hx with rfl | hx
        · exact .inl p1
        · rcases List.mem_cons.mp hx with rfl | hx
          · exact p2
          · rcases List.mem_cons.mp hx with rfl | hx
            · exact p3
            · cases hx
  · walk_at "rd"
    refine ⟨_, rfl, smallN (by rw [wl3]; decide), ?_⟩
    refine q H1 _ k1 T1 (name_take (l := [c1, c2, c3]) (n := (1 + m).toNat) ((cut_take _ (1 + m) (by omega)).trans (by rw [wl])) (by omega) (by omega) (show 0 < 3 by decide) (.inl (by rw [List.length_take]; show min _ 3 ≤ 3; omega)) (fun x hx => ?_) (fun x hx => ?_))
    · cases hx; exact p1
    · rcases List.mem_cons.mp hx with rfl | hx
      · exact .inl p1
      · rcases List.mem_cons.mp hx with rfl | hx
        · exact p2
        · rcases List.mem_cons.mp hx with rfl | hx
          · exact p3
          · cases hx

abbrev s_symbols : Stmt := top 7
theorem sc_symbols : FnScope ["tape", "many", "stem", "symbols", "k", "name"] ["tape", "many"] (defScope s_symbols) := ⟨rfl, rfl, rfl, by decide +kernel, rfl, by decide +kernel, by decide +kernel⟩
theorem stem0 : StemOk (Str.ofString "") := ⟨by decide +kernel, by intro c h; exact absurd h (by decide +kernel +revert), by decide +kernel, by decide +kernel⟩
theorem stem1 : StemOk (Str.ofString "constructorOf") := ⟨by decide +kernel, fun c h => by
  have e : (Str.ofString "constructorOf").cps.toList[0]? = some 99 := by decide +kernel
  rw [e] at h; cases h; decide, by decide +kernel, by decide +kernel⟩
theorem ok_symbols {P : Program} {w : World} {K : PySem.W.Frag} {mg : Str → Option Value} {base : Heap} {k : Nat} (D : Df K mg "_law_symbols" s_symbols ["tape", "many"])
    (cD : Cl P w K mg base k "_law_draw" ["tape", "many"] spDraw) (cW : Cl P w K mg base k "_law_word" ["tape", "stem"] spWord) (mr : mg "range" = none) : Cl P w K mg base (k + 1) "_law_symbols" ["tape", "many"] spSymbols := by
  refine D.ok sc_symbols (fun vs H Q E h => ?_) (fun f cdv A outer s H vs Q E hr h => ?_)
  · obtain ⟨t, sc, ns, z, rfl, _⟩ := h
    rfl
  obtain ⟨t, sc, ns, many, rfl, T, m1, m2, q⟩ := h
  refine ⟨_, pss_cons (ps_set (i := 2) sc_symbols.nd rfl (.inl rfl) (pe_ix ix_list (pe_lst (pa_cons pe_str (pa_cons pe_str pa_nil))) (pe_cl cD hr (Nat.le_refl _) (by rfl) (pa_cons (pv 0) (pa_cons pe_int pa_nil))) (fun _ _ => rfl)))
    (pss_cons (ps_set (i := 3) sc_symbols.nd rfl (.inl rfl) (pe_lst pa_nil))
    (pss_cons (ps_for PassesOwn.never rfl (pi_range1 (by rfl) mr (pa_cons (pv 1) pa_nil)) (pg_name (i := 4) sc_symbols.nd rfl (.inl rfl))
      (pss_cons (ps_set (i := 5) sc_symbols.nd rfl (.inl rfl) (pe_cl cW hr (Nat.le_refl _) (by rfl) (pa_cons (pv 0) (pa_cons (pv 2) pa_nil))))
      (pss_one (ps_expr (pe_bm PySem.F.plainAttrs_list PySem.F.slot_list_append PySem.F.type_list_append mt_append (pv 3)
        (pa_cons (pe_tup (pa_cons (pv 5) (pa_cons (pe_ix ix_list (pe_lst (pa_cons pe_int (pa_cons pe_int (pa_cons pe_int (pa_cons pe_int (pa_cons pe_int (pa_cons pe_int pa_nil)))))))
          (pe_cl cD hr (Nat.le_refl _) (by rfl) (pa_cons (pv 0) (pa_cons pe_int pa_nil))) (fun _ _ => rfl)) pa_nil))) pa_nil))))))
    (pss_cons (ps_expr (pe_bm PySem.F.plainAttrs_list PySem.F.slot_list_append PySem.F.type_list_append mt_append (pv 3)
        (pa_cons (pe_tup (pa_cons (pe_ix ix_tup (pe_ix ix_list (pv 3) pe_int (fun _ _ => rfl)) pe_int (fun _ _ => rfl)) (pa_cons pe_int pa_nil))) pa_nil)))
    (pss_one (ps_ret (pv 3)))))), ?_⟩
  rw [show L2.start ["tape", "many", "stem", "symbols", "k", "name"] [.ref t, .int many] = [some (.ref t), some (.int many), none, none, none, none] from rfl]
  walk_at "rd"
  refine ⟨smallN (show 2 ≤ 1000000 by decide), fun l hl => ?_⟩
  walk_at "rd"
  have k0 : Kp [t] H (upd H l (.lst [.str "", .str "constructorOf"])) := Kp.new hl
  have T0 := (T.nil (Kp.new (o := .lst [.str "", .str "constructorOf"]) hl))
  refine ⟨t, sc, ns, _, rfl, T0, by decide, by decide, fun H1 n k1 T1 n0 n1 => ?_⟩
  have hl1 : H1 l = some (.lst [.str "", .str "constructorOf"]) := k1 l _ (fun z => by rcases List.mem_cons.mp z with z | z; exact T.t_some hl z.symm; cases z) upd_same
  obtain ⟨stem, hs, e1⟩ : ∃ stem : Str, StemOk stem ∧ atI [V.str "", V.str "constructorOf"] n = some (.str stem) := by
    have hn : n = 0 ∨ n = 1 := by omega
    rcases hn with rfl | rfl
    · exact ⟨_, stem0, rfl⟩
    · exact ⟨_, stem1, rfl⟩
  refine d_ixLc hl1 e1 ?_
  have kk : Kp [t] H H1 := k0.trans k1
  walk_at "rd"
  refine ⟨Nat.zero_le _, fun p hp => ?_⟩
  walk_at "rd"
  refine ⟨by omega, by omega, ?_⟩
  have pt : p ≠ t := fun z => T1.t_some hp z.symm
  have ps : p ≠ sc := fun z => T1.s_some hp z.symm
  have kp0 : Kp [p, t] H1 (upd H1 p (.lst [])) := Kp.new hp
  have np : p ∉ [t] := fun z => by rcases List.mem_cons.mp z with z | z; exact pt z; cases z
  refine fr_range (fun i σ H2 => ∃ zs k5 k6, σ = [some (.ref t), some (.int many), some (.str stem), some (.ref p), k5, k6] ∧ Kp [p, t] H1 H2 ∧ TapeAt H2 t sc ns ∧ SymsAt H2 p zs ∧ zs.length = i)
    ⟨[], none, none, rfl, kp0, T1.nil (Kp.new hp), SymsAt.nil upd_same, rfl⟩ (fun i σ H2 hi h2 => ?_) (fun σ H2 h2 => ?_)
  · obtain ⟨zs, k5, k6, rfl, k2, T2, S2, len2⟩ := h2
    walk_at "rd"
    refine ⟨t, sc, ns, stem, rfl, T2, hs, fun H3 z k3 T3 nz => ?_⟩
    have S3 := S2.tape T2 k3 pt
    obtain ⟨rs3, e3, _, _⟩ := S3.is
    walk_at "rd"
    refine ⟨smallN (show 6 ≤ 1000000 by decide), fun l2 hl2 => ?_⟩
    walk_at "rd"
    have k4 : Kp [t] H3 (upd H3 l2 (.lst [.int 0, .int 1, .int 2, .int 0, .int 1, .int 3])) := Kp.new hl2
    have T4 := T3.nil (Kp.new (o := .lst [.int 0, .int 1, .int 2, .int 0, .int 1, .int 3]) hl2)
    have S4 := S3.tape T3 k4 pt
    have nl : l2 ≠ t := fun z => T3.t_some hl2 z.symm
    refine ⟨t, sc, ns, _, rfl, T4, by decide, by decide, fun H5 n5 k5' T5 m0 m1 => ?_⟩
    have S5 := S4.tape T4 k5' pt
    have hl5 := kept_at k5' nl upd_same
    obtain ⟨ar, e5, a0, a3⟩ : ∃ ar : Int, atI [V.int 0, V.int 1, V.int 2, V.int 0, V.int 1, V.int 3] n5 = some (.int ar) ∧ 0 ≤ ar ∧ ar ≤ 3 := by
      have hn : n5 = 0 ∨ n5 = 1 ∨ n5 = 2 ∨ n5 = 3 ∨ n5 = 4 ∨ n5 = 5 := by omega
      rcases hn with rfl | rfl | rfl | rfl | rfl | rfl
      · exact ⟨_, rfl, by decide, by decide⟩
      · exact ⟨_, rfl, by decide, by decide⟩
      · exact ⟨_, rfl, by decide, by decide⟩
      · exact ⟨_, rfl, by decide, by decide⟩
      · exact ⟨_, rfl, by decide, by decide⟩
      · exact ⟨_, rfl, by decide, by decide⟩
    refine d_ixLc hl5 e5 ?_
    walk_at "rd"
    refine ⟨smallN (show 2 ≤ 1000000 by decide), fun r hr5 => ?_⟩
    have k6' : Kp [t] H5 (upd H5 r (.tup [.str z, .int ar])) := Kp.new hr5
    have S6 := S5.tape T5 k6' pt
    have T6 := T5.nil (Kp.new (o := .tup [.str z, .int ar]) hr5)
    obtain ⟨rs6, e6, l6, _⟩ := S6.is
    walk_at "rd"
    refine d_app e6 (by rw [List.length_map, l6, len2]; omega) ?_
    refine ⟨zs ++ [(z, ar)], _, _, rfl, ?_, ?_, S6.push e6 upd_same nz a0 a3, by rw [List.length_append, len2]; rfl⟩
    · exact k2.trans ((((k3.trans k4).trans k5').trans k6').mono (fun b hb => List.mem_cons_of_mem _ hb) |>.trans (Kp.put (by simp)))
    · exact T6.keep (l := [p]) (Kp.put (by simp)) (by simpa using Ne.symm pt) (by simpa using Ne.symm ps)
  · obtain ⟨zs, k5, k6, rfl, k2, T2, S2, len2⟩ := h2
    obtain ⟨xs, r, z, ar, e2, lx, ex, er, nz, a0, a3, _⟩ := S2.get (k := 0) (Int.le_refl _) (by omega)
    walk_at "rd"
    refine d_ixLc e2 ex ?_
    walk_at "rd"
    refine ⟨smallN (show 2 ≤ 1000000 by decide), fun r2 hr2 => ?_⟩
    have k6' : Kp [t] H2 (upd H2 r2 (.tup [.str z, .int 0])) := Kp.new hr2
    have S6 := S2.tape T2 k6' pt
    have T6 := T2.nil (Kp.new (o := .tup [.str z, .int 0]) hr2)
    have e6 := kept_at k6' pt e2
    walk_at "rd"
    refine d_app e6 (by rw [lx, len2]; omega) ?_
    walk_at "rd"
    have kf : Kp [p, t] H1 (upd (upd H2 r2 (.tup [.str z, .int 0])) p (.lst (xs ++ [.ref r2]))) := (k2.trans (k6'.mono fun b hb => List.mem_cons_of_mem _ hb)).trans (Kp.put (by simp))
    refine q _ p (zs ++ [(z, 0)]) (kk.trans (kf.less hp)) (T6.keep (l := [p]) (Kp.put (by simp)) (by simpa using Ne.symm pt) (by simpa using Ne.symm ps)) (fresh_of kk T1 hp) (S6.push e6 upd_same nz (by decide) (by decide)) ?_
    rw [List.length_append, len2]
    show ((many.toNat + 1 : Nat) : Int) = _
    omega

abbrev s_term : Stmt := top 8
theorem sc_term : FnScope ["tape", "symbols", "variables", "depth", "choice", "symbol", "k"] ["tape", "symbols", "variables", "depth"] (defScope s_term) := ⟨rfl, rfl, rfl, by decide +kernel, rfl, by decide +kernel, by decide +kernel⟩
theorem ok_term1 {P : Program} {w : World} {K : PySem.W.Frag} {mg : Str → Option Value} {base : Heap} {k : Nat} {m : Nat} {sp : Sp} (D : Df K mg "_law_term" s_term ["tape", "symbols", "variables", "depth"])
    (cD : Cl P w K mg base k "_law_draw" ["tape", "many"] spDraw) (cT : Cl P w K mg base k "_law_term" ["tape", "symbols", "variables", "depth"] sp) (hsp : ∀ e, e + 1 ≤ m → ∀ vs H Q E, spTerm e vs H Q E → sp vs H Q E)
    (ml : mg "len" = none) (mr : mg "range" = none) (mt : mg "tuple" = none) : Cl P w K mg base (k + 1) "_law_term" ["tape", "symbols", "variables", "depth"] (spTermLe m) := by
  refine D.ok sc_term (fun vs H Q E h => ?_) (fun f cdv A outer s H vs Q E hr h => ?_)
  · obtain ⟨d, _, t, sc, sy, va, ns, zs, vars, rfl, _⟩ := h
    rfl
  obtain ⟨d, dm, t, sc, sy, va, ns, zs, vars, rfl, T, S, z1, z2, Va, v2, q⟩ := h
  refine ⟨_, pss_cons (ps_set (i := 4) sc_term.nd rfl (.inl rfl) (pe_cl cD hr (Nat.le_refl _) (by rfl) (pa_cons (pv 0) (pa_cons (pe_op op_add
      (pe_callB c_len (by rfl) ml b_len (pa_cons (pv 1) pa_nil)) (pe_callB c_len (by rfl) ml b_len (pa_cons (pv 2) pa_nil))) pa_nil))))
    (pss_cons (ps_if (pt_cmpR op_lt (pv 4) (pe_callB c_len (by rfl) ml b_len (pa_cons (pv 2) pa_nil)) (nomark _)) (pss_one (ps_ret (pe_ix ix_list (pv 2) (pv 4) (fun _ _ => rfl)))) pss_nil)
    (pss_cons (ps_set (i := 5) sc_term.nd rfl (.inl rfl) (pe_ix ix_list (pv 1) (pe_op op_sub (pv 4) (pe_callB c_len (by rfl) ml b_len (pa_cons (pv 2) pa_nil))) (fun _ _ => rfl)))
    (pss_cons (ps_if (pt_cmpR op_le (pv 3) pe_int (nomark _)) (pss_one (ps_ret (pe_tup (pa_cons (pe_ix ix_tup (pv 5) pe_int (fun _ _ => rfl)) pa_nil)))) pss_nil)
    (pss_one (ps_ret (pe_op op_catT (pe_tup (pa_cons (pe_ix ix_tup (pv 5) pe_int (fun _ _ => rfl)) pa_nil))
      (pe_callTy c_tup (by rfl) mt b_tuple (pa_cons (pe_lc (own := [("k", 6)]) (g := gName 6) (by rfl) sc_term.nd (pi_range1 (by rfl) mr (pa_cons (pe_ix ix_tup (pv 5) pe_int (fun _ _ => rfl)) pa_nil))
        (blkOk_by (own := [("k", 6)]) (N := ["tape", "symbols", "variables", "depth", "choice", "symbol", "k"]) (sc := defScope s_term) (by decide +kernel)) (fun _ _ _ _ _ => pg_name (i := 6) sc_term.nd rfl (Or.inl rfl)) (fun _ _ _ _ _ => pts_nil)
        (fun _ _ _ _ _ => pe_cl cT hr (Nat.le_refl _) (by rfl) (pa_cons (pv 0) (pa_cons (pv 1) (pa_cons (pv 2) (pa_cons (pe_op op_sub (pv 3) pe_int) pa_nil)))))) pa_nil)))))))), ?_⟩
  rw [show L2.start ["tape", "symbols", "variables", "depth", "choice", "symbol", "k"] [.ref t, .ref sy, .ref va, .int ((d : Int) + 1)] = [some (.ref t), some (.ref sy), some (.ref va), some (.int ((d : Int) + 1)), none, none, none] from rfl]
  have nS := S.ne T
  have nV := Va.ne T
  obtain ⟨rs, eS, lS, _⟩ := id S.is
  obtain ⟨ws, eV, aV⟩ := id Va.is
  walk_at "rd"
  rw [List.length_map, lS, aV.len]
  refine ⟨t, sc, ns, _, rfl, T, by omega, by omega, fun H1 n k1 T1 n0 n1 => ?_⟩
  have S1 := S.tape T k1 nS
  have V1 := Va.tape T k1 nV
  have eS1 := kept_at k1 nS eS
  have eV1 := kept_at k1 nV eV
  have aV1 : Ats H1 ws vars := aV.keep (T.keepT k1)
  walk_at "rd"
  rw [aV.len]
  refine ite_dc (fun c => ?_) (fun c => ?_)
  · walk_at "rd"
    have hn : n.toNat < vars.length := by omega
    obtain ⟨v, ev, av⟩ := aV1.get' (List.getElem?_eq_getElem hn)
    refine d_ixLc eV1 (atI_of n0 ev) ?_
    exact q H1 v _ k1 T1 av (.var (List.getElem_mem hn))
  · walk_at "rd"
    obtain ⟨xs, r, z, ar, e2, lx, ex, er, nz, a0, a3, ezs⟩ := S1.get (k := n - vars.length) (by omega) (by omega)
    rw [aV.len]
    have memz : (z, ar) ∈ zs := List.mem_of_getElem? ezs
    refine d_ixLc e2 ex ?_
    walk_at "rd"
    refine ite_dc (fun c2 => ?_) (fun c2 => ?_)
    · walk_at "rd"
      refine ⟨smallN (show 1 ≤ 1000000 by decide), fun p hp => ?_⟩
      have kp : Kp [t] H1 (upd H1 p (.tup [.str z])) := Kp.new hp
      have d0 : d = 0 := by omega
      subst d0
      exact q _ _ (.app z []) (k1.trans kp) (T1.nil (Kp.new hp)) (.of upd_same .nil) (.leaf memz)
    · walk_at "rd"
      obtain ⟨e, rfl⟩ : ∃ e, d = e + 1 := ⟨d - 1, by omega⟩
      have hsp2 := hsp e dm
      refine ⟨smallN (show 1 ≤ 1000000 by decide), fun p hp => ?_⟩
      have kp : Kp [t] H1 (upd H1 p (.tup [.str z])) := Kp.new hp
      have T2 := T1.nil (Kp.new (o := .tup [.str z]) hp)
      have S2 := S1.tape T1 kp nS
      have V2 := V1.tape T1 kp nV
      have er2 := kept_at kp (fun z => T1.not_tup _ (z ▸ er)) er
      have nP : p ≠ t := fun z => T1.t_some hp z.symm
      walk_at "rd"
      refine ⟨by omega, by omega, fun D hD => ?_⟩
      have eP : (upd H1 p (.tup [.str z])) p = some (.tup [.str z]) := upd_same
      generalize (upd H1 p (.tup [.str z])) = B at kp T2 S2 V2 er2 hD eP ⊢
      have nD1 : D ≠ t := fun z => T2.t_some hD z.symm
      have nD2 : D ≠ sc := fun z => T2.s_some hD z.symm
      have nD3 : D ≠ sy := fun z => by obtain ⟨_, q1, _⟩ := S2.is; exact ne_of_none q1 hD z.symm
      have nD4 : D ≠ va := fun z => by obtain ⟨_, q1, _⟩ := V2.is; exact ne_of_none q1 hD z.symm
      have nD5 : D ≠ p := fun z => ne_of_none eP hD z.symm
      have i1 : ∀ {a : Addr}, D ≠ a → a ∉ [D] := fun h z => by rcases List.mem_cons.mp z with z | z; exact h z.symm; cases z
      refine lb_range (fun i H2 => ∃ vs ts, H2 D = some (.lst vs) ∧ Ats H2 vs ts ∧ ts.length = i ∧ (∀ u ∈ ts, Gen zs vars e u) ∧ Kp [D, t] B H2 ∧ TapeAt H2 t sc ns ∧ SymsAt H2 sy zs ∧ VarsAt H2 va vars ∧ H2 p = some (.tup [.str z]))
        ⟨[], [], upd_same, .nil, rfl, (fun u hu => by cases hu), Kp.new hD, T2.nil (Kp.new hD), S2.keep (l := []) (Kp.new hD) (by simp) (by simp), V2.keep (l := []) (Kp.new hD) (by simp) (by simp), by rw [upd_ne (Ne.symm nD5)]; exact eP⟩ (fun i H2 hi h2 => ?_) (fun H2 h2 => ?_)
      · obtain ⟨vs, ts, eD, aD, lD, gD, kD, T3, S3, V3, eP3⟩ := h2
        walk_at "rd"
        refine ⟨rfl, ?_⟩
        walk_at "rd"
        refine hsp2 _ _ _ _ ⟨t, sc, sy, va, ns, zs, vars, by rw [show (((e + 1 : Nat) : Int) + 1 - 1) = (e : Int) + 1 by omega], T3, S3, z1, z2, V3, v2, fun H4 v tm k4 T4 a4 g4 => ?_⟩
        have eD4 := kept_at k4 nD1 eD
        have ND : ∀ xs, H4 D ≠ some (.tup xs) := fun xs q1 => by rw [eD4] at q1; cases q1
        have kd : Kp [D] H4 (upd H4 D (.lst (vs ++ [v]))) := Kp.put (by simp)
        have dl : ∀ a ∈ [D], ∀ xs, H4 a ≠ some (.tup xs) := fun a ha xs => by rcases List.mem_cons.mp ha with z | z; (rw [z]; exact ND xs); cases z
        refine ⟨vs, eD4, smallL (by rw [aD.len, lD]; omega), vs ++ [v], ts ++ [tm], upd_same, ?_, by rw [List.length_append, lD]; rfl, fun u hu => ?_, ?_, ?_, ?_, ?_, ?_⟩
        · exact (((aD.keep (T3.keepT k4)).append (.one a4))).keep (kd.keepT dl)
        · rcases List.mem_append.mp hu with hu | hu
          · exact gD u hu
          · rcases List.mem_cons.mp hu with rfl | hu
            · exact g4
            · cases hu
        · exact (kD.trans (k4.mono fun b hb => List.mem_cons_of_mem _ hb)).trans (Kp.put (by simp))
        · exact T4.keep kd (i1 nD1) (i1 nD2)
        · exact (S3.tape T3 k4 nS).keep kd (i1 nD3) dl
        · exact (V3.tape T3 k4 nV).keep kd (i1 nD4) dl
        · rw [upd_ne (Ne.symm nD5)]
          exact kept_at k4 nP eP3
      · obtain ⟨vs, ts, eD, aD, lD, gD, kD, T3, S3, V3, eP3⟩ := h2
        walk_at "rd"
        intro l hl
        have k5 : Kp [D, t] H2 (upd H2 l (.tup vs)) := Kp.new hl
        have nl : p ≠ l := ne_of_none eP3 hl
        have T5 := T3.nil (Kp.new (o := .tup vs) hl)
        have kf : Kp [t] B (upd H2 l (.tup vs)) := (kD.trans k5).less hD
        have eP5 : (upd H2 l (.tup vs)) p = some (.tup [.str z]) := by rw [upd_ne nl]; exact eP3
        have a5 : Ats (upd H2 l (.tup vs)) vs ts := aD.keep ((Kp.new (l := []) hl).keepT (by simp))
        refine d_catT eP5 upd_same (by simp) (by rw [aD.len, lD]; show 1 + ar.toNat ≤ 1000000; omega) (fun hv => ?_) (fun hv r2 hr2 => ?_)
        · subst hv
          have ht : ts = [] := by have := aD.len; simpa using this.symm
          subst ht
          refine q _ _ (.app z []) ((k1.trans kp).trans kf) T5 (.of eP5 .nil) (.app (n := ar) memz (by rw [lD]) (fun u hu => by cases hu))
        · refine q _ _ (.app z ts) (((k1.trans kp).trans kf).trans (Kp.new hr2)) (T5.nil (Kp.new hr2)) (.of (vs := vs) upd_same (a5.keep ((Kp.new (l := []) hr2).keepT (by simp)))) (.app (n := ar) memz (by rw [lD]) gD)
theorem ok_term {P : Program} {w : World} {K : PySem.W.Frag} {mg : Str → Option Value} {base : Heap} {k : Nat} (D : Df K mg "_law_term" s_term ["tape", "symbols", "variables", "depth"])
    (cD : Cl P w K mg base k "_law_draw" ["tape", "many"] spDraw) (ml : mg "len" = none) (mr : mg "range" = none) (mt : mg "tuple" = none) : ∀ m : Nat, Cl P w K mg base (k + 1 + m) "_law_term" ["tape", "symbols", "variables", "depth"] (spTermLe m)
  | 0 => ok_term1 (sp := spNone) D cD (D.none (N := []) fun _ _ _ _ h => h) (fun e h => absurd h (by omega)) ml mr mt
  | m + 1 => ok_term1 (k := k + 1 + m) D (cD.mono (by omega)) (ok_term D cD ml mr mt m) (fun e h vs H Q E q => ⟨e, by omega, q⟩) ml mr mt

abbrev s_height_of : Stmt := top 1
theorem sc_height_of : FnScope ["derivation", "inner"] ["derivation"] (defScope s_height_of) := ⟨rfl, rfl, rfl, by decide +kernel, rfl, by decide +kernel, by decide +kernel⟩
theorem ok_height_of1 {P : Program} {w : World} {K : PySem.W.Frag} {mg : Str → Option Value} {base : Heap} {k d : Nat} (D : Df K mg "height_of" s_height_of ["derivation"])
    (cR : Cl P w K mg base k "height_of" ["derivation"] (spHeightD d)) (mx : mg "max" = none) : Cl P w K mg base (k + 1) "height_of" ["derivation"] (spHeightD (d + 1)) := by
  refine D.ok sc_height_of (fun vs H Q E h => ?_) (fun f cdv A outer s H vs Q E hr h => ?_)
  · obtain ⟨v, tm, rfl, _⟩ := h
    rfl
  obtain ⟨v, dv, rfl, hv, hz, hd, q⟩ := h
  refine ⟨_, pss_one (ps_ret (pe_op op_add pe_int (pe_callBK (cr_maxD rfl) (by rfl) mx b_max (pa_cons (pe_lc (own := [("inner", 1)]) (g := gName 1) (by rfl) sc_height_of.nd (pi_tup (pe_ix ix_tup (pv 0) pe_int (fun _ _ => rfl)))
        (blkOk_by (own := [("inner", 1)]) (N := ["derivation", "inner"]) (sc := defScope s_height_of) (by decide +kernel)) (fun _ _ _ _ _ => pg_name (i := 1) sc_height_of.nd rfl (Or.inl rfl)) (fun _ _ _ _ _ => pts_nil)
        (fun _ _ _ _ _ => pe_cl cR hr (Nat.le_refl _) (by rfl) (pa_cons (pv 1) pa_nil))) pa_nil) (pk_cons pe_int pk_nil)))), ?_⟩
  rw [show L2.start ["derivation", "inner"] [v] = [some v, none] from rfl]
  obtain ⟨a, b, c, n, ws, vs, ts, ds, rfl, rfl, e, eb, at', ec, da⟩ := hv.get
  rw [Dv.count_mk] at hz
  rw [Dv.height_mk] at hd
  have lt := Dv.length_le_counts ds
  have lv := da.len
  walk_at "rd"
  refine ⟨⟨vs, sqT ec⟩, fun D hD => ?_⟩
  refine lb_call (AtR := DAt) (ts := ds) (fun t => (t.height : Int)) (show 1 < 2 by decide) hD ec (by omega) lv (fun j v t H2 h1 h2 k2 _ nt => (da.at' j v t h1 h2).keep (k2.keepT (no_tup0 hD)))
      (fun v t H2 Q2 E2 ht hv2 q2 => ⟨v, t, rfl, hv2, by have := Dv.count_mem ht; omega, by have := Dv.height_mem ht; omega, q2⟩) (fun H2 k2 e2 => ?_)
  walk_at "rd"
  refine d_maxD (ns := ds.map fun t => (t.height : Int)) e2 (fun m hm => ?_)
  walk_at "rd"
  rw [heights_max ds m hm]
  rw [Dv.height_mk] at q
  exact q H2 (k2.less hD)
theorem ok_height_of {P : Program} {w : World} {K : PySem.W.Frag} {mg : Str → Option Value} {base : Heap} (D : Df K mg "height_of" s_height_of ["derivation"])
    (mx : mg "max" = none) : ∀ d : Nat, Cl P w K mg base d "height_of" ["derivation"] (spHeightD d)
  | 0 => D.none (N := []) fun vs H Q E h => by
    obtain ⟨v, tm, _, _, _, hd, _⟩ := h
    have := tm.height_pos
    omega
  | d + 1 => ok_height_of1 D (ok_height_of D mx d) mx

abbrev s_rules_in : Stmt := top 2
theorem sc_rules_in : FnScope ["derivation", "inner"] ["derivation"] (defScope s_rules_in) := ⟨rfl, rfl, rfl, by decide +kernel, rfl, by decide +kernel, by decide +kernel⟩
theorem ok_rules_in1 {P : Program} {w : World} {K : PySem.W.Frag} {mg : Str → Option Value} {base : Heap} {k d : Nat} (D : Df K mg "rules_in" s_rules_in ["derivation"])
    (cR : Cl P w K mg base k "rules_in" ["derivation"] (spCountD d)) (mx : mg "sum" = none) : Cl P w K mg base (k + 1) "rules_in" ["derivation"] (spCountD (d + 1)) := by
  refine D.ok sc_rules_in (fun vs H Q E h => ?_) (fun f cdv A outer s H vs Q E hr h => ?_)
  · obtain ⟨v, tm, rfl, _⟩ := h
    rfl
  obtain ⟨v, dv, rfl, hv, hz, hd, q⟩ := h
  refine ⟨_, pss_one (ps_ret (pe_op op_add pe_int (pe_callB (cr_sum rfl) (by rfl) mx b_sum (pa_cons (pe_lc (own := [("inner", 1)]) (g := gName 1) (by rfl) sc_rules_in.nd (pi_tup (pe_ix ix_tup (pv 0) pe_int (fun _ _ => rfl)))
        (blkOk_by (own := [("inner", 1)]) (N := ["derivation", "inner"]) (sc := defScope s_rules_in) (by decide +kernel)) (fun _ _ _ _ _ => pg_name (i := 1) sc_rules_in.nd rfl (Or.inl rfl)) (fun _ _ _ _ _ => pts_nil)
        (fun _ _ _ _ _ => pe_cl cR hr (Nat.le_refl _) (by rfl) (pa_cons (pv 1) pa_nil))) pa_nil)))), ?_⟩
  rw [show L2.start ["derivation", "inner"] [v] = [some v, none] from rfl]
  obtain ⟨a, b, c, n, ws, vs, ts, ds, rfl, rfl, e, eb, at', ec, da⟩ := hv.get
  rw [Dv.count_mk] at hz
  rw [Dv.height_mk] at hd
  have lt := Dv.length_le_counts ds
  have lv := da.len
  walk_at "rd"
  refine ⟨⟨vs, sqT ec⟩, fun D hD => ?_⟩
  refine lb_call (AtR := DAt) (ts := ds) (fun t => (t.count : Int)) (show 1 < 2 by decide) hD ec (by omega) lv (fun j v t H2 h1 h2 k2 _ nt => (da.at' j v t h1 h2).keep (k2.keepT (no_tup0 hD)))
      (fun v t H2 Q2 E2 ht hv2 q2 => ⟨v, t, rfl, hv2, by have := Dv.count_mem ht; omega, by have := Dv.height_mem ht; omega, q2⟩) (fun H2 k2 e2 => ?_)
  walk_at "rd"
  refine d_sum (ns := ds.map fun t => (t.count : Int)) e2 ?_
  walk_at "rd"
  rw [counts_sum ds]
  rw [Dv.count_mk] at q
  exact q H2 (k2.less hD)
theorem ok_rules_in {P : Program} {w : World} {K : PySem.W.Frag} {mg : Str → Option Value} {base : Heap} (D : Df K mg "rules_in" s_rules_in ["derivation"])
    (mx : mg "sum" = none) : ∀ d : Nat, Cl P w K mg base d "rules_in" ["derivation"] (spCountD d)
  | 0 => D.none (N := []) fun vs H Q E h => by
    obtain ⟨v, tm, _, _, _, hd, _⟩ := h
    have := tm.height_pos
    omega
  | d + 1 => ok_rules_in1 D (ok_rules_in D mx d) mx

abbrev s_law_height : Stmt := top 10
theorem sc_law_height : FnScope ["derivation", "highest", "part", "height"] ["derivation"] (defScope s_law_height) := ⟨rfl, rfl, rfl, by decide +kernel, rfl, by decide +kernel, by decide +kernel⟩
theorem ok_law_height1 {P : Program} {w : World} {K : PySem.W.Frag} {mg : Str → Option Value} {base : Heap} {k d : Nat} (D : Df K mg "_law_height" s_law_height ["derivation"])
    (cR : Cl P w K mg base k "_law_height" ["derivation"] (spHeightD d)) : Cl P w K mg base (k + 1) "_law_height" ["derivation"] (spHeightD (d + 1)) := by
  refine D.ok sc_law_height (fun vs H Q E h => ?_) (fun f cdv A outer s H vs Q E hr h => ?_)
  · obtain ⟨v, tm, rfl, _⟩ := h
    rfl
  obtain ⟨v, dv, rfl, hv, hz, hd, q⟩ := h
  refine ⟨_, pss_cons (ps_set (i := 1) sc_law_height.nd rfl (.inl rfl) pe_int)
    (pss_cons (ps_for PassesOwn.never rfl (pi_tup (pe_ix ix_tup (pv 0) pe_int (fun _ _ => rfl))) (pg_name (i := 2) sc_law_height.nd rfl (.inl rfl))
      (pss_cons (ps_set (i := 3) sc_law_height.nd rfl (.inl rfl) (pe_cl cR hr (Nat.le_refl _) (by rfl) (pa_cons (pv 2) pa_nil)))
      (pss_one (ps_if (pt_cmpR op_gt (pv 3) (pv 1) (nomark _)) (pss_one (ps_set (i := 1) sc_law_height.nd rfl (.inl rfl) (pv 3))) pss_nil))))
    (pss_one (ps_ret (pe_op op_add pe_int (pv 1))))), ?_⟩
  rw [show L2.start ["derivation", "highest", "part", "height"] [v] = [some v, none, none, none] from rfl]
  obtain ⟨a, b, c, n, ws, vs, ts, ds, rfl, rfl, e, eb, at', ec, da⟩ := hv.get
  rw [Dv.count_mk] at hz
  rw [Dv.height_mk] at hd q
  have lv := da.len
  walk_at "rd"
  refine ⟨⟨vs, sqT ec⟩, ?_⟩
  refine fr_tup (xs := vs) (fun i σ H2 => ∃ y z, σ = [some (.ref a), some (.int (Dv.heights (ds.take i))), y, z] ∧ Kp [] H H2) ⟨none, none, rfl, Kp.refl _ _⟩ (fun i σ H2 _ ⟨y, z, _, k2⟩ => sqT (k2 _ _ (by simp) ec)) (fun i x σ H2 hx ⟨y, z, e1, k2⟩ => ?_) (fun σ H2 ⟨y, z, e1, k2⟩ => ?_)
  · subst e1
    have hi : i < vs.length := (List.getElem?_eq_some_iff.mp hx).1
    have ht : ds[i]? = some ds[i] := List.getElem?_eq_getElem (by omega)
    have ax := (da.at' i x _ hx ht).keep (k2.keepT (by simp))
    have mem : ds[i] ∈ ds := List.getElem_mem _
    walk_at "rd"
    refine ⟨x, ds[i], rfl, ax, by have := Dv.count_mem mem; omega, by have := Dv.height_mem mem; omega, fun H3 k3 => ?_⟩
    walk_at "rd"
    have eT : Dv.heights (ds.take (i + 1)) = max (Dv.heights (ds.take i)) ds[i].height := by
      rw [List.take_add_one, ht, Dv.heights_append, Option.toList_some, Dv.heights_cons, Dv.heights_nil]
      omega
    refine ite_dc (fun c => ?_) (fun c => ?_)
    · walk_at "rd"
      exact ⟨_, _, by rw [eT, Nat.max_eq_right (by omega)], k2.trans k3⟩
    · walk_at "rd"
      exact ⟨_, _, by rw [eT, Nat.max_eq_left (by omega)], k2.trans k3⟩
  · subst e1
    walk_at "rd"
    rw [List.take_of_length_le (by omega)]
    have q' := q H2 k2
    exact q'
theorem ok_law_height {P : Program} {w : World} {K : PySem.W.Frag} {mg : Str → Option Value} {base : Heap} (D : Df K mg "_law_height" s_law_height ["derivation"]) : ∀ d : Nat, Cl P w K mg base d "_law_height" ["derivation"] (spHeightD d)
  | 0 => D.none (N := []) fun vs H Q E h => by
    obtain ⟨v, tm, _, _, _, hd, _⟩ := h
    have := tm.height_pos
    omega
  | d + 1 => ok_law_height1 D (ok_law_height D d)

abbrev s_law_counted : Stmt := top 12
theorem sc_law_counted : FnScope ["derivation", "total", "part"] ["derivation"] (defScope s_law_counted) := ⟨rfl, rfl, rfl, by decide +kernel, rfl, by decide +kernel, by decide +kernel⟩
theorem ok_law_counted1 {P : Program} {w : World} {K : PySem.W.Frag} {mg : Str → Option Value} {base : Heap} {k d : Nat} (D : Df K mg "_law_counted" s_law_counted ["derivation"])
    (cR : Cl P w K mg base k "_law_counted" ["derivation"] (spCountD d)) : Cl P w K mg base (k + 1) "_law_counted" ["derivation"] (spCountD (d + 1)) := by
  refine D.ok sc_law_counted (fun vs H Q E h => ?_) (fun f cdv A outer s H vs Q E hr h => ?_)
  · obtain ⟨v, tm, rfl, _⟩ := h
    rfl
  obtain ⟨v, dv, rfl, hv, hz, hd, q⟩ := h
  refine ⟨_, pss_cons (ps_set (i := 1) sc_law_counted.nd rfl (.inl rfl) pe_int)
    (pss_cons (ps_for PassesOwn.never rfl (pi_tup (pe_ix ix_tup (pv 0) pe_int (fun _ _ => rfl))) (pg_name (i := 2) sc_law_counted.nd rfl (.inl rfl))
      (pss_one (ps_set (i := 1) sc_law_counted.nd rfl (.inl rfl) (pe_op op_add (pv 1) (pe_cl cR hr (Nat.le_refl _) (by rfl) (pa_cons (pv 2) pa_nil))))))
    (pss_one (ps_ret (pv 1)))), ?_⟩
  rw [show L2.start ["derivation", "total", "part"] [v] = [some v, none, none] from rfl]
  obtain ⟨a, b, c, n, ws, vs, ts, ds, rfl, rfl, e, eb, at', ec, da⟩ := hv.get
  rw [Dv.count_mk] at hz q
  rw [Dv.height_mk] at hd
  have lv := da.len
  walk_at "rd"
  refine ⟨⟨vs, sqT ec⟩, ?_⟩
  refine fr_tup (xs := vs) (fun i σ H2 => ∃ y, σ = [some (.ref a), some (.int (1 + (Dv.counts (ds.take i) : Int))), y] ∧ Kp [] H H2) ⟨none, rfl, Kp.refl _ _⟩ (fun i σ H2 _ ⟨y, _, k2⟩ => sqT (k2 _ _ (by simp) ec)) (fun i x σ H2 hx ⟨y, e1, k2⟩ => ?_) (fun σ H2 ⟨y, e1, k2⟩ => ?_)
  · subst e1
    have hi : i < vs.length := (List.getElem?_eq_some_iff.mp hx).1
    have ht : ds[i]? = some ds[i] := List.getElem?_eq_getElem (by omega)
    have ax := (da.at' i x _ hx ht).keep (k2.keepT (by simp))
    have mem : ds[i] ∈ ds := List.getElem_mem _
    walk_at "rd"
    refine ⟨x, ds[i], rfl, ax, by have := Dv.count_mem mem; omega, by have := Dv.height_mem mem; omega, fun H3 k3 => ?_⟩
    walk_at "rd"
    have eT : Dv.counts (ds.take (i + 1)) = Dv.counts (ds.take i) + ds[i].count := by
      rw [List.take_add_one, ht, Dv.counts_append, Option.toList_some, Dv.counts_cons, Dv.counts_nil]
      omega
    exact ⟨_, by rw [eT, Int.natCast_add, Int.add_assoc], k2.trans k3⟩
  · subst e1
    walk_at "rd"
    rw [List.take_of_length_le (by omega)]
    have q' := q H2 k2
    exact q'
theorem ok_law_counted {P : Program} {w : World} {K : PySem.W.Frag} {mg : Str → Option Value} {base : Heap} (D : Df K mg "_law_counted" s_law_counted ["derivation"]) : ∀ d : Nat, Cl P w K mg base d "_law_counted" ["derivation"] (spCountD d)
  | 0 => D.none (N := []) fun vs H Q E h => by
    obtain ⟨v, tm, _, _, _, hd, _⟩ := h
    have := tm.height_pos
    omega
  | d + 1 => ok_law_counted1 D (ok_law_counted D d)

abbrev s_triple : Stmt := top 11
theorem sc_triple : FnScope ["tape", "symbols", "depth", "many", "parts", "k", "terms"] ["tape", "symbols", "depth"] (defScope s_triple) := ⟨rfl, rfl, rfl, by decide +kernel, rfl, by decide +kernel, by decide +kernel⟩
theorem ok_triple1 {P : Program} {w : World} {K : PySem.W.Frag} {mg : Str → Option Value} {base : Heap} {k d : Nat} {sp : Sp} (D : Df K mg "_law_triple" s_triple ["tape", "symbols", "depth"])
    (cD : Cl P w K mg base k "_law_draw" ["tape", "many"] spDraw) (cT : Cl P w K mg base k "_law_term" ["tape", "symbols", "variables", "depth"] (spTermLe 0)) (cR : Cl P w K mg base k "_law_triple" ["tape", "symbols", "depth"] sp)
    (hsp : ∀ e, d = e + 1 → sp = spTriple e) (ml : mg "len" = none) (mr : mg "range" = none) (mt : mg "tuple" = none) : Cl P w K mg base (k + 1) "_law_triple" ["tape", "symbols", "depth"] (spTriple d) := by
  refine D.ok sc_triple (fun vs H Q E h => ?_) (fun f cdv A outer s H vs Q E hr h => ?_)
  · obtain ⟨t, sc, sy, ns, zs, rfl, _⟩ := h
    rfl
  obtain ⟨t, sc, sy, ns, zs, rfl, T, S, z1, z2, q⟩ := h
  refine ⟨_, pss_cons (ps_set (i := 3) sc_triple.nd rfl (.inl rfl) pe_int)
    (C8.pss_cut (ps_if (pt_cmpR op_gt (pv 2) pe_int (nomark _)) (pss_one (ps_set (i := 3) sc_triple.nd rfl (.inl rfl) (pe_ix ix_list (pe_lst (pa_cons pe_int (pa_cons pe_int (pa_cons pe_int (pa_cons pe_int pa_nil)))))
        (pe_cl cD hr (Nat.le_refl _) (by rfl) (pa_cons (pv 0) (pa_cons pe_int pa_nil))) (fun _ _ => rfl)))) pss_nil)
    (pss_cons (ps_set (i := 4) sc_triple.nd rfl (.inl rfl) (pe_lst pa_nil))
    (pss_cons (ps_for PassesOwn.never rfl (pi_range1 (by rfl) mr (pa_cons (pv 3) pa_nil)) (pg_name (i := 5) sc_triple.nd rfl (.inl rfl))
      (pss_one (ps_if (PW.pt (pw_and (p_tru (pv 4)) (pw_and1 (pt_cmpR op_eq (pe_cl cD hr (Nat.le_refl _) (by rfl) (pa_cons (pv 0) (pa_cons pe_int pa_nil))) pe_int (nomark _)))))
        (pss_one (ps_expr (pe_bm PySem.F.plainAttrs_list PySem.F.slot_list_append PySem.F.type_list_append mt_append (pv 4) (pa_cons (pe_ix ix_list (pv 4) pe_int (fun _ _ => rfl)) pa_nil))))
        (pss_one (ps_if (pt_cmpR op_lt (pe_callB c_len (by rfl) ml b_len (pa_cons (pv 4) pa_nil)) pe_int (nomark _))
          (pss_one (ps_expr (pe_bm PySem.F.plainAttrs_list PySem.F.slot_list_append PySem.F.type_list_append mt_append (pv 4) (pa_cons (pe_cl cR hr (Nat.le_refl _) (by rfl) (pa_cons (pv 0) (pa_cons (pv 1) (pa_cons (pe_op op_sub (pv 2) pe_int) pa_nil)))) pa_nil))))
          (pss_one (ps_expr (pe_bm PySem.F.plainAttrs_list PySem.F.slot_list_append PySem.F.type_list_append mt_append (pv 4) (pa_cons (pe_tup (pa_cons pe_str (pa_cons (pe_tup pa_nil) (pa_cons (pe_tup pa_nil) pa_nil)))) pa_nil)))))))))
    (pss_cons (ps_setLc (i := 6) (own := [("k", 5)]) (g := gName 5) (by rfl) sc_triple.nd rfl rfl (sw_true rfl rfl rfl (by decide +kernel)) (pi_range1 (by rfl) mr (pa_cons (pe_cl cD hr (Nat.le_refl _) (by rfl) (pa_cons (pv 0) (pa_cons pe_int pa_nil))) pa_nil))
        (blkOk_by (own := [("k", 5)]) (N := ["tape", "symbols", "depth", "many", "parts", "k", "terms"]) (sc := defScope s_triple) (by decide +kernel)) (fun _ _ _ _ _ => pg_name (i := 5) sc_triple.nd rfl (Or.inl rfl)) (fun _ _ _ _ _ => pts_nil)
        (fun _ _ _ _ _ => pe_cl cT hr (Nat.le_refl _) (by rfl) (pa_cons (pv 0) (pa_cons (pv 1) (pa_cons (pe_lst (pa_cons pe_int (pa_cons pe_int pa_nil))) (pa_cons pe_int pa_nil))))))
    (pss_one (ps_ret (pe_tup (pa_cons (pe_ix ix_list (pe_lst (pa_cons pe_str (pa_cons pe_str (pa_cons (pe_ix ix_tup (pe_ix ix_list (pv 1) pe_int (fun _ _ => rfl)) pe_int (fun _ _ => rfl)) pa_nil))))
      (pe_cl cD hr (Nat.le_refl _) (by rfl) (pa_cons (pv 0) (pa_cons pe_int pa_nil))) (fun _ _ => rfl)) (pa_cons (pe_callTy c_tup (by rfl) mt b_tuple (pa_cons (pv 6) pa_nil)) (pa_cons (pe_callTy c_tup (by rfl) mt b_tuple (pa_cons (pv 4) pa_nil)) pa_nil)))))))))), ?_⟩
  rw [show L2.start ["tape", "symbols", "depth", "many", "parts", "k", "terms"] [.ref t, .ref sy, .int ((d : Int) + 1)] = [some (.ref t), some (.ref sy), some (.int ((d : Int) + 1)), none, none, none, none] from rfl]
  walk_at "rd"
  have nS := S.ne T
  refine d_cut (fun σ H' => ∃ m : Int, σ = [some (.ref t), some (.ref sy), some (.int ((d : Int) + 1)), some (.int m), none, none, none] ∧ Kp [t] H H' ∧ TapeAt H' t sc ns ∧ SymsAt H' sy zs ∧ 0 ≤ m ∧ m ≤ 4 ∧ (d = 0 → m = 0)) ?_ (fun σ H1 h1 => ?_)
  · walk_at "rd"
    refine ite_dc (fun c => ?_) (fun c => ?_)
    · walk_at "rd"
      refine ⟨smallN (show 4 ≤ 1000000 by decide), fun l hl => ?_⟩
      walk_at "rd"
      have kl : Kp [t] H (upd H l (.lst [.int 0, .int 1, .int 2, .int 4])) := Kp.new hl
      have Tl := T.nil (Kp.new (o := .lst [.int 0, .int 1, .int 2, .int 4]) hl)
      have Sl := S.tape T kl nS
      have nl : l ≠ t := fun z => T.t_some hl z.symm
      refine ⟨t, sc, ns, 4, rfl, Tl, by decide, by decide, fun H2 n k2 T2 n0 n1 => ?_⟩
      obtain ⟨m, em, m0, m4⟩ : ∃ m : Int, atI [V.int 0, V.int 1, V.int 2, V.int 4] n = some (.int m) ∧ 0 ≤ m ∧ m ≤ 4 := by
        have hn : n = 0 ∨ n = 1 ∨ n = 2 ∨ n = 3 := by omega
        rcases hn with rfl | rfl | rfl | rfl
        · exact ⟨_, rfl, by decide, by decide⟩
        · exact ⟨_, rfl, by decide, by decide⟩
        · exact ⟨_, rfl, by decide, by decide⟩
        · exact ⟨_, rfl, by decide, by decide⟩
      refine d_ixLc (kept_at k2 nl upd_same) em ?_
      walk_at "rd"
      exact ⟨kl.trans k2, T2, Sl.tape Tl k2 nS, m0, m4, fun h => by omega⟩
    · walk_at "rd"
      exact ⟨Kp.refl _ _, T, S, by decide, by decide, fun _ => rfl⟩
  obtain ⟨m, rfl, k1, T1, S1, m0, m4, md⟩ := h1
  walk_at "rd"
  refine ⟨Nat.zero_le _, fun p hp => ?_⟩
  walk_at "rd"
  refine ⟨by omega, by omega, ?_⟩
  have pt : p ≠ t := fun z => T1.t_some hp z.symm
  have ps : p ≠ sc := fun z => T1.s_some hp z.symm
  have py : p ≠ sy := fun z => by obtain ⟨_, q1, _⟩ := S1.is; exact ne_of_none q1 hp z.symm
  have i1 : ∀ {a : Addr}, p ≠ a → a ∉ [p] := fun h z => by rcases List.mem_cons.mp z with z | z; exact h z.symm; cases z
  have mk1 : ∀ {a b : Hp}, Kp [t] a b → Kp [p, t] a b := fun k => k.mono fun b hb => List.mem_cons_of_mem _ hb
  refine fr_range (fun i σ H2 => ∃ vs ds k5, σ = [some (.ref t), some (.ref sy), some (.int ((d : Int) + 1)), some (.int m), some (.ref p), k5, none] ∧ Kp [p, t] H1 H2 ∧ TapeAt H2 t sc ns ∧ SymsAt H2 sy zs ∧ H2 p = some (.lst vs) ∧ DAts H2 vs ds ∧
      ds.length = i ∧ ∀ u ∈ ds, u.height ≤ d ∧ u.count ≤ cMax (d - 1))
    ⟨[], [], none, rfl, Kp.new hp, T1.nil (Kp.new hp), S1.keep (l := []) (Kp.new hp) (by simp) (by simp), upd_same, .nil, rfl, fun u hu => by cases hu⟩ (fun i σ H2 hi h2 => ?_) (fun σ H2 h2 => ?_)
  · obtain ⟨vs, ds, k5, rfl, k2, T2, S2, e2, d2, l2, g2⟩ := h2
    have hd0 : d ≠ 0 := fun z => by
      have := md z
      omega
    obtain ⟨e, rfl⟩ : ∃ e, d = e + 1 := ⟨d - 1, by omega⟩
    have hsp2 := hsp e rfl
    subst hsp2
    have fin : ∀ (H4 : Hp) (v : V) (u : Dv) (vs4 : List V), Kp [t] H2 H4 → TapeAt H4 t sc ns → SymsAt H4 sy zs → H4 p = some (.lst vs) → DAts H4 vs ds → DAt H4 v u → u.height ≤ e + 1 → u.count ≤ cMax e →
        ∃ vs' ds' k5', ([some (V.ref t), some (V.ref sy), some (V.int (((e + 1 : Nat) : Int) + 1)), some (V.int m), some (V.ref p), some (V.int (0 + (i : Int))), none] : St) = [some (V.ref t), some (V.ref sy), some (V.int (((e + 1 : Nat) : Int) + 1)), some (V.int m), some (V.ref p), k5', none] ∧
          Kp [p, t] H1 (upd H4 p (.lst (vs ++ [v]))) ∧ TapeAt (upd H4 p (.lst (vs ++ [v]))) t sc ns ∧ SymsAt (upd H4 p (.lst (vs ++ [v]))) sy zs ∧ (upd H4 p (.lst (vs ++ [v]))) p = some (.lst vs') ∧ DAts (upd H4 p (.lst (vs ++ [v]))) vs' ds' ∧
          ds'.length = i + 1 ∧ ∀ u ∈ ds', u.height ≤ e + 1 ∧ u.count ≤ cMax (e + 1 - 1) := fun H4 v u _ k4 T4 S4 e4 d4 a4 hh hc => by
      have kd : Kp [p] H4 (upd H4 p (.lst (vs ++ [v]))) := Kp.put (by simp)
      refine ⟨vs ++ [v], ds ++ [u], _, rfl, (k2.trans (mk1 k4)).trans (Kp.put (by simp)), T4.keep kd (i1 pt) (i1 ps), S4.keep kd (i1 py) (no_tup1 e4), upd_same, kd.dats (no_tup1 e4) (d4.append (.one a4)), by rw [List.length_append, l2]; rfl, fun x hx => ?_⟩
      rcases List.mem_append.mp hx with hx | hx
      · exact g2 x hx
      · rcases List.mem_cons.mp hx with rfl | hx
        · exact ⟨hh, hc⟩
        · cases hx
    have lv : vs.length < 1000000 := by rw [d2.len, l2]; omega
    walk_at "rd"
    refine ite_bl (fun c => ?_) (fun c => ?_)
    · walk_at "rd"
      refine ⟨t, sc, ns, 3, rfl, T2, by decide, by decide, fun H3 n k3 T3 n0 n1 => ?_⟩
      have S3 := S2.tape T2 k3 (S2.ne T2)
      have e3 := kept_at k3 pt e2
      have d3 := d2.keep (T2.keepT k3)
      walk_at "rd"
      refine ite_dc (fun c3 => ?_) (fun c3 => ?_)
      · obtain ⟨v, vr, rfl⟩ : ∃ v vr, vs = v :: vr := by
          cases vs with
          | nil => cases c
          | cons v vr => exact ⟨v, vr, rfl⟩
        obtain ⟨u, ur, rfl⟩ : ∃ u ur, ds = u :: ur := by
          cases ds with
          | nil => have := d2.len; cases this
          | cons v vr => exact ⟨v, vr, rfl⟩
        walk_at "rd"
        refine d_ixLc e3 (atI_of (Int.le_refl 0) rfl) ?_
        walk_at "rd"
        refine d_app e3 lv ?_
        have gu := g2 u List.mem_cons_self
        exact fin H3 v u [] k3 T3 S3 e3 d3 d3.head gu.1 gu.2
      · walk_at "rd"
        refine ite_dc (fun c4 => ?_) (fun c4 => ?_)
        · walk_at "rd"
          refine ⟨t, sc, sy, ns, zs, by rw [show (((e + 1 : Nat) : Int) + 1 - 1) = (e : Int) + 1 by omega], T3, S3, z1, z2, fun H4 v u k4 T4 a4 hh hc => ?_⟩
          walk_at "rd"
          have e4 := kept_at k4 pt e3
          refine d_app e4 lv ?_
          exact fin H4 v u [] (k3.trans k4) T4 (S3.tape T3 k4 (S3.ne T3)) e4 (d3.keep (T3.keepT k4)) a4 hh hc
        · walk_at "rd"
          refine ⟨Nat.zero_le _, fun r1 hr1 => ?_⟩
          walk_at "rd"
          refine ⟨Nat.zero_le _, fun r2 hr2 => ?_⟩
          walk_at "rd"
          refine ⟨smallN (show 3 ≤ 1000000 by decide), fun r3 hr3 => ?_⟩
          walk_at "rd"
          have kk1 : Kp [] H3 (upd H3 r1 (.tup [])) := Kp.new hr1
          have kk2 : Kp [] (upd H3 r1 (.tup [])) (upd (upd H3 r1 (.tup [])) r2 (.tup [])) := Kp.new hr2
          have kk3 : Kp [] (upd (upd H3 r1 (.tup [])) r2 (.tup [])) (upd (upd (upd H3 r1 (.tup [])) r2 (.tup [])) r3 (.tup [.str "", .ref r1, .ref r2])) := Kp.new hr3
          have kk := (kk1.trans kk2).trans kk3
          have e4 := kk _ _ (by simp) e3
          refine d_app e4 lv ?_
          refine fin _ _ (.mk "" [] []) [] (k3.trans (kk.mono (by simp))) (T3.nil kk) (S3.keep (l := []) kk (by simp) (by simp)) e4 (kk.dats (by simp) d3) (.of upd_same ((kk2.trans kk3) _ _ (by simp) upd_same) .nil (kk3 _ _ (by simp) upd_same) .nil) ?_ ?_
          · rw [Dv.height_mk, Dv.heights_nil]; omega
          · rw [Dv.count_mk, Dv.counts_nil]; exact cMax_pos e
    · walk_at "rd"
      have hv : vs = [] := by cases vs with
        | nil => rfl
        | cons v vr => cases c
      refine iteF ?_
      walk_at "rd"
      refine ite_dc (fun c4 => ?_) (fun c4 => ?_)
      · walk_at "rd"
        refine ⟨t, sc, sy, ns, zs, by rw [show (((e + 1 : Nat) : Int) + 1 - 1) = (e : Int) + 1 by omega], T2, S2, z1, z2, fun H4 v u k4 T4 a4 hh hc => ?_⟩
        walk_at "rd"
        have e4 := kept_at k4 pt e2
        refine d_app e4 lv ?_
        exact fin H4 v u [] k4 T4 (S2.tape T2 k4 (S2.ne T2)) e4 (d2.keep (T2.keepT k4)) a4 hh hc
      · subst hv
        exact absurd (show ((([] : List V).length : Nat) : Int) < 2 by decide) c4
  · obtain ⟨vs, ds, k5, rfl, k2, T2, S2, e2, d2, l2, g2⟩ := h2
    walk_at "rd"
    refine ⟨t, sc, ns, 4, rfl, T2, by decide, by decide, fun H3 n k3 T3 n0 n1 => ?_⟩
    have S3 := S2.tape T2 k3 (S2.ne T2)
    have e3 := kept_at k3 pt e2
    have d3 := d2.keep (T2.keepT k3)
    walk_at "rd"
    refine ⟨by omega, by omega, fun DD hDD => ?_⟩
    refine lb_gen (AtR := Ats) hDD T3 S3 (by omega) (fun _ => True) (fun _ => .nil) (fun _ _ _ h => h.len) (fun _ _ _ _ k h => h.keep k) (fun j H' Q2 T4 S4 h => ?_) (fun H4 ws ts kD eD aD lD _ T4 S4 => ?_)
    · show tCall (spTermLe 0) [] E0 _ [some (.ref t), some (.ref sy), some (.int ((d : Int) + 1)), some (.int m), some (.ref p), some (.int (0 + (j : Nat))), none] H' Q2
      walk_at "rd"
      refine ⟨smallN (show 2 ≤ 1000000 by decide), fun va hva => ?_⟩
      walk_at "rd"
      have kv : Kp [] H' (upd H' va (.lst [.int 0, .int 7])) := Kp.new hva
      refine ⟨0, Nat.le_refl _, t, sc, sy, va, ns, zs, [0, 7].map Tm.var, rfl, T4.nil kv, S4.keep (l := []) kv (by simp) (by simp), z1, z2, ⟨⟨_, upd_same, ats_ints [0, 7]⟩⟩, by decide, fun H5 v tm k5 T5 a5 _ => ?_⟩
      exact h H5 v tm ((kv.mono (by simp)).trans k5) T5 (fun _ _ r => r.append (.one a5)) trivial
    · have nDp : p ≠ DD := ne_of_none e3 hDD
      have e4 : H4 p = some (.lst vs) := kD p _ (by simp [pt, nDp]) e3
      have d4 := kD.dats (fun b hb ys => by
          rcases List.mem_cons.mp hb with z | z
          · rw [z, hDD]; intro e; cases e
          · rcases List.mem_cons.mp z with z | z
            · rw [z]; exact T3.not_tup ys
            · cases z) d3
      have kE : Kp [p, t] H1 H4 := (k2.trans (mk1 k3)).trans (mk1 (kD.less hDD))
      obtain ⟨xs, r, z, nn, es, lx, ex, er, nz⟩ := S4.get (k := 0) (Int.le_refl _) (by omega)
      walk_at "rd"
      refine d_ixLc es ex ?_
      walk_at "rd"
      refine ⟨smallN (show 3 ≤ 1000000 by decide), fun l hl => ?_⟩
      have kl : Kp [] H4 (upd H4 l (.lst [.str "", .str "refl", .str z])) := Kp.new hl
      have T5 := T4.nil kl
      have nl : l ≠ t := fun z => T4.t_some hl z.symm
      have e5 := kl _ _ (by simp) e4
      have d5 := kl.dats (by simp) d4
      have eD5 := kl _ _ (by simp) eD
      have aD5 := kl.ats (by simp) aD
      have el5 : (upd H4 l (.lst [.str "", .str "refl", .str z])) l = some (.lst [.str "", .str "refl", .str z]) := upd_same
      generalize (upd H4 l (.lst [.str "", .str "refl", .str z])) = H5 at kl T5 e5 d5 eD5 aD5 el5 ⊢
      walk_at "rd"
      refine ⟨t, sc, ns, 3, rfl, T5, by decide, by decide, fun H6 n6 k6 T6 n60 n61 => ?_⟩
      have e6 := kept_at k6 pt e5
      have d6 := d5.keep (T5.keepT k6)
      have nDt : DD ≠ t := fun z => T3.t_some hDD z.symm
      have eD6 := kept_at k6 nDt eD5
      have aD6 := aD5.keep (T5.keepT k6)
      obtain ⟨nm, em⟩ : ∃ nm : Str, atI [V.str "", V.str "refl", V.str z] n6 = some (.str nm) := by
        have hn : n6 = 0 ∨ n6 = 1 ∨ n6 = 2 := by omega
        rcases hn with rfl | rfl | rfl
        · exact ⟨_, rfl⟩
        · exact ⟨_, rfl⟩
        · exact ⟨_, rfl⟩
      refine d_ixLc (kept_at k6 nl el5) em ?_
      walk_at "rd"
      intro b hb
      have kb : Kp [] H6 (upd H6 b (.tup ws)) := Kp.new hb
      have e7 := kb _ _ (by simp) e6
      walk_at "rd"
      intro c hc
      have kc : Kp [] (upd H6 b (.tup ws)) (upd (upd H6 b (.tup ws)) c (.tup vs)) := Kp.new hc
      walk_at "rd"
      refine ⟨smallN (show 3 ≤ 1000000 by decide), fun r9 hr9 => ?_⟩
      have kr : Kp [] (upd (upd H6 b (.tup ws)) c (.tup vs)) (upd (upd (upd H6 b (.tup ws)) c (.tup vs)) r9 (.tup [.str nm, .ref b, .ref c])) := Kp.new hr9
      have kall := (kb.trans kc).trans kr
      refine q _ _ (.mk nm ts ds) (((k1.trans (kE.less hp)).trans (kl.mono (by simp))).trans (k6.trans (kall.mono (by simp)))) (T6.nil kall)
        (.of upd_same ((kc.trans kr) _ _ (by simp) upd_same) (kall.ats (by simp) aD6) (kr _ _ (by simp) upd_same) (kall.dats (by simp) d6)) ?_ ?_
      · rw [Dv.height_mk]
        have := Dv.heights_le (fun u hu => (g2 u hu).1)
        omega
      · rw [Dv.count_mk]
        have h1 := Dv.counts_le (fun u hu => (g2 u hu).2)
        rw [l2] at h1
        cases d with
        | zero =>
          rw [md rfl] at h1
          have : (0 : Int).toNat * cMax (0 - 1) = 0 := Nat.zero_mul _
          show 1 + Dv.counts ds ≤ 1
          omega
        | succ e =>
          have h2 : m.toNat * cMax (e + 1 - 1) ≤ 4 * cMax e := Nat.mul_le_mul_right _ (by omega)
          show 1 + Dv.counts ds ≤ 1 + 4 * cMax e
          omega
theorem ok_triple {P : Program} {w : World} {K : PySem.W.Frag} {mg : Str → Option Value} {base : Heap} {k : Nat} (D : Df K mg "_law_triple" s_triple ["tape", "symbols", "depth"])
    (cD : Cl P w K mg base k "_law_draw" ["tape", "many"] spDraw) (cT : Cl P w K mg base k "_law_term" ["tape", "symbols", "variables", "depth"] (spTermLe 0)) (ml : mg "len" = none) (mr : mg "range" = none) (mt : mg "tuple" = none) : ∀ d : Nat, Cl P w K mg base (k + 1 + d) "_law_triple" ["tape", "symbols", "depth"] (spTriple d)
  | 0 => ok_triple1 (sp := spNone) D cD cT (D.none (N := []) fun _ _ _ _ h => h) (fun e h => by cases h) ml mr mt
  | d + 1 => ok_triple1 (k := k + 1 + d) D (cD.mono (by omega)) (cT.mono (by omega)) (ok_triple D cD cT ml mr mt d) (fun e h => by cases h; rfl) ml mr mt

abbrev s_alike : Stmt := top 9
theorem sc_alike : FnScope ["told", "due"] ["told", "due"] (defScope s_alike) := ⟨rfl, rfl, rfl, by decide +kernel, rfl, by decide +kernel, by decide +kernel⟩
theorem ok_alikeI {P : Program} {w : World} {K : PySem.W.Frag} {mg : Str → Option Value} {base : Heap} {k : Nat} (D : Df K mg "_law_alike" s_alike ["told", "due"])
    (mi : mg "int" = none) (mt : mg "tuple" = none) (ms : mg "isinstance" = none) (mp : mg "repr" = none) : Cl P w K mg base (k + 1) "_law_alike" ["told", "due"] spAlikeI := by
  refine D.ok sc_alike (fun vs H Q E h => ?_) (fun f cdv A outer s H vs Q E hr h => ?_)
  · obtain ⟨i, rfl, _⟩ := h
    rfl
  obtain ⟨i, rfl, hi, q⟩ := h
  refine ⟨_, pss_cons (ps_if (PW.pt (pw_and (pt_val (pe_callB call_isi (by rfl) ms b_isinstance (pa_cons (pv 1) (pa_cons (pe_bltn (v := .ty "tuple") (by rfl) mt b_tuple rfl) pa_nil))))
        (pw_and1 (pt_not (pt_val (pe_callB call_isi (by rfl) ms b_isinstance (pa_cons (pv 0) (pa_cons (pe_bltn (v := .ty "tuple") (by rfl) mt b_tuple rfl) pa_nil)))))))) (pss_one (ps_ret pe_bl)) pss_nil)
    (pss_cons (ps_if (PW.pt (pw_and (pt_val (pe_callB call_isi (by rfl) ms b_isinstance (pa_cons (pv 1) (pa_cons (pe_bltn (v := .ty "int") (by rfl) mi b_int rfl) pa_nil))))
        (pw_and1 (pt_not (pt_val (pe_callB call_isi (by rfl) ms b_isinstance (pa_cons (pv 0) (pa_cons (pe_bltn (v := .ty "int") (by rfl) mi b_int rfl) pa_nil)))))))) (pss_one (ps_ret pe_bl)) pss_nil)
    (pss_one (ps_ret (pe_and (pe_cmpR op_eq (pv 0) (pv 1) (nomark _)) (pe_one (pe_cmpR op_eq (pe_callB c_reprI (by rfl) mp b_repr (pa_cons (pv 0) pa_nil)) (pe_callB c_reprI (by rfl) mp b_repr (pa_cons (pv 1) pa_nil)) (nomark _))))))), ?_⟩
  rw [show L2.start ["told", "due"] [.int i, .int i] = [some (.int i), some (.int i)] from rfl]
  have hl := log_small hi
  walk_at "rd"
  refine iteF ?_
  refine iteF ?_
  walk_at "rd"
  refine iteT ?_
  walk_at "rd"
  refine iteF ?_
  walk_at "rd"
  rw [decide_eq_true rfl]
  refine iteT ?_
  walk_at "rd"
  refine d_reprI hl ?_
  walk_at "rd"
  refine d_reprI hl ?_
  walk_at "rd"
  rw [decide_eq_true rfl]
  exact q H (Kp.refl _ _)

abbrev s_law : Stmt := top 13
theorem sc_law : FnScope ["script", "tape", "symbols", "triple", "small", "choice", "k"] ["script"] (defScope s_law) := ⟨rfl, rfl, rfl, by decide +kernel, rfl, by decide +kernel, by decide +kernel⟩
def spLaw (K : PySem.W.Frag) : Sp := fun vs H Q _ => ∃ (a : Addr) (ns : List Int), vs = [.ref a] ∧ SqL K H a (ns.map V.int) ∧ ns.length ≤ 63 ∧ ∀ H', Q (.bl true) H'
/-- a new object beside what stands -/
theorem grow {H H1 : Hp} {p : Addr} {o : HO} (k : Kp [] H H1) (hp : H1 p = none) : Kp [] H (upd H1 p o) := k.trans (Kp.new hp)
theorem leaf_at {H : Hp} {r r1 r2 : Addr} (e : H r = some (.tup [.str "", .ref r1, .ref r2])) (e1 : H r1 = some (.tup [])) (e2 : H r2 = some (.tup [])) : DAt H (.ref r) (.mk "" [] []) := .of e e1 .nil e2 .nil
theorem ok_law {P : Program} {w : World} {K : PySem.W.Frag} {mg : Str → Option Value} {base : Heap} {k : Nat} {f : Addr} {fd : FuncData} (F : Fun K "law" "law" s_law f fd)
    (cTape : Cl P w K mg base k "_law_tape" ["script"] (spTape K)) (cD : Cl P w K mg base k "_law_draw" ["tape", "many"] spDraw) (cS : Cl P w K mg base k "_law_symbols" ["tape", "many"] spSymbols)
    (cT : Cl P w K mg base k "_law_triple" ["tape", "symbols", "depth"] (spTriple 3)) (cA : Cl P w K mg base k "_law_alike" ["told", "due"] spAlikeI)
    (cHO : Cl P w K mg base k "height_of" ["derivation"] (spHeightD 70)) (cLH : Cl P w K mg base k "_law_height" ["derivation"] (spHeightD 70)) (cRI : Cl P w K mg base k "rules_in" ["derivation"] (spCountD 70)) (cLC : Cl P w K mg base k "_law_counted" ["derivation"] (spCountD 70))
    (mi : mg "int" = none) (mr : mg "range" = none) : FnG P w K mg base (k + 1) f fd ["script"] (spLaw K) := by
  refine Fun.okG F sc_law (fun vs H Q E h => ?_) (fun cdv A outer s H vs Q E hr h => ?_)
  · obtain ⟨a, ns, rfl, _⟩ := h
    rfl
  obtain ⟨a, ns, rfl, hS, hlen, q⟩ := h
  refine ⟨_, pss_cons (ps_set (i := 1) sc_law.nd rfl (.inl rfl) (pe_cl cTape hr (Nat.le_refl _) (by rfl) (pa_cons (pv 0) pa_nil)))
    (pss_cons (ps_set (i := 2) sc_law.nd rfl (.inl rfl) (pe_cl cS hr (Nat.le_refl _) (by rfl) (pa_cons (pv 1) (pa_cons (pe_op op_add pe_int (pe_cl cD hr (Nat.le_refl _) (by rfl) (pa_cons (pv 1) (pa_cons pe_int pa_nil)))) pa_nil))))
    (pss_cons (ps_set (i := 3) sc_law.nd rfl (.inl rfl) (pe_cl cT hr (Nat.le_refl _) (by rfl) (pa_cons (pv 1) (pa_cons (pv 2) (pa_cons pe_int pa_nil)))))
    (pss_cons (ps_set (i := 4) sc_law.nd rfl (.inl rfl) (pv 3))
    (pss_cons (ps_set (i := 5) sc_law.nd rfl (.inl rfl) (pe_cl cD hr (Nat.le_refl _) (by rfl) (pa_cons (pv 1) (pa_cons pe_int pa_nil))))
    (C8.pss_cut (ps_if (pt_cmpR op_eq (pv 5) pe_int (nomark _)) (pss_one (ps_for PassesOwn.never rfl (pi_range1 (by rfl) mr (pa_cons (pe_cl cD hr (Nat.le_refl _) (by rfl) (pa_cons (pv 1) (pa_cons pe_int pa_nil))) pa_nil)) (pg_name (i := 6) sc_law.nd rfl (.inl rfl))
        (pss_one (ps_set (i := 3) sc_law.nd rfl (.inl rfl) (pe_tup (pa_cons pe_str (pa_cons (pe_tup pa_nil) (pa_cons (pe_tup (pa_cons (pv 3) (pa_cons (pv 3) pa_nil))) pa_nil)))))))) pss_nil)
    (C8.pss_cut (ps_if (pt_cmpR op_eq (pv 5) pe_int (nomark _)) (pss_one (ps_for PassesOwn.never rfl (pi_range1 (by rfl) mr (pa_cons (pe_cl cD hr (Nat.le_refl _) (by rfl) (pa_cons (pv 1) (pa_cons pe_int pa_nil))) pa_nil)) (pg_name (i := 6) sc_law.nd rfl (.inl rfl))
        (pss_one (ps_set (i := 3) sc_law.nd rfl (.inl rfl) (pe_tup (pa_cons pe_str (pa_cons (pe_tup (pa_cons (pe_tup (pa_cons pe_str pa_nil)) pa_nil)) (pa_cons
          (pe_ix ix_list (pe_lst (pa_cons (pe_tup (pa_cons (pv 3) pa_nil)) (pa_cons (pe_tup (pa_cons (pe_tup (pa_cons pe_str (pa_cons (pe_tup pa_nil) (pa_cons (pe_tup pa_nil) pa_nil)))) (pa_cons (pv 3) pa_nil)))
              (pa_cons (pe_tup (pa_cons (pv 3) (pa_cons (pe_tup (pa_cons pe_str (pa_cons (pe_tup pa_nil) (pa_cons (pe_tup pa_nil) pa_nil)))) pa_nil))) pa_nil))))
            (pe_op op_modN (pe_callTy call_int1 (by rfl) mi b_int (pa_cons (pv 6) pa_nil)) pe_int) (fun _ _ => rfl)) pa_nil)))))))) pss_nil)
    (pss_cons (ps_if (PW.pt (pw_or (pt_not (pt_val (pe_cl cA hr (Nat.le_refl _) (by rfl) (pa_cons (pe_cl cHO hr (Nat.le_refl _) (by rfl) (pa_cons (pv 3) pa_nil)) (pa_cons (pe_cl cLH hr (Nat.le_refl _) (by rfl) (pa_cons (pv 3) pa_nil)) pa_nil)))))
        (pw_or1 (pt_not (pt_val (pe_cl cA hr (Nat.le_refl _) (by rfl) (pa_cons (pe_cl cRI hr (Nat.le_refl _) (by rfl) (pa_cons (pv 3) pa_nil)) (pa_cons (pe_cl cLC hr (Nat.le_refl _) (by rfl) (pa_cons (pv 3) pa_nil)) pa_nil)))))))) (pss_one (ps_ret pe_bl)) pss_nil)
    (pss_one (ps_ret (pe_and (pe_cl cA hr (Nat.le_refl _) (by rfl) (pa_cons (pe_cl cHO hr (Nat.le_refl _) (by rfl) (pa_cons (pv 4) pa_nil)) (pa_cons (pe_cl cLH hr (Nat.le_refl _) (by rfl) (pa_cons (pv 4) pa_nil)) pa_nil)))
      (pe_one (pe_cl cA hr (Nat.le_refl _) (by rfl) (pa_cons (pe_cl cRI hr (Nat.le_refl _) (by rfl) (pa_cons (pv 4) pa_nil)) (pa_cons (pe_cl cLC hr (Nat.le_refl _) (by rfl) (pa_cons (pv 4) pa_nil)) pa_nil)))))))))))))), ?_⟩
  rw [show L2.start ["script", "tape", "symbols", "triple", "small", "choice", "k"] [.ref a] = [some (.ref a), none, none, none, none, none, none] from rfl]
  walk_at "rd"
  refine ⟨a, ns, rfl, hS, fun H1 t sc k1 _ _ T1 => ?_⟩
  walk_at "rd"
  refine ⟨t, sc, ns, 2, rfl, T1, by decide, by decide, fun H2 n2 k2 T2 n20 n21 => ?_⟩
  walk_at "rd"
  refine ⟨t, sc, ns, _, rfl, T2, by omega, by omega, fun H3 sy zs k3 T3 _ S3 lz => ?_⟩
  have z1 : 1 ≤ zs.length := by omega
  have z2 : zs.length ≤ 100000 := by omega
  walk_at "rd"
  refine ⟨t, sc, sy, ns, zs, rfl, T3, S3, z1, z2, fun H4 v3 d3 k4 T4 a4 gh gc => ?_⟩
  walk_at "rd"
  refine ⟨t, sc, ns, 3, rfl, T4, by decide, by decide, fun H5 ch k5 T5 c0 c1 => ?_⟩
  have a5 := a4.tape k5 T4
  walk_at "rd"
  have gc4 : d3.count ≤ 85 := gc
  let M : Nat → Nat → St → Hp → Prop := fun b m σ H' => ∃ v3 v4 d3 d4 k6, σ = [some (.ref a), some (.ref t), some (.ref sy), some v3, some v4, some (.int ch), k6] ∧ DAt H' v3 d3 ∧ DAt H' v4 d4 ∧ TapeAt H' t sc ns ∧
    d3.height ≤ b ∧ d3.count ≤ m ∧ d4.height ≤ 4 ∧ d4.count ≤ 85
  refine d_cut (M 10 2000) ?_ (fun σ H11 h11 => ?_)
  · walk_at "rd"
    refine ite_dc (fun c => ?_) (fun c => ?_)
    · walk_at "rd"
      refine ⟨t, sc, ns, 5, rfl, T5, by decide, by decide, fun H6 m k6 T6 m0 m1 => ?_⟩
      walk_at "rd"
      refine ⟨by omega, by omega, ?_⟩
      have a6 := a5.tape k6 T5
      refine fr_range (fun i σ H' => ∃ u3 e3 k6, σ = [some (.ref a), some (.ref t), some (.ref sy), some u3, some v3, some (.int ch), k6] ∧ DAt H' u3 e3 ∧ DAt H' v3 d3 ∧ TapeAt H' t sc ns ∧ e3.height ≤ 4 + i ∧ e3.count + 1 ≤ 86 * 2 ^ i)
        ⟨v3, d3, none, rfl, a6, a6, T6, by omega, by omega⟩ (fun i σ H' hi h' => ?_) (fun σ H' h' => ?_)
      · obtain ⟨u3, e3, k6, rfl, b3, b4, T', hh, hc⟩ := h'
        walk_at "rd"
        refine ⟨Nat.zero_le _, fun r1 hr1 => ?_⟩
        walk_at "rd"
        refine ⟨smallN (show 2 ≤ 1000000 by decide), fun r2 hr2 => ?_⟩
        walk_at "rd"
        refine ⟨smallN (show 3 ≤ 1000000 by decide), fun r3 hr3 => ?_⟩
        have q1 : Kp [] H' _ := grow (o := .tup []) (Kp.refl [] H') hr1
        have q2 := grow (o := .tup [u3, u3]) (Kp.refl [] _) hr2
        have q3 := grow (o := .tup [.str "twice", .ref r1, .ref r2]) (Kp.refl [] _) hr3
        have qq := (q1.trans q2).trans q3
        refine ⟨_, .mk "twice" [] [e3, e3], _, rfl, .of upd_same ((q2.trans q3) _ _ (by simp) upd_same) .nil (q3 _ _ (by simp) upd_same) (.cons (b3.nil qq) (.one (b3.nil qq))), b4.nil qq, T'.nil qq, ?_, ?_⟩
        · rw [Dv.height_mk, Dv.heights_cons, Dv.heights_cons, Dv.heights_nil]; omega
        · rw [Dv.count_mk, Dv.counts_cons, Dv.counts_cons, Dv.counts_nil, Nat.pow_succ]; omega
      · obtain ⟨u3, e3, k6, rfl, b3, b4, T', hh, hc⟩ := h'
        have hm : 2 ^ m.toNat ≤ 2 ^ 4 := Nat.pow_le_pow_right (by decide) (by omega)
        exact ⟨u3, v3, e3, d3, k6, rfl, b3, b4, T', by omega, by omega, by omega, gc4⟩
    · walk_at "rd"
      exact ⟨v3, v3, d3, d3, none, rfl, a5, a5, T5, by omega, by omega, by omega, gc4⟩
  clear a5 gc4 gc gh a4
  obtain ⟨v3, v4, d3, d4, k6, rfl, b3, b4, T', h1, h2, h3, h4⟩ := h11
  refine d_cut (M 69 3000) ?_ (fun σ H11 h11 => ?_)
  · walk_at "rd"
    refine ite_dc (fun c => ?_) (fun c => ?_)
    · walk_at "rd"
      refine ⟨t, sc, ns, 51, rfl, T', by decide, by decide, fun H6 m k7 T6 m0 m1 => ?_⟩
      walk_at "rd"
      refine ⟨by omega, by omega, ?_⟩
      refine fr_range (fun i σ H' => ∃ u3 e3 k6, σ = [some (.ref a), some (.ref t), some (.ref sy), some u3, some v4, some (.int ch), k6] ∧ DAt H' u3 e3 ∧ DAt H' v4 d4 ∧ TapeAt H' t sc ns ∧ e3.height ≤ 10 + i ∧ e3.count ≤ 2000 + 2 * i)
        ⟨v3, d3, k6, rfl, b3.tape k7 T', b4.tape k7 T', T6, by omega, by omega⟩ (fun i σ H' hi h' => ?_) (fun σ H' h' => ?_)
      · obtain ⟨u3, e3, k6, rfl, b3, b4, T', hh, hc⟩ := h'
        walk_at "rd"
        refine ⟨smallN (show 1 ≤ 1000000 by decide), fun r1 g1 => ?_⟩
        walk_at "rd"
        refine ⟨smallN (show 1 ≤ 1000000 by decide), fun r2 g2 => ?_⟩
        walk_at "rd"
        refine ⟨smallN (show 1 ≤ 1000000 by decide), fun a1 g3 => ?_⟩
        walk_at "rd"
        refine ⟨Nat.zero_le _, fun r3 g4 => ?_⟩
        walk_at "rd"
        refine ⟨Nat.zero_le _, fun r4 g5 => ?_⟩
        walk_at "rd"
        refine ⟨smallN (show 3 ≤ 1000000 by decide), fun r5 g6 => ?_⟩
        walk_at "rd"
        refine ⟨smallN (show 2 ≤ 1000000 by decide), fun a2 g7 => ?_⟩
        walk_at "rd"
        refine ⟨Nat.zero_le _, fun r6 g8 => ?_⟩
        walk_at "rd"
        refine ⟨Nat.zero_le _, fun r7 g9 => ?_⟩
        walk_at "rd"
        refine ⟨smallN (show 3 ≤ 1000000 by decide), fun r8 g10 => ?_⟩
        walk_at "rd"
        refine ⟨smallN (show 2 ≤ 1000000 by decide), fun a3 g11 => ?_⟩
        walk_at "rd"
        refine ⟨smallN (show 3 ≤ 1000000 by decide), fun l g12 => ?_⟩
        have q1 := Kp.new (l := []) (o := .tup [.str "z"]) g1
        have q2 := Kp.new (l := []) (o := .tup [.ref r1]) g2
        have q3 := Kp.new (l := []) (o := .tup [u3]) g3
        have q4 := Kp.new (l := []) (o := .tup []) g4
        have q5 := Kp.new (l := []) (o := .tup []) g5
        have q6 := Kp.new (l := []) (o := .tup [.str "", .ref r3, .ref r4]) g6
        have q7 := Kp.new (l := []) (o := .tup [.ref r5, u3]) g7
        have q8 := Kp.new (l := []) (o := .tup []) g8
        have q9 := Kp.new (l := []) (o := .tup []) g9
        have q10 := Kp.new (l := []) (o := .tup [.str "", .ref r6, .ref r7]) g10
        have q11 := Kp.new (l := []) (o := .tup [u3, .ref r8]) g11
        have q12 := Kp.new (l := []) (o := .lst [.ref a1, .ref a2, .ref a3]) g12
        have s12 := q12
        have s11 := q11.trans s12
        have s10 := q10.trans s11
        have s9 := q9.trans s10
        have s8 := q8.trans s9
        have s7 := q7.trans s8
        have s6 := q6.trans s7
        have s5 := q5.trans s6
        have s4 := q4.trans s5
        have s3 := q3.trans s4
        have s2 := q2.trans s3
        have s1 := q1.trans s2
        have e_r1 := s2 _ _ (by simp) (upd_same (H := _) (a := r1) (o := .tup [.str "z"]))
        have e_r2 := s3 _ _ (by simp) (upd_same (H := _) (a := r2) (o := .tup [.ref r1]))
        have e_a1 := s4 _ _ (by simp) (upd_same (H := _) (a := a1) (o := .tup [u3]))
        have e_r3 := s5 _ _ (by simp) (upd_same (H := _) (a := r3) (o := .tup []))
        have e_r4 := s6 _ _ (by simp) (upd_same (H := _) (a := r4) (o := .tup []))
        have e_r5 := s7 _ _ (by simp) (upd_same (H := _) (a := r5) (o := .tup [.str "", .ref r3, .ref r4]))
        have e_a2 := s8 _ _ (by simp) (upd_same (H := _) (a := a2) (o := .tup [.ref r5, u3]))
        have e_r6 := s9 _ _ (by simp) (upd_same (H := _) (a := r6) (o := .tup []))
        have e_r7 := s10 _ _ (by simp) (upd_same (H := _) (a := r7) (o := .tup []))
        have e_r8 := s11 _ _ (by simp) (upd_same (H := _) (a := r8) (o := .tup [.str "", .ref r6, .ref r7]))
        have e_a3 := s12 _ _ (by simp) (upd_same (H := _) (a := a3) (o := .tup [u3, .ref r8]))
        have bu := b3.nil s1
        have bv := b4.nil s1
        have TT := T'.nil s1
        have el := upd_same (H := (upd (upd (upd (upd (upd (upd (upd (upd (upd (upd (upd H' r1 (.tup [.str "z"])) r2 (.tup [.ref r1])) a1 (.tup [u3])) r3 (.tup [])) r4 (.tup [])) r5 (.tup [.str "", .ref r3, .ref r4])) a2 (.tup [.ref r5, u3])) r6 (.tup [])) r7 (.tup [])) r8 (.tup [.str "", .ref r6, .ref r7])) a3 (.tup [u3, .ref r8]))) (a := l) (o := .lst [.ref a1, .ref a2, .ref a3])
        clear q1 q2 q3 q4 q5 q6 q7 q8 q9 q10 q11 q12 s2 s3 s4 s5 s6 s7 s8 s9 s10 s11 s12 g1 g2 g3 g4 g5 g6 g7 g8 g9 g10 g11
        generalize (upd (upd (upd (upd (upd (upd (upd (upd (upd (upd (upd (upd H' r1 (.tup [.str "z"])) r2 (.tup [.ref r1])) a1 (.tup [u3])) r3 (.tup [])) r4 (.tup [])) r5 (.tup [.str "", .ref r3, .ref r4])) a2 (.tup [.ref r5, u3])) r6 (.tup [])) r7 (.tup [])) r8 (.tup [.str "", .ref r6, .ref r7])) a3 (.tup [u3, .ref r8])) l (.lst [.ref a1, .ref a2, .ref a3])) = HL at *
        have l5 := leaf_at e_r5 e_r3 e_r4
        have l8 := leaf_at e_r8 e_r6 e_r7
        obtain ⟨x, vs, ds, ex, evs, dvs, hds, hcs⟩ : ∃ (x : Addr) (vs : List V) (ds : List Dv), atI [V.ref a1, V.ref a2, V.ref a3] ((0 + (i : Int)).fmod 3) = some (.ref x) ∧ HL x = some (.tup vs) ∧ DAts HL vs ds ∧ Dv.heights ds ≤ e3.height ∧ Dv.counts ds ≤ e3.count + 1 := by
          have hp3 := e3.height_pos
          have hj : (0 + (i : Int)).fmod 3 = 0 ∨ (0 + (i : Int)).fmod 3 = 1 ∨ (0 + (i : Int)).fmod 3 = 2 := by
            rw [Int.fmod_eq_emod_of_nonneg _ (by decide)]
            omega
          rcases hj with e | e | e <;> rw [e]
          · refine ⟨a1, _, [e3], rfl, e_a1, .one bu, ?_, ?_⟩
            · rw [Dv.heights_cons, Dv.heights_nil]; omega
            · rw [Dv.counts_cons, Dv.counts_nil]; omega
          · refine ⟨a2, _, [.mk "" [] [], e3], rfl, e_a2, .cons l5 (.one bu), ?_, ?_⟩
            · rw [Dv.heights_cons, Dv.heights_cons, Dv.heights_nil, Dv.height_mk, Dv.heights_nil]; omega
            · rw [Dv.counts_cons, Dv.counts_cons, Dv.counts_nil, Dv.count_mk, Dv.counts_nil]; omega
          · refine ⟨a3, _, [e3, .mk "" [] []], rfl, e_a3, .cons bu (.one l8), ?_, ?_⟩
            · rw [Dv.heights_cons, Dv.heights_cons, Dv.heights_nil, Dv.height_mk, Dv.heights_nil]; omega
            · rw [Dv.counts_cons, Dv.counts_cons, Dv.counts_nil, Dv.count_mk, Dv.counts_nil]; omega
        walk_at "rd"
        refine d_ixLc el ex ?_
        walk_at "rd"
        refine ⟨smallN (show 3 ≤ 1000000 by decide), fun z gz => ?_⟩
        have kz := Kp.new (l := []) (o := .tup [.str "around", .ref r2, .ref x]) gz
        refine ⟨_, .mk "around" [.app "z" []] ds, _, rfl, .of upd_same (kz _ _ (by simp) e_r2) (.one (.of (kz _ _ (by simp) e_r1) .nil)) (kz _ _ (by simp) evs) (kz.dats (by simp) dvs), bv.nil kz, TT.nil kz, ?_, ?_⟩
        · rw [Dv.height_mk]; omega
        · rw [Dv.count_mk]; omega
      · obtain ⟨u3, e3, k6, rfl, b3, b4, T', hh, hc⟩ := h'
        exact ⟨u3, v4, e3, d4, k6, rfl, b3, b4, T', by omega, by omega, h3, h4⟩
    · walk_at "rd"
      exact ⟨v3, v4, d3, d4, k6, rfl, b3, b4, T', by omega, by omega, h3, h4⟩
  clear h1 h2 h3 h4 b3 b4 T'
  obtain ⟨v3, v4, d3, d4, k6, rfl, b3, b4, T', h1, h2, h3, h4⟩ := h11
  walk_at "rd"
  refine ⟨v3, d3, rfl, b3, by omega, by omega, fun G1 g1 => ?_⟩
  walk_at "rd"
  refine ⟨v3, d3, rfl, b3.nil g1, by omega, by omega, fun G2 g2 => ?_⟩
  walk_at "rd"
  refine ⟨_, rfl, by omega, fun G3 g3 => ?_⟩
  have b33 := ((b3.nil g1).nil g2).nil g3
  have b43 := ((b4.nil g1).nil g2).nil g3
  walk_at "rd"
  refine iteF ?_
  walk_at "rd"
  refine ⟨v3, d3, rfl, b33, by omega, by omega, fun G4 g4 => ?_⟩
  walk_at "rd"
  refine ⟨v3, d3, rfl, b33.nil g4, by omega, by omega, fun G5 g5 => ?_⟩
  walk_at "rd"
  refine ⟨_, rfl, by omega, fun G6 g6 => ?_⟩
  have b46 := ((b43.nil g4).nil g5).nil g6
  walk_at "rd"
  refine iteF ?_
  walk_at "rd"
  refine ⟨v4, d4, rfl, b46, by omega, by omega, fun G7 g7 => ?_⟩
  walk_at "rd"
  refine ⟨v4, d4, rfl, b46.nil g7, by omega, by omega, fun G8 g8 => ?_⟩
  walk_at "rd"
  refine ⟨_, rfl, by omega, fun G9 g9 => ?_⟩
  have b49 := ((b46.nil g7).nil g8).nil g9
  walk_at "rd"
  refine iteT ?_
  walk_at "rd"
  refine ⟨v4, d4, rfl, b49, by omega, by omega, fun G10 g10 => ?_⟩
  walk_at "rd"
  refine ⟨v4, d4, rfl, b49.nil g10, by omega, by omega, fun G11 g11 => ?_⟩
  walk_at "rd"
  exact ⟨_, rfl, by omega, fun G12 g12 => q G12⟩

theorem all_mk {l : PySem.W.OpenLaw} {w : World} {K : PySem.W.Frag} {h : Heap} {mg : Str → Option Value} {fa : Addr} (X : K.In h) (G : h.Ns PySem.mainGlobals mg) (hfa : mg "law" = some (.ref fa))
    {f0 : Addr} {od0 an0 : Option Addr} {sl0 : Array (Option Value)} {oc0 kV0 dc0 pm0 cd0 ct0 : Value}
    (a0 : PySem.W.nsIn K PySem.mainGlobals "_law_tape" = some (some (.ref f0)))
    (l0 : K.lookup f0 = some ⟨oc0, od0, .func (PySem.W.fnOf "_law_tape" "_law_tape" (defArgs s_tape) (defBody s_tape) (defScope s_tape) .none kV0 dc0 pm0 an0 cd0 ct0), sl0⟩)
    (c0 : PySem.W.codeIn K cd0 "_law_tape" = true) (k0 : PySem.W.keepIn K (.ref f0) = true)
    {f1 : Addr} {od1 an1 : Option Addr} {sl1 : Array (Option Value)} {oc1 kV1 dc1 pm1 cd1 ct1 : Value}
    (a1 : PySem.W.nsIn K PySem.mainGlobals "_law_draw" = some (some (.ref f1)))
    (l1 : K.lookup f1 = some ⟨oc1, od1, .func (PySem.W.fnOf "_law_draw" "_law_draw" (defArgs s_draw) (defBody s_draw) (defScope s_draw) .none kV1 dc1 pm1 an1 cd1 ct1), sl1⟩)
    (c1 : PySem.W.codeIn K cd1 "_law_draw" = true) (k1 : PySem.W.keepIn K (.ref f1) = true)
    {f2 : Addr} {od2 an2 : Option Addr} {sl2 : Array (Option Value)} {oc2 kV2 dc2 pm2 cd2 ct2 : Value}
    (a2 : PySem.W.nsIn K PySem.mainGlobals "_law_word" = some (some (.ref f2)))
    (l2 : K.lookup f2 = some ⟨oc2, od2, .func (PySem.W.fnOf "_law_word" "_law_word" (defArgs s_word) (defBody s_word) (defScope s_word) .none kV2 dc2 pm2 an2 cd2 ct2), sl2⟩)
    (c2 : PySem.W.codeIn K cd2 "_law_word" = true) (k2 : PySem.W.keepIn K (.ref f2) = true)
    {f3 : Addr} {od3 an3 : Option Addr} {sl3 : Array (Option Value)} {oc3 kV3 dc3 pm3 cd3 ct3 : Value}
    (a3 : PySem.W.nsIn K PySem.mainGlobals "_law_symbols" = some (some (.ref f3)))
    (l3 : K.lookup f3 = some ⟨oc3, od3, .func (PySem.W.fnOf "_law_symbols" "_law_symbols" (defArgs s_symbols) (defBody s_symbols) (defScope s_symbols) .none kV3 dc3 pm3 an3 cd3 ct3), sl3⟩)
    (c3 : PySem.W.codeIn K cd3 "_law_symbols" = true) (k3 : PySem.W.keepIn K (.ref f3) = true)
    {f4 : Addr} {od4 an4 : Option Addr} {sl4 : Array (Option Value)} {oc4 kV4 dc4 pm4 cd4 ct4 : Value}
    (a4 : PySem.W.nsIn K PySem.mainGlobals "_law_term" = some (some (.ref f4)))
    (l4 : K.lookup f4 = some ⟨oc4, od4, .func (PySem.W.fnOf "_law_term" "_law_term" (defArgs s_term) (defBody s_term) (defScope s_term) .none kV4 dc4 pm4 an4 cd4 ct4), sl4⟩)
    (c4 : PySem.W.codeIn K cd4 "_law_term" = true) (k4 : PySem.W.keepIn K (.ref f4) = true)
    {f5 : Addr} {od5 an5 : Option Addr} {sl5 : Array (Option Value)} {oc5 kV5 dc5 pm5 cd5 ct5 : Value}
    (a5 : PySem.W.nsIn K PySem.mainGlobals "height_of" = some (some (.ref f5)))
    (l5 : K.lookup f5 = some ⟨oc5, od5, .func (PySem.W.fnOf "height_of" "height_of" (defArgs s_height_of) (defBody s_height_of) (defScope s_height_of) .none kV5 dc5 pm5 an5 cd5 ct5), sl5⟩)
    (c5 : PySem.W.codeIn K cd5 "height_of" = true) (k5 : PySem.W.keepIn K (.ref f5) = true)
    {f6 : Addr} {od6 an6 : Option Addr} {sl6 : Array (Option Value)} {oc6 kV6 dc6 pm6 cd6 ct6 : Value}
    (a6 : PySem.W.nsIn K PySem.mainGlobals "rules_in" = some (some (.ref f6)))
    (l6 : K.lookup f6 = some ⟨oc6, od6, .func (PySem.W.fnOf "rules_in" "rules_in" (defArgs s_rules_in) (defBody s_rules_in) (defScope s_rules_in) .none kV6 dc6 pm6 an6 cd6 ct6), sl6⟩)
    (c6 : PySem.W.codeIn K cd6 "rules_in" = true) (k6 : PySem.W.keepIn K (.ref f6) = true)
    {f7 : Addr} {od7 an7 : Option Addr} {sl7 : Array (Option Value)} {oc7 kV7 dc7 pm7 cd7 ct7 : Value}
    (a7 : PySem.W.nsIn K PySem.mainGlobals "_law_height" = some (some (.ref f7)))
    (l7 : K.lookup f7 = some ⟨oc7, od7, .func (PySem.W.fnOf "_law_height" "_law_height" (defArgs s_law_height) (defBody s_law_height) (defScope s_law_height) .none kV7 dc7 pm7 an7 cd7 ct7), sl7⟩)
    (c7 : PySem.W.codeIn K cd7 "_law_height" = true) (k7 : PySem.W.keepIn K (.ref f7) = true)
    {f8 : Addr} {od8 an8 : Option Addr} {sl8 : Array (Option Value)} {oc8 kV8 dc8 pm8 cd8 ct8 : Value}
    (a8 : PySem.W.nsIn K PySem.mainGlobals "_law_counted" = some (some (.ref f8)))
    (l8 : K.lookup f8 = some ⟨oc8, od8, .func (PySem.W.fnOf "_law_counted" "_law_counted" (defArgs s_law_counted) (defBody s_law_counted) (defScope s_law_counted) .none kV8 dc8 pm8 an8 cd8 ct8), sl8⟩)
    (c8 : PySem.W.codeIn K cd8 "_law_counted" = true) (k8 : PySem.W.keepIn K (.ref f8) = true)
    {f9 : Addr} {od9 an9 : Option Addr} {sl9 : Array (Option Value)} {oc9 kV9 dc9 pm9 cd9 ct9 : Value}
    (a9 : PySem.W.nsIn K PySem.mainGlobals "_law_triple" = some (some (.ref f9)))
    (l9 : K.lookup f9 = some ⟨oc9, od9, .func (PySem.W.fnOf "_law_triple" "_law_triple" (defArgs s_triple) (defBody s_triple) (defScope s_triple) .none kV9 dc9 pm9 an9 cd9 ct9), sl9⟩)
    (c9 : PySem.W.codeIn K cd9 "_law_triple" = true) (k9 : PySem.W.keepIn K (.ref f9) = true)
    {f10 : Addr} {od10 an10 : Option Addr} {sl10 : Array (Option Value)} {oc10 kV10 dc10 pm10 cd10 ct10 : Value}
    (a10 : PySem.W.nsIn K PySem.mainGlobals "_law_alike" = some (some (.ref f10)))
    (l10 : K.lookup f10 = some ⟨oc10, od10, .func (PySem.W.fnOf "_law_alike" "_law_alike" (defArgs s_alike) (defBody s_alike) (defScope s_alike) .none kV10 dc10 pm10 an10 cd10 ct10), sl10⟩)
    (c10 : PySem.W.codeIn K cd10 "_law_alike" = true) (k10 : PySem.W.keepIn K (.ref f10) = true)
    {f11 : Addr} {od11 an11 : Option Addr} {sl11 : Array (Option Value)} {oc11 kV11 dc11 pm11 cd11 ct11 : Value}
    (a11 : PySem.W.nsIn K PySem.mainGlobals "law" = some (some (.ref f11)))
    (l11 : K.lookup f11 = some ⟨oc11, od11, .func (PySem.W.fnOf "law" "law" (defArgs s_law) (defBody s_law) (defScope s_law) .none kV11 dc11 pm11 an11 cd11 ct11), sl11⟩)
    (c11 : PySem.W.codeIn K cd11 "law" = true) (k11 : PySem.W.keepIn K (.ref f11) = true)
    (y_int : PySem.W.nsIn K PySem.mainGlobals "int" = some none)
    (y_abs : PySem.W.nsIn K PySem.mainGlobals "abs" = some none)
    (y_list : PySem.W.nsIn K PySem.mainGlobals "list" = some none)
    (y_len : PySem.W.nsIn K PySem.mainGlobals "len" = some none)
    (y_max : PySem.W.nsIn K PySem.mainGlobals "max" = some none)
    (y_range : PySem.W.nsIn K PySem.mainGlobals "range" = some none)
    (y_tuple : PySem.W.nsIn K PySem.mainGlobals "tuple" = some none)
    (y_isinstance : PySem.W.nsIn K PySem.mainGlobals "isinstance" = some none)
    (y_repr : PySem.W.nsIn K PySem.mainGlobals "repr" = some none)
    (y_sum : PySem.W.nsIn K PySem.mainGlobals "sum" = some none)
    : ∃ fd : FuncData, (∀ (s : Shared) (v : Value), BindsTo s fd ⟨[v], []⟩ [("script", v)]) ∧ ∀ base : Heap, K.In base → base.Ns PySem.mainGlobals mg → FnG l.prog w K mg base 91 fa fd ["script"] (spLaw K) := by
  have e := hfa.symm.trans (PySem.W.mg_of X G a11)
  cases e
  have D_law_tape : Df K mg "_law_tape" s_tape ["script"] := df_mk X G a0 l0 c0 k0 fun _ _ _ _ _ _ us hl => match us, hl with | [_], _ => rfl
  have D_law_draw : Df K mg "_law_draw" s_draw ["tape", "many"] := df_mk X G a1 l1 c1 k1 fun _ _ _ _ _ _ us hl => match us, hl with | [_, _], _ => rfl
  have D_law_word : Df K mg "_law_word" s_word ["tape", "stem"] := df_mk X G a2 l2 c2 k2 fun _ _ _ _ _ _ us hl => match us, hl with | [_, _], _ => rfl
  have D_law_symbols : Df K mg "_law_symbols" s_symbols ["tape", "many"] := df_mk X G a3 l3 c3 k3 fun _ _ _ _ _ _ us hl => match us, hl with | [_, _], _ => rfl
  have D_law_term : Df K mg "_law_term" s_term ["tape", "symbols", "variables", "depth"] := df_mk X G a4 l4 c4 k4 fun _ _ _ _ _ _ us hl => match us, hl with | [_, _, _, _], _ => rfl
  have Dheight_of : Df K mg "height_of" s_height_of ["derivation"] := df_mk X G a5 l5 c5 k5 fun _ _ _ _ _ _ us hl => match us, hl with | [_], _ => rfl
  have Drules_in : Df K mg "rules_in" s_rules_in ["derivation"] := df_mk X G a6 l6 c6 k6 fun _ _ _ _ _ _ us hl => match us, hl with | [_], _ => rfl
  have D_law_height : Df K mg "_law_height" s_law_height ["derivation"] := df_mk X G a7 l7 c7 k7 fun _ _ _ _ _ _ us hl => match us, hl with | [_], _ => rfl
  have D_law_counted : Df K mg "_law_counted" s_law_counted ["derivation"] := df_mk X G a8 l8 c8 k8 fun _ _ _ _ _ _ us hl => match us, hl with | [_], _ => rfl
  have D_law_triple : Df K mg "_law_triple" s_triple ["tape", "symbols", "depth"] := df_mk X G a9 l9 c9 k9 fun _ _ _ _ _ _ us hl => match us, hl with | [_, _, _], _ => rfl
  have D_law_alike : Df K mg "_law_alike" s_alike ["told", "due"] := df_mk X G a10 l10 c10 k10 fun _ _ _ _ _ _ us hl => match us, hl with | [_, _], _ => rfl
  have Flaw := fun_mk (st := s_law) l11 c11 k11
  have z_int := PySem.W.mg_none_of X G y_int
  have z_abs := PySem.W.mg_none_of X G y_abs
  have z_list := PySem.W.mg_none_of X G y_list
  have z_len := PySem.W.mg_none_of X G y_len
  have z_max := PySem.W.mg_none_of X G y_max
  have z_range := PySem.W.mg_none_of X G y_range
  have z_tuple := PySem.W.mg_none_of X G y_tuple
  have z_isinstance := PySem.W.mg_none_of X G y_isinstance
  have z_repr := PySem.W.mg_none_of X G y_repr
  have z_sum := PySem.W.mg_none_of X G y_sum
  refine ⟨PySem.W.fnOf "law" "law" (defArgs s_law) (defBody s_law) (defScope s_law) .none kV11 dc11 pm11 an11 cd11 ct11, fun s v => .of_eq rfl, fun base _ _ => ?_⟩
  have cD := ok_draw (P := l.prog) (w := w) (base := base) (k := 0) D_law_draw z_int z_abs z_len z_max
  have cW := ok_word D_law_word cD z_int
  have cS := ok_symbols (k := 2) D_law_symbols (cD.mono (by decide)) cW z_range
  have cT := ok_term (k := 3) D_law_term (cD.mono (by decide)) z_len z_range z_tuple 0
  have cR := ok_triple (k := 5) D_law_triple (cD.mono (by decide)) (cT.mono (by decide)) z_len z_range z_tuple 3
  have cHO := ok_height_of (P := l.prog) (w := w) (base := base) Dheight_of z_max 70
  have cRI := ok_rules_in (P := l.prog) (w := w) (base := base) Drules_in z_sum 70
  have cLH := ok_law_height (P := l.prog) (w := w) (base := base) D_law_height 70
  have cLC := ok_law_counted (P := l.prog) (w := w) (base := base) D_law_counted 70
  have cA := ok_alikeI (P := l.prog) (w := w) (base := base) (k := 0) D_law_alike z_int z_tuple z_isinstance z_repr
  have cTp := ok_tape (P := l.prog) (w := w) (base := base) (k := 0) D_law_tape z_int z_abs z_list
  exact ok_law (k := 90) Flaw (cTp.mono (by decide)) (cD.mono (by decide)) (cS.mono (by decide)) (cR.mono (by decide)) (cA.mono (by decide)) (cHO.mono (by decide)) (cLH.mono (by decide)) (cRI.mono (by decide)) (cLC.mono (by decide)) z_int z_range
end Lw
open PySem PySem.W PyProof.Rows
set_option maxHeartbeats 0 in
theorem PySem.Challenge.cw_openrules_k18_height_and_number_of_rules_holds : PySem.Challenge.rw_openrules_k18_height_and_number_of_rules.Holds := by
  w_on; o_law; k_head; (case hw => w_witness2)
  k_fill
  refine Lw.walk_ofG (l := PySem.Challenge.rw_openrules_k18_height_and_number_of_rules) (n := 63) (k := 91) (x := "script") (sp := fun w => Lw.spLaw _) rfl (by decide) rfl ⟨⟨rfl, by decide, by decide⟩, rfl⟩ (fun w h Y => PySem.W.kIn_of Y) ?F (fun _ _ a ns hl _ hS => ⟨a, ns, rfl, hS, hl, fun _ => rfl⟩)
  case F =>
    intro w mg fa h KX G hmg
    refine' Lw.all_mk KX G hmg ?a0 ?l0 ?c0 ?k0 ?a1 ?l1 ?c1 ?k1 ?a2 ?l2 ?c2 ?k2 ?a3 ?l3 ?c3 ?k3 ?a4 ?l4 ?c4 ?k4 ?a5 ?l5 ?c5 ?k5 ?a6 ?l6 ?c6 ?k6 ?a7 ?l7 ?c7 ?k7 ?a8 ?l8 ?c8 ?k8 ?a9 ?l9 ?c9 ?k9 ?a10 ?l10 ?c10 ?k10 ?a11 ?l11 ?c11 ?k11 ?y_int ?y_abs ?y_list ?y_len ?y_max ?y_range ?y_tuple ?y_isinstance ?y_repr ?y_sum
    (case a0 => k_is)
    (case l0 => k_is)
    (case c0 => k_is)
    (case k0 => k_is)
    (case a1 => k_is)
    (case l1 => k_is)
    (case c1 => k_is)
    (case k1 => k_is)
    (case a2 => k_is)
    (case l2 => k_is)
    (case c2 => k_is)
    (case k2 => k_is)
    (case a3 => k_is)
    (case l3 => k_is)
    (case c3 => k_is)
    (case k3 => k_is)
    (case a4 => k_is)
    (case l4 => k_is)
    (case c4 => k_is)
    (case k4 => k_is)
    (case a5 => k_is)
    (case l5 => k_is)
    (case c5 => k_is)
    (case k5 => k_is)
    (case a6 => k_is)
    (case l6 => k_is)
    (case c6 => k_is)
    (case k6 => k_is)
    (case a7 => k_is)
    (case l7 => k_is)
    (case c7 => k_is)
    (case k7 => k_is)
    (case a8 => k_is)
    (case l8 => k_is)
    (case c8 => k_is)
    (case k8 => k_is)
    (case a9 => k_is)
    (case l9 => k_is)
    (case c9 => k_is)
    (case k9 => k_is)
    (case a10 => k_is)
    (case l10 => k_is)
    (case c10 => k_is)
    (case k10 => k_is)
    (case a11 => k_is)
    (case l11 => k_is)
    (case c11 => k_is)
    (case k11 => k_is)
    (case y_int => k_is)
    (case y_abs => k_is)
    (case y_list => k_is)
    (case y_len => k_is)
    (case y_max => k_is)
    (case y_range => k_is)
    (case y_tuple => k_is)
    (case y_isinstance => k_is)
    (case y_repr => k_is)
    (case y_sum => k_is)
